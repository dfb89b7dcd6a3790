/- Part 9 of the texts below the claim. Conditions: none. -/
import Derived.Test.YtohpmnfplglbdaaMg8
/- The third loop of wind.Check. Conditions: none. -/
namespace Go.Proofs.Ytohpmnfplglbdaa
open Go.Gh Go.RowKit
noncomputable section
set_option maxRecDepth 100000
set_option linter.unusedSimpArgs false
set_option linter.unusedVariables false
theorem tree20c (J : Task → List Value) (c : Array Value) (off : Nat) (o0 o1 : Ob) (a b : Option Addr) (n z n2 z2 n3 : Nat) (es : Es) (m k fr age shear : Int) (M : Nat) (y : List Value) :
    evS Try.prog (((sh20c.ans J).below mes20c M).or (fun _ => none)) 60 (.code none (.loop (theLoop Try.prog 20 2)) ⟨sets (junkF 96 y) [(1, pp 3), (11, .int .i64 fr), (70, .slice (some ⟨2, off, none⟩) n3 1), (71, .int .i64 m), (72, .int .i64 k)], [], ⟨[o0, o1, .cells c true, .cells ⟨[.slice a n z, .slice b n2 z2, .slice (some ⟨2, off, none⟩) n3 1, .int .i64 age, .int .i64 shear]⟩ false, .map es], 3, []⟩⟩) (sumK 5 96 (pick20 [1])) =
    cond (decide (k < m))
    (cond (and (decide ((0 : Int) ≤ k)) (decide (k < (Int.ofNat n3))))
     (cond (and true (isInt .i64 c (off + ((Int.toNat k) * 1))))
      (cond (decide ((getInt c (off + ((Int.toNat k) * 1))) < (1 : Int)))
       (some (Out.ex Ex.ret (St.mk [(Value.int .i64 (4 : Int)), (Value.int .i64 k), (Value.int .i64 (7 : Int))] [] (Hp.mk [o0, o1, (Ob.cells c true), (Ob.cells ⟨[(Value.slice a n z), (Value.slice b n2 z2), (Value.slice (Option.some (Addr.mk 2 off Option.none)) n3 1), (Value.int .i64 age), (Value.int .i64 shear)]⟩ false), (Ob.map es)] 96 []))))
       (cond (decide ((100000000 : Int) < (getInt c (off + ((Int.toNat k) * 1)))))
        (some (Out.ex Ex.ret (St.mk [(Value.int .i64 (4 : Int)), (Value.int .i64 k), (Value.int .i64 (7 : Int))] [] (Hp.mk [o0, o1, (Ob.cells c true), (Ob.cells ⟨[(Value.slice a n z), (Value.slice b n2 z2), (Value.slice (Option.some (Addr.mk 2 off Option.none)) n3 1), (Value.int .i64 age), (Value.int .i64 shear)]⟩ false), (Ob.map es)] 96 []))))
        (cond (decide ((getInt c (off + ((Int.toNat k) * 1))) ≤ fr))
         (some (Out.ex Ex.ret (St.mk [(Value.int .i64 (4 : Int)), (Value.int .i64 k), (Value.int .i64 (2 : Int))] [] (Hp.mk [o0, o1, (Ob.cells c true), (Ob.cells ⟨[(Value.slice a n z), (Value.slice b n2 z2), (Value.slice (Option.some (Addr.mk 2 off Option.none)) n3 1), (Value.int .i64 age), (Value.int .i64 shear)]⟩ false), (Ob.map es)] 96 []))))
         (cond (Nat.blt (Nat.sub (Int.toNat m) (Int.toNat (IntKind.wrap .i64 (k + (1 : Int))))) M)
          (cond (eqCode (theLoop Try.prog 20 2) (theLoop Try.prog 20 2))
           (cond (okA20c c off n3 a b n z n2 z2 o0 o1 m (IntKind.wrap .i64 (k + (1 : Int))) off n3 es)
            (cond (cuB c off (n3 - (Int.toNat (IntKind.wrap .i64 (k + (1 : Int))))) (Int.toNat (IntKind.wrap .i64 (k + (1 : Int)))) (getInt c (off + ((Int.toNat k) * 1))))
             (some (Out.ex Ex.ret (St.mk [(Value.int .i64 (4 : Int)), (Value.int .i64 (Int.ofNat (cuI c off (n3 - (Int.toNat (IntKind.wrap .i64 (k + (1 : Int))))) (Int.toNat (IntKind.wrap .i64 (k + (1 : Int)))) (getInt c (off + ((Int.toNat k) * 1)))))), (Value.int .i64 (cuX c off (n3 - (Int.toNat (IntKind.wrap .i64 (k + (1 : Int))))) (Int.toNat (IntKind.wrap .i64 (k + (1 : Int)))) (getInt c (off + ((Int.toNat k) * 1)))))] [] (Hp.mk [o0, o1, (Ob.cells c true), (Ob.cells ⟨[(Value.slice a n z), (Value.slice b n2 z2), (Value.slice (Option.some (Addr.mk 2 off Option.none)) n3 1), (Value.int .i64 age), (Value.int .i64 shear)]⟩ false), (Ob.map es)] 96 []))))
             (some (Out.ex (Ex.exit 4) (St.mk [(Value.pointer (Option.some (Addr.mk 3 0 Option.none)))] [] (Hp.mk [o0, o1, (Ob.cells c true), (Ob.cells ⟨[(Value.slice a n z), (Value.slice b n2 z2), (Value.slice (Option.some (Addr.mk 2 off Option.none)) n3 1), (Value.int .i64 age), (Value.int .i64 shear)]⟩ false), (Ob.map es)] 96 [])))))
            (none))
           (none))
          (none)))))
      (none))
     (none))
    (some (Out.ex (Ex.exit 4) (St.mk [(Value.pointer (Option.some (Addr.mk 3 0 Option.none)))] [] (Hp.mk [o0, o1, (Ob.cells c true), (Ob.cells ⟨[(Value.slice a n z), (Value.slice b n2 z2), (Value.slice (Option.some (Addr.mk 2 off Option.none)) n3 1), (Value.int .i64 age), (Value.int .i64 shear)]⟩ false), (Ob.map es)] 96 [])))) := by kernel_rfl
theorem known20c : ∃ J, Known Try.prog (sh20c.ans J) := by
  refine Known.junk (Known.nothing _) mes20c sh20c ?_
  intro J t f hs hkn
  unfold sh20c at hs
  split at hs
  case h_2 => cases hs
  rename_i code t o0 o1 c a n z b n2 z2 off n3 age shear es G
  split at hs
  case h_2 => cases hs
  rename_i fr off' n' m k er e1 e11 e70 e71 e72
  simp only [Option.some.injEq] at hs
  subst hs
  refine ex_guard fun h1 => ex_guard fun h2 => ex_guard fun h3 => ?_
  obtain rfl := eqCode_eq h1
  have hl : t.length = 96 := Nat.eq_of_beq_eq_true h2
  obtain ⟨rfl, rfl, hg, ha, hb, q1, q2, hn, rfl, hk0, tk⟩ := dec_iff.1 h3
  obtain ⟨k, rfl⟩ := Int.eq_ofNat_of_zero_le hk0
  have scs := And.intro (allsc (n := 5) hg.1) (And.intro (slice_sc ha (show 3 ≤ 5 by decide)) (And.intro (slice_sc hb (show 3 ≤ 5 by decide)) (And.intro (grOb_sc (n := 5) q1) (And.intro (grOb_sc (n := 5) q2) (And.intro (obSc_map tk 5) (fun l z => at2_sc (l := l) (z := z) (off := off') (show 2 < 5 by decide)))))))
  have hsc2 : (([o0, o1, .cells c true, .cells ⟨[.slice a n z, .slice b n2 z2, .slice (some ⟨2, off', none⟩) n' 1, .int .i64 age, .int .i64 shear]⟩ false, .map es] : List Ob).all (obSc ([o0, o1, .cells c true, .cells ⟨[.slice a n z, .slice b n2 z2, .slice (some ⟨2, off', none⟩) n' 1, .int .i64 age, .int .i64 shear]⟩ false, .map es] : List Ob).length)) = true := by
    simp [obSc_cells, scs, int_sc]
  have hk2 := keptSelf hsc2
  have use := fun e' vs hev he hvs => hkn.loopLeaf (G := G) noNG mixed (n := 60) (N0 := 96) (N := 96) (live := [(1, pp 3), (11, .int .i64 fr), (70, .slice (some ⟨2, off', none⟩) n' 1), (71, .int .i64 (Int.ofNat n')), (72, .int .i64 (Int.ofNat k))])
    (H0 := [o0, o1, .cells c true, .cells ⟨[.slice a n z, .slice b n2 z2, .slice (some ⟨2, off', none⟩) n' 1, .int .i64 age, .int .i64 shear]⟩ false, .map es]) (pick := pick20 [1]) (e := e') (vs := vs)
    (base := 3) (wr := []) (wr1 := []) (c := theLoop Try.prog 20 2) (t := t) hev hl (by
      intro kv hm
      simp only [List.mem_cons, List.not_mem_nil, or_false] at hm
      rcases hm with rfl | rfl | rfl | rfl | rfl
      · exact ⟨e1, rfl, rfl⟩
      · exact ⟨e11, rfl, rfl⟩
      · exact ⟨e70, rfl, rfl⟩
      · exact ⟨e71, rfl, rfl⟩
      · exact ⟨e72, rfl, rfl⟩) (by simp) hsc2 hk2 he hvs
  simp only [List.length_cons, List.length_nil, Nat.zero_add, Nat.reduceAdd] at use
  rw [tree20c] at use
  simp only [Int.ofNat_eq_natCast, Int.toNat_natCast, Nat.mul_one] at use ⊢
  by_cases hin : (k : Int) < (n' : Int)
  · obtain ⟨m, hm⟩ : ∃ m, n' - k = m + 1 := ⟨n' - k - 1, by omega⟩
    have hw : IntKind.i64.wrap ((k : Int) + 1) = ((k + 1 : Nat) : Int) := by rw [wrap64_id (by omega) (by omega)]; rfl
    rw [hm]
    have hm' : n' - (k + 1) = m := by omega
    have hme : (Nat.sub n' (k + 1)).blt (mes20c (.code none (.loop (theLoop Try.prog 20 2)) ⟨t, [], ⟨o0 :: o1 :: .cells c true :: .cells ⟨[.slice a n z, .slice b n2 z2, .slice (some ⟨2, off', none⟩) n' 1, .int .i64 age, .int .i64 shear]⟩ false :: .map es :: G, 3, []⟩⟩)) = true := by
      simp only [mes20c, e71, e72, Nat.blt_eq, Int.toNat_natCast]
      show n' - (k + 1) < n' - k
      omega
    have hok : okA20c c off' n' a b n z n2 z2 o0 o1 (n' : Int) ↑(k + 1) off' n' es = true := dec_iff.2 ⟨rfl, rfl, hg, ha, hb, q1, q2, hn, rfl, by omega, tk⟩
    have x0 : isInt .i64 c (off' + k) = true := isInt1 (hg.2 k (by omega))
    simp only [hw, Int.toNat_natCast, hm', hin, decide_true, cond_true, Bool.true_and, Bool.and_self, Int.natCast_nonneg, eqCode_self, hme, hok, Nat.add_zero, x0] at use
    have hE := cuE.eq_1 c off' k fr
    simp only [inB] at hE
    by_cases hr : cuE c off' k fr = 0
    · have e : cuR c off' (m + 1) k fr = cuR c off' m (k + 1) (getInt c (off' + k)) := by simp only [cuR, hr, if_true]
      simp only [cuB, cuI, cuX, e] at use ⊢
      cases hbb : (cuR c off' m (k + 1) (getInt c (off' + k))).bad with
      | true =>
        rw [hbb] at use
        refine use .ret [.int .i64 4, .int .i64 (Int.ofNat (cuR c off' m (k + 1) (getInt c (off' + k))).ix), .int .i64 (cuR c off' m (k + 1) (getInt c (off' + k))).err] ?_ rfl rfl
        clear use hkn hk2 hsc2 hme hok h1 h2 h3 er hg q1 q2 hl e1 e11 e70 e71 e72 x0 scs e tk ha hb
        repeat' refine cond_hd (fun _ => ?_) (fun _ => ?_)
        all_goals grind
      | false =>
        rw [hbb] at use
        refine use (.exit 4) [pp 3] ?_ rfl rfl
        clear use hkn hk2 hsc2 hme hok h1 h2 h3 er hg q1 q2 hl e1 e11 e70 e71 e72 x0 scs e tk ha hb
        repeat' refine cond_hd (fun _ => ?_) (fun _ => ?_)
        all_goals grind [pp]
    · have e : cuR c off' (m + 1) k fr = ⟨true, k, cuE c off' k fr⟩ := by simp only [cuR, hr, if_false]
      simp only [cuB, cuI, cuX, e] at use ⊢
      refine use .ret [.int .i64 4, .int .i64 k, .int .i64 (cuE c off' k fr)] ?_ rfl rfl
      clear use hkn hk2 hsc2 hme hok h1 h2 h3 er hg q1 q2 hl e1 e11 e70 e71 e72 x0 scs e tk ha hb
      repeat' refine cond_hd (fun _ => ?_) (fun _ => ?_)
      all_goals first
        | (have h7 : cuE c off' k fr = 7 := by
             simp only [Bool.not_eq_true', Bool.not_eq_false', decide_eq_true_eq, decide_eq_false_iff_not, Bool.and_eq_false_iff] at *
             rw [hE, if_pos (by omega)]
           rw [h7]; done)
        | (have h7 : cuE c off' k fr = 2 := by
             simp only [Bool.not_eq_true', Bool.not_eq_false', decide_eq_true_eq, decide_eq_false_iff_not, Bool.and_eq_false_iff] at *
             rw [hE, if_neg (by omega), if_pos (by omega)]
           rw [h7]; done)
        | (exfalso
           refine hr ?_
           clear hr
           simp only [Bool.not_eq_true', Bool.not_eq_false', decide_eq_true_eq, decide_eq_false_iff_not, Bool.and_eq_false_iff] at *
           rw [hE, if_neg (by omega), if_neg (by omega)])
  · have h0 : n' - k = 0 := by omega
    rw [h0]
    refine use (.exit 4) [pp 3] ?_ rfl rfl
    simp only [hin, decide_false, cond_false]
    try rfl
end
end Go.Proofs.Ytohpmnfplglbdaa

/- wind.Check: the shape of the answers of its second loop. Conditions: none. -/
namespace Go.Proofs.Ytohpmnfplglbdaa
open Go.Gh Go.RowKit
noncomputable section
/-- The mark of a sounding. -/
noncomputable def soK (c : Array Value) (x : Nat) : Value := mkV ByteArray.empty (getInt c x) (getInt c (x + 1)) (getInt c (x + 2))
/-- Its error but for its mark and its fall. -/
noncomputable def sqR (c0 : Array Value) (off0 n : Nat) (c : Array Value) (x : Nat) : Int :=
  if inB (getInt c x) 0 ((n : Int) - 1) = false then 4
  else if inB (getInt c (x + 1)) 0 100000 = false ∨
    inB (getInt c (x + 2)) (getInt c0 (off0 + (getInt c x).toNat * 7 + 5)) (getInt c0 (off0 + (getInt c x).toNat * 7 + 6)) = false ∨
    inB (getInt c (x + 3)) (-20000) 20000 = false ∨ inB (getInt c (x + 4)) (-20000) 20000 = false then 7 else 0
noncomputable def sqF (c0 : Array Value) (off0 : Nat) (c : Array Value) (off k : Nat) : Int :=
  if getInt c0 (off0 + (getInt c (off + k * 5)).toNat * 7 + 1) = 2 ∧ flS c off (getInt c (off + k * 5)) (getInt c (off + k * 5 + 1)) (getInt c (off + k * 5 + 2)) k = true then 2 else 0
noncomputable def sqE (c0 : Array Value) (off0 n : Nat) (c : Array Value) (off k : Nat) (es : Es) : Int :=
  if sqR c0 off0 n c (off + k * 5) = 0 then (if tkL es (soK c (off + k * 5)) = true then 5 else sqF c0 off0 c off k) else sqR c0 off0 n c (off + k * 5)
noncomputable def sqM (c0 : Array Value) (off0 n : Nat) (c : Array Value) (off k : Nat) (es : Es) : Es :=
  if sqR c0 off0 n c (off + k * 5) = 0 then (if tkL es (soK c (off + k * 5)) = true then es else tkU es (soK c (off + k * 5))) else es
noncomputable def sbR (c0 : Array Value) (off0 n : Nat) (c : Array Value) (off : Nat) : Nat → Nat → Es → Sa
  | 0, _, es => ⟨false, 0, 0, es⟩
  | m + 1, k, es => if sqE c0 off0 n c off k es = 0 then sbR c0 off0 n c off m (k + 1) (sqM c0 off0 n c off k es) else ⟨true, k, sqE c0 off0 n c off k es, sqM c0 off0 n c off k es⟩
noncomputable def sbB (c0 : Array Value) (off0 n : Nat) (c : Array Value) (off m k : Nat) (es : Es) : Bool := (sbR c0 off0 n c off m k es).bad
noncomputable def sbI (c0 : Array Value) (off0 n : Nat) (c : Array Value) (off m k : Nat) (es : Es) : Nat := (sbR c0 off0 n c off m k es).ix
noncomputable def sbE (c0 : Array Value) (off0 n : Nat) (c : Array Value) (off m k : Nat) (es : Es) : Int := (sbR c0 off0 n c off m k es).err
noncomputable def sbM (c0 : Array Value) (off0 n : Nat) (c : Array Value) (off m k : Nat) (es : Es) : Es := (sbR c0 off0 n c off m k es).es
noncomputable def okA20b (c0 : Array Value) (off0 n : Nat) (c : Array Value) (off n2 : Nat) (d : Option Addr) (n3 z3 : Nat) (o2 : Ob) (m k : Int) (es : Es) : Bool :=
  dec (GoodL L7 c0 off0 n ∧ GoodL L5 c off n2 ∧ sc1 3 (.slice d n3 z3) = true ∧ grOb o2 ∧ n ≤ 6 ∧ n2 ≤ 60 ∧ m = n2 ∧ 0 ≤ k ∧ TakenM es)
noncomputable def sh20b : Shape
  | .code none (.loop code) ⟨t, [], ⟨.cells c0 true :: .cells c true :: o2 :: .cells ⟨[.slice (some ⟨0, off0, none⟩) n 7, .slice (some ⟨1, off, none⟩) n2 5, .slice d n3 z3, .int .i64 age, .int .i64 shear]⟩ false :: .map es :: G, 3, []⟩⟩ =>
    match Nat.beq (firstReg code) 12, lget t 1, lget t 5, lget t 56, lget t 57 with
    | true, .pointer (some ⟨3, 0, none⟩), .map (some 4), .int .i64 m, .int .i64 k => some fun j =>
      .br (eqCode code (theLoop Try.prog 20 1)) (.br (Nat.beq t.length 96) (.br (okA20b c0 off0 n c off n2 d n3 z3 o2 m k es)
        (.br (sbB c0 off0 n c off (n2 - k.toNat) k.toNat es)
          (loopEnd 96 .ret [(2, .int .i64 3), (3, .int .i64 (Int.ofNat (sbI c0 off0 n c off (n2 - k.toNat) k.toNat es))), (4, .int .i64 (sbE c0 off0 n c off (n2 - k.toNat) k.toNat es))]
            ⟨.cells c0 true :: .cells c true :: o2 :: .cells ⟨[.slice (some ⟨0, off0, none⟩) n 7, .slice (some ⟨1, off, none⟩) n2 5, .slice d n3 z3, .int .i64 age, .int .i64 shear]⟩ false :: .map (sbM c0 off0 n c off (n2 - k.toNat) k.toNat es) :: G, 3, []⟩ j)
          (loopEnd 96 (.exit 2) [(1, pp 3)]
            ⟨.cells c0 true :: .cells c true :: o2 :: .cells ⟨[.slice (some ⟨0, off0, none⟩) n 7, .slice (some ⟨1, off, none⟩) n2 5, .slice d n3 z3, .int .i64 age, .int .i64 shear]⟩ false :: .map (sbM c0 off0 n c off (n2 - k.toNat) k.toNat es) :: G, 3, []⟩ j)) .no) .no) .no
    | _, _, _, _, _ => none
  | _ => none
noncomputable def mes20b : Task → Nat
  | .code _ _ s => match lget s.t 56, lget s.t 57 with
    | .int _ n, .int _ i => Nat.sub n.toNat i.toNat
    | _, _ => 0
  | _ => 0
end
end Go.Proofs.Ytohpmnfplglbdaa

/- The second loop of wind.Check. Conditions: none. -/
namespace Go.Proofs.Ytohpmnfplglbdaa
open Go.Gh Go.RowKit
noncomputable section
set_option maxRecDepth 100000
set_option linter.unusedSimpArgs false
set_option linter.unusedVariables false
theorem tree20b (J : Task → List Value) (c0 c : Array Value) (off0 off : Nat) (o2 : Ob) (d : Option Addr) (n n2 n3 z3 : Nat) (es : Es) (m k age shear : Int) (M : Nat) (y : List Value) :
    evS Try.prog (((sh20b.ans J).below mes20b M).or p106) 60 (.code none (.loop (theLoop Try.prog 20 1)) ⟨sets (junkF 96 y) [(1, pp 3), (5, .map (some 4)), (56, .int .i64 m), (57, .int .i64 k)], [], ⟨[.cells c0 true, .cells c true, o2, .cells ⟨[.slice (some ⟨0, off0, none⟩) n 7, .slice (some ⟨1, off, none⟩) n2 5, .slice d n3 z3, .int .i64 age, .int .i64 shear]⟩ false, .map es], 3, []⟩⟩) (sumK 5 96 (pick20 [1])) =
    cond (decide (k < m))
    (cond (and (decide ((0 : Int) ≤ k)) (decide (k < (Int.ofNat n2))))
     (cond (and true (rdOk c [(Leaf.int .i64), (Leaf.int .i64), (Leaf.int .i64), (Leaf.int .i64), (Leaf.int .i64)] (off + ((Int.toNat k) * 5))))
      (cond (decide ((getInt c (off + ((Int.toNat k) * 5))) < (0 : Int)))
       (some (Out.ex Ex.ret (St.mk [(Value.int .i64 (3 : Int)), (Value.int .i64 k), (Value.int .i64 (4 : Int))] [] (Hp.mk [(Ob.cells c0 true), (Ob.cells c true), o2, (Ob.cells ⟨[(Value.slice (Option.some (Addr.mk 0 off0 Option.none)) n 7), (Value.slice (Option.some (Addr.mk 1 off Option.none)) n2 5), (Value.slice d n3 z3), (Value.int .i64 age), (Value.int .i64 shear)]⟩ false), (Ob.map es)] 96 []))))
       (cond (decide ((Int.ofNat n) ≤ (getInt c (off + ((Int.toNat k) * 5)))))
        (some (Out.ex Ex.ret (St.mk [(Value.int .i64 (3 : Int)), (Value.int .i64 k), (Value.int .i64 (4 : Int))] [] (Hp.mk [(Ob.cells c0 true), (Ob.cells c true), o2, (Ob.cells ⟨[(Value.slice (Option.some (Addr.mk 0 off0 Option.none)) n 7), (Value.slice (Option.some (Addr.mk 1 off Option.none)) n2 5), (Value.slice d n3 z3), (Value.int .i64 age), (Value.int .i64 shear)]⟩ false), (Ob.map es)] 96 []))))
        (cond (and (decide ((0 : Int) ≤ (getInt c (off + ((Int.toNat k) * 5))))) (decide ((getInt c (off + ((Int.toNat k) * 5))) < (Int.ofNat n))))
         (cond (and true (rdOk c0 [Leaf.str, (Leaf.int .i64), (Leaf.int .i64), (Leaf.int .i64), (Leaf.int .i64), (Leaf.int .i64), (Leaf.int .i64)] (off0 + ((Int.toNat (getInt c (off + ((Int.toNat k) * 5)))) * 7))))
          (cond (decide ((0 : Int) ≤ (getInt c ((off + ((Int.toNat k) * 5)) + 1))))
           (cond (not (decide ((getInt c ((off + ((Int.toNat k) * 5)) + 1)) ≤ (100000 : Int))))
            (some (Out.ex Ex.ret (St.mk [(Value.int .i64 (3 : Int)), (Value.int .i64 k), (Value.int .i64 (7 : Int))] [] (Hp.mk [(Ob.cells c0 true), (Ob.cells c true), o2, (Ob.cells ⟨[(Value.slice (Option.some (Addr.mk 0 off0 Option.none)) n 7), (Value.slice (Option.some (Addr.mk 1 off Option.none)) n2 5), (Value.slice d n3 z3), (Value.int .i64 age), (Value.int .i64 shear)]⟩ false), (Ob.map es)] 96 []))))
            (cond (decide ((getInt c (((off + ((Int.toNat k) * 5)) + 1) + 1)) < (getInt c0 ((((((off0 + ((Int.toNat (getInt c (off + ((Int.toNat k) * 5)))) * 7)) + 1) + 1) + 1) + 1) + 1))))
             (some (Out.ex Ex.ret (St.mk [(Value.int .i64 (3 : Int)), (Value.int .i64 k), (Value.int .i64 (7 : Int))] [] (Hp.mk [(Ob.cells c0 true), (Ob.cells c true), o2, (Ob.cells ⟨[(Value.slice (Option.some (Addr.mk 0 off0 Option.none)) n 7), (Value.slice (Option.some (Addr.mk 1 off Option.none)) n2 5), (Value.slice d n3 z3), (Value.int .i64 age), (Value.int .i64 shear)]⟩ false), (Ob.map es)] 96 []))))
             (cond (decide ((getInt c0 (((((((off0 + ((Int.toNat (getInt c (off + ((Int.toNat k) * 5)))) * 7)) + 1) + 1) + 1) + 1) + 1) + 1)) < (getInt c (((off + ((Int.toNat k) * 5)) + 1) + 1))))
              (some (Out.ex Ex.ret (St.mk [(Value.int .i64 (3 : Int)), (Value.int .i64 k), (Value.int .i64 (7 : Int))] [] (Hp.mk [(Ob.cells c0 true), (Ob.cells c true), o2, (Ob.cells ⟨[(Value.slice (Option.some (Addr.mk 0 off0 Option.none)) n 7), (Value.slice (Option.some (Addr.mk 1 off Option.none)) n2 5), (Value.slice d n3 z3), (Value.int .i64 age), (Value.int .i64 shear)]⟩ false), (Ob.map es)] 96 []))))
              (cond (decide ((-20000 : Int) ≤ (getInt c ((((off + ((Int.toNat k) * 5)) + 1) + 1) + 1))))
               (cond (not (decide ((getInt c ((((off + ((Int.toNat k) * 5)) + 1) + 1) + 1)) ≤ (20000 : Int))))
                (some (Out.ex Ex.ret (St.mk [(Value.int .i64 (3 : Int)), (Value.int .i64 k), (Value.int .i64 (7 : Int))] [] (Hp.mk [(Ob.cells c0 true), (Ob.cells c true), o2, (Ob.cells ⟨[(Value.slice (Option.some (Addr.mk 0 off0 Option.none)) n 7), (Value.slice (Option.some (Addr.mk 1 off Option.none)) n2 5), (Value.slice d n3 z3), (Value.int .i64 age), (Value.int .i64 shear)]⟩ false), (Ob.map es)] 96 []))))
                (cond (decide ((-20000 : Int) ≤ (getInt c (((((off + ((Int.toNat k) * 5)) + 1) + 1) + 1) + 1))))
                 (cond (not (decide ((getInt c (((((off + ((Int.toNat k) * 5)) + 1) + 1) + 1) + 1)) ≤ (20000 : Int))))
                  (some (Out.ex Ex.ret (St.mk [(Value.int .i64 (3 : Int)), (Value.int .i64 k), (Value.int .i64 (7 : Int))] [] (Hp.mk [(Ob.cells c0 true), (Ob.cells c true), o2, (Ob.cells ⟨[(Value.slice (Option.some (Addr.mk 0 off0 Option.none)) n 7), (Value.slice (Option.some (Addr.mk 1 off Option.none)) n2 5), (Value.slice d n3 z3), (Value.int .i64 age), (Value.int .i64 shear)]⟩ false), (Ob.map es)] 96 []))))
                  (cond (lkIs Try.prog 105 (Value.agg ⟨[(Value.string ByteArray.empty), (Value.int .i64 (getInt c (off + ((Int.toNat k) * 5)))), (Value.int .i64 (getInt c ((off + ((Int.toNat k) * 5)) + 1))), (Value.int .i64 (getInt c (((off + ((Int.toNat k) * 5)) + 1) + 1)))]⟩) es)
                   (cond (lkOf Try.prog 105 (Value.agg ⟨[(Value.string ByteArray.empty), (Value.int .i64 (getInt c (off + ((Int.toNat k) * 5)))), (Value.int .i64 (getInt c ((off + ((Int.toNat k) * 5)) + 1))), (Value.int .i64 (getInt c (((off + ((Int.toNat k) * 5)) + 1) + 1)))]⟩) es)
                    (some (Out.ex Ex.ret (St.mk [(Value.int .i64 (3 : Int)), (Value.int .i64 k), (Value.int .i64 (5 : Int))] [] (Hp.mk [(Ob.cells c0 true), (Ob.cells c true), o2, (Ob.cells ⟨[(Value.slice (Option.some (Addr.mk 0 off0 Option.none)) n 7), (Value.slice (Option.some (Addr.mk 1 off Option.none)) n2 5), (Value.slice d n3 z3), (Value.int .i64 age), (Value.int .i64 shear)]⟩ false), (Ob.map es)] 96 []))))
                    (cond (upIs Try.prog 105 (Value.agg ⟨[(Value.string ByteArray.empty), (Value.int .i64 (getInt c (off + ((Int.toNat k) * 5)))), (Value.int .i64 (getInt c ((off + ((Int.toNat k) * 5)) + 1))), (Value.int .i64 (getInt c (((off + ((Int.toNat k) * 5)) + 1) + 1)))]⟩) (Value.bool true) es)
                     (cond (mapSc (((((((1 + 1) + 1) + 1) + 1) + 1) + 1) + 1) (upOf Try.prog 105 (Value.agg ⟨[(Value.string ByteArray.empty), (Value.int .i64 (getInt c (off + ((Int.toNat k) * 5)))), (Value.int .i64 (getInt c ((off + ((Int.toNat k) * 5)) + 1))), (Value.int .i64 (getInt c (((off + ((Int.toNat k) * 5)) + 1) + 1)))]⟩) (Value.bool true) es))
                      (cond (decide ((getInt c0 ((off0 + ((Int.toNat (getInt c (off + ((Int.toNat k) * 5)))) * 7)) + 1)) = (2 : Int)))
                       (cond (and true (and (decide ((0 : Int) ≤ k)) (and (decide (0 ≤ (Int.toNat k))) (decide ((Int.toNat k) ≤ n2)))))
                        (cond (c106 (Option.some (Addr.mk 1 (off + 0) Option.none)) ((Int.toNat k) - 0) 5 [(Ob.cells c0 true), (Ob.cells c true), o2, (Ob.cells ⟨[(Value.slice (Option.some (Addr.mk 0 off0 Option.none)) n 7), (Value.slice (Option.some (Addr.mk 1 off Option.none)) n2 5), (Value.slice d n3 z3), (Value.int .i64 age), (Value.int .i64 shear)]⟩ false), (Ob.map (upOf Try.prog 105 (Value.agg ⟨[(Value.string ByteArray.empty), (Value.int .i64 (getInt c (off + ((Int.toNat k) * 5)))), (Value.int .i64 (getInt c ((off + ((Int.toNat k) * 5)) + 1))), (Value.int .i64 (getInt c (((off + ((Int.toNat k) * 5)) + 1) + 1)))]⟩) (Value.bool true) es)), (Ob.cells ⟨[(Value.slice (Option.some (Addr.mk 0 off0 Option.none)) n 7), (Value.slice (Option.some (Addr.mk 1 off Option.none)) n2 5), (Value.slice d n3 z3), (Value.int .i64 age), (Value.int .i64 shear)]⟩ false), (Ob.cells ⟨[(Value.int .i64 (getInt c (off + ((Int.toNat k) * 5)))), (Value.int .i64 (getInt c ((off + ((Int.toNat k) * 5)) + 1))), (Value.int .i64 (getInt c (((off + ((Int.toNat k) * 5)) + 1) + 1))), (Value.int .i64 (getInt c ((((off + ((Int.toNat k) * 5)) + 1) + 1) + 1))), (Value.int .i64 (getInt c (((((off + ((Int.toNat k) * 5)) + 1) + 1) + 1) + 1)))]⟩ false), (Ob.cells ⟨[(Value.string (getStr c0 (off0 + ((Int.toNat (getInt c (off + ((Int.toNat k) * 5)))) * 7)))), (Value.int .i64 (getInt c0 ((off0 + ((Int.toNat (getInt c (off + ((Int.toNat k) * 5)))) * 7)) + 1))), (Value.int .i64 (getInt c0 (((off0 + ((Int.toNat (getInt c (off + ((Int.toNat k) * 5)))) * 7)) + 1) + 1))), (Value.int .i64 (getInt c0 ((((off0 + ((Int.toNat (getInt c (off + ((Int.toNat k) * 5)))) * 7)) + 1) + 1) + 1))), (Value.int .i64 (getInt c0 (((((off0 + ((Int.toNat (getInt c (off + ((Int.toNat k) * 5)))) * 7)) + 1) + 1) + 1) + 1))), (Value.int .i64 (getInt c0 ((((((off0 + ((Int.toNat (getInt c (off + ((Int.toNat k) * 5)))) * 7)) + 1) + 1) + 1) + 1) + 1))), (Value.int .i64 (getInt c0 (((((((off0 + ((Int.toNat (getInt c (off + ((Int.toNat k) * 5)))) * 7)) + 1) + 1) + 1) + 1) + 1) + 1)))]⟩ false)])
                         (cond (flS c (off + 0) (getInt c (off + ((Int.toNat k) * 5))) (getInt c ((off + ((Int.toNat k) * 5)) + 1)) (getInt c (((off + ((Int.toNat k) * 5)) + 1) + 1)) ((Int.toNat k) - 0))
                          (cond (mapSc ((((1 + 1) + 1) + 1) + 1) (upOf Try.prog 105 (Value.agg ⟨[(Value.string ByteArray.empty), (Value.int .i64 (getInt c (off + ((Int.toNat k) * 5)))), (Value.int .i64 (getInt c ((off + ((Int.toNat k) * 5)) + 1))), (Value.int .i64 (getInt c (((off + ((Int.toNat k) * 5)) + 1) + 1)))]⟩) (Value.bool true) es))
                           (some (Out.ex Ex.ret (St.mk [(Value.int .i64 (3 : Int)), (Value.int .i64 k), (Value.int .i64 (2 : Int))] [] (Hp.mk [(Ob.cells c0 true), (Ob.cells c true), o2, (Ob.cells ⟨[(Value.slice (Option.some (Addr.mk 0 off0 Option.none)) n 7), (Value.slice (Option.some (Addr.mk 1 off Option.none)) n2 5), (Value.slice d n3 z3), (Value.int .i64 age), (Value.int .i64 shear)]⟩ false), (Ob.map (upOf Try.prog 105 (Value.agg ⟨[(Value.string ByteArray.empty), (Value.int .i64 (getInt c (off + ((Int.toNat k) * 5)))), (Value.int .i64 (getInt c ((off + ((Int.toNat k) * 5)) + 1))), (Value.int .i64 (getInt c (((off + ((Int.toNat k) * 5)) + 1) + 1)))]⟩) (Value.bool true) es))] 96 []))))
                           (none))
                          (cond (mapSc ((((1 + 1) + 1) + 1) + 1) (upOf Try.prog 105 (Value.agg ⟨[(Value.string ByteArray.empty), (Value.int .i64 (getInt c (off + ((Int.toNat k) * 5)))), (Value.int .i64 (getInt c ((off + ((Int.toNat k) * 5)) + 1))), (Value.int .i64 (getInt c (((off + ((Int.toNat k) * 5)) + 1) + 1)))]⟩) (Value.bool true) es))
                           (cond (Nat.blt (Nat.sub (Int.toNat m) (Int.toNat (IntKind.wrap .i64 (k + (1 : Int))))) M)
                            (cond (eqCode (theLoop Try.prog 20 1) (theLoop Try.prog 20 1))
                             (cond (okA20b c0 off0 n c off n2 d n3 z3 o2 m (IntKind.wrap .i64 (k + (1 : Int))) (upOf Try.prog 105 (Value.agg ⟨[(Value.string ByteArray.empty), (Value.int .i64 (getInt c (off + ((Int.toNat k) * 5)))), (Value.int .i64 (getInt c ((off + ((Int.toNat k) * 5)) + 1))), (Value.int .i64 (getInt c (((off + ((Int.toNat k) * 5)) + 1) + 1)))]⟩) (Value.bool true) es))
                              (cond (sbB c0 off0 n c off (n2 - (Int.toNat (IntKind.wrap .i64 (k + (1 : Int))))) (Int.toNat (IntKind.wrap .i64 (k + (1 : Int)))) (upOf Try.prog 105 (Value.agg ⟨[(Value.string ByteArray.empty), (Value.int .i64 (getInt c (off + ((Int.toNat k) * 5)))), (Value.int .i64 (getInt c ((off + ((Int.toNat k) * 5)) + 1))), (Value.int .i64 (getInt c (((off + ((Int.toNat k) * 5)) + 1) + 1)))]⟩) (Value.bool true) es))
                               (some (Out.ex Ex.ret (St.mk [(Value.int .i64 (3 : Int)), (Value.int .i64 (Int.ofNat (sbI c0 off0 n c off (n2 - (Int.toNat (IntKind.wrap .i64 (k + (1 : Int))))) (Int.toNat (IntKind.wrap .i64 (k + (1 : Int)))) (upOf Try.prog 105 (Value.agg ⟨[(Value.string ByteArray.empty), (Value.int .i64 (getInt c (off + ((Int.toNat k) * 5)))), (Value.int .i64 (getInt c ((off + ((Int.toNat k) * 5)) + 1))), (Value.int .i64 (getInt c (((off + ((Int.toNat k) * 5)) + 1) + 1)))]⟩) (Value.bool true) es)))), (Value.int .i64 (sbE c0 off0 n c off (n2 - (Int.toNat (IntKind.wrap .i64 (k + (1 : Int))))) (Int.toNat (IntKind.wrap .i64 (k + (1 : Int)))) (upOf Try.prog 105 (Value.agg ⟨[(Value.string ByteArray.empty), (Value.int .i64 (getInt c (off + ((Int.toNat k) * 5)))), (Value.int .i64 (getInt c ((off + ((Int.toNat k) * 5)) + 1))), (Value.int .i64 (getInt c (((off + ((Int.toNat k) * 5)) + 1) + 1)))]⟩) (Value.bool true) es)))] [] (Hp.mk [(Ob.cells c0 true), (Ob.cells c true), o2, (Ob.cells ⟨[(Value.slice (Option.some (Addr.mk 0 off0 Option.none)) n 7), (Value.slice (Option.some (Addr.mk 1 off Option.none)) n2 5), (Value.slice d n3 z3), (Value.int .i64 age), (Value.int .i64 shear)]⟩ false), (Ob.map (sbM c0 off0 n c off (n2 - (Int.toNat (IntKind.wrap .i64 (k + (1 : Int))))) (Int.toNat (IntKind.wrap .i64 (k + (1 : Int)))) (upOf Try.prog 105 (Value.agg ⟨[(Value.string ByteArray.empty), (Value.int .i64 (getInt c (off + ((Int.toNat k) * 5)))), (Value.int .i64 (getInt c ((off + ((Int.toNat k) * 5)) + 1))), (Value.int .i64 (getInt c (((off + ((Int.toNat k) * 5)) + 1) + 1)))]⟩) (Value.bool true) es)))] 96 []))))
                               (some (Out.ex (Ex.exit 2) (St.mk [(Value.pointer (Option.some (Addr.mk 3 0 Option.none)))] [] (Hp.mk [(Ob.cells c0 true), (Ob.cells c true), o2, (Ob.cells ⟨[(Value.slice (Option.some (Addr.mk 0 off0 Option.none)) n 7), (Value.slice (Option.some (Addr.mk 1 off Option.none)) n2 5), (Value.slice d n3 z3), (Value.int .i64 age), (Value.int .i64 shear)]⟩ false), (Ob.map (sbM c0 off0 n c off (n2 - (Int.toNat (IntKind.wrap .i64 (k + (1 : Int))))) (Int.toNat (IntKind.wrap .i64 (k + (1 : Int)))) (upOf Try.prog 105 (Value.agg ⟨[(Value.string ByteArray.empty), (Value.int .i64 (getInt c (off + ((Int.toNat k) * 5)))), (Value.int .i64 (getInt c ((off + ((Int.toNat k) * 5)) + 1))), (Value.int .i64 (getInt c (((off + ((Int.toNat k) * 5)) + 1) + 1)))]⟩) (Value.bool true) es)))] 96 [])))))
                              (none))
                             (none))
                            (none))
                           (none)))
                         (none))
                        (none))
                       (cond (mapSc ((((1 + 1) + 1) + 1) + 1) (upOf Try.prog 105 (Value.agg ⟨[(Value.string ByteArray.empty), (Value.int .i64 (getInt c (off + ((Int.toNat k) * 5)))), (Value.int .i64 (getInt c ((off + ((Int.toNat k) * 5)) + 1))), (Value.int .i64 (getInt c (((off + ((Int.toNat k) * 5)) + 1) + 1)))]⟩) (Value.bool true) es))
                        (cond (Nat.blt (Nat.sub (Int.toNat m) (Int.toNat (IntKind.wrap .i64 (k + (1 : Int))))) M)
                         (cond (eqCode (theLoop Try.prog 20 1) (theLoop Try.prog 20 1))
                          (cond (okA20b c0 off0 n c off n2 d n3 z3 o2 m (IntKind.wrap .i64 (k + (1 : Int))) (upOf Try.prog 105 (Value.agg ⟨[(Value.string ByteArray.empty), (Value.int .i64 (getInt c (off + ((Int.toNat k) * 5)))), (Value.int .i64 (getInt c ((off + ((Int.toNat k) * 5)) + 1))), (Value.int .i64 (getInt c (((off + ((Int.toNat k) * 5)) + 1) + 1)))]⟩) (Value.bool true) es))
                           (cond (sbB c0 off0 n c off (n2 - (Int.toNat (IntKind.wrap .i64 (k + (1 : Int))))) (Int.toNat (IntKind.wrap .i64 (k + (1 : Int)))) (upOf Try.prog 105 (Value.agg ⟨[(Value.string ByteArray.empty), (Value.int .i64 (getInt c (off + ((Int.toNat k) * 5)))), (Value.int .i64 (getInt c ((off + ((Int.toNat k) * 5)) + 1))), (Value.int .i64 (getInt c (((off + ((Int.toNat k) * 5)) + 1) + 1)))]⟩) (Value.bool true) es))
                            (some (Out.ex Ex.ret (St.mk [(Value.int .i64 (3 : Int)), (Value.int .i64 (Int.ofNat (sbI c0 off0 n c off (n2 - (Int.toNat (IntKind.wrap .i64 (k + (1 : Int))))) (Int.toNat (IntKind.wrap .i64 (k + (1 : Int)))) (upOf Try.prog 105 (Value.agg ⟨[(Value.string ByteArray.empty), (Value.int .i64 (getInt c (off + ((Int.toNat k) * 5)))), (Value.int .i64 (getInt c ((off + ((Int.toNat k) * 5)) + 1))), (Value.int .i64 (getInt c (((off + ((Int.toNat k) * 5)) + 1) + 1)))]⟩) (Value.bool true) es)))), (Value.int .i64 (sbE c0 off0 n c off (n2 - (Int.toNat (IntKind.wrap .i64 (k + (1 : Int))))) (Int.toNat (IntKind.wrap .i64 (k + (1 : Int)))) (upOf Try.prog 105 (Value.agg ⟨[(Value.string ByteArray.empty), (Value.int .i64 (getInt c (off + ((Int.toNat k) * 5)))), (Value.int .i64 (getInt c ((off + ((Int.toNat k) * 5)) + 1))), (Value.int .i64 (getInt c (((off + ((Int.toNat k) * 5)) + 1) + 1)))]⟩) (Value.bool true) es)))] [] (Hp.mk [(Ob.cells c0 true), (Ob.cells c true), o2, (Ob.cells ⟨[(Value.slice (Option.some (Addr.mk 0 off0 Option.none)) n 7), (Value.slice (Option.some (Addr.mk 1 off Option.none)) n2 5), (Value.slice d n3 z3), (Value.int .i64 age), (Value.int .i64 shear)]⟩ false), (Ob.map (sbM c0 off0 n c off (n2 - (Int.toNat (IntKind.wrap .i64 (k + (1 : Int))))) (Int.toNat (IntKind.wrap .i64 (k + (1 : Int)))) (upOf Try.prog 105 (Value.agg ⟨[(Value.string ByteArray.empty), (Value.int .i64 (getInt c (off + ((Int.toNat k) * 5)))), (Value.int .i64 (getInt c ((off + ((Int.toNat k) * 5)) + 1))), (Value.int .i64 (getInt c (((off + ((Int.toNat k) * 5)) + 1) + 1)))]⟩) (Value.bool true) es)))] 96 []))))
                            (some (Out.ex (Ex.exit 2) (St.mk [(Value.pointer (Option.some (Addr.mk 3 0 Option.none)))] [] (Hp.mk [(Ob.cells c0 true), (Ob.cells c true), o2, (Ob.cells ⟨[(Value.slice (Option.some (Addr.mk 0 off0 Option.none)) n 7), (Value.slice (Option.some (Addr.mk 1 off Option.none)) n2 5), (Value.slice d n3 z3), (Value.int .i64 age), (Value.int .i64 shear)]⟩ false), (Ob.map (sbM c0 off0 n c off (n2 - (Int.toNat (IntKind.wrap .i64 (k + (1 : Int))))) (Int.toNat (IntKind.wrap .i64 (k + (1 : Int)))) (upOf Try.prog 105 (Value.agg ⟨[(Value.string ByteArray.empty), (Value.int .i64 (getInt c (off + ((Int.toNat k) * 5)))), (Value.int .i64 (getInt c ((off + ((Int.toNat k) * 5)) + 1))), (Value.int .i64 (getInt c (((off + ((Int.toNat k) * 5)) + 1) + 1)))]⟩) (Value.bool true) es)))] 96 [])))))
                           (none))
                          (none))
                         (none))
                        (none)))
                      (none))
                     (none)))
                   (none)))
                 (some (Out.ex Ex.ret (St.mk [(Value.int .i64 (3 : Int)), (Value.int .i64 k), (Value.int .i64 (7 : Int))] [] (Hp.mk [(Ob.cells c0 true), (Ob.cells c true), o2, (Ob.cells ⟨[(Value.slice (Option.some (Addr.mk 0 off0 Option.none)) n 7), (Value.slice (Option.some (Addr.mk 1 off Option.none)) n2 5), (Value.slice d n3 z3), (Value.int .i64 age), (Value.int .i64 shear)]⟩ false), (Ob.map es)] 96 []))))))
               (some (Out.ex Ex.ret (St.mk [(Value.int .i64 (3 : Int)), (Value.int .i64 k), (Value.int .i64 (7 : Int))] [] (Hp.mk [(Ob.cells c0 true), (Ob.cells c true), o2, (Ob.cells ⟨[(Value.slice (Option.some (Addr.mk 0 off0 Option.none)) n 7), (Value.slice (Option.some (Addr.mk 1 off Option.none)) n2 5), (Value.slice d n3 z3), (Value.int .i64 age), (Value.int .i64 shear)]⟩ false), (Ob.map es)] 96 []))))))))
           (some (Out.ex Ex.ret (St.mk [(Value.int .i64 (3 : Int)), (Value.int .i64 k), (Value.int .i64 (7 : Int))] [] (Hp.mk [(Ob.cells c0 true), (Ob.cells c true), o2, (Ob.cells ⟨[(Value.slice (Option.some (Addr.mk 0 off0 Option.none)) n 7), (Value.slice (Option.some (Addr.mk 1 off Option.none)) n2 5), (Value.slice d n3 z3), (Value.int .i64 age), (Value.int .i64 shear)]⟩ false), (Ob.map es)] 96 [])))))
          (none))
         (none))))
      (none))
     (none))
    (some (Out.ex (Ex.exit 2) (St.mk [(Value.pointer (Option.some (Addr.mk 3 0 Option.none)))] [] (Hp.mk [(Ob.cells c0 true), (Ob.cells c true), o2, (Ob.cells ⟨[(Value.slice (Option.some (Addr.mk 0 off0 Option.none)) n 7), (Value.slice (Option.some (Addr.mk 1 off Option.none)) n2 5), (Value.slice d n3 z3), (Value.int .i64 age), (Value.int .i64 shear)]⟩ false), (Ob.map es)] 96 [])))) := by kernel_rfl
theorem soK_mk (c : Array Value) (x : Nat) : isMk (soK c x) := ⟨_, _, _, _, rfl⟩
theorem sbR_taken {c0 : Array Value} {off0 n : Nat} {c : Array Value} {off : Nat} : ∀ {m k : Nat} {es : Es}, TakenM es → TakenM (sbR c0 off0 n c off m k es).es
  | 0, _, _, h => h
  | m + 1, k, es, h => by
    have h2 : TakenM (sqM c0 off0 n c off k es) := by
      unfold sqM
      split
      · split
        · exact h
        · exact taken_add h (soK_mk ..)
      · exact h
    simp only [sbR]
    split
    · exact sbR_taken h2
    · exact h2
theorem known20b : ∃ J, Known Try.prog (sh20b.ans J) := by
  refine Known.junk known106c mes20b sh20b ?_
  intro J t f hs hkn
  unfold sh20b at hs
  split at hs
  case h_2 => cases hs
  rename_i code t c0 c o2 off0 n off n2 d n3 z3 age shear es G
  split at hs
  case h_2 => cases hs
  rename_i m k er e1 e5 e56 e57
  simp only [Option.some.injEq] at hs
  subst hs
  refine ex_guard fun h1 => ex_guard fun h2 => ex_guard fun h3 => ?_
  obtain rfl := eqCode_eq h1
  have hl : t.length = 96 := Nat.eq_of_beq_eq_true h2
  obtain ⟨hg0, hg, hd, q2, hn, hn2, rfl, hk0, tk⟩ := dec_iff.1 h3
  obtain ⟨k, rfl⟩ := Int.eq_ofNat_of_zero_le hk0
  have scs := And.intro (allsc (n := 5) hg0.1) (And.intro (allsc (n := 5) hg.1) (And.intro (slice_sc hd (show 3 ≤ 5 by decide)) (And.intro (grOb_sc (n := 5) q2) (And.intro (obSc_map tk 5) (And.intro (fun l z => at0_sc (l := l) (z := z) (off := off0) (show 0 < 5 by decide)) (fun l z => at1_sc (l := l) (z := z) (off := off) (show 1 < 5 by decide)))))))
  have hsc2 : (([.cells c0 true, .cells c true, o2, .cells ⟨[.slice (some ⟨0, off0, none⟩) n 7, .slice (some ⟨1, off, none⟩) n2 5, .slice d n3 z3, .int .i64 age, .int .i64 shear]⟩ false, .map es] : List Ob).all (obSc ([.cells c0 true, .cells c true, o2, .cells ⟨[.slice (some ⟨0, off0, none⟩) n 7, .slice (some ⟨1, off, none⟩) n2 5, .slice d n3 z3, .int .i64 age, .int .i64 shear]⟩ false, .map es] : List Ob).length)) = true := by
    simp [obSc_cells, scs, int_sc]
  have hk2 : ∀ es', TakenM es' → ObsKept 5 [.cells c0 true, .cells c true, o2, .cells ⟨[.slice (some ⟨0, off0, none⟩) n 7, .slice (some ⟨1, off, none⟩) n2 5, .slice d n3 z3, .int .i64 age, .int .i64 shear]⟩ false, .map es] [.cells c0 true, .cells c true, o2, .cells ⟨[.slice (some ⟨0, off0, none⟩) n 7, .slice (some ⟨1, off, none⟩) n2 5, .slice d n3 z3, .int .i64 age, .int .i64 shear]⟩ false, .map es'] := by
    intro es' ht
    have hs := keptSelf hsc2
    cases hs with
    | cons h r => cases r with
      | cons h' r => cases r with
        | cons h'' r => cases r with
          | cons h''' r => exact .cons h (.cons h' (.cons h'' (.cons h''' (.cons (by
              show ((!(Ob.map es').live || (Ob.map es).live) && (!(Ob.map es').rw || (Ob.map es).rw) && (obSc 5 (.map es'))) = true
              rw [obSc_map ht]; rfl) .nil))))
  have use := fun es' (ht : TakenM es') e' vs hev he hvs => hkn.loopLeaf (G := G) noNG mixed (n := 60) (N0 := 96) (N := 96) (live := [(1, pp 3), (5, .map (some 4)), (56, .int .i64 (Int.ofNat n2)), (57, .int .i64 (Int.ofNat k))])
    (H0 := [.cells c0 true, .cells c true, o2, .cells ⟨[.slice (some ⟨0, off0, none⟩) n 7, .slice (some ⟨1, off, none⟩) n2 5, .slice d n3 z3, .int .i64 age, .int .i64 shear]⟩ false, .map es])
    (H1 := [.cells c0 true, .cells c true, o2, .cells ⟨[.slice (some ⟨0, off0, none⟩) n 7, .slice (some ⟨1, off, none⟩) n2 5, .slice d n3 z3, .int .i64 age, .int .i64 shear]⟩ false, .map es']) (pick := pick20 [1]) (e := e') (vs := vs)
    (base := 3) (wr := []) (wr1 := []) (c := theLoop Try.prog 20 1) (t := t) hev hl (by
      intro kv hm
      simp only [List.mem_cons, List.not_mem_nil, or_false] at hm
      rcases hm with rfl | rfl | rfl | rfl
      · exact ⟨e1, rfl, rfl⟩
      · exact ⟨e5, rfl, rfl⟩
      · exact ⟨e56, rfl, rfl⟩
      · exact ⟨e57, rfl, rfl⟩) (by simp) hsc2 (hk2 es' ht) he hvs
  simp only [List.length_cons, List.length_nil, Nat.zero_add, Nat.reduceAdd] at use
  rw [tree20b] at use
  simp only [Int.ofNat_eq_natCast, Int.toNat_natCast] at use ⊢
  by_cases hin : (k : Int) < (n2 : Int)
  · obtain ⟨m, hm⟩ : ∃ m, n2 - k = m + 1 := ⟨n2 - k - 1, by omega⟩
    have hw : IntKind.i64.wrap ((k : Int) + 1) = ((k + 1 : Nat) : Int) := by rw [wrap64_id (by omega) (by omega)]; rfl
    rw [hm]
    have hm' : n2 - (k + 1) = m := by omega
    have hme : (Nat.sub n2 (k + 1)).blt (mes20b (.code none (.loop (theLoop Try.prog 20 1)) ⟨t, [], ⟨.cells c0 true :: .cells c true :: o2 :: .cells ⟨[.slice (some ⟨0, off0, none⟩) n 7, .slice (some ⟨1, off, none⟩) n2 5, .slice d n3 z3, .int .i64 age, .int .i64 shear]⟩ false :: .map es :: G, 3, []⟩⟩)) = true := by
      simp only [mes20b, e56, e57, Nat.blt_eq, Int.toNat_natCast]
      show n2 - (k + 1) < n2 - k
      omega
    have hok : ∀ es', TakenM es' → okA20b c0 off0 n c off n2 d n3 z3 o2 (n2 : Int) ↑(k + 1) es' = true := fun es' ht => dec_iff.2 ⟨hg0, hg, hd, q2, hn, hn2, rfl, by omega, ht⟩
    have hkle : k ≤ n2 := by omega
    have x0 := hg.2 k (by omega)
    simp only [show L5.length = 5 from rfl] at x0
    have hcc : ∀ X : List Ob, c106 (some ⟨1, off, none⟩) k 5 (.cells c0 true :: .cells c true :: X) = true := fun X => dec_iff.2 ⟨.inr ⟨1, off, rfl, rfl, rfl, hg.1, fun q hq => hg.2 q (by omega)⟩, by omega⟩
    have kR : ∀ v : Int, 0 ≤ v → v < n → rdOk c0 L7 (off0 + v.toNat * 7) = true := fun v h1 h2 => hg0.2 v.toNat (by omega)
    have kk := soK_mk c (off + k * 5)
    have hlk := lkL_mark kk tk
    have l1 : lkIs Try.prog 105 (soK c (off + k * 5)) es = true := by unfold lkIs; rw [hlk]
    have l2 : lkOf Try.prog 105 (soK c (off + k * 5)) es = tkL es (soK c (off + k * 5)) := by unfold lkOf; rw [hlk]; rfl
    simp only [show Value.agg ⟨[.string ByteArray.empty, .int .i64 (getInt c (off + k * 5)), .int .i64 (getInt c (off + k * 5 + 1)), .int .i64 (getInt c (off + k * 5 + 1 + 1))]⟩ = soK c (off + k * 5) from rfl, l1, l2, hw, Int.toNat_natCast, hm', hin, decide_true, cond_true, Bool.true_and, Bool.and_self, Int.natCast_nonneg, eqCode_self, hme, Nat.add_zero, Nat.sub_zero, x0, hcc, hkle, Nat.zero_le] at use
    have hE := sqR.eq_1 c0 off0 n c (off + k * 5)
    simp only [inB] at hE
    simp only [Nat.add_assoc, Nat.reduceAdd] at use hE
    by_cases hR : sqR c0 off0 n c (off + k * 5) = 0
    · have hF : 0 ≤ getInt c (off + k * 5) ∧ getInt c (off + k * 5) < n ∧ 0 ≤ getInt c (off + (k * 5 + 1)) ∧ getInt c (off + (k * 5 + 1)) ≤ 100000 ∧ getInt c0 (off0 + ((getInt c (off + k * 5)).toNat * 7 + 5)) ≤ getInt c (off + (k * 5 + 2)) ∧ getInt c (off + (k * 5 + 2)) ≤ getInt c0 (off0 + ((getInt c (off + k * 5)).toNat * 7 + 6)) ∧ -20000 ≤ getInt c (off + (k * 5 + 3)) ∧ getInt c (off + (k * 5 + 3)) ≤ 20000 ∧ -20000 ≤ getInt c (off + (k * 5 + 4)) ∧ getInt c (off + (k * 5 + 4)) ≤ 20000 := by
        have hR2 := hR
        rw [hE] at hR2
        clear use hkn hk2 hsc2 hme hok h1 h2 h3 er hg0 hg hd q2 hl e1 e5 e56 e57 x0 scs hlk l1 l2 hcc kk hE
        split at hR2
        · cases hR2
        · split at hR2
          · cases hR2
          · simp only [Bool.not_eq_true', Bool.not_eq_false', decide_eq_true_eq, decide_eq_false_iff_not, Bool.and_eq_false_iff, Bool.and_eq_true] at *
            omega
      obtain ⟨f1, f2, f3, f4, f5, f6, f7, f8, f9, f10⟩ := hF
      have g1 : ¬ getInt c (off + k * 5) < 0 := by omega
      have g2 : ¬ (n : Int) ≤ getInt c (off + k * 5) := by omega
      have g3 : ¬ getInt c (off + (k * 5 + 2)) < getInt c0 (off0 + ((getInt c (off + k * 5)).toNat * 7 + 5)) := by omega
      have g4 : ¬ getInt c0 (off0 + ((getInt c (off + k * 5)).toNat * 7 + 6)) < getInt c (off + (k * 5 + 2)) := by omega
      have hrd := kR _ f1 f2
      simp only [f1, f2, f3, f4, f7, f8, f9, f10, g1, g2, g3, g4, hrd, decide_true, decide_false, Bool.and_self, Bool.not_true, cond_true, cond_false] at use
      have hsqE : sqE c0 off0 n c off k es = if tkL es (soK c (off + k * 5)) = true then 5 else sqF c0 off0 c off k := by unfold sqE; rw [if_pos hR]
      have hsqM : sqM c0 off0 n c off k es = if tkL es (soK c (off + k * 5)) = true then es else tkU es (soK c (off + k * 5)) := by unfold sqM; rw [if_pos hR]
      by_cases hmem : soK c (off + k * 5) ∈ keysM es
      · have ht : tkL es (soK c (off + k * 5)) = true := dec_iff.2 hmem
        have e : sbR c0 off0 n c off (m + 1) k es = ⟨true, k, 5, es⟩ := by simp [sbR, hsqE, hsqM, ht]
        simp only [sbB, sbI, sbE, sbM, e]
        refine use es tk .ret [.int .i64 3, .int .i64 k, .int .i64 5] ?_ rfl rfl
        rw [ht]; rfl
      · have ht : tkL es (soK c (off + k * 5)) = false := dec_false hmem
        have hup := upL_mark kk tk hmem
        have u1 : upIs Try.prog 105 (soK c (off + k * 5)) (.bool true) es = true := by unfold upIs; rw [hup]; rfl
        have u2 : upOf Try.prog 105 (soK c (off + k * 5)) (.bool true) es = tkU es (soK c (off + k * 5)) := by unfold upOf; rw [hup]; rfl
        have tk2 : TakenM (tkU es (soK c (off + k * 5))) := taken_add tk kk
        have u3 := mapSc_taken tk2
        simp only [ht, Bool.false_eq_true, if_false] at hsqE hsqM
        simp only [ht, u1, u2, u3, hok _ tk2, cond_false, cond_true] at use
        have hFE := sqF.eq_1 c0 off0 c off k
        simp only [Nat.add_assoc, Nat.reduceAdd] at hFE
        by_cases hr : sqF c0 off0 c off k = 0
        · have e : sbR c0 off0 n c off (m + 1) k es = sbR c0 off0 n c off m (k + 1) (tkU es (soK c (off + k * 5))) := by simp only [sbR, hsqE, hr, if_true, hsqM]
          simp only [sbB, sbI, sbE, sbM, e] at use ⊢
          have tk3 : TakenM (sbR c0 off0 n c off m (k + 1) (tkU es (soK c (off + k * 5)))).es := sbR_taken tk2
          have hno : ¬ (getInt c0 (off0 + ((getInt c (off + k * 5)).toNat * 7 + 1)) = 2 ∧ flS c off (getInt c (off + k * 5)) (getInt c (off + (k * 5 + 1))) (getInt c (off + (k * 5 + 2))) k = true) := by
            intro hh
            rw [hFE, if_pos hh] at hr
            cases hr
          cases hbb : (sbR c0 off0 n c off m (k + 1) (tkU es (soK c (off + k * 5)))).bad with
          | true =>
            rw [hbb] at use
            refine use _ tk3 .ret [.int .i64 3, .int .i64 (Int.ofNat (sbR c0 off0 n c off m (k + 1) (tkU es (soK c (off + k * 5)))).ix), .int .i64 (sbR c0 off0 n c off m (k + 1) (tkU es (soK c (off + k * 5)))).err] ?_ rfl rfl
            by_cases hk2' : getInt c0 (off0 + ((getInt c (off + k * 5)).toNat * 7 + 1)) = 2
            · have hfl : flS c off (getInt c (off + k * 5)) (getInt c (off + (k * 5 + 1))) (getInt c (off + (k * 5 + 2))) k = false := by cases hq : flS c off (getInt c (off + k * 5)) (getInt c (off + (k * 5 + 1))) (getInt c (off + (k * 5 + 2))) k with | true => exact absurd ⟨hk2', hq⟩ hno | false => rfl
              simp only [hk2', hfl, decide_true, cond_true, cond_false]; rfl
            · simp only [hk2', decide_false, cond_true, cond_false]; rfl
          | false =>
            rw [hbb] at use
            refine use _ tk3 (.exit 2) [pp 3] ?_ rfl rfl
            by_cases hk2' : getInt c0 (off0 + ((getInt c (off + k * 5)).toNat * 7 + 1)) = 2
            · have hfl : flS c off (getInt c (off + k * 5)) (getInt c (off + (k * 5 + 1))) (getInt c (off + (k * 5 + 2))) k = false := by cases hq : flS c off (getInt c (off + k * 5)) (getInt c (off + (k * 5 + 1))) (getInt c (off + (k * 5 + 2))) k with | true => exact absurd ⟨hk2', hq⟩ hno | false => rfl
              simp only [hk2', hfl, decide_true, cond_true, cond_false]; rfl
            · simp only [hk2', decide_false, cond_true, cond_false]; rfl
        · have hyes : getInt c0 (off0 + ((getInt c (off + k * 5)).toNat * 7 + 1)) = 2 ∧ flS c off (getInt c (off + k * 5)) (getInt c (off + (k * 5 + 1))) (getInt c (off + (k * 5 + 2))) k = true := by
            by_cases hh : getInt c0 (off0 + ((getInt c (off + k * 5)).toNat * 7 + 1)) = 2 ∧ flS c off (getInt c (off + k * 5)) (getInt c (off + (k * 5 + 1))) (getInt c (off + (k * 5 + 2))) k = true
            · exact hh
            · rw [hFE, if_neg hh] at hr; exact absurd rfl hr
          have h2v : sqF c0 off0 c off k = 2 := by rw [hFE, if_pos hyes]
          have e : sbR c0 off0 n c off (m + 1) k es = ⟨true, k, 2, tkU es (soK c (off + k * 5))⟩ := by simp only [sbR, hsqE, h2v, hsqM]; rfl
          simp only [sbB, sbI, sbE, sbM, e]
          refine use _ tk2 .ret [.int .i64 3, .int .i64 k, .int .i64 2] ?_ rfl rfl
          simp only [hyes.1, hyes.2, decide_true, cond_true]
    · have e : sbR c0 off0 n c off (m + 1) k es = ⟨true, k, sqR c0 off0 n c (off + k * 5), es⟩ := by simp only [sbR, sqE, sqM, hR, if_false]
      simp only [sbB, sbI, sbE, sbM, e]
      refine use es tk .ret [.int .i64 3, .int .i64 k, .int .i64 (sqR c0 off0 n c (off + k * 5))] ?_ rfl rfl
      clear use hkn hk2 hsc2 hme hok h1 h2 h3 er hg0 hg hd q2 hl e1 e5 e56 e57 x0 scs hlk l1 l2 hcc kk hin hm hw hm' hkle hk0 tk e
      repeat' refine cond_hd (fun _ => ?_) (fun _ => ?_)
      all_goals first
        | (exfalso
           have h9 := kR (getInt c (off + k * 5)) (by simp only [Bool.not_eq_true', Bool.not_eq_false', decide_eq_true_eq, decide_eq_false_iff_not, Bool.and_eq_false_iff, Bool.and_eq_true] at *; omega) (by simp only [Bool.not_eq_true', Bool.not_eq_false', decide_eq_true_eq, decide_eq_false_iff_not, Bool.and_eq_false_iff, Bool.and_eq_true] at *; omega)
           simp_all; done)
        | (have h7 : sqR c0 off0 n c (off + k * 5) = 4 := by
             simp only [Bool.not_eq_true', Bool.not_eq_false', decide_eq_true_eq, decide_eq_false_iff_not, Bool.and_eq_false_iff, Bool.and_eq_true] at *
             rw [hE, if_pos (by omega)]
           rw [h7]; done)
        | (have h7 : sqR c0 off0 n c (off + k * 5) = 7 := by
             simp only [Bool.not_eq_true', Bool.not_eq_false', decide_eq_true_eq, decide_eq_false_iff_not, Bool.and_eq_false_iff, Bool.and_eq_true] at *
             rw [hE, if_neg (by omega), if_pos (by omega)]
           rw [h7]; done)
        | (exfalso
           refine hR ?_
           clear hR
           simp only [Bool.not_eq_true', Bool.not_eq_false', decide_eq_true_eq, decide_eq_false_iff_not, Bool.and_eq_false_iff, Bool.and_eq_true] at *
           rw [hE, if_neg (by omega), if_neg (by omega)])
  · have h0 : n2 - k = 0 := by omega
    rw [h0]
    refine use es tk (.exit 2) [pp 3] ?_ rfl rfl
    simp only [hin, decide_false, cond_false]
    try rfl
end
end Go.Proofs.Ytohpmnfplglbdaa

/- What is taken by marks, and what the document says of sources, soundings and cuts. Conditions: none. -/
namespace Go.Proofs.Ytohpmnfplglbdaa
open Go.Gh Go.RowKit
noncomputable section
set_option linter.unusedSimpArgs false
set_option linter.unusedVariables false

theorem sEq_iff (a b : ByteArray) : sEq a b = true ↔ a = b := by
  unfold sEq
  rw [beq_iff_eq, ByteArray.toList_eq, ByteArray.toList_eq]
  constructor
  · intro h
    cases a; cases b
    rw [ByteArray.mk.injEq]
    exact Array.toList_inj.1 h
  · rintro rfl; rfl
theorem fst_iff2 {p : Nat → Bool} : ∀ {m i : Nat}, (fst p m i).isSome = true ↔ ∃ j, i ≤ j ∧ j < i + m ∧ p j = true
  | 0, i => by
    constructor
    · intro h; cases h
    · rintro ⟨j, h1, h2, _⟩; omega
  | m + 1, i => by
    by_cases hp : p i = true
    · rw [fst_hit hp]
      exact ⟨fun _ => ⟨i, Nat.le_refl _, by omega, hp⟩, fun _ => rfl⟩
    · have hp' : p i = false := by simpa using hp
      rw [fst_miss hp', fst_iff2]
      constructor
      · rintro ⟨j, h1, h2, h3⟩; exact ⟨j, by omega, by omega, h3⟩
      · rintro ⟨j, h1, h2, h3⟩
        refine ⟨j, ?_, by omega, h3⟩
        rcases Nat.lt_or_ge i j with h | h
        · omega
        · obtain rfl : j = i := by omega
          exact absurd h3 hp
theorem mkV_inj {s s' : ByteArray} {a b c a' b' c' : Int} : mkV s a b c = mkV s' a' b' c' ↔ s = s' ∧ a = a' ∧ b = b' ∧ c = c' := by
  simp [mkV]
/-- The marks of the first sources. -/
def KeysA (c : Array Value) (off k : Nat) (es : Es) : Prop := ∀ v, v ∈ keysM es ↔ ∃ j, j < k ∧ v = nmK c (off + j * 7)
theorem keysA_nil {c : Array Value} {off : Nat} : KeysA c off 0 [] := by
  intro v
  constructor
  · intro h; simp [keysM] at h
  · rintro ⟨j, h, _⟩; omega
theorem keys_add {es : Es} {k v : Value} : v ∈ keysM (tkU es k) ↔ v ∈ keysM es ∨ v = k := by simp [keysM, tkU]
theorem tk_tw {c : Array Value} {off k : Nat} {es : Es} (h : KeysA c off k es) : tkL es (nmK c (off + k * 7)) = twB c off (getStr c (off + k * 7)) k 0 := by
  rw [Bool.eq_iff_iff]
  unfold tkL twB
  rw [dec_iff, h, fst_iff2]
  constructor
  · rintro ⟨j, hj, e⟩
    refine ⟨j, by omega, by omega, ?_⟩
    unfold twP
    rw [sEq_iff]
    unfold nmK at e
    exact (mkV_inj.1 e).1.symm
  · rintro ⟨j, _, hj, e⟩
    unfold twP at e
    rw [sEq_iff] at e
    exact ⟨j, by omega, by unfold nmK; rw [e]⟩
theorem seE_eq {c : Array Value} {off k : Nat} {es : Es} (h : KeysA c off k es) : seE c (off + k * 7) es = srcE c off k := by
  unfold seE srcE
  rw [tk_tw h]
  rfl
theorem seM_keys {c : Array Value} {off k : Nat} {es : Es} (h : KeysA c off k es) (hz : seE c (off + k * 7) es = 0) : nm (getStr c (off + k * 7)) = true ∧ KeysA c off (k + 1) (seM c (off + k * 7) es) := by
  unfold seE at hz
  unfold seM
  by_cases h1 : nm (getStr c (off + k * 7)) = false
  · rw [if_pos h1] at hz; omega
  rw [if_neg h1] at hz ⊢
  by_cases h2 : tkL es (nmK c (off + k * 7)) = true
  · rw [if_pos h2] at hz; omega
  rw [if_neg h2]
  refine ⟨by simpa using h1, fun v => ?_⟩
  rw [keys_add, h]
  constructor
  · rintro (⟨j, hj, e⟩ | e)
    · exact ⟨j, by omega, e⟩
    · exact ⟨k, by omega, e⟩
  · rintro ⟨j, hj, e⟩
    rcases Nat.lt_or_ge j k with h3 | h3
    · exact .inl ⟨j, h3, e⟩
    · obtain rfl : j = k := by omega
      exact .inr e
def srQ (c : Array Value) (off k : Nat) : Bool := !decide (srcE c off k = 0)
theorem saR_eq {c : Array Value} {off : Nat} : ∀ {m k : Nat} {es : Es}, KeysA c off k es →
    (fst (srQ c off) m k = none ∧ (saR c off m k es).bad = false ∧ KeysA c off (k + m) (saR c off m k es).es ∧ (∀ j, k ≤ j → j < k + m → nm (getStr c (off + j * 7)) = true)) ∨
    (∃ i, fst (srQ c off) m k = some i ∧ (saR c off m k es).bad = true ∧ (saR c off m k es).ix = i ∧ (saR c off m k es).err = srcE c off i)
  | 0, k, es, h => .inl ⟨rfl, rfl, h, fun j h1 h2 => by omega⟩
  | m + 1, k, es, h => by
    have hE := seE_eq h
    by_cases hz : seE c (off + k * 7) es = 0
    · have hq : srQ c off k = false := by unfold srQ; rw [← hE, hz]; rfl
      have hs : saR c off (m + 1) k es = saR c off m (k + 1) (seM c (off + k * 7) es) := by simp only [saR, if_pos hz]
      rw [hs, fst_miss hq]
      obtain ⟨hn, hM⟩ := seM_keys h hz
      rcases saR_eq (m := m) hM with ⟨h1, h2, h3, h4⟩ | h1
      · refine .inl ⟨h1, h2, by rw [show k + (m + 1) = k + 1 + m by omega]; exact h3, fun j h5 h6 => ?_⟩
        rcases Nat.lt_or_ge k j with h7 | h7
        · exact h4 j (by omega) (by omega)
        · obtain rfl : j = k := by omega
          exact hn
      · exact .inr h1
    · have hq : srQ c off k = true := by unfold srQ; rw [← hE, decide_eq_false hz]; rfl
      have hs : saR c off (m + 1) k es = ⟨true, k, seE c (off + k * 7) es, seM c (off + k * 7) es⟩ := by simp only [saR, if_neg hz]
      rw [hs, fst_hit hq]
      exact .inr ⟨k, rfl, rfl, rfl, hE⟩

/-- The marks of the sources and of the first soundings. -/
def KeysB (c0 : Array Value) (off0 n : Nat) (c : Array Value) (off k : Nat) (es : Es) : Prop :=
  ∀ v, v ∈ keysM es ↔ (∃ j, j < n ∧ v = nmK c0 (off0 + j * 7)) ∨ ∃ j, j < k ∧ v = soK c (off + j * 5)
theorem nm_ne {s : ByteArray} (h : nm s = true) : s ≠ ByteArray.empty := by
  rintro rfl
  unfold nm at h
  simp at h
theorem tk_sd {c0 : Array Value} {off0 n : Nat} {c : Array Value} {off k : Nat} {es : Es} (h : KeysB c0 off0 n c off k es) (hn : ∀ j, j < n → nm (getStr c0 (off0 + j * 7)) = true) :
    tkL es (soK c (off + k * 5)) = sdB c off (getInt c (off + k * 5)) (getInt c (off + k * 5 + 1)) (getInt c (off + k * 5 + 2)) k 0 := by
  rw [Bool.eq_iff_iff]
  unfold tkL sdB
  rw [dec_iff, h, fst_iff2]
  constructor
  · rintro (⟨j, hj, e⟩ | ⟨j, hj, e⟩)
    · unfold nmK soK at e
      exact absurd (mkV_inj.1 e).1.symm (nm_ne (hn j hj))
    · refine ⟨j, by omega, by omega, ?_⟩
      unfold soK at e
      obtain ⟨_, e0, e1, e2⟩ := mkV_inj.1 e
      unfold sdP
      rw [e0, e1, e2]
      simp
  · rintro ⟨j, _, hj, e⟩
    unfold sdP at e
    simp only [Bool.and_eq_true, decide_eq_true_eq] at e
    refine .inr ⟨j, by omega, ?_⟩
    unfold soK
    rw [e.1, e.2.1, e.2.2]
theorem lastS_end {c : Array Value} {off : Nat} {x0 : Int} : ∀ {m k : Nat} {l : Int}, lastS c off x0 (m + 1) k l = if getInt c (off + (k + m) * 5) = x0 then ((k + m : Nat) : Int) else lastS c off x0 m k l
  | 0, k, l => rfl
  | m + 1, k, l => by
    have ih := @lastS_end c off x0 m (k + 1) (if getInt c (off + k * 5) = x0 then (k : Int) else l)
    rw [show k + 1 + m = k + (m + 1) by omega] at ih
    exact ih
theorem fl_last {c : Array Value} {off : Nat} {x0 x1 x2 : Int} : ∀ {m : Nat}, flS c off x0 x1 x2 m = true ↔
    0 ≤ lastS c off x0 m 0 (-1) ∧ (x1 < getInt c (off + (lastS c off x0 m 0 (-1)).toNat * 5 + 1) ∨ x2 < getInt c (off + (lastS c off x0 m 0 (-1)).toNat * 5 + 2))
  | 0 => by simp [flS, lastS]
  | m + 1 => by
    rw [lastS_end]
    simp only [flS, Nat.zero_add]
    by_cases h : getInt c (off + m * 5) = x0
    · rw [if_pos h, if_pos h]
      simp only [Bool.or_eq_true, decide_eq_true_eq, Int.toNat_natCast]
      constructor
      · intro h; exact ⟨by omega, h⟩
      · intro h; exact h.2
    · rw [if_neg h, if_neg h]
      exact fl_last
theorem sqE_eq {c0 : Array Value} {off0 n : Nat} {c : Array Value} {off k : Nat} {es : Es} (h : KeysB c0 off0 n c off k es) (hn : ∀ j, j < n → nm (getStr c0 (off0 + j * 7)) = true) :
    sqE c0 off0 n c off k es = sdE c0 off0 n c off k := by
  unfold sqE sdE sqF
  rw [tk_sd h hn]
  have hF : ∀ x0 x1 x2 : Int, (flS c off x0 x1 x2 k = true) = (0 ≤ lastS c off x0 k 0 (-1) ∧ (x1 < getInt c (off + (lastS c off x0 k 0 (-1)).toNat * 5 + 1) ∨ x2 < getInt c (off + (lastS c off x0 k 0 (-1)).toNat * 5 + 2))) :=
    fun x0 x1 x2 => propext fl_last
  simp only [hF]
  unfold sqR
  by_cases h1 : inB (getInt c (off + k * 5)) 0 ((n : Int) - 1) = false
  · simp only [if_pos h1]
    rfl
  simp only [if_neg h1]
  split
  · rfl
  · rfl
theorem sqM_keys {c0 : Array Value} {off0 n : Nat} {c : Array Value} {off k : Nat} {es : Es} (h : KeysB c0 off0 n c off k es) (hz : sqE c0 off0 n c off k es = 0) :
    KeysB c0 off0 n c off (k + 1) (sqM c0 off0 n c off k es) := by
  unfold sqE at hz
  unfold sqM
  by_cases h1 : sqR c0 off0 n c (off + k * 5) = 0
  · rw [if_pos h1] at hz ⊢
    by_cases h2 : tkL es (soK c (off + k * 5)) = true
    · rw [if_pos h2] at hz; omega
    rw [if_neg h2]
    intro v
    rw [keys_add, h]
    constructor
    · rintro ((e | ⟨j, hj, e⟩) | e)
      · exact .inl e
      · exact .inr ⟨j, by omega, e⟩
      · exact .inr ⟨k, by omega, e⟩
    · rintro (e | ⟨j, hj, e⟩)
      · exact .inl (.inl e)
      · rcases Nat.lt_or_ge j k with h3 | h3
        · exact .inl (.inr ⟨j, h3, e⟩)
        · obtain rfl : j = k := by omega
          exact .inr e
  · rw [if_neg h1] at hz
    exact absurd hz h1
def sdQ (c0 : Array Value) (off0 n : Nat) (c : Array Value) (off k : Nat) : Bool := !decide (sdE c0 off0 n c off k = 0)
theorem sbR_eq {c0 : Array Value} {off0 n : Nat} {c : Array Value} {off : Nat} (hn : ∀ j, j < n → nm (getStr c0 (off0 + j * 7)) = true) : ∀ {m k : Nat} {es : Es}, KeysB c0 off0 n c off k es →
    (fst (sdQ c0 off0 n c off) m k = none ∧ (sbR c0 off0 n c off m k es).bad = false) ∨
    (∃ i, fst (sdQ c0 off0 n c off) m k = some i ∧ (sbR c0 off0 n c off m k es).bad = true ∧ (sbR c0 off0 n c off m k es).ix = i ∧ (sbR c0 off0 n c off m k es).err = sdE c0 off0 n c off i)
  | 0, k, es, h => .inl ⟨rfl, rfl⟩
  | m + 1, k, es, h => by
    have hE := sqE_eq h hn
    by_cases hz : sqE c0 off0 n c off k es = 0
    · have hq : sdQ c0 off0 n c off k = false := by unfold sdQ; rw [← hE, hz]; rfl
      have hs : sbR c0 off0 n c off (m + 1) k es = sbR c0 off0 n c off m (k + 1) (sqM c0 off0 n c off k es) := by simp only [sbR, if_pos hz]
      rw [hs, fst_miss hq]
      exact sbR_eq hn (sqM_keys h hz)
    · have hq : sdQ c0 off0 n c off k = true := by unfold sdQ; rw [← hE, decide_eq_false hz]; rfl
      have hs : sbR c0 off0 n c off (m + 1) k es = ⟨true, k, sqE c0 off0 n c off k es, sqM c0 off0 n c off k es⟩ := by simp only [sbR, if_neg hz]
      rw [hs, fst_hit hq]
      exact .inr ⟨k, rfl, rfl, rfl, hE⟩
theorem cuR_eq {c : Array Value} {off : Nat} : ∀ {m k : Nat} {fr : Int}, fr = (if k = 0 then 0 else getInt c (off + (k - 1))) →
    (fst (tmP c off) m k = none ∧ (cuR c off m k fr).bad = false) ∨
    (∃ i, fst (tmP c off) m k = some i ∧ (cuR c off m k fr).bad = true ∧ (cuR c off m k fr).ix = i ∧ (cuR c off m k fr).err = tmE c off i)
  | 0, k, fr, h => .inl ⟨rfl, rfl⟩
  | m + 1, k, fr, h => by
    have hE : cuE c off k fr = tmE c off k := by
      unfold cuE tmE
      by_cases h1 : inB (getInt c (off + k)) 1 100000000 = false
      · rw [if_pos h1, if_pos h1]
      rw [if_neg h1, if_neg h1]
      by_cases h0 : k = 0
      · subst h0
        simp only [if_true] at h
        have hb : ¬ getInt c (off + 0) ≤ fr := by
          unfold inB at h1
          simp only [Bool.and_eq_false_iff, decide_eq_false_iff_not] at h1
          omega
        rw [if_neg hb, if_neg (fun h => absurd h.1 (Nat.lt_irrefl 0))]
      · rw [if_neg h0] at h
        subst h
        have : (0 < k ∧ getInt c (off + k) ≤ getInt c (off + (k - 1))) = (getInt c (off + k) ≤ getInt c (off + (k - 1))) := propext ⟨fun h => h.2, fun h => ⟨by omega, h⟩⟩
        simp only [this]
    by_cases hz : cuE c off k fr = 0
    · have hq : tmP c off k = false := by unfold tmP; rw [← hE, hz]; rfl
      have hs : cuR c off (m + 1) k fr = cuR c off m (k + 1) (getInt c (off + k)) := by simp only [cuR, if_pos hz]
      rw [hs, fst_miss hq]
      exact cuR_eq (by rw [if_neg (by omega)]; rfl)
    · have hq : tmP c off k = true := by unfold tmP; rw [← hE, decide_eq_false hz]; rfl
      have hs : cuR c off (m + 1) k fr = ⟨true, k, cuE c off k fr⟩ := by simp only [cuR, if_neg hz]
      rw [hs, fst_hit hq]
      exact .inr ⟨k, rfl, rfl, rfl, hE⟩

/-! ### as 'first' -/
theorem sa_ck (c : Array Value) (off n : Nat) :
    (fB (srQ c off) n 0 = false ∧ saB c off n 0 [] = false ∧ KeysA c off n (saM c off n 0 []) ∧ (∀ j, j < n → nm (getStr c (off + j * 7)) = true)) ∨
    (fB (srQ c off) n 0 = true ∧ saB c off n 0 [] = true ∧ saI c off n 0 [] = fI (srQ c off) n 0 ∧ saE c off n 0 [] = srcE c off (fI (srQ c off) n 0)) := by
  unfold fB fI saB saI saE saM
  rcases saR_eq (m := n) (keysA_nil (c := c) (off := off)) with ⟨h1, h2, h3, h4⟩ | ⟨i, h1, h2, h3, h4⟩
  · rw [h1]
    rw [Nat.zero_add] at h3
    exact .inl ⟨rfl, h2, h3, fun j hj => h4 j (Nat.zero_le _) (by omega)⟩
  · rw [h1]
    exact .inr ⟨rfl, h2, h3, h4⟩
theorem keysB_of {c0 : Array Value} {off0 n : Nat} {c : Array Value} {off : Nat} {es : Es} (h : KeysA c0 off0 n es) : KeysB c0 off0 n c off 0 es := by
  intro v
  rw [h]
  constructor
  · intro h; exact .inl h
  · rintro (h | ⟨j, h, _⟩)
    · exact h
    · omega
theorem sb_ck {c0 : Array Value} {off0 n : Nat} (c : Array Value) (off n2 : Nat) {es : Es} (h : KeysA c0 off0 n es) (hn : ∀ j, j < n → nm (getStr c0 (off0 + j * 7)) = true) :
    (fB (sdQ c0 off0 n c off) n2 0 = false ∧ sbB c0 off0 n c off n2 0 es = false) ∨
    (fB (sdQ c0 off0 n c off) n2 0 = true ∧ sbB c0 off0 n c off n2 0 es = true ∧ sbI c0 off0 n c off n2 0 es = fI (sdQ c0 off0 n c off) n2 0 ∧ sbE c0 off0 n c off n2 0 es = sdE c0 off0 n c off (fI (sdQ c0 off0 n c off) n2 0)) := by
  unfold fB fI sbB sbI sbE
  rcases sbR_eq hn (m := n2) (keysB_of (c := c) (off := off) h) with ⟨h1, h2⟩ | ⟨i, h1, h2, h3, h4⟩
  · rw [h1]
    exact .inl ⟨rfl, h2⟩
  · rw [h1]
    exact .inr ⟨rfl, h2, h3, h4⟩
theorem cu_ck (c : Array Value) (off n : Nat) :
    (fB (tmP c off) n 0 = false ∧ cuB c off n 0 0 = false) ∨
    (fB (tmP c off) n 0 = true ∧ cuB c off n 0 0 = true ∧ cuI c off n 0 0 = fI (tmP c off) n 0 ∧ cuX c off n 0 0 = tmE c off (fI (tmP c off) n 0)) := by
  unfold fB fI cuB cuI cuX
  rcases cuR_eq (c := c) (off := off) (m := n) (k := 0) (fr := 0) rfl with ⟨h1, h2⟩ | ⟨i, h1, h2, h3, h4⟩
  · rw [h1]
    exact .inl ⟨rfl, h2⟩
  · rw [h1]
    exact .inr ⟨rfl, h2, h3, h4⟩
end
end Go.Proofs.Ytohpmnfplglbdaa

