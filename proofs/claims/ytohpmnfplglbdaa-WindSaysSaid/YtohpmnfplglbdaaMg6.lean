/- Part 6 of the texts below the claim. Conditions: none. -/
import Derived.Test.YtohpmnfplglbdaaMg5
import Derived.Deep.Slices
/- The loop of wind.coversBand: whether a band is in the way. Conditions: none. -/
namespace Go.Proofs.Ytohpmnfplglbdaa
open Go.Gh Go.RowKit
noncomputable section
set_option maxRecDepth 100000
theorem tree72 (J : Task → List Value) (off : Nat) (c : Array Value) (n : Nat) (i b0 b1 b2 b3 b4 b5 : Int) (M : Nat) (y : List Value) :
    evS Try.prog (((sh72.ans J).below mes72 M).or (fun _ => none)) 60 (.code none (.loop (theLoop Try.prog 72 0)) ⟨sets (junkF 43 y) [(3, pp 1), (8, .slice (some ⟨0, off, none⟩) n 6), (9, .int .i64 (Int.ofNat n)), (10, .int .i64 i)], [], ⟨[.cells c true, .cells ⟨[.int .i64 b0, .int .i64 b1, .int .i64 b2, .int .i64 b3, .int .i64 b4, .int .i64 b5]⟩ false], 1, []⟩⟩) (sumK 2 43 pick72) =
    cond (decide (i < (Int.ofNat n)))
    (cond (and (decide ((0 : Int) ≤ i)) (decide (i < (Int.ofNat n))))
     (cond (and true (rdOk c [(Leaf.int .i64), (Leaf.int .i64), (Leaf.int .i64), (Leaf.int .i64), (Leaf.int .i64), (Leaf.int .i64)] (off + ((Int.toNat i) * 6))))
      (cond (decide ((getInt c (off + ((Int.toNat i) * 6))) < b1))
       (cond (decide (b0 < (getInt c ((off + ((Int.toNat i) * 6)) + 1))))
        (cond (decide ((getInt c (((off + ((Int.toNat i) * 6)) + 1) + 1)) ≤ b2))
         (cond (decide (b3 ≤ (getInt c ((((off + ((Int.toNat i) * 6)) + 1) + 1) + 1))))
          (cond (decide ((getInt c (((((off + ((Int.toNat i) * 6)) + 1) + 1) + 1) + 1)) ≤ b4))
           (cond (not (decide (b5 ≤ (getInt c ((((((off + ((Int.toNat i) * 6)) + 1) + 1) + 1) + 1) + 1)))))
            (some (Out.ex Ex.ret (St.mk [(Value.bool false)] [] (Hp.mk [(Ob.cells c true), (Ob.cells ⟨[(Value.int .i64 b0), (Value.int .i64 b1), (Value.int .i64 b2), (Value.int .i64 b3), (Value.int .i64 b4), (Value.int .i64 b5)]⟩ false)] 43 []))))
            (cond (Nat.blt (Nat.sub (Int.toNat (Int.ofNat n)) (Int.toNat (IntKind.wrap .i64 (i + (1 : Int))))) M)
             (cond (eqCode (theLoop Try.prog 72 0) (theLoop Try.prog 72 0))
              (cond (ok27 off c n (IntKind.wrap .i64 (i + (1 : Int))) (Int.ofNat n))
               (cond (cvB c off b0 b1 b2 b3 b4 b5 (n - (Int.toNat (IntKind.wrap .i64 (i + (1 : Int))))) (Int.toNat (IntKind.wrap .i64 (i + (1 : Int)))))
                (some (Out.ex Ex.ret (St.mk [(Value.bool false)] [] (Hp.mk [(Ob.cells c true), (Ob.cells ⟨[(Value.int .i64 b0), (Value.int .i64 b1), (Value.int .i64 b2), (Value.int .i64 b3), (Value.int .i64 b4), (Value.int .i64 b5)]⟩ false)] 43 []))))
                (some (Out.ex (Ex.exit 0) (St.mk [] [] (Hp.mk [(Ob.cells c true), (Ob.cells ⟨[(Value.int .i64 b0), (Value.int .i64 b1), (Value.int .i64 b2), (Value.int .i64 b3), (Value.int .i64 b4), (Value.int .i64 b5)]⟩ false)] 43 [])))))
               (none))
              (none))
             (none)))
           (some (Out.ex Ex.ret (St.mk [(Value.bool false)] [] (Hp.mk [(Ob.cells c true), (Ob.cells ⟨[(Value.int .i64 b0), (Value.int .i64 b1), (Value.int .i64 b2), (Value.int .i64 b3), (Value.int .i64 b4), (Value.int .i64 b5)]⟩ false)] 43 [])))))
          (some (Out.ex Ex.ret (St.mk [(Value.bool false)] [] (Hp.mk [(Ob.cells c true), (Ob.cells ⟨[(Value.int .i64 b0), (Value.int .i64 b1), (Value.int .i64 b2), (Value.int .i64 b3), (Value.int .i64 b4), (Value.int .i64 b5)]⟩ false)] 43 [])))))
         (some (Out.ex Ex.ret (St.mk [(Value.bool false)] [] (Hp.mk [(Ob.cells c true), (Ob.cells ⟨[(Value.int .i64 b0), (Value.int .i64 b1), (Value.int .i64 b2), (Value.int .i64 b3), (Value.int .i64 b4), (Value.int .i64 b5)]⟩ false)] 43 [])))))
        (cond (Nat.blt (Nat.sub (Int.toNat (Int.ofNat n)) (Int.toNat (IntKind.wrap .i64 (i + (1 : Int))))) M)
         (cond (eqCode (theLoop Try.prog 72 0) (theLoop Try.prog 72 0))
          (cond (ok27 off c n (IntKind.wrap .i64 (i + (1 : Int))) (Int.ofNat n))
           (cond (cvB c off b0 b1 b2 b3 b4 b5 (n - (Int.toNat (IntKind.wrap .i64 (i + (1 : Int))))) (Int.toNat (IntKind.wrap .i64 (i + (1 : Int)))))
            (some (Out.ex Ex.ret (St.mk [(Value.bool false)] [] (Hp.mk [(Ob.cells c true), (Ob.cells ⟨[(Value.int .i64 b0), (Value.int .i64 b1), (Value.int .i64 b2), (Value.int .i64 b3), (Value.int .i64 b4), (Value.int .i64 b5)]⟩ false)] 43 []))))
            (some (Out.ex (Ex.exit 0) (St.mk [] [] (Hp.mk [(Ob.cells c true), (Ob.cells ⟨[(Value.int .i64 b0), (Value.int .i64 b1), (Value.int .i64 b2), (Value.int .i64 b3), (Value.int .i64 b4), (Value.int .i64 b5)]⟩ false)] 43 [])))))
           (none))
          (none))
         (none)))
       (cond (Nat.blt (Nat.sub (Int.toNat (Int.ofNat n)) (Int.toNat (IntKind.wrap .i64 (i + (1 : Int))))) M)
        (cond (eqCode (theLoop Try.prog 72 0) (theLoop Try.prog 72 0))
         (cond (ok27 off c n (IntKind.wrap .i64 (i + (1 : Int))) (Int.ofNat n))
          (cond (cvB c off b0 b1 b2 b3 b4 b5 (n - (Int.toNat (IntKind.wrap .i64 (i + (1 : Int))))) (Int.toNat (IntKind.wrap .i64 (i + (1 : Int)))))
           (some (Out.ex Ex.ret (St.mk [(Value.bool false)] [] (Hp.mk [(Ob.cells c true), (Ob.cells ⟨[(Value.int .i64 b0), (Value.int .i64 b1), (Value.int .i64 b2), (Value.int .i64 b3), (Value.int .i64 b4), (Value.int .i64 b5)]⟩ false)] 43 []))))
           (some (Out.ex (Ex.exit 0) (St.mk [] [] (Hp.mk [(Ob.cells c true), (Ob.cells ⟨[(Value.int .i64 b0), (Value.int .i64 b1), (Value.int .i64 b2), (Value.int .i64 b3), (Value.int .i64 b4), (Value.int .i64 b5)]⟩ false)] 43 [])))))
          (none))
         (none))
        (none)))
      (none))
     (none))
    (some (Out.ex (Ex.exit 0) (St.mk [] [] (Hp.mk [(Ob.cells c true), (Ob.cells ⟨[(Value.int .i64 b0), (Value.int .i64 b1), (Value.int .i64 b2), (Value.int .i64 b3), (Value.int .i64 b4), (Value.int .i64 b5)]⟩ false)] 43 [])))) := by kernel_rfl

theorem kept2 (c d : Array Value) (r s : Bool) (h : c.toList.all g0 = true) (hd : d.toList.all g0 = true) : ObsKept 2 [.cells c r, .cells d s] [.cells c r, .cells d s] :=
  .cons (by simp [obKept, obSc_g0 h]) (.cons (by simp [obKept, obSc_g0 hd]) .nil)

theorem known72 : ∃ J, Known Try.prog (sh72.ans J) := by
  refine Known.junk (Known.nothing _) mes72 sh72 ?_
  intro J t f hs hkn
  unfold sh72 at hs
  split at hs
  case h_2 => cases hs
  rename_i code t c b0 b1 b2 b3 b4 b5 G
  split at hs
  case h_2 => cases hs
  rename_i off n m i e3 e8 e9 e10
  simp only [Option.some.injEq] at hs
  subst hs
  refine ex_guard fun h1 => ex_guard fun h2 => ex_guard fun h3 => ?_
  obtain rfl := eqCode_eq h1
  have hl : t.length = 43 := Nat.eq_of_beq_eq_true h2
  obtain ⟨hg, hi0, hn, rfl⟩ := dec_iff.1 h3
  obtain ⟨i, rfl⟩ := Int.eq_ofNat_of_zero_le hi0
  have hk2 := kept2 c ⟨[.int .i64 b0, .int .i64 b1, .int .i64 b2, .int .i64 b3, .int .i64 b4, .int .i64 b5]⟩ true false hg.1 rfl
  have use := fun e vs hev he hvs => hkn.loopLeaf (G := G) noNG mixed (n := 60) (N0 := 43) (N := 43) (live := [(3, pp 1), (8, .slice (some ⟨0, off, none⟩) n 6), (9, .int .i64 (Int.ofNat n)), (10, .int .i64 (Int.ofNat i))])
    (H0 := [.cells c true, .cells ⟨[.int .i64 b0, .int .i64 b1, .int .i64 b2, .int .i64 b3, .int .i64 b4, .int .i64 b5]⟩ false]) (pick := pick72) (e := e) (vs := vs)
    (base := 1) (wr := []) (wr1 := []) (c := theLoop Try.prog 72 0) (t := t) hev hl (by
      intro kv hm
      simp only [List.mem_cons, List.not_mem_nil, or_false] at hm
      rcases hm with rfl | rfl | rfl | rfl
      · exact ⟨e3, rfl, rfl⟩
      · exact ⟨e8, rfl, rfl⟩
      · exact ⟨e9, rfl, rfl⟩
      · exact ⟨e10, rfl, rfl⟩) (by simp) (by simp [obSc_g0 hg.1]; rfl) hk2 he hvs
  simp only [List.length_cons, List.length_nil, Nat.zero_add] at use
  rw [tree72] at use
  simp only [Int.ofNat_eq_natCast, Int.toNat_natCast] at use ⊢
  by_cases hin : (i : Int) < n
  · have hx := hg.2 i (by omega)
    obtain ⟨m, hm⟩ : ∃ m, n - i = m + 1 := ⟨n - i - 1, by omega⟩
    have hw : IntKind.i64.wrap ((i : Int) + 1) = ((i + 1 : Nat) : Int) := by rw [wrap64_id (by omega) (by omega)]; rfl
    rw [hm]
    have hm' : n - (i + 1) = m := by omega
    have hme : (n.sub (i + 1)).blt (mes72 (.code none (.loop (theLoop Try.prog 72 0)) ⟨t, [], ⟨.cells c true :: .cells ⟨[.int .i64 b0, .int .i64 b1, .int .i64 b2, .int .i64 b3, .int .i64 b4, .int .i64 b5]⟩ false :: G, 1, []⟩⟩)) = true := by
      simp only [mes72, e9, e10, Nat.blt_eq, Int.toNat_natCast]
      show n - (i + 1) < n - i
      omega
    have hok : ok27 off c n ↑(i + 1) n = true := dec_iff.2 ⟨hg, by omega, hn, rfl⟩
    simp only [hw, Int.toNat_natCast, hm', hx, hin, decide_true, cond_true, Bool.true_and, Int.natCast_nonneg, eqCode_self, hme, hok] at use
    cases hp : cvP c off b0 b1 b2 b3 b4 b5 i with
    | true =>
      have e1 : cvB c off b0 b1 b2 b3 b4 b5 (m + 1) i = true := by simp [cvB, fst_hit hp]
      rw [e1]
      refine use .ret [.bool false] ?_ rfl rfl
      revert hp
      unfold cvP
      simp only [cond_eq_ite, Bool.not_eq_true', Bool.and_eq_true, decide_eq_true_eq, decide_eq_false_iff_not]
      grind
    | false =>
      have e1 : cvB c off b0 b1 b2 b3 b4 b5 (m + 1) i = cvB c off b0 b1 b2 b3 b4 b5 m (i + 1) := by simp [cvB, fst_miss hp]
      rw [e1]
      cases hb : cvB c off b0 b1 b2 b3 b4 b5 m (i + 1) with
      | true =>
        rw [hb] at use
        refine use .ret [.bool false] ?_ rfl rfl
        revert hp
        unfold cvP
        simp only [cond_eq_ite, Bool.not_eq_true', decide_eq_true_eq, decide_eq_false_iff_not]
        grind
      | false =>
        rw [hb] at use
        refine use (.exit 0) [] ?_ rfl rfl
        revert hp
        unfold cvP
        simp only [cond_eq_ite, Bool.not_eq_true', decide_eq_true_eq, decide_eq_false_iff_not]
        grind
  · have h0 : n - i = 0 := by omega
    have e1 : cvB c off b0 b1 b2 b3 b4 b5 (n - i) i = false := by rw [h0]; rfl
    rw [e1]
    refine use (.exit 0) [] ?_ rfl rfl
    simp only [hin, decide_false, cond_false]
end
end Go.Proofs.Ytohpmnfplglbdaa

/- The loops of wind.Covers and hangfireref01.Covers. Conditions: none. -/
namespace Go.Proofs.Ytohpmnfplglbdaa
open Go.Gh Go.RowKit
noncomputable section
set_option maxRecDepth 100000
theorem tree29 (J : Task → List Value) (c : Array Value) (off n : Nat) (d : Array Value) (e n2 : Nat) (i : Int) (M : Nat) (y : List Value) :
    evS Try.prog (((sh29.ans J).below mes29 M).or p72) 60 (.code none (.loop (theLoop Try.prog 29 0)) ⟨sets (junkF 54 y) [(0, .slice (some ⟨0, off, none⟩) n 6), (43, .slice (some ⟨1, e, none⟩) n2 6), (44, .int .i64 (Int.ofNat n2)), (45, .int .i64 i)], [], ⟨[.cells c true, .cells d true], 2, []⟩⟩) (sumK 2 54 pick29) =
    cond (decide (i < (Int.ofNat n2)))
    (cond (and (decide ((0 : Int) ≤ i)) (decide (i < (Int.ofNat n2))))
     (cond (and true (rdOk d [(Leaf.int .i64), (Leaf.int .i64), (Leaf.int .i64), (Leaf.int .i64), (Leaf.int .i64), (Leaf.int .i64)] (e + ((Int.toNat i) * 6))))
      (cond (okS (Option.some (Addr.mk 0 off Option.none)) n 6 [(Ob.cells c true), (Ob.cells d true), (Ob.cells ⟨[(Value.int .i64 (getInt d (e + ((Int.toNat i) * 6)))), (Value.int .i64 (getInt d ((e + ((Int.toNat i) * 6)) + 1))), (Value.int .i64 (getInt d (((e + ((Int.toNat i) * 6)) + 1) + 1))), (Value.int .i64 (getInt d ((((e + ((Int.toNat i) * 6)) + 1) + 1) + 1))), (Value.int .i64 (getInt d (((((e + ((Int.toNat i) * 6)) + 1) + 1) + 1) + 1))), (Value.int .i64 (getInt d ((((((e + ((Int.toNat i) * 6)) + 1) + 1) + 1) + 1) + 1)))]⟩ false)])
       (cond (Nat.ble n 20)
        (cond (not (not (cvB c off (getInt d (e + ((Int.toNat i) * 6))) (getInt d ((e + ((Int.toNat i) * 6)) + 1)) (getInt d (((e + ((Int.toNat i) * 6)) + 1) + 1)) (getInt d ((((e + ((Int.toNat i) * 6)) + 1) + 1) + 1)) (getInt d (((((e + ((Int.toNat i) * 6)) + 1) + 1) + 1) + 1)) (getInt d ((((((e + ((Int.toNat i) * 6)) + 1) + 1) + 1) + 1) + 1)) n 0)))
         (some (Out.ex Ex.ret (St.mk [(Value.bool false), (Value.int .i64 (0 : Int))] [] (Hp.mk [(Ob.cells c true), (Ob.cells d true)] 54 []))))
         (cond (Nat.blt (Nat.sub (Int.toNat (Int.ofNat n2)) (Int.toNat (IntKind.wrap .i64 (i + (1 : Int))))) M)
          (cond (eqCode (theLoop Try.prog 29 0) (theLoop Try.prog 29 0))
           (cond (ok29 c off n d e n2 (IntKind.wrap .i64 (i + (1 : Int))) (Int.ofNat n2))
            (cond (cvB2 c off n d e (n2 - (Int.toNat (IntKind.wrap .i64 (i + (1 : Int))))) (Int.toNat (IntKind.wrap .i64 (i + (1 : Int)))))
             (some (Out.ex Ex.ret (St.mk [(Value.bool false), (Value.int .i64 (0 : Int))] [] (Hp.mk [(Ob.cells c true), (Ob.cells d true)] 54 []))))
             (some (Out.ex (Ex.exit 0) (St.mk [] [] (Hp.mk [(Ob.cells c true), (Ob.cells d true)] 54 [])))))
            (none))
           (none))
          (none)))
        (none))
       (none))
      (none))
     (none))
    (some (Out.ex (Ex.exit 0) (St.mk [] [] (Hp.mk [(Ob.cells c true), (Ob.cells d true)] 54 [])))) := by kernel_rfl
theorem tree30 (J : Task → List Value) (c : Array Value) (off n : Nat) (d : Array Value) (e n2 : Nat) (i k : Int) (M : Nat) (y : List Value) :
    evS Try.prog (((sh30.ans J).below mes30 M).or (fun _ => none)) 60 (.code none (.loop (theLoop Try.prog 30 1)) ⟨sets (junkF 105 y) [(0, .slice (some ⟨0, off, none⟩) n 6), (1, .slice (some ⟨1, e, none⟩) n2 6), (8, .int .i64 i), (9, .int .i64 k)], [], ⟨[.cells c true, .cells d true], 2, []⟩⟩) (sumK 2 105 pick30) =
    cond (decide (k < (Int.ofNat n2)))
    (cond (and (decide ((0 : Int) ≤ i)) (decide (i < (Int.ofNat n))))
     (cond (and true (isInt .i64 c ((off + ((Int.toNat i) * 6)) + 0)))
      (cond (and (decide ((0 : Int) ≤ k)) (decide (k < (Int.ofNat n2))))
       (cond (and true (isInt .i64 d ((e + ((Int.toNat k) * 6)) + 0)))
        (cond (and (decide ((0 : Int) ≤ i)) (decide (i < (Int.ofNat n))))
         (cond (and true (isInt .i64 c ((off + ((Int.toNat i) * 6)) + 1)))
          (cond (and (decide ((0 : Int) ≤ k)) (decide (k < (Int.ofNat n2))))
           (cond (and true (isInt .i64 d ((e + ((Int.toNat k) * 6)) + 1)))
            (cond (decide ((max (getInt c ((off + ((Int.toNat i) * 6)) + 0)) (getInt d ((e + ((Int.toNat k) * 6)) + 0))) < (min (getInt c ((off + ((Int.toNat i) * 6)) + 1)) (getInt d ((e + ((Int.toNat k) * 6)) + 1)))))
             (cond (and (decide ((0 : Int) ≤ k)) (decide (k < (Int.ofNat n2))))
              (cond (and true (rdOk d [(Leaf.int .i64), (Leaf.int .i64)] ((e + ((Int.toNat k) * 6)) + 2)))
               (cond (and (decide ((0 : Int) ≤ i)) (decide (i < (Int.ofNat n))))
                (cond (and true (rdOk c [(Leaf.int .i64), (Leaf.int .i64)] ((off + ((Int.toNat i) * 6)) + 2)))
                 (cond (decide ((getInt c ((off + ((Int.toNat i) * 6)) + 2)) ≤ (getInt d ((e + ((Int.toNat k) * 6)) + 2))))
                  (cond (not (decide ((getInt d (((e + ((Int.toNat k) * 6)) + 2) + 1)) ≤ (getInt c (((off + ((Int.toNat i) * 6)) + 2) + 1)))))
                   (some (Out.ex Ex.ret (St.mk [(Value.bool false), (Value.int .i64 (0 : Int))] [] (Hp.mk [(Ob.cells c true), (Ob.cells d true)] 105 []))))
                   (cond (and (decide ((0 : Int) ≤ k)) (decide (k < (Int.ofNat n2))))
                    (cond (and true (rdOk d [(Leaf.int .i64), (Leaf.int .i64)] ((e + ((Int.toNat k) * 6)) + 4)))
                     (cond (and (decide ((0 : Int) ≤ i)) (decide (i < (Int.ofNat n))))
                      (cond (and true (rdOk c [(Leaf.int .i64), (Leaf.int .i64)] ((off + ((Int.toNat i) * 6)) + 4)))
                       (cond (decide ((getInt c ((off + ((Int.toNat i) * 6)) + 4)) ≤ (getInt d ((e + ((Int.toNat k) * 6)) + 4))))
                        (cond (not (decide ((getInt d (((e + ((Int.toNat k) * 6)) + 4) + 1)) ≤ (getInt c (((off + ((Int.toNat i) * 6)) + 4) + 1)))))
                         (some (Out.ex Ex.ret (St.mk [(Value.bool false), (Value.int .i64 (0 : Int))] [] (Hp.mk [(Ob.cells c true), (Ob.cells d true)] 105 []))))
                         (cond (Nat.blt (Nat.sub n2 (Int.toNat (IntKind.wrap .i64 (k + (1 : Int))))) M)
                          (cond (eqCode (theLoop Try.prog 30 1) (theLoop Try.prog 30 1))
                           (cond (ok30 c off n d e n2 i (IntKind.wrap .i64 (k + (1 : Int))))
                            (cond (cwB c (off + ((Int.toNat i) * 6)) d e (n2 - (Int.toNat (IntKind.wrap .i64 (k + (1 : Int))))) (Int.toNat (IntKind.wrap .i64 (k + (1 : Int)))))
                             (some (Out.ex Ex.ret (St.mk [(Value.bool false), (Value.int .i64 (0 : Int))] [] (Hp.mk [(Ob.cells c true), (Ob.cells d true)] 105 []))))
                             (some (Out.ex (Ex.exit 2) (St.mk [(Value.slice (Option.some (Addr.mk 0 off Option.none)) n 6), (Value.slice (Option.some (Addr.mk 1 e Option.none)) n2 6), (Value.int .i64 i)] [] (Hp.mk [(Ob.cells c true), (Ob.cells d true)] 105 [])))))
                            (none))
                           (none))
                          (none)))
                        (some (Out.ex Ex.ret (St.mk [(Value.bool false), (Value.int .i64 (0 : Int))] [] (Hp.mk [(Ob.cells c true), (Ob.cells d true)] 105 [])))))
                       (none))
                      (none))
                     (none))
                    (none)))
                  (some (Out.ex Ex.ret (St.mk [(Value.bool false), (Value.int .i64 (0 : Int))] [] (Hp.mk [(Ob.cells c true), (Ob.cells d true)] 105 [])))))
                 (none))
                (none))
               (none))
              (none))
             (cond (Nat.blt (Nat.sub n2 (Int.toNat (IntKind.wrap .i64 (k + (1 : Int))))) M)
              (cond (eqCode (theLoop Try.prog 30 1) (theLoop Try.prog 30 1))
               (cond (ok30 c off n d e n2 i (IntKind.wrap .i64 (k + (1 : Int))))
                (cond (cwB c (off + ((Int.toNat i) * 6)) d e (n2 - (Int.toNat (IntKind.wrap .i64 (k + (1 : Int))))) (Int.toNat (IntKind.wrap .i64 (k + (1 : Int)))))
                 (some (Out.ex Ex.ret (St.mk [(Value.bool false), (Value.int .i64 (0 : Int))] [] (Hp.mk [(Ob.cells c true), (Ob.cells d true)] 105 []))))
                 (some (Out.ex (Ex.exit 2) (St.mk [(Value.slice (Option.some (Addr.mk 0 off Option.none)) n 6), (Value.slice (Option.some (Addr.mk 1 e Option.none)) n2 6), (Value.int .i64 i)] [] (Hp.mk [(Ob.cells c true), (Ob.cells d true)] 105 [])))))
                (none))
               (none))
              (none)))
            (none))
           (none))
          (none))
         (none))
        (none))
       (none))
      (none))
     (none))
    (some (Out.ex (Ex.exit 2) (St.mk [(Value.slice (Option.some (Addr.mk 0 off Option.none)) n 6), (Value.slice (Option.some (Addr.mk 1 e Option.none)) n2 6), (Value.int .i64 i)] [] (Hp.mk [(Ob.cells c true), (Ob.cells d true)] 105 [])))) := by kernel_rfl
theorem tree31 (J J' : Task → List Value) (c : Array Value) (off n : Nat) (d : Array Value) (e n2 : Nat) (i : Int) (M : Nat) (y : List Value) :
    evS Try.prog (((sh31.ans J).below mes31 M).or (sh30.ans J')) 60 (.code none (.loop (theLoop Try.prog 30 0)) ⟨sets (junkF 105 y) [(0, .slice (some ⟨0, off, none⟩) n 6), (1, .slice (some ⟨1, e, none⟩) n2 6), (8, .int .i64 i)], [], ⟨[.cells c true, .cells d true], 2, []⟩⟩) (sumK 2 105 pick29) =
    cond (decide (i < (Int.ofNat n)))
    (cond (eqCode (theLoop Try.prog 30 1) (theLoop Try.prog 30 1))
     (cond (ok30 c off n d e n2 i (0 : Int))
      (cond (cwB c (off + ((Int.toNat i) * 6)) d e (n2 - 0) 0)
       (some (Out.ex Ex.ret (St.mk [(Value.bool false), (Value.int .i64 (0 : Int))] [] (Hp.mk [(Ob.cells c true), (Ob.cells d true)] 105 []))))
       (cond (Nat.blt (Nat.sub n (Int.toNat (IntKind.wrap .i64 (i + (1 : Int))))) M)
        (cond (eqCode (theLoop Try.prog 30 0) (theLoop Try.prog 30 0))
         (cond (ok31 c off n d e n2 (IntKind.wrap .i64 (i + (1 : Int))))
          (cond (cwB2 c off d e n2 (n - (Int.toNat (IntKind.wrap .i64 (i + (1 : Int))))) (Int.toNat (IntKind.wrap .i64 (i + (1 : Int)))))
           (some (Out.ex Ex.ret (St.mk [(Value.bool false), (Value.int .i64 (0 : Int))] [] (Hp.mk [(Ob.cells c true), (Ob.cells d true)] 105 []))))
           (some (Out.ex (Ex.exit 0) (St.mk [] [] (Hp.mk [(Ob.cells c true), (Ob.cells d true)] 105 [])))))
          (none))
         (none))
        (none)))
      (none))
     (none))
    (some (Out.ex (Ex.exit 0) (St.mk [] [] (Hp.mk [(Ob.cells c true), (Ob.cells d true)] 105 [])))) := by kernel_rfl

theorem sliceOk_app {a : Option Addr} {n sz : Nat} {H X : List Ob} (h : SliceOk a n sz H) : SliceOk a n sz (H ++ X) := by
  rcases h with h | ⟨b, off, rfl, h2, h3, h4⟩
  · exact .inl h
  · obtain ⟨ro, hc⟩ := cells_ok h3
    have hc' : (H ++ X)[b]? = some (.cells (cellsAt H b) ro) := get_left hc
    have e : cellsAt (H ++ X) b = cellsAt H b := by unfold cellsAt; rw [nthO_eq, hc', nthO_eq, hc]
    exact .inr ⟨b, off, rfl, h2, by unfold isCells; rw [nthO_eq, hc'], by rw [e]; exact h4⟩
theorem okS_at {c : Array Value} {off n : Nat} {H : List Ob} {b : Nat} {r : Bool} (hg : Good c off n) (hb : H[b]? = some (.cells c r)) : okS (some ⟨b, off, none⟩) n 6 H = true :=
  dec_iff.2 (.inr ⟨b, off, rfl, rfl, by unfold isCells; rw [nthO_eq, hb], by unfold cellsAt; rw [nthO_eq, hb]; exact hg⟩)

theorem known29 (hk72 : Known Try.prog p72) : ∃ J, Known Try.prog (sh29.ans J) := by
  refine Known.junk hk72 mes29 sh29 ?_
  intro J t f hs hkn
  unfold sh29 at hs
  split at hs
  case h_2 => cases hs
  rename_i code t c d G
  split at hs
  case h_2 => cases hs
  rename_i off n e n2 m i e0 e43 e44 e45
  simp only [Option.some.injEq] at hs
  subst hs
  refine ex_guard fun h1 => ex_guard fun h2 => ex_guard fun h3 => ?_
  obtain rfl := eqCode_eq h1
  have hl : t.length = 54 := Nat.eq_of_beq_eq_true h2
  obtain ⟨hg, hd, hi0, hn, hn2, rfl⟩ := dec_iff.1 h3
  obtain ⟨i, rfl⟩ := Int.eq_ofNat_of_zero_le hi0
  have hk2 := kept2 c d true true hg.1 hd.1
  have use := fun e' vs hev he hvs => hkn.loopLeaf (G := G) noNG mixed (n := 60) (N0 := 54) (N := 54) (live := [(0, .slice (some ⟨0, off, none⟩) n 6), (43, .slice (some ⟨1, e, none⟩) n2 6), (44, .int .i64 (Int.ofNat n2)), (45, .int .i64 (Int.ofNat i))])
    (H0 := [.cells c true, .cells d true]) (pick := pick29) (e := e') (vs := vs)
    (base := 2) (wr := []) (wr1 := []) (c := theLoop Try.prog 29 0) (t := t) hev hl (by
      intro kv hm
      simp only [List.mem_cons, List.not_mem_nil, or_false] at hm
      rcases hm with rfl | rfl | rfl | rfl
      · exact ⟨e0, rfl, rfl⟩
      · exact ⟨e43, rfl, rfl⟩
      · exact ⟨e44, rfl, rfl⟩
      · exact ⟨e45, rfl, rfl⟩) (by simp) (by simp [obSc_g0 hg.1, obSc_g0 hd.1]) hk2 he hvs
  simp only [List.length_cons, List.length_nil, Nat.zero_add] at use
  rw [tree29] at use
  simp only [Int.ofNat_eq_natCast, Int.toNat_natCast] at use ⊢
  by_cases hin : (i : Int) < n2
  · have hx := hd.2 i (by omega)
    obtain ⟨m, hm⟩ : ∃ m, n2 - i = m + 1 := ⟨n2 - i - 1, by omega⟩
    have hw : IntKind.i64.wrap ((i : Int) + 1) = ((i + 1 : Nat) : Int) := by rw [wrap64_id (by omega) (by omega)]; rfl
    rw [hm]
    have hm' : n2 - (i + 1) = m := by omega
    have hme : (n2.sub (i + 1)).blt (mes29 (.code none (.loop (theLoop Try.prog 29 0)) ⟨t, [], ⟨.cells c true :: .cells d true :: G, 2, []⟩⟩)) = true := by
      simp only [mes29, e44, e45, Nat.blt_eq, Int.toNat_natCast]
      show n2 - (i + 1) < n2 - i
      omega
    have hok : ok29 c off n d e n2 ↑(i + 1) n2 = true := dec_iff.2 ⟨hg, hd, by omega, hn, hn2, rfl⟩
    have hnb : Nat.ble n 20 = true := by rw [Nat.ble_eq]; exact hn
    rw [okS_at (c := c) (r := true) hg (by simp)] at use
    simp only [hw, Int.toNat_natCast, hm', hx, hin, decide_true, cond_true, Bool.true_and, Int.natCast_nonneg, eqCode_self, hme, hok, hnb, Bool.not_not] at use
    cases hp : cvP2 c off n d e i with
    | true =>
      have e1 : cvB2 c off n d e (m + 1) i = true := by simp [cvB2, fst_hit hp]
      rw [e1]
      refine use .ret [.bool false, .int .i64 0] ?_ rfl rfl
      unfold cvP2 at hp
      simp only [Nat.add_assoc, Nat.reduceAdd] at hp ⊢
      rw [hp]; rfl
    | false =>
      have e1 : cvB2 c off n d e (m + 1) i = cvB2 c off n d e m (i + 1) := by simp [cvB2, fst_miss hp]
      rw [e1]
      unfold cvP2 at hp
      simp only [Nat.add_assoc, Nat.reduceAdd] at hp use
      rw [hp] at use
      cases hb : cvB2 c off n d e m (i + 1) with
      | true =>
        rw [hb] at use
        exact use .ret [.bool false, .int .i64 0] rfl rfl rfl
      | false =>
        rw [hb] at use
        exact use (.exit 0) [] rfl rfl rfl
  · have h0 : n2 - i = 0 := by omega
    have e1 : cvB2 c off n d e (n2 - i) i = false := by rw [h0]; rfl
    rw [e1]
    refine use (.exit 0) [] ?_ rfl rfl
    simp only [hin, decide_false, cond_false]

theorem known30 : ∃ J, Known Try.prog (sh30.ans J) := by
  refine Known.junk (Known.nothing _) mes30 sh30 ?_
  intro J t f hs hkn
  unfold sh30 at hs
  split at hs
  case h_2 => cases hs
  rename_i code t c d G
  split at hs
  case h_2 => cases hs
  rename_i off n e n2 i k er e0 e1' e8 e9
  simp only [Option.some.injEq] at hs
  subst hs
  refine ex_guard fun h1 => ex_guard fun h2 => ex_guard fun h3 => ?_
  obtain rfl := eqCode_eq h1
  have hl : t.length = 105 := Nat.eq_of_beq_eq_true h2
  obtain ⟨hg, hd, hi0, hik, hk0, hn, hn2⟩ := dec_iff.1 h3
  obtain ⟨i, rfl⟩ := Int.eq_ofNat_of_zero_le hi0
  obtain ⟨k, rfl⟩ := Int.eq_ofNat_of_zero_le hk0
  have hk2 := kept2 c d true true hg.1 hd.1
  have use := fun e' vs hev he hvs => hkn.loopLeaf (G := G) noNG mixed (n := 60) (N0 := 105) (N := 105) (live := [(0, .slice (some ⟨0, off, none⟩) n 6), (1, .slice (some ⟨1, e, none⟩) n2 6), (8, .int .i64 (Int.ofNat i)), (9, .int .i64 (Int.ofNat k))])
    (H0 := [.cells c true, .cells d true]) (pick := pick30) (e := e') (vs := vs)
    (base := 2) (wr := []) (wr1 := []) (c := theLoop Try.prog 30 1) (t := t) hev hl (by
      intro kv hm
      simp only [List.mem_cons, List.not_mem_nil, or_false] at hm
      rcases hm with rfl | rfl | rfl | rfl
      · exact ⟨e0, rfl, rfl⟩
      · exact ⟨e1', rfl, rfl⟩
      · exact ⟨e8, rfl, rfl⟩
      · exact ⟨e9, rfl, rfl⟩) (by simp) (by simp [obSc_g0 hg.1, obSc_g0 hd.1]) hk2 he hvs
  simp only [List.length_cons, List.length_nil, Nat.zero_add] at use
  rw [tree30] at use
  simp only [Int.ofNat_eq_natCast, Int.toNat_natCast] at use ⊢
  by_cases hin : (k : Int) < n2
  · obtain ⟨x0, x1, x2, x3, x4, x5⟩ := rd6 (hg.2 i (by omega))
    have x23 := rd2 x2 x3
    have x45 := rd2 x4 x5
    obtain ⟨y0, y1, y2, y3, y4, y5⟩ := rd6 (hd.2 k (by omega))
    have y23 := rd2 y2 y3
    have y45 := rd2 y4 y5
    obtain ⟨m, hm⟩ : ∃ m, n2 - k = m + 1 := ⟨n2 - k - 1, by omega⟩
    have hw : IntKind.i64.wrap ((k : Int) + 1) = ((k + 1 : Nat) : Int) := by rw [wrap64_id (by omega) (by omega)]; rfl
    rw [hm]
    have hm' : n2 - (k + 1) = m := by omega
    have hme : (n2.sub (k + 1)).blt (mes30 (.code none (.loop (theLoop Try.prog 30 1)) ⟨t, [], ⟨.cells c true :: .cells d true :: G, 2, []⟩⟩)) = true := by
      simp only [mes30, e1', e9, Nat.blt_eq, Int.toNat_natCast]
      show n2 - (k + 1) < n2 - k
      omega
    have hok : ok30 c off n d e n2 i ↑(k + 1) = true := dec_iff.2 ⟨hg, hd, by omega, hik, by omega, hn, hn2⟩
    simp only [hw, Int.toNat_natCast, hm', hin, hik, decide_true, cond_true, Bool.true_and, Int.natCast_nonneg, eqCode_self, hme, hok, x0, x1, x23, x45, y0, y1, y23, y45, Nat.add_zero] at use
    cases hp : cwP c (off + i * 6) d e k with
    | true =>
      have e1 : cwB c (off + i * 6) d e (m + 1) k = true := by simp [cwB, fst_hit hp]
      rw [e1]
      refine use .ret [.bool false, .int .i64 0] ?_ rfl rfl
      revert hp
      unfold cwP
      simp only [cond_eq_ite, Bool.not_eq_true', Bool.and_eq_true, decide_eq_true_eq, decide_eq_false_iff_not]
      grind
    | false =>
      have e1 : cwB c (off + i * 6) d e (m + 1) k = cwB c (off + i * 6) d e m (k + 1) := by simp [cwB, fst_miss hp]
      rw [e1]
      cases hb : cwB c (off + i * 6) d e m (k + 1) with
      | true =>
        rw [hb] at use
        refine use .ret [.bool false, .int .i64 0] ?_ rfl rfl
        revert hp
        unfold cwP
        simp only [cond_eq_ite, Bool.not_eq_true', decide_eq_true_eq, decide_eq_false_iff_not]
        grind
      | false =>
        rw [hb] at use
        refine use (.exit 2) [.slice (some ⟨0, off, none⟩) n 6, .slice (some ⟨1, e, none⟩) n2 6, .int .i64 i] ?_ rfl rfl
        revert hp
        unfold cwP
        simp only [cond_eq_ite, Bool.not_eq_true', decide_eq_true_eq, decide_eq_false_iff_not]
        grind
  · have h0 : n2 - k = 0 := by omega
    have e1 : cwB c (off + i * 6) d e (n2 - k) k = false := by rw [h0]; rfl
    rw [e1]
    refine use (.exit 2) [.slice (some ⟨0, off, none⟩) n 6, .slice (some ⟨1, e, none⟩) n2 6, .int .i64 i] ?_ rfl rfl
    simp only [hin, decide_false, cond_false]

theorem known31 {J' : Gh.Task → List Value} (hk30 : Known Try.prog (sh30.ans J')) : ∃ J, Known Try.prog (sh31.ans J) := by
  refine Known.junk hk30 mes31 sh31 ?_
  intro J t f hs hkn
  unfold sh31 at hs
  split at hs
  case h_2 => cases hs
  rename_i code t c d G
  split at hs
  case h_2 => cases hs
  rename_i off n e n2 i er e0 e1' e8
  simp only [Option.some.injEq] at hs
  subst hs
  refine ex_guard fun h1 => ex_guard fun h2 => ex_guard fun h3 => ?_
  obtain rfl := eqCode_eq h1
  have hl : t.length = 105 := Nat.eq_of_beq_eq_true h2
  obtain ⟨hg, hd, hi0, hn, hn2⟩ := dec_iff.1 h3
  obtain ⟨i, rfl⟩ := Int.eq_ofNat_of_zero_le hi0
  have hk2 := kept2 c d true true hg.1 hd.1
  have use := fun e' vs hev he hvs => hkn.loopLeaf (G := G) noNG mixed (n := 60) (N0 := 105) (N := 105) (live := [(0, .slice (some ⟨0, off, none⟩) n 6), (1, .slice (some ⟨1, e, none⟩) n2 6), (8, .int .i64 (Int.ofNat i))])
    (H0 := [.cells c true, .cells d true]) (pick := pick29) (e := e') (vs := vs)
    (base := 2) (wr := []) (wr1 := []) (c := theLoop Try.prog 30 0) (t := t) hev hl (by
      intro kv hm
      simp only [List.mem_cons, List.not_mem_nil, or_false] at hm
      rcases hm with rfl | rfl | rfl
      · exact ⟨e0, rfl, rfl⟩
      · exact ⟨e1', rfl, rfl⟩
      · exact ⟨e8, rfl, rfl⟩) (by simp) (by simp [obSc_g0 hg.1, obSc_g0 hd.1]) hk2 he hvs
  simp only [List.length_cons, List.length_nil, Nat.zero_add] at use
  rw [tree31] at use
  simp only [Int.ofNat_eq_natCast, Int.toNat_natCast] at use ⊢
  by_cases hin : (i : Int) < n
  · obtain ⟨m, hm⟩ : ∃ m, n - i = m + 1 := ⟨n - i - 1, by omega⟩
    have hw : IntKind.i64.wrap ((i : Int) + 1) = ((i + 1 : Nat) : Int) := by rw [wrap64_id (by omega) (by omega)]; rfl
    rw [hm]
    have hm' : n - (i + 1) = m := by omega
    have hme : (n.sub (i + 1)).blt (mes31 (.code none (.loop (theLoop Try.prog 30 0)) ⟨t, [], ⟨.cells c true :: .cells d true :: G, 2, []⟩⟩)) = true := by
      simp only [mes31, e0, e8, Nat.blt_eq, Int.toNat_natCast]
      show n - (i + 1) < n - i
      omega
    have hok : ok31 c off n d e n2 ↑(i + 1) = true := dec_iff.2 ⟨hg, hd, by omega, hn, hn2⟩
    have hok2 : ok30 c off n d e n2 i 0 = true := dec_iff.2 ⟨hg, hd, by omega, hin, by omega, hn, hn2⟩
    simp only [hw, Int.toNat_natCast, hm', hin, decide_true, cond_true, eqCode_self, hme, hok, hok2, Nat.sub_zero] at use
    cases hp : cwP2 c off d e n2 i with
    | true =>
      have e1 : cwB2 c off d e n2 (m + 1) i = true := by simp [cwB2, fst_hit hp]
      rw [e1]
      refine use .ret [.bool false, .int .i64 0] ?_ rfl rfl
      unfold cwP2 at hp
      rw [hp]; rfl
    | false =>
      have e1 : cwB2 c off d e n2 (m + 1) i = cwB2 c off d e n2 m (i + 1) := by simp [cwB2, fst_miss hp]
      rw [e1]
      unfold cwP2 at hp
      rw [hp] at use
      cases hb : cwB2 c off d e n2 m (i + 1) with
      | true =>
        rw [hb] at use
        exact use .ret [.bool false, .int .i64 0] rfl rfl rfl
      | false =>
        rw [hb] at use
        exact use (.exit 0) [] rfl rfl rfl
  · have h0 : n - i = 0 := by omega
    have e1 : cwB2 c off d e n2 (n - i) i = false := by rw [h0]; rfl
    rw [e1]
    refine use (.exit 0) [] ?_ rfl rfl
    simp only [hin, decide_false, cond_false]
end
end Go.Proofs.Ytohpmnfplglbdaa

/- What CheckBands returns, the program's and the reference's. Conditions: none. -/
namespace Go.Proofs.Ytohpmnfplglbdaa
open Go.Gh Go.RowKit
noncomputable section
set_option maxRecDepth 100000

theorem all_gA {c : Array Value} (h : c.toList.all g0 = true) : c.toList.all gA = true := by
  rw [List.all_eq_true] at h ⊢
  intro x hx
  have := h x hx
  unfold gA
  split
  · simp [g0] at this
  · exact this

section
variable {P : Program} {f : FuncId} {args args1 : Array Value} {v : Value} {h : Hp}
theorem frame0 (b : Nat) (hf : Fact P (.call f args1 ⟨[.dead], 1, []⟩) (.ret v ⟨[.dead], 1, []⟩)) (hv : gr v = true) (ha : args = args1.map (ren1 fun _ => b)) (hok : args1.toList.all (okR1 1) = true) : Fact P (.call f args h) (.ret v h) := by
  refine hf.frame (fun _ => b) (Nat.le_refl 1) hv (fun i ob hi => ?_) ha hok
  cases i with
  | zero => simp only [List.getElem?_cons_zero, Option.some.injEq] at hi; exact .inl hi.symm
  | succ i => simp at hi
theorem frame1 {c : Array Value} (b : Nat) (hf : Fact P (.call f args1 ⟨[.cells c true], 1, []⟩) (.ret v ⟨[.cells c true], 1, []⟩)) (hv : gr v = true) (hg : c.toList.all g0 = true) (hc : ∃ ro, h.bl[b]? = some (.cells c ro))
    (ha : args = args1.map (ren1 fun _ => b)) (hok : args1.toList.all (okR1 1) = true) : Fact P (.call f args h) (.ret v h) := by
  refine hf.frame (fun _ => b) (Nat.le_refl 1) hv (fun i ob hi => ?_) ha hok
  cases i with
  | zero => simp only [List.getElem?_cons_zero, Option.some.injEq] at hi; exact .inr ⟨c, hi.symm, all_gA hg, hc⟩
  | succ i => simp at hi
theorem frame2 {c d : Array Value} (b b2 : Nat) (hf : Fact P (.call f args1 ⟨[.cells c true, .cells d true], 2, []⟩) (.ret v ⟨[.cells c true, .cells d true], 2, []⟩)) (hv : gr v = true) (hg : c.toList.all g0 = true) (hd : d.toList.all g0 = true)
    (hc : ∃ ro, h.bl[b]? = some (.cells c ro)) (hc2 : ∃ ro, h.bl[b2]? = some (.cells d ro)) (ha : args = args1.map (ren1 fun i => if i = 0 then b else b2)) (hok : args1.toList.all (okR1 2) = true) : Fact P (.call f args h) (.ret v h) := by
  refine hf.frame (fun i => if i = 0 then b else b2) (Nat.le_refl 2) hv (fun i ob hi => ?_) ha hok
  cases i with
  | zero => simp only [List.getElem?_cons_zero, Option.some.injEq] at hi; exact .inr ⟨c, hi.symm, all_gA hg, by simpa using hc⟩
  | succ i => cases i with
    | zero => simp only [List.getElem?_cons_succ, List.getElem?_cons_zero, Option.some.injEq] at hi; exact .inr ⟨d, hi.symm, all_gA hd, by simpa using hc2⟩
    | succ i => simp at hi
end

/-! ### What the loop finds -/
theorem cb_err {c : Array Value} {off : Nat} : ∀ {m i : Nat} {fr : Int} {a e : Int}, cb c off m i fr = some (a, e) → e = 2 ∨ e = 7
  | 0, _, _, _, _, h => by cases h
  | m + 1, i, fr, a, e, h => by
    simp only [cb] at h
    split at h
    · exact cb_err h
    · rename_i hne
      simp only [Option.some.injEq, Prod.mk.injEq] at h
      obtain ⟨_, rfl⟩ := h
      unfold ckB at hne ⊢
      split
      · exact .inl rfl
      · split
        · exact .inr rfl
        · rename_i h1 h2; rw [if_neg h1, if_neg h2] at hne; exact absurd rfl hne
theorem cb_none {c : Array Value} {off : Nat} : ∀ {m i : Nat} {fr : Int}, cb c off m i fr = none → ∀ k, i ≤ k → k < i + m → ckB c (off + k * 6) (if k = i then fr else getInt c (off + (k - 1) * 6 + 1)) = 0
  | 0, _, _, _, k, h1, h2 => absurd h2 (by omega)
  | m + 1, i, fr, h, k, h1, h2 => by
    simp only [cb] at h
    split at h
    · rename_i he
      by_cases hk : k = i
      · subst hk; rw [if_pos rfl]; exact he
      · have := cb_none h k (by omega) (by omega)
        rw [if_neg hk]
        by_cases hk2 : k = i + 1
        · subst hk2; rw [if_pos rfl] at this; exact this
        · rw [if_neg hk2] at this; exact this
    · cases h
theorem ck_ok {c : Array Value} {x : Nat} {fr : Int} (h : ckB c x fr = 0) : getInt c x = fr ∧ getInt c x < getInt c (x + 1) := by
  unfold ckB at h
  split at h
  · cases h
  · rename_i h1
    split at h
    · cases h
    · rename_i h2
      simp only [not_or, ne_eq, Decidable.not_not] at h1 h2
      exact ⟨h1, by omega⟩

/-- What bands without an error are. -/
structure Bands (c : Array Value) (off n : Nat) : Prop where
  pos : 1 ≤ n
  few : n ≤ 20
  low : getInt c off = 0
  from_ : ∀ k, k + 1 < n → getInt c (off + (k + 1) * 6) = getInt c (off + k * 6 + 1)
  up : ∀ k, k < n → getInt c (off + k * 6) < getInt c (off + k * 6 + 1)
theorem bands_of {c : Array Value} {off n : Nat} (h : cbR2 c off n = 0) : Bands c off n := by
  unfold cbR2 at h
  split at h
  · cases h
  · rename_i hn
    have h0 : cb c off n 0 0 = none := by
      cases hc : cb c off n 0 0 with
      | none => rfl
      | some p =>
        obtain ⟨a, e⟩ := p
        unfold cbE at h
        rw [hc] at h
        simp only [Option.getD_some] at h
        subst h
        rcases cb_err hc with h | h <;> cases h
    have hk := cb_none h0
    refine ⟨by omega, by omega, ?_, ?_, ?_⟩
    · have := (ck_ok (hk 0 (Nat.le_refl 0) (by omega))).1
      simpa using this
    · intro k hkn
      have := (ck_ok (hk (k + 1) (Nat.zero_le _) (by omega))).1
      rw [if_neg (by omega)] at this
      simpa using this
    · intro k hkn
      exact (ck_ok (hk k (Nat.zero_le _) (by omega))).2
theorem cbR2_val (c : Array Value) (off n : Nat) : cbR2 c off n = 0 ∨ cbR2 c off n = 2 ∨ cbR2 c off n = 3 ∨ cbR2 c off n = 7 := by
  unfold cbR2
  split
  · exact .inr (.inr (.inl rfl))
  · unfold cbE
    cases hc : cb c off n 0 0 with
    | none => exact .inl rfl
    | some p =>
      obtain ⟨a, e⟩ := p
      rcases cb_err hc with h | h
      · exact .inr (.inl h)
      · exact .inr (.inr (.inr h))
theorem cbR1_zero (c : Array Value) (off : Nat) : cbR1 c off 0 = 0 := by unfold cbR1; rw [if_pos (by omega)]
theorem cbR2_zero (c : Array Value) (off : Nat) : cbR2 c off 0 = 3 := by unfold cbR2; rw [if_pos (by omega)]

/-! ### The calls -/
theorem tree25c (J : Task → List Value) (off : Nat) (c : Array Value) (n : Nat) :
    evC Try.prog (sh25.ans J).c 60 (.call 25 ⟨[.slice (some ⟨0, off, none⟩) n 6]⟩ ⟨[.cells c true], 1, []⟩) some =
    cond (decide ((Int.ofNat n) < (1 : Int)))
    (some (Out.ret (Value.tuple ⟨[(Value.int .i64 (0 : Int)), (Value.int .i64 (3 : Int))]⟩) (Hp.mk [(Ob.cells c true)] 1 [])))
    (cond (decide ((20 : Int) < (Int.ofNat n)))
     (some (Out.ret (Value.tuple ⟨[(Value.int .i64 (0 : Int)), (Value.int .i64 (3 : Int))]⟩) (Hp.mk [(Ob.cells c true)] 1 [])))
     (cond (eqCode (theLoop Try.prog 25 0) (theLoop Try.prog 25 0))
      (cond (ok25 off c n (0 : Int) (Int.ofNat n))
       (cond (cbB c off (n - 0) 0 (0 : Int))
        (some (Out.ret (Value.tuple ⟨[(Value.int .i64 (cbI c off (n - 0) 0 (0 : Int))), (Value.int .i64 (cbE c off (n - 0) 0 (0 : Int)))]⟩) (Hp.mk [(Ob.cells c true)] 1 [])))
        (some (Out.ret (Value.tuple ⟨[(Value.int .i64 (0 : Int)), (Value.int .i64 (0 : Int))]⟩) (Hp.mk [(Ob.cells c true)] 1 []))))
       (none))
      (none))) := by kernel_rfl
theorem tree25z (a : Option Addr) (sz : Nat) (h : Hp) :
    evC Try.prog (fun _ _ => none) 60 (.call 25 ⟨[.slice a 0 sz]⟩ h) some =
    some (Out.ret (Value.tuple ⟨[(Value.int .i64 (0 : Int)), (Value.int .i64 (3 : Int))]⟩) h) := by kernel_rfl
theorem tree26c (J : Task → List Value) (off : Nat) (c : Array Value) (n : Nat) :
    evC Try.prog (sh26.ans J).c 60 (.call 26 ⟨[.slice (some ⟨0, off, none⟩) n 6]⟩ ⟨[.cells c true], 1, []⟩) some =
    cond (decide ((1 : Int) ≤ (Int.ofNat n)))
    (cond (not (decide ((Int.ofNat n) ≤ (20 : Int))))
     (some (Out.ret (Value.tuple ⟨[(Value.int .i64 (0 : Int)), (Value.int .i64 (3 : Int))]⟩) (Hp.mk [(Ob.cells c true)] 1 [])))
     (cond (eqCode (theLoop Try.prog 26 0) (theLoop Try.prog 26 0))
      (cond (ok26 off c n (0 : Int))
       (cond (cbB c off (n - 0) 0 (frOfI c off 0))
        (some (Out.ret (Value.tuple ⟨[(Value.int .i64 (cbI c off (n - 0) 0 (frOfI c off 0))), (Value.int .i64 (cbE c off (n - 0) 0 (frOfI c off 0)))]⟩) (Hp.mk [(Ob.cells c true)] 1 [])))
        (some (Out.ret (Value.tuple ⟨[(Value.int .i64 (0 : Int)), (Value.int .i64 (0 : Int))]⟩) (Hp.mk [(Ob.cells c true)] 1 []))))
       (none))
      (none)))
    (some (Out.ret (Value.tuple ⟨[(Value.int .i64 (0 : Int)), (Value.int .i64 (3 : Int))]⟩) (Hp.mk [(Ob.cells c true)] 1 []))) := by kernel_rfl
theorem tree26z (a : Option Addr) (sz : Nat) (h : Hp) :
    evC Try.prog (fun _ _ => none) 60 (.call 26 ⟨[.slice a 0 sz]⟩ h) some =
    some (Out.ret (Value.tuple ⟨[(Value.int .i64 (0 : Int)), (Value.int .i64 (3 : Int))]⟩) h) := by kernel_rfl
theorem tree72c (J : Task → List Value) (off : Nat) (c : Array Value) (n : Nat) (b0 b1 b2 b3 b4 b5 : Int) :
    evC Try.prog (sh72.ans J).c 60 (.call 72 ⟨[.slice (some ⟨0, off, none⟩) n 6, .agg ⟨[.int .i64 b0, .int .i64 b1, .int .i64 b2, .int .i64 b3, .int .i64 b4, .int .i64 b5]⟩]⟩ ⟨[.cells c true], 1, []⟩) some =
    cond (eqCode (theLoop Try.prog 72 0) (theLoop Try.prog 72 0))
    (cond (ok27 off c n (0 : Int) (Int.ofNat n))
     (cond (cvB c off b0 b1 b2 b3 b4 b5 (n - 0) 0)
      (some (Out.ret (Value.bool false) (Hp.mk [(Ob.cells c true)] 1 [])))
      (some (Out.ret (Value.bool true) (Hp.mk [(Ob.cells c true)] 1 []))))
     (none))
    (none) := by kernel_rfl
theorem tree72z (a : Option Addr) (sz : Nat) (b0 b1 b2 b3 b4 b5 : Int) :
    evC Try.prog (fun _ _ => none) 60 (.call 72 ⟨[.slice a 0 sz, .agg ⟨[.int .i64 b0, .int .i64 b1, .int .i64 b2, .int .i64 b3, .int .i64 b4, .int .i64 b5]⟩]⟩ ⟨[.dead], 1, []⟩) some =
    some (Out.ret (Value.bool true) (Hp.mk [Ob.dead] 1 [])) := by kernel_rfl

theorem known25c : Known Try.prog (p25 25) := by
  obtain ⟨J, hJ⟩ := known25
  intro t x o h ho
  unfold p25 at h
  split at h
  case h_2 => cases h
  rename_i g a n sz hp
  split at h
  case h_2 => cases h
  rename_i hg
  obtain rfl := Nat.eq_of_beq_eq_true hg
  simp only [Option.some.injEq] at h
  subst h
  simp only [AT.out] at ho
  obtain ⟨hok, ho⟩ := cond_some ho
  simp only [Option.some.injEq] at ho
  subst ho
  rcases dec_iff.1 hok with rfl | ⟨b, off, rfl, rfl, hc, hgood⟩
  · rw [cbR1_zero, cbR2_zero]
    exact (Known.nothing _).fact noNG mixed (tree25z a sz hp)
  · refine frame1 (args1 := ⟨[.slice (some ⟨0, off, none⟩) n 6]⟩) b (hJ.fact noNG mixed (n := 60) ?_) rfl hgood.1 (cells_ok hc) (by simp [ren1, ren0, renA]) rfl
    rw [tree25c]
    simp only [arrOf, offOf, eqCode_self, cond_true, Nat.sub_zero, Int.ofNat_eq_natCast]
    by_cases h1 : n < 1
    · have : (n : Int) < 1 := by omega
      simp only [this, decide_true, cond_true, cbR1, cbR2, h1, true_or, if_true]
    · have h1' : ¬ (n : Int) < 1 := by omega
      by_cases h2 : 20 < n
      · have : (20 : Int) < n := by omega
        simp only [h1', this, decide_true, decide_false, cond_true, cond_false, cbR1, cbR2, h2, or_true, if_true]
      · have h2' : ¬ (20 : Int) < n := by omega
        have hk : ok25 off (cellsAt hp.bl b) n 0 n = true := dec_iff.2 ⟨hgood, by omega, by omega, rfl⟩
        simp only [h1', h2', decide_false, cond_true, cond_false, hk, cbR1, cbR2, h1, h2, or_self, if_false]
        cases hb : cbB (cellsAt hp.bl b) off n 0 0 with
        | true => rfl
        | false =>
          have : cb (cellsAt hp.bl b) off n 0 0 = none := by unfold cbB at hb; simpa using hb
          simp [cbI, cbE, this]

theorem known26c : Known Try.prog (p25 26) := by
  obtain ⟨J, hJ⟩ := known26
  intro t x o h ho
  unfold p25 at h
  split at h
  case h_2 => cases h
  rename_i g a n sz hp
  split at h
  case h_2 => cases h
  rename_i hg
  obtain rfl := Nat.eq_of_beq_eq_true hg
  simp only [Option.some.injEq] at h
  subst h
  simp only [AT.out] at ho
  obtain ⟨hok, ho⟩ := cond_some ho
  simp only [Option.some.injEq] at ho
  subst ho
  rcases dec_iff.1 hok with rfl | ⟨b, off, rfl, rfl, hc, hgood⟩
  · rw [cbR1_zero, cbR2_zero]
    exact (Known.nothing _).fact noNG mixed (tree26z a sz hp)
  · refine frame1 (args1 := ⟨[.slice (some ⟨0, off, none⟩) n 6]⟩) b (hJ.fact noNG mixed (n := 60) ?_) rfl hgood.1 (cells_ok hc) (by simp [ren1, ren0, renA]) rfl
    rw [tree26c]
    simp only [arrOf, offOf, eqCode_self, cond_true, Nat.sub_zero, Int.ofNat_eq_natCast]
    by_cases h1 : n < 1
    · have : ¬ (1 : Int) ≤ n := by omega
      simp only [this, decide_false, cond_false, cbR1, cbR2, h1, true_or, if_true]
    · have h1' : (1 : Int) ≤ n := by omega
      by_cases h2 : 20 < n
      · have : ¬ (n : Int) ≤ 20 := by omega
        simp only [h1', this, decide_true, decide_false, Bool.not_false, cond_true, cbR1, cbR2, h2, or_true, if_true]
      · have h2' : (n : Int) ≤ 20 := by omega
        have hk : ok26 off (cellsAt hp.bl b) n 0 = true := dec_iff.2 ⟨hgood, by omega, by omega⟩
        have hf : frOfI (cellsAt hp.bl b) off 0 = 0 := rfl
        simp only [h1', h2', decide_true, Bool.not_true, cond_true, cond_false, hk, hf, cbR1, cbR2, h1, h2, or_self, if_false]
        cases hb : cbB (cellsAt hp.bl b) off n 0 0 with
        | true => rfl
        | false =>
          have : cb (cellsAt hp.bl b) off n 0 0 = none := by unfold cbB at hb; simpa using hb
          simp [cbI, cbE, this]

theorem known25v {f : Nat} (hk : Known Try.prog (p25 f)) : Known Try.prog (p25v f) := by
  intro t x o h ho
  unfold p25v at h
  split at h
  case h_2 => cases h
  rename_i g a n sz hp
  split at h
  case h_2 => cases h
  rename_i hg
  simp only [Option.some.injEq] at h
  subst h
  simp only [AT.out] at ho
  obtain ⟨hok, ho⟩ := cond_some ho
  refine hk _ (.br (okS a n sz hp.bl) (.leaf (.ret (.tuple ⟨[.int .i64 (cbR1 (arrOf a hp.bl) (offOf a) n), .int .i64 (cbR2 (arrOf a hp.bl) (offOf a) n)]⟩) hp)) .no) o ?_ ?_
  · simp only [p25]; rw [hg]
  · simp only [AT.out, hok, cond_true]
    rw [← ho]
    rcases cbR2_val (arrOf a hp.bl) (offOf a) n with h | h | h | h <;> simp [h]

theorem known72c : Known Try.prog p72 := by
  obtain ⟨J, hJ⟩ := known72
  intro t x o h ho
  unfold p72 at h
  split at h
  case h_2 => cases h
  rename_i a n sz b0 b1 b2 b3 b4 b5 hp
  simp only [Option.some.injEq] at h
  subst h
  simp only [AT.out] at ho
  obtain ⟨hok, ho⟩ := cond_some ho
  obtain ⟨hn, ho⟩ := cond_some ho
  rw [Nat.ble_eq] at hn
  simp only [Option.some.injEq] at ho
  subst ho
  rcases dec_iff.1 hok with rfl | ⟨b, off, rfl, rfl, hc, hgood⟩
  · have e : cvB (arrOf a hp.bl) (offOf a) b0 b1 b2 b3 b4 b5 0 0 = false := rfl
    rw [e]
    cases a with
    | none => exact frame0 (args1 := ⟨[.slice none 0 sz, .agg ⟨[.int .i64 b0, .int .i64 b1, .int .i64 b2, .int .i64 b3, .int .i64 b4, .int .i64 b5]⟩]⟩) 0 ((Known.nothing _).fact noNG mixed (tree72z none sz b0 b1 b2 b3 b4 b5)) rfl (by simp [ren1, ren0, renA]) rfl
    | some x => exact frame0 (args1 := ⟨[.slice (some ⟨0, x.off, x.spot⟩) 0 sz, .agg ⟨[.int .i64 b0, .int .i64 b1, .int .i64 b2, .int .i64 b3, .int .i64 b4, .int .i64 b5]⟩]⟩) x.block ((Known.nothing _).fact noNG mixed (tree72z (some ⟨0, x.off, x.spot⟩) sz b0 b1 b2 b3 b4 b5)) rfl (by simp [ren1, ren0, renA]) rfl
  · refine frame1 (args1 := ⟨[.slice (some ⟨0, off, none⟩) n 6, .agg ⟨[.int .i64 b0, .int .i64 b1, .int .i64 b2, .int .i64 b3, .int .i64 b4, .int .i64 b5]⟩]⟩) b (hJ.fact noNG mixed (n := 60) ?_) rfl hgood.1 (cells_ok hc) (by simp [ren1, ren0, renA]) rfl
    rw [tree72c]
    have hk : ok27 off (cellsAt hp.bl b) n 0 n = true := dec_iff.2 ⟨hgood, by omega, hn, rfl⟩
    simp only [arrOf, offOf, eqCode_self, cond_true, Nat.sub_zero, Int.ofNat_eq_natCast, hk]
    cases hb : cvB (cellsAt hp.bl b) off b0 b1 b2 b3 b4 b5 n 0 <;> rfl
end
end Go.Proofs.Ytohpmnfplglbdaa

/- What Over and Covers return, the program's and the reference's. Conditions: none. -/
namespace Go.Proofs.Ytohpmnfplglbdaa
open Go.Gh Go.RowKit
noncomputable section
set_option maxRecDepth 100000

theorem fst_iff {p : Nat → Bool} : ∀ {m i : Nat}, (fst p m i).isSome = true ↔ ∃ k, i ≤ k ∧ k < i + m ∧ p k = true
  | 0, i => by simp only [fst, Option.isSome_none]; constructor
               · intro h; cases h
               · rintro ⟨k, h1, h2, _⟩; omega
  | m + 1, i => by
    simp only [fst]
    split
    · rename_i h; simp only [Option.isSome_some, true_iff]; exact ⟨i, Nat.le_refl i, by omega, h⟩
    · rename_i h
      rw [fst_iff]
      constructor
      · rintro ⟨k, h1, h2, h3⟩; exact ⟨k, by omega, by omega, h3⟩
      · rintro ⟨k, h1, h2, h3⟩
        refine ⟨k, ?_, by omega, h3⟩
        rcases Nat.eq_or_lt_of_le h1 with e | e
        · subst e; exact absurd h3 h
        · exact e
theorem ow_ov {c : Array Value} {off n : Nat} {h : Int} (hb : Bands c off n) : ∀ {m i : Nat}, i + m = n → (0 < m → getInt c (off + i * 6) ≤ h) → fst (owP c off h) m i = fst (ovP c off h) m i
  | 0, _, _, _ => rfl
  | m + 1, i, hi, hle => by
    have hle := hle (by omega)
    simp only [fst]
    have e : owP c off h i = ovP c off h i := by
      unfold owP ovP
      simp [hle]
    rw [e]
    cases hp : ovP c off h i with
    | true => rfl
    | false =>
      simp only [Bool.false_eq_true, if_false]
      refine ow_ov hb (by omega) fun hm => ?_
      rw [hb.from_ i (by omega)]
      have : ¬ h < getInt c (off + i * 6 + 1) := of_decide_eq_false hp
      omega
theorem cw_cv {c : Array Value} {off n : Nat} {d : Array Value} {e n2 : Nat} (hb : Bands c off n) (hd : Bands d e n2) : cwB2 c off d e n2 n 0 = cvB2 c off n d e n2 0 := by
  rw [Bool.eq_iff_iff]
  unfold cwB2 cvB2
  rw [fst_iff, fst_iff]
  have key : ∀ i k, i < n → k < n2 → (cwP c (off + i * 6) d e k = true ↔ cvP c off (getInt d (e + k * 6)) (getInt d (e + k * 6 + 1)) (getInt d (e + k * 6 + 2)) (getInt d (e + k * 6 + 3)) (getInt d (e + k * 6 + 4)) (getInt d (e + k * 6 + 5)) i = true) := by
    intro i k hi hk
    have h1 := hb.up i hi
    have h2 := hd.up k hk
    unfold cwP cvP
    simp only [Bool.and_eq_true, decide_eq_true_eq, Bool.not_eq_true', Bool.and_eq_false_iff, decide_eq_false_iff_not]
    constructor
    · rintro ⟨h3, h4⟩; exact ⟨by omega, by omega, h4⟩
    · rintro ⟨h3, h5, h4⟩; exact ⟨by omega, h4⟩
  constructor
  · rintro ⟨i, _, hi, h⟩
    unfold cwP2 cwB at h
    rw [fst_iff] at h
    obtain ⟨k, _, hk, h⟩ := h
    refine ⟨k, Nat.zero_le _, hk, ?_⟩
    unfold cvP2 cvB
    rw [fst_iff]
    exact ⟨i, Nat.zero_le _, hi, (key i k (by omega) (by omega)).1 h⟩
  · rintro ⟨k, _, hk, h⟩
    unfold cvP2 cvB at h
    rw [fst_iff] at h
    obtain ⟨i, _, hi, h⟩ := h
    refine ⟨i, Nat.zero_le _, hi, ?_⟩
    unfold cwP2 cwB
    rw [fst_iff]
    exact ⟨k, Nat.zero_le _, hk, (key i k (by omega) (by omega)).2 h⟩
theorem ovE_zero (c : Array Value) (off : Nat) (h : Int) : ovE c off 0 h = 3 := by unfold ovE; rw [cbR2_zero]; rfl
theorem ovV_zero (c : Array Value) (off : Nat) (h : Int) (j : Nat) : ovV c off 0 h j = 0 := by unfold ovV; rw [ovE_zero]; rfl
theorem okS_zero (a : Option Addr) (sz : Nat) (H : List Ob) : okS a 0 sz H = true := dec_iff.2 (.inl rfl)
theorem tree27c (J : Task → List Value) (off : Nat) (c : Array Value) (n : Nat) (x : Int) :
    evC Try.prog ((sh27.ans J).or (p25 25)).c 60 (.call 27 ⟨[.slice (some ⟨0, off, none⟩) n 6, .int .i64 x]⟩ ⟨[.cells c true], 1, []⟩) some =
    cond (okS (Option.some (Addr.mk 0 off Option.none)) n 6 [(Ob.cells c true), (Ob.cells ⟨[(Value.int .i64 (0 : Int)), (Value.int .i64 (0 : Int))]⟩ false), (Ob.cells ⟨[(Value.int .i64 (0 : Int)), (Value.int .i64 (0 : Int))]⟩ false)])
    (cond (not (decide ((cbR2 c off n) = (0 : Int))))
     (some (Out.ret (Value.tuple ⟨[(Value.agg ⟨[(Value.int .i64 (0 : Int)), (Value.int .i64 (0 : Int))]⟩), (Value.agg ⟨[(Value.int .i64 (0 : Int)), (Value.int .i64 (0 : Int))]⟩), (Value.int .i64 (cbR2 c off n))]⟩) (Hp.mk [(Ob.cells c true)] 1 [])))
     (cond (decide ((0 : Int) ≤ x))
      (cond (not (decide (x < (100000000 : Int))))
       (some (Out.ret (Value.tuple ⟨[(Value.agg ⟨[(Value.int .i64 (0 : Int)), (Value.int .i64 (0 : Int))]⟩), (Value.agg ⟨[(Value.int .i64 (0 : Int)), (Value.int .i64 (0 : Int))]⟩), (Value.int .i64 (7 : Int))]⟩) (Hp.mk [(Ob.cells c true)] 1 [])))
       (cond (eqCode (theLoop Try.prog 27 0) (theLoop Try.prog 27 0))
        (cond (okZ ⟨[(Value.int .i64 (0 : Int)), (Value.int .i64 (0 : Int))]⟩ ⟨[(Value.int .i64 (0 : Int)), (Value.int .i64 (0 : Int))]⟩)
         (cond (ok27 off c n (0 : Int) (Int.ofNat n))
          (cond (ovB c off x (n - 0) 0)
           (some (Out.ret (Value.tuple ⟨[(Value.agg ⟨[(Value.int .i64 (getInt c ((off + ((ovI c off x (n - 0) 0) * 6)) + 2))), (Value.int .i64 (getInt c (((off + ((ovI c off x (n - 0) 0) * 6)) + 2) + 1)))]⟩), (Value.agg ⟨[(Value.int .i64 (getInt c ((off + ((ovI c off x (n - 0) 0) * 6)) + 4))), (Value.int .i64 (getInt c (((off + ((ovI c off x (n - 0) 0) * 6)) + 4) + 1)))]⟩), (Value.int .i64 (0 : Int))]⟩) (Hp.mk [(Ob.cells c true)] 1 [])))
           (some (Out.ret (Value.tuple ⟨[(Value.agg ⟨[(Value.int .i64 (0 : Int)), (Value.int .i64 (0 : Int))]⟩), (Value.agg ⟨[(Value.int .i64 (0 : Int)), (Value.int .i64 (0 : Int))]⟩), (Value.int .i64 (4 : Int))]⟩) (Hp.mk [(Ob.cells c true)] 1 []))))
          (none))
         (none))
        (none)))
      (some (Out.ret (Value.tuple ⟨[(Value.agg ⟨[(Value.int .i64 (0 : Int)), (Value.int .i64 (0 : Int))]⟩), (Value.agg ⟨[(Value.int .i64 (0 : Int)), (Value.int .i64 (0 : Int))]⟩), (Value.int .i64 (7 : Int))]⟩) (Hp.mk [(Ob.cells c true)] 1 [])))))
    (none) := by kernel_rfl
theorem tree27z (a : Option Addr) (sz : Nat) (x : Int) :
    evC Try.prog (p25 25).c 60 (.call 27 ⟨[.slice a 0 sz, .int .i64 x]⟩ ⟨[.dead], 1, []⟩) some =
    cond (okS a 0 sz [Ob.dead, (Ob.cells ⟨[(Value.int .i64 (0 : Int)), (Value.int .i64 (0 : Int))]⟩ false), (Ob.cells ⟨[(Value.int .i64 (0 : Int)), (Value.int .i64 (0 : Int))]⟩ false)])
    (some (Out.ret (Value.tuple ⟨[(Value.agg ⟨[(Value.int .i64 (0 : Int)), (Value.int .i64 (0 : Int))]⟩), (Value.agg ⟨[(Value.int .i64 (0 : Int)), (Value.int .i64 (0 : Int))]⟩), (Value.int .i64 (3 : Int))]⟩) (Hp.mk [Ob.dead] 1 [])))
    (none) := by kernel_rfl
theorem tree28c (J : Task → List Value) (off : Nat) (c : Array Value) (n : Nat) (x : Int) :
    evC Try.prog ((sh28.ans J).or (p25 26)).c 60 (.call 28 ⟨[.slice (some ⟨0, off, none⟩) n 6, .int .i64 x]⟩ ⟨[.cells c true], 1, []⟩) some =
    cond (okS (Option.some (Addr.mk 0 off Option.none)) n 6 [(Ob.cells c true), (Ob.cells ⟨[(Value.int .i64 (0 : Int)), (Value.int .i64 (0 : Int))]⟩ false), (Ob.cells ⟨[(Value.int .i64 (0 : Int)), (Value.int .i64 (0 : Int))]⟩ false)])
    (cond (decide ((cbR2 c off n) = (0 : Int)))
     (cond (decide ((0 : Int) ≤ x))
      (cond (not (decide (x ≤ (99999999 : Int))))
       (some (Out.ret (Value.tuple ⟨[(Value.agg ⟨[(Value.int .i64 (0 : Int)), (Value.int .i64 (0 : Int))]⟩), (Value.agg ⟨[(Value.int .i64 (0 : Int)), (Value.int .i64 (0 : Int))]⟩), (Value.int .i64 (7 : Int))]⟩) (Hp.mk [(Ob.cells c true)] 1 [])))
       (cond (not (decide ((cbR2 c off n) = (0 : Int))))
        (some (Out.ret (Value.tuple ⟨[(Value.agg ⟨[(Value.int .i64 (0 : Int)), (Value.int .i64 (0 : Int))]⟩), (Value.agg ⟨[(Value.int .i64 (0 : Int)), (Value.int .i64 (0 : Int))]⟩), (Value.int .i64 (cbR2 c off n))]⟩) (Hp.mk [(Ob.cells c true)] 1 [])))
        (cond (eqCode (theLoop Try.prog 28 0) (theLoop Try.prog 28 0))
         (cond (okZ ⟨[(Value.int .i64 (0 : Int)), (Value.int .i64 (0 : Int))]⟩ ⟨[(Value.int .i64 (0 : Int)), (Value.int .i64 (0 : Int))]⟩)
          (cond (ok28 off c n (0 : Int))
           (cond (owB c off x (n - 0) 0)
            (some (Out.ret (Value.tuple ⟨[(Value.agg ⟨[(Value.int .i64 (getInt c ((off + ((owI c off x (n - 0) 0) * 6)) + 2))), (Value.int .i64 (getInt c (((off + ((owI c off x (n - 0) 0) * 6)) + 2) + 1)))]⟩), (Value.agg ⟨[(Value.int .i64 (getInt c ((off + ((owI c off x (n - 0) 0) * 6)) + 4))), (Value.int .i64 (getInt c (((off + ((owI c off x (n - 0) 0) * 6)) + 4) + 1)))]⟩), (Value.int .i64 (0 : Int))]⟩) (Hp.mk [(Ob.cells c true)] 1 [])))
            (some (Out.ret (Value.tuple ⟨[(Value.agg ⟨[(Value.int .i64 (0 : Int)), (Value.int .i64 (0 : Int))]⟩), (Value.agg ⟨[(Value.int .i64 (0 : Int)), (Value.int .i64 (0 : Int))]⟩), (Value.int .i64 (4 : Int))]⟩) (Hp.mk [(Ob.cells c true)] 1 []))))
           (none))
          (none))
         (none))))
      (some (Out.ret (Value.tuple ⟨[(Value.agg ⟨[(Value.int .i64 (0 : Int)), (Value.int .i64 (0 : Int))]⟩), (Value.agg ⟨[(Value.int .i64 (0 : Int)), (Value.int .i64 (0 : Int))]⟩), (Value.int .i64 (7 : Int))]⟩) (Hp.mk [(Ob.cells c true)] 1 []))))
     (cond (not (decide ((cbR2 c off n) = (0 : Int))))
      (some (Out.ret (Value.tuple ⟨[(Value.agg ⟨[(Value.int .i64 (0 : Int)), (Value.int .i64 (0 : Int))]⟩), (Value.agg ⟨[(Value.int .i64 (0 : Int)), (Value.int .i64 (0 : Int))]⟩), (Value.int .i64 (cbR2 c off n))]⟩) (Hp.mk [(Ob.cells c true)] 1 [])))
      (cond (eqCode (theLoop Try.prog 28 0) (theLoop Try.prog 28 0))
       (cond (okZ ⟨[(Value.int .i64 (0 : Int)), (Value.int .i64 (0 : Int))]⟩ ⟨[(Value.int .i64 (0 : Int)), (Value.int .i64 (0 : Int))]⟩)
        (cond (ok28 off c n (0 : Int))
         (cond (owB c off x (n - 0) 0)
          (some (Out.ret (Value.tuple ⟨[(Value.agg ⟨[(Value.int .i64 (getInt c ((off + ((owI c off x (n - 0) 0) * 6)) + 2))), (Value.int .i64 (getInt c (((off + ((owI c off x (n - 0) 0) * 6)) + 2) + 1)))]⟩), (Value.agg ⟨[(Value.int .i64 (getInt c ((off + ((owI c off x (n - 0) 0) * 6)) + 4))), (Value.int .i64 (getInt c (((off + ((owI c off x (n - 0) 0) * 6)) + 4) + 1)))]⟩), (Value.int .i64 (0 : Int))]⟩) (Hp.mk [(Ob.cells c true)] 1 [])))
          (some (Out.ret (Value.tuple ⟨[(Value.agg ⟨[(Value.int .i64 (0 : Int)), (Value.int .i64 (0 : Int))]⟩), (Value.agg ⟨[(Value.int .i64 (0 : Int)), (Value.int .i64 (0 : Int))]⟩), (Value.int .i64 (4 : Int))]⟩) (Hp.mk [(Ob.cells c true)] 1 []))))
         (none))
        (none))
       (none))))
    (none) := by kernel_rfl
theorem tree28z (a : Option Addr) (sz : Nat) (x : Int) :
    evC Try.prog (p25 26).c 60 (.call 28 ⟨[.slice a 0 sz, .int .i64 x]⟩ ⟨[.dead], 1, []⟩) some =
    cond (okS a 0 sz [Ob.dead, (Ob.cells ⟨[(Value.int .i64 (0 : Int)), (Value.int .i64 (0 : Int))]⟩ false), (Ob.cells ⟨[(Value.int .i64 (0 : Int)), (Value.int .i64 (0 : Int))]⟩ false)])
    (some (Out.ret (Value.tuple ⟨[(Value.agg ⟨[(Value.int .i64 (0 : Int)), (Value.int .i64 (0 : Int))]⟩), (Value.agg ⟨[(Value.int .i64 (0 : Int)), (Value.int .i64 (0 : Int))]⟩), (Value.int .i64 (3 : Int))]⟩) (Hp.mk [Ob.dead] 1 [])))
    (none) := by kernel_rfl

theorem known27c : Known Try.prog (p27 27) := by
  obtain ⟨J, hJ⟩ := known27
  intro t xx o h ho
  unfold p27 at h
  split at h
  case h_2 => cases h
  rename_i g a n sz x hp
  split at h
  case h_2 => cases h
  rename_i hg
  obtain rfl := Nat.eq_of_beq_eq_true hg
  simp only [Option.some.injEq] at h
  subst h
  simp only [AT.out] at ho
  obtain ⟨hok, ho⟩ := cond_some ho
  simp only [Option.some.injEq] at ho
  subst ho
  rcases dec_iff.1 hok with rfl | ⟨b, off, rfl, rfl, hc, hgood⟩
  · simp only [ovE_zero, ovV_zero]
    have hf : ∀ a, Fact Try.prog (.call 27 ⟨[.slice a 0 sz, .int .i64 x]⟩ ⟨[.dead], 1, []⟩) (.ret (.tuple ⟨[.agg ⟨[.int .i64 0, .int .i64 0]⟩, .agg ⟨[.int .i64 0, .int .i64 0]⟩, .int .i64 3]⟩) ⟨[.dead], 1, []⟩) := fun a =>
      known25c.fact noNG mixed (n := 60) (by rw [tree27z, okS_zero]; rfl)
    cases a with
    | none => exact frame0 (args1 := ⟨[.slice none 0 sz, .int .i64 x]⟩) 0 (hf _) rfl (by simp [ren1, ren0, renA]) rfl
    | some y => exact frame0 (args1 := ⟨[.slice (some ⟨0, y.off, y.spot⟩) 0 sz, .int .i64 x]⟩) y.block (hf _) rfl (by simp [ren1, ren0, renA]) rfl
  · refine frame1 (args1 := ⟨[.slice (some ⟨0, off, none⟩) n 6, .int .i64 x]⟩) b ((hJ.or known25c).fact noNG mixed (n := 60) ?_) rfl hgood.1 (cells_ok hc) (by simp [ren1, ren0, renA]) rfl
    rw [tree27c]
    simp only [arrOf, offOf]
    generalize cellsAt hp.bl b = c at hgood ⊢
    rw [okS_at (c := c) (r := true) hgood (by simp), cond_true]
    simp only [eqCode_self, cond_true, Nat.sub_zero, Int.ofNat_eq_natCast]
    have hz : okZ Z2 Z2 = true := dec_iff.2 ⟨rfl, rfl⟩
    rw [hz, cond_true]
    by_cases h0 : cbR2 c off n = 0
    · have hb := bands_of h0
      have hk : ok27 off c n 0 n = true := dec_iff.2 ⟨hgood, by omega, hb.few, rfl⟩
      simp only [h0, decide_true, Bool.not_true, cond_false, hk, cond_true]
      by_cases h1 : 0 ≤ x
      · by_cases h2 : x < 100000000
        · have hE : ovE c off n x = if ovB c off x n 0 = true then 0 else 4 := by
            unfold ovE; rw [if_neg (by rw [h0]; simp), if_neg (by omega)]
          cases hv : ovB c off x n 0 with
          | true =>
            rw [hv, if_pos rfl] at hE
            simp only [h1, h2, decide_true, Bool.not_true, cond_true, cond_false, ovV, hE, if_true]
          | false =>
            rw [hv, if_neg (by simp)] at hE
            simp only [h1, h2, decide_true, Bool.not_true, cond_true, cond_false, ovV, hE]
            rfl
        · have hE : ovE c off n x = 7 := by unfold ovE; rw [if_neg (by rw [h0]; simp), if_pos (by omega)]
          simp only [h1, h2, decide_true, decide_false, Bool.not_false, cond_true, ovV, hE]
          rfl
      · have hE : ovE c off n x = 7 := by unfold ovE; rw [if_neg (by rw [h0]; simp), if_pos (by omega)]
        simp only [h1, decide_false, cond_false, ovV, hE]
        rfl
    · have hE : ovE c off n x = cbR2 c off n := by unfold ovE; rw [if_pos h0]
      simp only [h0, decide_false, Bool.not_false, cond_true, ovV, hE, if_false]

theorem known28c : Known Try.prog (p27 28) := by
  obtain ⟨J, hJ⟩ := known28
  intro t xx o h ho
  unfold p27 at h
  split at h
  case h_2 => cases h
  rename_i g a n sz x hp
  split at h
  case h_2 => cases h
  rename_i hg
  obtain rfl := Nat.eq_of_beq_eq_true hg
  simp only [Option.some.injEq] at h
  subst h
  simp only [AT.out] at ho
  obtain ⟨hok, ho⟩ := cond_some ho
  simp only [Option.some.injEq] at ho
  subst ho
  rcases dec_iff.1 hok with rfl | ⟨b, off, rfl, rfl, hc, hgood⟩
  · simp only [ovE_zero, ovV_zero]
    have hf : ∀ a, Fact Try.prog (.call 28 ⟨[.slice a 0 sz, .int .i64 x]⟩ ⟨[.dead], 1, []⟩) (.ret (.tuple ⟨[.agg ⟨[.int .i64 0, .int .i64 0]⟩, .agg ⟨[.int .i64 0, .int .i64 0]⟩, .int .i64 3]⟩) ⟨[.dead], 1, []⟩) := fun a =>
      known26c.fact noNG mixed (n := 60) (by rw [tree28z, okS_zero]; rfl)
    cases a with
    | none => exact frame0 (args1 := ⟨[.slice none 0 sz, .int .i64 x]⟩) 0 (hf _) rfl (by simp [ren1, ren0, renA]) rfl
    | some y => exact frame0 (args1 := ⟨[.slice (some ⟨0, y.off, y.spot⟩) 0 sz, .int .i64 x]⟩) y.block (hf _) rfl (by simp [ren1, ren0, renA]) rfl
  · refine frame1 (args1 := ⟨[.slice (some ⟨0, off, none⟩) n 6, .int .i64 x]⟩) b ((hJ.or known26c).fact noNG mixed (n := 60) ?_) rfl hgood.1 (cells_ok hc) (by simp [ren1, ren0, renA]) rfl
    rw [tree28c]
    simp only [arrOf, offOf]
    generalize cellsAt hp.bl b = c at hgood ⊢
    rw [okS_at (c := c) (r := true) hgood (by simp), cond_true]
    simp only [eqCode_self, cond_true, Nat.sub_zero]
    have hz : okZ Z2 Z2 = true := dec_iff.2 ⟨rfl, rfl⟩
    rw [hz, cond_true]
    by_cases h0 : cbR2 c off n = 0
    · have hb := bands_of h0
      have hk : ok28 off c n 0 = true := dec_iff.2 ⟨hgood, by omega, hb.few⟩
      simp only [h0, decide_true, Bool.not_true, cond_false, hk, cond_true]
      by_cases h1 : 0 ≤ x
      · have hw := ow_ov (h := x) hb (m := n) (i := 0) (by omega) (fun _ => by simp [hb.low, h1])
        have hwB : owB c off x n 0 = ovB c off x n 0 := by unfold owB ovB; rw [hw]
        have hwI : owI c off x n 0 = ovI c off x n 0 := by unfold owI ovI; rw [hw]
        rw [hwB, hwI]
        by_cases h2 : x ≤ 99999999
        · have hE : ovE c off n x = if ovB c off x n 0 = true then 0 else 4 := by
            unfold ovE; rw [if_neg (by rw [h0]; simp), if_neg (by omega)]
          cases hv : ovB c off x n 0 with
          | true =>
            rw [hv, if_pos rfl] at hE
            simp only [h1, h2, decide_true, Bool.not_true, cond_true, cond_false, ovV, hE, if_true]
          | false =>
            rw [hv, if_neg (by simp)] at hE
            simp only [h1, h2, decide_true, Bool.not_true, cond_true, cond_false, ovV, hE]
            rfl
        · have hE : ovE c off n x = 7 := by unfold ovE; rw [if_neg (by rw [h0]; simp), if_pos (by omega)]
          simp only [h1, h2, decide_true, decide_false, Bool.not_false, cond_true, ovV, hE]
          rfl
      · have hE : ovE c off n x = 7 := by unfold ovE; rw [if_neg (by rw [h0]; simp), if_pos (by omega)]
        simp only [h1, decide_false, cond_false, ovV, hE]
        rfl
    · have hE : ovE c off n x = cbR2 c off n := by unfold ovE; rw [if_pos h0]
      simp only [h0, decide_false, Bool.not_false, cond_true, cond_false, ovV, hE, if_false]
end
end Go.Proofs.Ytohpmnfplglbdaa

/- What a name is: the shapes of the answers. Conditions: none. -/
namespace Go.Proofs.Ytohpmnfplglbdaa
open Go.Gh Go.RowKit
noncomputable section

/-- A byte that may not stand at its place. -/
def nmP (s : ByteArray) (k : Nat) : Bool :=
  !(decide (97 ≤ getByte s k) && decide (getByte s k ≤ 122)) && (decide (k = 0) || !((decide (48 ≤ getByte s k) && decide (getByte s k ≤ 57)) || decide (getByte s k = 45)))
def nmB (s : ByteArray) (m i : Nat) : Bool := (fst (nmP s) m i).isSome
def nm (s : ByteArray) : Bool := decide (1 ≤ s.size) && (decide (s.size ≤ 24) && !nmB s s.size 0)

def okN (s : ByteArray) (i lo : Int) : Bool := dec (s.size ≤ 24 ∧ lo ≤ i)
def sh22 : Shape
  | .code none (.loop code) ⟨t, [], ⟨G, 0, []⟩⟩ =>
    match Nat.beq (firstReg code) 4, lget t 0, lget t 3 with
    | true, .string s, .int .i64 i => some fun j =>
      .br (eqCode code (theLoop Try.prog 22 0)) (.br (Nat.beq t.length 40) (.br (okN s i 1)
        (.br (nmB s (s.size - i.toNat) i.toNat)
          (loopEnd 40 .ret [(2, .bool false)] ⟨G, 0, []⟩ j)
          (loopEnd 40 (.exit 0) [] ⟨G, 0, []⟩ j)) .no) .no) .no
    | _, _, _ => none
  | _ => none
def mes22 : Task → Nat
  | .code _ _ s => match lget s.t 0, lget s.t 3 with
    | .string s, .int _ i => Nat.sub s.size i.toNat
    | _, _ => 0
  | _ => 0
def pick22 : Ex → List Nat
  | .ret => [2]
  | _ => []
def sh23 : Shape
  | .code none (.loop code) ⟨t, [], ⟨G, 0, []⟩⟩ =>
    match Nat.beq (firstReg code) 4, lget t 0, lget t 3 with
    | true, .string s, .int .i64 i => some fun j =>
      .br (eqCode code (theLoop Try.prog 23 0)) (.br (Nat.beq t.length 48) (.br (okN s i 0)
        (.br (nmB s (s.size - i.toNat) i.toNat)
          (loopEnd 48 .ret [(2, .bool false)] ⟨G, 0, []⟩ j)
          (loopEnd 48 (.exit 0) [] ⟨G, 0, []⟩ j)) .no) .no) .no
    | _, _, _ => none
  | _ => none
/-- Name. -/
def p22 (f : Nat) : Ans
  | .call g ⟨[.string s]⟩ h => (match Nat.beq g f with
    | true => some (.leaf (.ret (.bool (nm s)) h))
    | false => none)
  | _ => none
end
end Go.Proofs.Ytohpmnfplglbdaa

/- What a name is, by the program and by the reference. Conditions: none. -/
namespace Go.Proofs.Ytohpmnfplglbdaa
open Go.Gh Go.RowKit
noncomputable section
set_option maxRecDepth 100000
set_option linter.unusedSimpArgs false
theorem tree22 (J : Task → List Value) (s : ByteArray) (i : Int) (M : Nat) (y : List Value) :
    evS Try.prog (((sh22.ans J).below mes22 M).or (fun _ => none)) 60 (.code none (.loop (theLoop Try.prog 22 0)) ⟨sets (junkF 40 y) [(0, .string s), (3, .int .i64 i)], [], ⟨[], 0, []⟩⟩) (sumK 0 40 pick22) =
    cond (decide (i < (Int.ofNat (ByteArray.size s))))
    (cond (and (decide ((0 : Int) ≤ i)) (decide (i < (Int.ofNat (ByteArray.size s)))))
     (cond (decide ((97 : Int) ≤ (getByte s (Int.toNat i))))
      (cond (not (decide ((getByte s (Int.toNat i)) ≤ (122 : Int))))
       (cond (decide ((48 : Int) ≤ (getByte s (Int.toNat i))))
        (cond (not (decide ((getByte s (Int.toNat i)) ≤ (57 : Int))))
         (cond (not (decide ((getByte s (Int.toNat i)) = (45 : Int))))
          (some (Out.ex Ex.ret (St.mk [(Value.bool false)] [] (Hp.mk [] 40 []))))
          (cond (Nat.blt (Nat.sub (ByteArray.size s) (Int.toNat (IntKind.wrap .i64 (i + (1 : Int))))) M)
           (cond (eqCode (theLoop Try.prog 22 0) (theLoop Try.prog 22 0))
            (cond (okN s (IntKind.wrap .i64 (i + (1 : Int))) (1 : Int))
             (cond (nmB s ((ByteArray.size s) - (Int.toNat (IntKind.wrap .i64 (i + (1 : Int))))) (Int.toNat (IntKind.wrap .i64 (i + (1 : Int)))))
              (some (Out.ex Ex.ret (St.mk [(Value.bool false)] [] (Hp.mk [] 40 []))))
              (some (Out.ex (Ex.exit 0) (St.mk [] [] (Hp.mk [] 40 [])))))
             (none))
            (none))
           (none)))
         (cond (Nat.blt (Nat.sub (ByteArray.size s) (Int.toNat (IntKind.wrap .i64 (i + (1 : Int))))) M)
          (cond (eqCode (theLoop Try.prog 22 0) (theLoop Try.prog 22 0))
           (cond (okN s (IntKind.wrap .i64 (i + (1 : Int))) (1 : Int))
            (cond (nmB s ((ByteArray.size s) - (Int.toNat (IntKind.wrap .i64 (i + (1 : Int))))) (Int.toNat (IntKind.wrap .i64 (i + (1 : Int)))))
             (some (Out.ex Ex.ret (St.mk [(Value.bool false)] [] (Hp.mk [] 40 []))))
             (some (Out.ex (Ex.exit 0) (St.mk [] [] (Hp.mk [] 40 [])))))
            (none))
           (none))
          (none)))
        (cond (not (decide ((getByte s (Int.toNat i)) = (45 : Int))))
         (some (Out.ex Ex.ret (St.mk [(Value.bool false)] [] (Hp.mk [] 40 []))))
         (cond (Nat.blt (Nat.sub (ByteArray.size s) (Int.toNat (IntKind.wrap .i64 (i + (1 : Int))))) M)
          (cond (eqCode (theLoop Try.prog 22 0) (theLoop Try.prog 22 0))
           (cond (okN s (IntKind.wrap .i64 (i + (1 : Int))) (1 : Int))
            (cond (nmB s ((ByteArray.size s) - (Int.toNat (IntKind.wrap .i64 (i + (1 : Int))))) (Int.toNat (IntKind.wrap .i64 (i + (1 : Int)))))
             (some (Out.ex Ex.ret (St.mk [(Value.bool false)] [] (Hp.mk [] 40 []))))
             (some (Out.ex (Ex.exit 0) (St.mk [] [] (Hp.mk [] 40 [])))))
            (none))
           (none))
          (none))))
       (cond (Nat.blt (Nat.sub (ByteArray.size s) (Int.toNat (IntKind.wrap .i64 (i + (1 : Int))))) M)
        (cond (eqCode (theLoop Try.prog 22 0) (theLoop Try.prog 22 0))
         (cond (okN s (IntKind.wrap .i64 (i + (1 : Int))) (1 : Int))
          (cond (nmB s ((ByteArray.size s) - (Int.toNat (IntKind.wrap .i64 (i + (1 : Int))))) (Int.toNat (IntKind.wrap .i64 (i + (1 : Int)))))
           (some (Out.ex Ex.ret (St.mk [(Value.bool false)] [] (Hp.mk [] 40 []))))
           (some (Out.ex (Ex.exit 0) (St.mk [] [] (Hp.mk [] 40 [])))))
          (none))
         (none))
        (none)))
      (cond (decide ((48 : Int) ≤ (getByte s (Int.toNat i))))
       (cond (not (decide ((getByte s (Int.toNat i)) ≤ (57 : Int))))
        (cond (not (decide ((getByte s (Int.toNat i)) = (45 : Int))))
         (some (Out.ex Ex.ret (St.mk [(Value.bool false)] [] (Hp.mk [] 40 []))))
         (cond (Nat.blt (Nat.sub (ByteArray.size s) (Int.toNat (IntKind.wrap .i64 (i + (1 : Int))))) M)
          (cond (eqCode (theLoop Try.prog 22 0) (theLoop Try.prog 22 0))
           (cond (okN s (IntKind.wrap .i64 (i + (1 : Int))) (1 : Int))
            (cond (nmB s ((ByteArray.size s) - (Int.toNat (IntKind.wrap .i64 (i + (1 : Int))))) (Int.toNat (IntKind.wrap .i64 (i + (1 : Int)))))
             (some (Out.ex Ex.ret (St.mk [(Value.bool false)] [] (Hp.mk [] 40 []))))
             (some (Out.ex (Ex.exit 0) (St.mk [] [] (Hp.mk [] 40 [])))))
            (none))
           (none))
          (none)))
        (cond (Nat.blt (Nat.sub (ByteArray.size s) (Int.toNat (IntKind.wrap .i64 (i + (1 : Int))))) M)
         (cond (eqCode (theLoop Try.prog 22 0) (theLoop Try.prog 22 0))
          (cond (okN s (IntKind.wrap .i64 (i + (1 : Int))) (1 : Int))
           (cond (nmB s ((ByteArray.size s) - (Int.toNat (IntKind.wrap .i64 (i + (1 : Int))))) (Int.toNat (IntKind.wrap .i64 (i + (1 : Int)))))
            (some (Out.ex Ex.ret (St.mk [(Value.bool false)] [] (Hp.mk [] 40 []))))
            (some (Out.ex (Ex.exit 0) (St.mk [] [] (Hp.mk [] 40 [])))))
           (none))
          (none))
         (none)))
       (cond (not (decide ((getByte s (Int.toNat i)) = (45 : Int))))
        (some (Out.ex Ex.ret (St.mk [(Value.bool false)] [] (Hp.mk [] 40 []))))
        (cond (Nat.blt (Nat.sub (ByteArray.size s) (Int.toNat (IntKind.wrap .i64 (i + (1 : Int))))) M)
         (cond (eqCode (theLoop Try.prog 22 0) (theLoop Try.prog 22 0))
          (cond (okN s (IntKind.wrap .i64 (i + (1 : Int))) (1 : Int))
           (cond (nmB s ((ByteArray.size s) - (Int.toNat (IntKind.wrap .i64 (i + (1 : Int))))) (Int.toNat (IntKind.wrap .i64 (i + (1 : Int)))))
            (some (Out.ex Ex.ret (St.mk [(Value.bool false)] [] (Hp.mk [] 40 []))))
            (some (Out.ex (Ex.exit 0) (St.mk [] [] (Hp.mk [] 40 [])))))
           (none))
          (none))
         (none)))))
     (none))
    (some (Out.ex (Ex.exit 0) (St.mk [] [] (Hp.mk [] 40 [])))) := by kernel_rfl
theorem tree23 (J : Task → List Value) (s : ByteArray) (i : Int) (M : Nat) (y : List Value) :
    evS Try.prog (((sh23.ans J).below mes22 M).or (fun _ => none)) 60 (.code none (.loop (theLoop Try.prog 23 0)) ⟨sets (junkF 48 y) [(0, .string s), (3, .int .i64 i)], [], ⟨[], 0, []⟩⟩) (sumK 0 48 pick22) =
    cond (decide (i < (Int.ofNat (ByteArray.size s))))
    (cond (and (decide ((0 : Int) ≤ i)) (decide (i < (Int.ofNat (ByteArray.size s)))))
     (cond (decide ((97 : Int) ≤ (getByte s (Int.toNat i))))
      (cond (not (decide ((getByte s (Int.toNat i)) ≤ (122 : Int))))
       (cond (decide (i = (0 : Int)))
        (some (Out.ex Ex.ret (St.mk [(Value.bool false)] [] (Hp.mk [] 48 []))))
        (cond (decide ((48 : Int) ≤ (getByte s (Int.toNat i))))
         (cond (decide ((getByte s (Int.toNat i)) ≤ (57 : Int)))
          (cond (Nat.blt (Nat.sub (ByteArray.size s) (Int.toNat (IntKind.wrap .i64 (i + (1 : Int))))) M)
           (cond (eqCode (theLoop Try.prog 23 0) (theLoop Try.prog 23 0))
            (cond (okN s (IntKind.wrap .i64 (i + (1 : Int))) (0 : Int))
             (cond (nmB s ((ByteArray.size s) - (Int.toNat (IntKind.wrap .i64 (i + (1 : Int))))) (Int.toNat (IntKind.wrap .i64 (i + (1 : Int)))))
              (some (Out.ex Ex.ret (St.mk [(Value.bool false)] [] (Hp.mk [] 48 []))))
              (some (Out.ex (Ex.exit 0) (St.mk [] [] (Hp.mk [] 48 [])))))
             (none))
            (none))
           (none))
          (cond (not (decide ((getByte s (Int.toNat i)) = (45 : Int))))
           (some (Out.ex Ex.ret (St.mk [(Value.bool false)] [] (Hp.mk [] 48 []))))
           (cond (Nat.blt (Nat.sub (ByteArray.size s) (Int.toNat (IntKind.wrap .i64 (i + (1 : Int))))) M)
            (cond (eqCode (theLoop Try.prog 23 0) (theLoop Try.prog 23 0))
             (cond (okN s (IntKind.wrap .i64 (i + (1 : Int))) (0 : Int))
              (cond (nmB s ((ByteArray.size s) - (Int.toNat (IntKind.wrap .i64 (i + (1 : Int))))) (Int.toNat (IntKind.wrap .i64 (i + (1 : Int)))))
               (some (Out.ex Ex.ret (St.mk [(Value.bool false)] [] (Hp.mk [] 48 []))))
               (some (Out.ex (Ex.exit 0) (St.mk [] [] (Hp.mk [] 48 [])))))
              (none))
             (none))
            (none))))
         (cond (not (decide ((getByte s (Int.toNat i)) = (45 : Int))))
          (some (Out.ex Ex.ret (St.mk [(Value.bool false)] [] (Hp.mk [] 48 []))))
          (cond (Nat.blt (Nat.sub (ByteArray.size s) (Int.toNat (IntKind.wrap .i64 (i + (1 : Int))))) M)
           (cond (eqCode (theLoop Try.prog 23 0) (theLoop Try.prog 23 0))
            (cond (okN s (IntKind.wrap .i64 (i + (1 : Int))) (0 : Int))
             (cond (nmB s ((ByteArray.size s) - (Int.toNat (IntKind.wrap .i64 (i + (1 : Int))))) (Int.toNat (IntKind.wrap .i64 (i + (1 : Int)))))
              (some (Out.ex Ex.ret (St.mk [(Value.bool false)] [] (Hp.mk [] 48 []))))
              (some (Out.ex (Ex.exit 0) (St.mk [] [] (Hp.mk [] 48 [])))))
             (none))
            (none))
           (none)))))
       (cond (Nat.blt (Nat.sub (ByteArray.size s) (Int.toNat (IntKind.wrap .i64 (i + (1 : Int))))) M)
        (cond (eqCode (theLoop Try.prog 23 0) (theLoop Try.prog 23 0))
         (cond (okN s (IntKind.wrap .i64 (i + (1 : Int))) (0 : Int))
          (cond (nmB s ((ByteArray.size s) - (Int.toNat (IntKind.wrap .i64 (i + (1 : Int))))) (Int.toNat (IntKind.wrap .i64 (i + (1 : Int)))))
           (some (Out.ex Ex.ret (St.mk [(Value.bool false)] [] (Hp.mk [] 48 []))))
           (some (Out.ex (Ex.exit 0) (St.mk [] [] (Hp.mk [] 48 [])))))
          (none))
         (none))
        (none)))
      (cond (decide (i = (0 : Int)))
       (some (Out.ex Ex.ret (St.mk [(Value.bool false)] [] (Hp.mk [] 48 []))))
       (cond (decide ((48 : Int) ≤ (getByte s (Int.toNat i))))
        (cond (decide ((getByte s (Int.toNat i)) ≤ (57 : Int)))
         (cond (Nat.blt (Nat.sub (ByteArray.size s) (Int.toNat (IntKind.wrap .i64 (i + (1 : Int))))) M)
          (cond (eqCode (theLoop Try.prog 23 0) (theLoop Try.prog 23 0))
           (cond (okN s (IntKind.wrap .i64 (i + (1 : Int))) (0 : Int))
            (cond (nmB s ((ByteArray.size s) - (Int.toNat (IntKind.wrap .i64 (i + (1 : Int))))) (Int.toNat (IntKind.wrap .i64 (i + (1 : Int)))))
             (some (Out.ex Ex.ret (St.mk [(Value.bool false)] [] (Hp.mk [] 48 []))))
             (some (Out.ex (Ex.exit 0) (St.mk [] [] (Hp.mk [] 48 [])))))
            (none))
           (none))
          (none))
         (cond (not (decide ((getByte s (Int.toNat i)) = (45 : Int))))
          (some (Out.ex Ex.ret (St.mk [(Value.bool false)] [] (Hp.mk [] 48 []))))
          (cond (Nat.blt (Nat.sub (ByteArray.size s) (Int.toNat (IntKind.wrap .i64 (i + (1 : Int))))) M)
           (cond (eqCode (theLoop Try.prog 23 0) (theLoop Try.prog 23 0))
            (cond (okN s (IntKind.wrap .i64 (i + (1 : Int))) (0 : Int))
             (cond (nmB s ((ByteArray.size s) - (Int.toNat (IntKind.wrap .i64 (i + (1 : Int))))) (Int.toNat (IntKind.wrap .i64 (i + (1 : Int)))))
              (some (Out.ex Ex.ret (St.mk [(Value.bool false)] [] (Hp.mk [] 48 []))))
              (some (Out.ex (Ex.exit 0) (St.mk [] [] (Hp.mk [] 48 [])))))
             (none))
            (none))
           (none))))
        (cond (not (decide ((getByte s (Int.toNat i)) = (45 : Int))))
         (some (Out.ex Ex.ret (St.mk [(Value.bool false)] [] (Hp.mk [] 48 []))))
         (cond (Nat.blt (Nat.sub (ByteArray.size s) (Int.toNat (IntKind.wrap .i64 (i + (1 : Int))))) M)
          (cond (eqCode (theLoop Try.prog 23 0) (theLoop Try.prog 23 0))
           (cond (okN s (IntKind.wrap .i64 (i + (1 : Int))) (0 : Int))
            (cond (nmB s ((ByteArray.size s) - (Int.toNat (IntKind.wrap .i64 (i + (1 : Int))))) (Int.toNat (IntKind.wrap .i64 (i + (1 : Int)))))
             (some (Out.ex Ex.ret (St.mk [(Value.bool false)] [] (Hp.mk [] 48 []))))
             (some (Out.ex (Ex.exit 0) (St.mk [] [] (Hp.mk [] 48 [])))))
            (none))
           (none))
          (none))))))
     (none))
    (some (Out.ex (Ex.exit 0) (St.mk [] [] (Hp.mk [] 48 [])))) := by kernel_rfl
theorem tree22c (J : Task → List Value) (s : ByteArray) :
    evC Try.prog (sh22.ans J).c 60 (.call 22 ⟨[.string s]⟩ ⟨[], 0, []⟩) some =
    cond (decide ((Int.ofNat (ByteArray.size s)) < (1 : Int)))
    (some (Out.ret (Value.bool false) (Hp.mk [] 0 [])))
    (cond (decide ((24 : Int) < (Int.ofNat (ByteArray.size s))))
     (some (Out.ret (Value.bool false) (Hp.mk [] 0 [])))
     (cond (and true (decide ((0 : Int) < (Int.ofNat (ByteArray.size s)))))
      (cond (decide ((97 : Int) ≤ (getByte s 0)))
       (cond (not (decide ((getByte s 0) ≤ (122 : Int))))
        (some (Out.ret (Value.bool false) (Hp.mk [] 0 [])))
        (cond (eqCode (theLoop Try.prog 22 0) (theLoop Try.prog 22 0))
         (cond (okN s (1 : Int) (1 : Int))
          (cond (nmB s ((ByteArray.size s) - 1) 1)
           (some (Out.ret (Value.bool false) (Hp.mk [] 0 [])))
           (some (Out.ret (Value.bool true) (Hp.mk [] 0 []))))
          (none))
         (none)))
       (some (Out.ret (Value.bool false) (Hp.mk [] 0 []))))
      (none))) := by kernel_rfl
theorem tree23c (J : Task → List Value) (s : ByteArray) :
    evC Try.prog (sh23.ans J).c 60 (.call 23 ⟨[.string s]⟩ ⟨[], 0, []⟩) some =
    cond (decide ((Int.ofNat (ByteArray.size s)) < (1 : Int)))
    (some (Out.ret (Value.bool false) (Hp.mk [] 0 [])))
    (cond (decide ((24 : Int) < (Int.ofNat (ByteArray.size s))))
     (some (Out.ret (Value.bool false) (Hp.mk [] 0 [])))
     (cond (eqCode (theLoop Try.prog 23 0) (theLoop Try.prog 23 0))
      (cond (okN s (0 : Int) (0 : Int))
       (cond (nmB s ((ByteArray.size s) - 0) 0)
        (some (Out.ret (Value.bool false) (Hp.mk [] 0 [])))
        (some (Out.ret (Value.bool true) (Hp.mk [] 0 []))))
       (none))
      (none))) := by kernel_rfl

theorem known22 : ∃ J, Known Try.prog (sh22.ans J) := by
  refine Known.junk (Known.nothing _) mes22 sh22 ?_
  intro J t f hs hkn
  unfold sh22 at hs
  split at hs
  case h_2 => cases hs
  rename_i code t G
  split at hs
  case h_2 => cases hs
  rename_i s i er e0 e3
  simp only [Option.some.injEq] at hs
  subst hs
  refine ex_guard fun h1 => ex_guard fun h2 => ex_guard fun h3 => ?_
  obtain rfl := eqCode_eq h1
  have hl : t.length = 40 := Nat.eq_of_beq_eq_true h2
  obtain ⟨hn, hlo⟩ := dec_iff.1 h3
  obtain ⟨i, rfl⟩ := Int.eq_ofNat_of_zero_le (show 0 ≤ i by omega)
  have use := fun e' vs hev he hvs => hkn.loopLeaf (G := G) noNG mixed (n := 60) (N0 := 40) (N := 40) (live := [(0, .string s), (3, .int .i64 (Int.ofNat i))])
    (H0 := []) (H1 := []) (pick := pick22) (e := e') (vs := vs)
    (base := 0) (wr := []) (wr1 := []) (c := theLoop Try.prog 22 0) (t := t) hev hl (by
      intro kv hm
      simp only [List.mem_cons, List.not_mem_nil, or_false] at hm
      rcases hm with rfl | rfl
      · exact ⟨e0, rfl, rfl⟩
      · exact ⟨e3, rfl, rfl⟩) (Nat.le_refl 0) rfl .nil he hvs
  simp only [List.length_nil, List.nil_append] at use
  rw [tree22] at use
  simp only [Int.ofNat_eq_natCast, Int.toNat_natCast] at use ⊢
  by_cases hin : (i : Int) < s.size
  · obtain ⟨m, hm⟩ : ∃ m, s.size - i = m + 1 := ⟨s.size - i - 1, by omega⟩
    have hw : IntKind.i64.wrap ((i : Int) + 1) = ((i + 1 : Nat) : Int) := by rw [wrap64_id (by omega) (by omega)]; rfl
    rw [hm]
    have hm' : s.size - (i + 1) = m := by omega
    have hme : (s.size.sub (i + 1)).blt (mes22 (.code none (.loop (theLoop Try.prog 22 0)) ⟨t, [], ⟨G, 0, []⟩⟩)) = true := by
      simp only [mes22, e0, e3, Nat.blt_eq, Int.toNat_natCast]
      show s.size - (i + 1) < s.size - i
      omega
    have hok : okN s ↑(i + 1) 1 = true := dec_iff.2 ⟨hn, by omega⟩
    simp only [hw, Int.toNat_natCast, hm', hin, decide_true, cond_true, Bool.true_and, Bool.and_self, Int.natCast_nonneg, eqCode_self, hme, hok] at use
    cases hp : nmP s i with
    | true =>
      have e1 : nmB s (m + 1) i = true := by simp [nmB, fst_hit hp]
      rw [e1]
      refine use .ret [.bool false] ?_ rfl rfl
      revert hp
      unfold nmP
      simp only [cond_eq_ite, Bool.not_eq_true', Bool.and_eq_true, decide_eq_true_eq, decide_eq_false_iff_not]
      grind
    | false =>
      have e1 : nmB s (m + 1) i = nmB s m (i + 1) := by simp [nmB, fst_miss hp]
      rw [e1]
      cases hb : nmB s m (i + 1) with
      | true =>
        rw [hb] at use
        refine use .ret [.bool false] ?_ rfl rfl
        revert hp
        unfold nmP
        simp only [cond_eq_ite, Bool.not_eq_true', decide_eq_true_eq, decide_eq_false_iff_not]
        grind
      | false =>
        rw [hb] at use
        refine use (.exit 0) [] ?_ rfl rfl
        revert hp
        unfold nmP
        simp only [cond_eq_ite, Bool.not_eq_true', decide_eq_true_eq, decide_eq_false_iff_not]
        grind
  · have h0 : s.size - i = 0 := by omega
    have e1 : nmB s (s.size - i) i = false := by rw [h0]; rfl
    rw [e1]
    refine use (.exit 0) [] ?_ rfl rfl
    simp only [hin, decide_false, cond_false]

theorem known23 : ∃ J, Known Try.prog (sh23.ans J) := by
  refine Known.junk (Known.nothing _) mes22 sh23 ?_
  intro J t f hs hkn
  unfold sh23 at hs
  split at hs
  case h_2 => cases hs
  rename_i code t G
  split at hs
  case h_2 => cases hs
  rename_i s i er e0 e3
  simp only [Option.some.injEq] at hs
  subst hs
  refine ex_guard fun h1 => ex_guard fun h2 => ex_guard fun h3 => ?_
  obtain rfl := eqCode_eq h1
  have hl : t.length = 48 := Nat.eq_of_beq_eq_true h2
  obtain ⟨hn, hlo⟩ := dec_iff.1 h3
  obtain ⟨i, rfl⟩ := Int.eq_ofNat_of_zero_le (show 0 ≤ i by omega)
  have use := fun e' vs hev he hvs => hkn.loopLeaf (G := G) noNG mixed (n := 60) (N0 := 48) (N := 48) (live := [(0, .string s), (3, .int .i64 (Int.ofNat i))])
    (H0 := []) (H1 := []) (pick := pick22) (e := e') (vs := vs)
    (base := 0) (wr := []) (wr1 := []) (c := theLoop Try.prog 23 0) (t := t) hev hl (by
      intro kv hm
      simp only [List.mem_cons, List.not_mem_nil, or_false] at hm
      rcases hm with rfl | rfl
      · exact ⟨e0, rfl, rfl⟩
      · exact ⟨e3, rfl, rfl⟩) (Nat.le_refl 0) rfl .nil he hvs
  simp only [List.length_nil, List.nil_append] at use
  rw [tree23] at use
  simp only [Int.ofNat_eq_natCast, Int.toNat_natCast] at use ⊢
  by_cases hin : (i : Int) < s.size
  · obtain ⟨m, hm⟩ : ∃ m, s.size - i = m + 1 := ⟨s.size - i - 1, by omega⟩
    have hw : IntKind.i64.wrap ((i : Int) + 1) = ((i + 1 : Nat) : Int) := by rw [wrap64_id (by omega) (by omega)]; rfl
    rw [hm]
    have hm' : s.size - (i + 1) = m := by omega
    have hme : (s.size.sub (i + 1)).blt (mes22 (.code none (.loop (theLoop Try.prog 23 0)) ⟨t, [], ⟨G, 0, []⟩⟩)) = true := by
      simp only [mes22, e0, e3, Nat.blt_eq, Int.toNat_natCast]
      show s.size - (i + 1) < s.size - i
      omega
    have hok : okN s ↑(i + 1) 0 = true := dec_iff.2 ⟨hn, by omega⟩
    simp only [hw, Int.toNat_natCast, hm', hin, decide_true, cond_true, Bool.true_and, Bool.and_self, Int.natCast_nonneg, eqCode_self, hme, hok] at use
    cases hp : nmP s i with
    | true =>
      have e1 : nmB s (m + 1) i = true := by simp [nmB, fst_hit hp]
      rw [e1]
      refine use .ret [.bool false] ?_ rfl rfl
      revert hp
      unfold nmP
      simp only [cond_eq_ite, Bool.not_eq_true', Bool.and_eq_true, decide_eq_true_eq, decide_eq_false_iff_not]
      grind
    | false =>
      have e1 : nmB s (m + 1) i = nmB s m (i + 1) := by simp [nmB, fst_miss hp]
      rw [e1]
      cases hb : nmB s m (i + 1) with
      | true =>
        rw [hb] at use
        refine use .ret [.bool false] ?_ rfl rfl
        revert hp
        unfold nmP
        simp only [cond_eq_ite, Bool.not_eq_true', decide_eq_true_eq, decide_eq_false_iff_not]
        grind
      | false =>
        rw [hb] at use
        refine use (.exit 0) [] ?_ rfl rfl
        revert hp
        unfold nmP
        simp only [cond_eq_ite, Bool.not_eq_true', decide_eq_true_eq, decide_eq_false_iff_not]
        grind
  · have h0 : s.size - i = 0 := by omega
    have e1 : nmB s (s.size - i) i = false := by rw [h0]; rfl
    rw [e1]
    refine use (.exit 0) [] ?_ rfl rfl
    simp only [hin, decide_false, cond_false]

theorem known22c : Known Try.prog (p22 22) := by
  obtain ⟨J, hJ⟩ := known22
  intro t xx o h ho
  unfold p22 at h
  split at h
  case h_2 => cases h
  rename_i g s hp
  split at h
  case h_2 => cases h
  rename_i hg
  obtain rfl := Nat.eq_of_beq_eq_true hg
  simp only [Option.some.injEq] at h
  subst h
  simp only [AT.out, Option.some.injEq] at ho
  subst ho
  refine Fact.frame (args1 := ⟨[.string s]⟩) (H1 := []) (base1 := 0) (fun i => i) (hJ.fact noNG mixed (n := 60) ?_) (Nat.le_refl 0) rfl (fun i ob hi => by simp at hi) (by simp [ren1, ren0]) rfl
  rw [tree22c]
  unfold nm
  by_cases h1 : 1 ≤ s.size
  · by_cases h2 : s.size ≤ 24
    · have a1 : ¬ ((s.size : Int) < 1) := by omega
      have a2 : ¬ ((24 : Int) < s.size) := by omega
      have a3 : (0 : Int) < s.size := by omega
      have k0 : okN s 0 0 = true := dec_iff.2 ⟨h2, by omega⟩
      have k1 : okN s 1 1 = true := dec_iff.2 ⟨h2, by omega⟩
      obtain ⟨m, hm⟩ : ∃ m, s.size = m + 1 := ⟨s.size - 1, by omega⟩
      have hb : nmB s s.size 0 = (nmP s 0 || nmB s (s.size - 1) 1) := by
        rw [hm]
        cases hp : nmP s 0 with
        | true => simp [nmB, fst_hit hp]
        | false => simp [nmB, fst_miss hp]
      simp only [Int.ofNat_eq_natCast, a1, a2, a3, h1, h2, k0, k1, decide_true, decide_false, Bool.true_and, cond_true, cond_false, eqCode_self, Nat.sub_zero]
      first
      | (cases nmB s s.size 0 <;> rfl)
      | (rw [hb]
         unfold nmP
         by_cases c1 : 97 ≤ getByte s 0
         · by_cases c2 : getByte s 0 ≤ 122
           · simp only [c1, c2, decide_true, Bool.not_true, Bool.and_self, Bool.false_and, Bool.false_or, cond_true, cond_false]
             cases nmB s (s.size - 1) 1 <;> rfl
           · simp [c1, c2]
         · simp [c1])
    · have a1 : ¬ ((s.size : Int) < 1) := by omega
      have a2 : (24 : Int) < s.size := by omega
      simp [a1, a2, h1, h2]
  · have a1 : (s.size : Int) < 1 := by omega
    simp [a1, h1]

theorem known23c : Known Try.prog (p22 23) := by
  obtain ⟨J, hJ⟩ := known23
  intro t xx o h ho
  unfold p22 at h
  split at h
  case h_2 => cases h
  rename_i g s hp
  split at h
  case h_2 => cases h
  rename_i hg
  obtain rfl := Nat.eq_of_beq_eq_true hg
  simp only [Option.some.injEq] at h
  subst h
  simp only [AT.out, Option.some.injEq] at ho
  subst ho
  refine Fact.frame (args1 := ⟨[.string s]⟩) (H1 := []) (base1 := 0) (fun i => i) (hJ.fact noNG mixed (n := 60) ?_) (Nat.le_refl 0) rfl (fun i ob hi => by simp at hi) (by simp [ren1, ren0]) rfl
  rw [tree23c]
  unfold nm
  by_cases h1 : 1 ≤ s.size
  · by_cases h2 : s.size ≤ 24
    · have a1 : ¬ ((s.size : Int) < 1) := by omega
      have a2 : ¬ ((24 : Int) < s.size) := by omega
      have a3 : (0 : Int) < s.size := by omega
      have k0 : okN s 0 0 = true := dec_iff.2 ⟨h2, by omega⟩
      have k1 : okN s 1 1 = true := dec_iff.2 ⟨h2, by omega⟩
      obtain ⟨m, hm⟩ : ∃ m, s.size = m + 1 := ⟨s.size - 1, by omega⟩
      have hb : nmB s s.size 0 = (nmP s 0 || nmB s (s.size - 1) 1) := by
        rw [hm]
        cases hp : nmP s 0 with
        | true => simp [nmB, fst_hit hp]
        | false => simp [nmB, fst_miss hp]
      simp only [Int.ofNat_eq_natCast, a1, a2, a3, h1, h2, k0, k1, decide_true, decide_false, Bool.true_and, cond_true, cond_false, eqCode_self, Nat.sub_zero]
      first
      | (cases nmB s s.size 0 <;> rfl)
      | (rw [hb]
         unfold nmP
         by_cases c1 : 97 ≤ getByte s 0
         · by_cases c2 : getByte s 0 ≤ 122
           · simp only [c1, c2, decide_true, Bool.not_true, Bool.and_self, Bool.false_and, Bool.false_or, cond_true, cond_false]
             cases nmB s (s.size - 1) 1 <;> rfl
           · simp [c1, c2]
         · simp [c1])
    · have a1 : ¬ ((s.size : Int) < 1) := by omega
      have a2 : (24 : Int) < s.size := by omega
      simp [a1, a2, h1, h2]
  · have a1 : (s.size : Int) < 1 := by omega
    simp [a1, h1]
end
end Go.Proofs.Ytohpmnfplglbdaa

/- Arguments that are read: flat values and slices of them, as blocks of the small heap. Conditions: none. -/
namespace Go.Gh
open Go.RowKit
noncomputable section

def okLeaf : Leaf → Value → Prop
  | .int q, v => ∃ n, v = .int q n ∧ (Lit.int q n).wf = true
  | .bool, v => ∃ b, v = .bool b
  | .str, v => ∃ s, v = .string s ∧ s.size ≤ maxLen
  | .any, _ => False

def offsOk (P : Program) (d : Nat) : Nat → List Field → Bool
  | _, [] => true
  | o, f :: r => ((f.offset == o) && (P.cellsOf f.type == (leaves P d f.type).length)) && offsOk P d (o + (leaves P d f.type).length) r
def flatT (P : Program) : Nat → TypeId → Bool
  | 0, _ => false
  | d + 1, t =>
    match P.underlying t with
    | some .bool | some (.int _) | some .string => true
    | some (.struct fs) => ((P.cellsOf t == (leaves P (d + 1) t).length) && offsOk P d 0 fs.toList) && fs.toList.all fun f => flatT P d f.type
    | _ => false

inductive All2 {α β : Type} (R : α → β → Prop) : List α → List β → Prop
  | nil : All2 R [] []
  | cons {a : α} {b : β} {l : List α} {m : List β} (h : R a b) (r : All2 R l m) : All2 R (a :: l) (b :: m)
theorem All2.append {α β : Type} {R : α → β → Prop} {l l' : List α} {m m' : List β} (h : All2 R l m) (h' : All2 R l' m') : All2 R (l ++ l') (m ++ m') := by
  induction h with
  | nil => exact h'
  | cons h _ ih => exact .cons h ih
theorem All2.len {α β : Type} {R : α → β → Prop} {l : List α} {m : List β} (h : All2 R l m) : m.length = l.length := by
  induction h with
  | nil => rfl
  | cons _ _ ih => simp [ih]
theorem All2.get {α β : Type} {R : α → β → Prop} {l : List α} {m : List β} (h : All2 R l m) : ∀ {j : Nat} {a : α}, l[j]? = some a → ∃ b, m[j]? = some b ∧ R a b := by
  induction h with
  | nil => intro j a h; simp at h
  | cons h _ ih =>
    intro j a hj
    cases j with
    | zero => simp only [List.getElem?_cons_zero, Option.some.injEq] at hj; subst hj; exact ⟨_, rfl, h⟩
    | succ j => simp only [List.getElem?_cons_succ] at hj ⊢; exact ih hj

section
variable {H : Type} {enc : TypeId × Value → H} {P : Program} {w : World} {base : Nat} {spare : Nat → Bool} {held : Bool}

theorem fields_all2 {d : Nat} {cs : List Value} : ∀ {fs : List Field} {o : Nat}, offsOk P d o fs = true → (∀ f ∈ fs, All2 okLeaf (leaves P d f.type) ((cs.drop f.offset).take (P.cellsOf f.type))) →
    All2 okLeaf (fs.flatMap fun f => leaves P d f.type) ((cs.drop o).take (fs.flatMap fun f => leaves P d f.type).length)
  | [], o, _, _ => by simp; exact .nil
  | f :: r, o, h, hf => by
    simp only [offsOk, Bool.and_eq_true, beq_iff_eq] at h
    obtain ⟨⟨h1, h2⟩, h3⟩ := h
    have h4 := hf f (List.mem_cons_self ..)
    rw [h1, h2] at h4
    have h5 := fields_all2 h3 fun g hg => hf g (List.mem_cons_of_mem _ hg)
    simp only [List.flatMap_cons, List.length_append]
    rw [List.take_add, List.drop_drop]
    exact h4.append h5

theorem mapM_all {α β : Type} {f : α → Option β} : ∀ {l : List α} {r : List β}, l.mapM f = some r → ∀ a ∈ l, ∃ b, f a = some b
  | [], _, _, a, ha => by simp at ha
  | x :: l, r, h, a, ha => by
    rw [List.mapM_cons] at h
    cases hx : f x with
    | none => rw [hx] at h; cases h
    | some y =>
      rw [hx] at h
      cases hl : l.mapM f with
      | none => rw [hl] at h; cases h
      | some ys =>
        rcases List.mem_cons.1 ha with rfl | ha
        · exact ⟨y, hx⟩
        · exact mapM_all hl a ha

theorem flat_trod : ∀ {d : Nat} {t : TypeId} {fuel : Nat} {cs : List Value} {x : DataW H × List MemPlace}, flatT P d t = true → DataW.trod enc P w base spare held fuel t cs = some x → All2 okLeaf (leaves P d t) cs
  | 0, _, _, _, _, h, _ => by cases h
  | d + 1, t, 0, cs, x, _, h => by simp [DataW.trod] at h
  | d + 1, t, fuel + 1, cs, x, hf, h => by
    unfold flatT at hf
    split at hf
    · rename_i hu
      rw [leaves, hu, show leafOf P t = .bool by unfold leafOf; rw [hu]]
      unfold DataW.trod at h
      rw [hu] at h
      simp only at h ⊢
      split at h <;> first | (cases h; done) | skip
      all_goals first | (rename_i he; cases he; done) | skip
      exact .cons ⟨_, rfl⟩ .nil
    · rename_i q hu
      rw [leaves, hu, show leafOf P t = .int q by unfold leafOf; rw [hu]]
      unfold DataW.trod at h
      rw [hu] at h
      simp only at h ⊢
      split at h <;> first | (cases h; done) | skip
      all_goals first | (rename_i he; cases he; done) | skip
      rename_i k k' n he
      cases he
      split at h
      · rename_i hc
        obtain ⟨rfl, hw⟩ := hc
        exact .cons ⟨_, rfl, hw⟩ .nil
      · cases h
    · rename_i hu
      rw [leaves, hu, show leafOf P t = .str by unfold leafOf; rw [hu]]
      unfold DataW.trod at h
      rw [hu] at h
      simp only at h ⊢
      split at h <;> first | (cases h; done) | skip
      all_goals first | (rename_i he; cases he; done) | skip
      split at h
      · rename_i hc; exact .cons ⟨_, rfl, hc⟩ .nil
      · cases h
    · rename_i fs hu
      simp only [Bool.and_eq_true, beq_iff_eq, List.all_eq_true] at hf
      obtain ⟨⟨h1, h2⟩, h3⟩ := hf
      have hlv : leaves P (d + 1) t = fs.toList.flatMap fun f => leaves P d f.type := by rw [leaves, hu]
      rw [hlv] at h1 ⊢
      unfold DataW.trod at h
      rw [hu] at h
      simp only at h
      split at h
      · rename_i hl
        rw [Option.map_eq_some_iff] at h
        obtain ⟨ys, hy, _⟩ := h
        have h4 := mapM_all hy
        have := fields_all2 (cs := cs) h2 fun f hm => by
          obtain ⟨y, h5⟩ := h4 f hm
          exact flat_trod (h3 f hm) h5
        rw [List.drop_zero, ← h1, ← hl, List.take_length] at this
        exact this
      · cases h
    · cases hf

/-! ### A slice of flat values -/
theorem okLeaf_g0 {l : Leaf} {v : Value} (h : okLeaf l v) : g0 v = true := by
  cases l with
  | int q => obtain ⟨n, rfl, _⟩ := h; rfl
  | bool => obtain ⟨b, rfl⟩ := h; rfl
  | str => obtain ⟨s, rfl, _⟩ := h; rfl
  | any => exact h.elim
theorem okLeaf_rd {l : Leaf} {c : Array Value} {i : Nat} {v : Value} (hc : c[i]? = some v) (h : okLeaf l v) : (rdLeaf c l i).1 = true := by
  have hl : lget c.toList i = v := by rw [lget_eq, Array.toArray_toList, Array.getD_eq_getD_getElem?, hc]; rfl
  cases l with
  | int q => obtain ⟨n, rfl, _⟩ := h; simp [rdLeaf, isInt, hl]
  | bool => obtain ⟨b, rfl⟩ := h; simp [rdLeaf, isBool, hl]
  | str => obtain ⟨s, rfl, _⟩ := h; simp [rdLeaf, isStr, hl]
  | any => exact h.elim
theorem rdOk_of {c : Array Value} : ∀ {L : List Leaf} {x : Nat}, (∀ (j : Nat) (l : Leaf), L[j]? = some l → ∃ v, c[x + j]? = some v ∧ okLeaf l v) → rdOk c L x = true
  | [], _, _ => rfl
  | l :: L, x, h => by
    obtain ⟨v, h1, h2⟩ := h 0 l rfl
    simp only [rdOk, Bool.and_eq_true]
    refine ⟨okLeaf_rd h1 h2, rdOk_of fun j l' hj => ?_⟩
    obtain ⟨v', h3, h4⟩ := h (j + 1) l' (by simpa using hj)
    exact ⟨v', by rw [show x + 1 + j = x + (j + 1) by omega]; exact h3, h4⟩

/-- Some rows of leaves, one behind the other, and nothing but leaves. -/
def GoodL (L : List Leaf) (c : Array Value) (off n : Nat) : Prop := c.toList.all g0 = true ∧ ∀ k, k < n → rdOk c L (off + k * L.length) = true

/-- What stands for an argument that is a slice of flat values. -/
structure SArg (w : World) (L : List Leaf) (b : Nat) (v : Value) (a : Option Addr) (n sz : Nat) (ob : Ob) (x : Option (Nat × Nat × Nat)) : Prop where
  adr : ∀ y, a = some y → y.block = b
  vr : ∀ φ : Phi, (∀ y, x = some y → φ b = some y) → VR φ (.slice a n sz) v
  live : ob.live = true → ∃ B bs tot, x = some (B, bs, tot) ∧ ∀ φ : Phi, ObR φ w ob B bs tot
  ro : ob.rw = false
  good : n = 0 ∨ (a = some ⟨b, 0, none⟩ ∧ sz = L.length ∧ ∃ c, ob = .cells c true ∧ GoodL L c 0 n)
  few : n ≤ maxLen

theorem cell_some {a : Addr} {v : Value} (h : w.cell? a = some v) : a.spot = none ∧ ∃ C el fr, w.heap[a.block]? = some (.cells C el fr) ∧ C[a.off]? = some v := by
  unfold World.cell? at h
  split at h
  · rename_i C el fr hh
    split at h
    · cases h
    · rename_i hs
      exact ⟨by simpa using hs, C, el, fr, hh, h⟩
  · cases h

theorem add_at (B off k : Nat) : (⟨B, off, none⟩ : Addr).add k = ⟨B, off + k, none⟩ := by
  unfold Addr.add
  split <;> simp_all
theorem sArg {t e : TypeId} {fuel : Nat} {v : Value} {x : DataW H × List MemPlace} (ht : P.underlying t = some (.slice e)) (hf : flatT P 20 e = true) (hsz : P.cellsOf e = (leaves P 20 e).length) (hpos : 0 < (leaves P 20 e).length)
    (h : DataW.trod enc P w base (fun _ => true) held fuel t [v] = some x) (b : Nat) : ∃ a n sz ob y, SArg w (leaves P 20 e) b v a n sz ob y := by
  rcases Go.Deep.open_slice ht h with ⟨hcs, _⟩ | ⟨a, len, cap, m, k, D, Pl, hcs, hb, hl, hm, hmm, _, hx⟩
  · simp only [List.cons.injEq, and_true] at hcs
    subst hcs
    exact ⟨none, 0, 0, .dead, none, fun y h => (nomatch h), fun φ _ => .sliceN, fun h => (nomatch h), rfl, .inl rfl, Nat.zero_le _⟩
  · simp only [List.cons.injEq, and_true] at hcs
    subst hcs
    simp only [if_true] at hmm
    subst hmm
    by_cases hc0 : m = 0
    · subst hc0
      obtain rfl : len = 0 := by omega
      refine ⟨some ⟨b, 0, none⟩, 0, (leaves P 20 e).length, .dead, some (0, 0, 0), fun y h => by cases h; rfl, fun φ hφ => ?_, fun h => (nomatch h), rfl, .inl rfl, Nat.zero_le _⟩
      exact VR.sliceZ (a := ⟨b, 0, none⟩) (hφ _ rfl) a _
    · have hcell : ∀ i, i < m → ∀ j l, (leaves P 20 e)[j]? = some l → ∃ v, w.cell? ((a.add (i * P.cellsOf e)).add j) = some v ∧ okLeaf l v := by
        intro i hi j l hj
        obtain ⟨cs', h1, h2⟩ := hx i hi
        obtain ⟨_, h3, h4⟩ := World.cells?_some h1
        obtain ⟨v, h5, h6⟩ := (flat_trod hf h2).get hj
        refine ⟨v, ?_, h6⟩
        rw [h4 j (by rw [hsz]; exact (List.getElem?_eq_some_iff.1 hj).1)]
        exact h5
      obtain ⟨l0, hl0⟩ : ∃ l, (leaves P 20 e)[0]? = some l := ⟨_, List.getElem?_eq_getElem hpos⟩
      obtain ⟨v0, h1, _⟩ := hcell 0 (by omega) 0 l0 hl0
      obtain ⟨hs, C, el, fr, hh, _⟩ := cell_some h1
      obtain ⟨B, off, spot⟩ := a
      simp only [Nat.zero_mul, Addr.add, if_true] at hs hh
      subst hs
      have hC : ∀ i, i < m → ∀ j l, (leaves P 20 e)[j]? = some l → ∃ v, C[off + i * (leaves P 20 e).length + j]? = some v ∧ okLeaf l v := by
        intro i hi j l hj
        obtain ⟨v, h2, h3⟩ := hcell i hi j l hj
        obtain ⟨_, C', el', fr', hh', h4⟩ := cell_some h2
        simp only [add_at] at hh' h4
        rw [hh] at hh'
        cases hh'
        rw [hsz] at h4
        exact ⟨v, h4, h3⟩
      generalize hLe : leaves P 20 e = L at *
      have hcget : ∀ k, k < len * L.length → (C.extract off (off + len * L.length))[k]? = C[off + k]? := by
        intro k hk
        rw [Array.getElem?_extract, if_pos ?_]
        have hd : k / L.length < len := Nat.div_lt_of_lt_mul (by rw [Nat.mul_comm]; exact hk)
        have hmod := Nat.mod_lt k hpos
        obtain ⟨l, hl'⟩ : ∃ l, L[k % L.length]? = some l := ⟨_, List.getElem?_eq_getElem hmod⟩
        obtain ⟨v, h2, _⟩ := hC (k / L.length) (by omega) (k % L.length) l hl'
        have := (Array.getElem?_eq_some_iff.1 h2).1
        have h6 := Nat.div_add_mod k L.length
        rw [Nat.mul_comm] at h6
        omega
      refine ⟨some ⟨b, 0, none⟩, len, L.length, .cells (C.extract off (off + len * L.length)) true, some (B, off, m * L.length), fun y h => by cases h; rfl, fun φ hφ => ?_, fun _ => ⟨B, off, m * L.length, rfl, fun φ => ?_⟩, rfl, .inr ⟨rfl, rfl, _, rfl, ?_, ?_⟩, Nat.le_trans hl hm⟩
      · exact VR.slice (off := 0) (hφ _ rfl) hl (by omega)
      · refine ⟨C, el, fr, hh, fun i v hv => ?_, fun h => (nomatch h)⟩
        have hi : i < len * L.length := by
          have := (Array.getElem?_eq_some_iff.1 hv).1
          simp only [Array.size_extract] at this
          omega
        rw [hcget i hi] at hv
        have hd : i / L.length < len := Nat.div_lt_of_lt_mul (by rw [Nat.mul_comm]; exact hi)
        have hmod := Nat.mod_lt i hpos
        obtain ⟨l, hl'⟩ : ∃ l, L[i % L.length]? = some l := ⟨_, List.getElem?_eq_getElem hmod⟩
        obtain ⟨v', h2, h3⟩ := hC (i / L.length) (by omega) (i % L.length) l hl'
        have h6 := Nat.div_add_mod i L.length
        rw [Nat.mul_comm] at h6
        rw [show off + i / L.length * L.length + i % L.length = off + i by omega, hv] at h2
        cases h2
        exact ⟨v, hv, g0_refl (okLeaf_g0 h3)⟩
      · rw [List.all_eq_true]
        intro u hu
        rw [Array.mem_toList_iff, Array.mem_iff_getElem?] at hu
        obtain ⟨i, hu⟩ := hu
        have hi : i < len * L.length := by
          have := (Array.getElem?_eq_some_iff.1 hu).1
          simp only [Array.size_extract] at this
          omega
        rw [hcget i hi] at hu
        have hd : i / L.length < len := Nat.div_lt_of_lt_mul (by rw [Nat.mul_comm]; exact hi)
        have hmod := Nat.mod_lt i hpos
        obtain ⟨l, hl'⟩ : ∃ l, L[i % L.length]? = some l := ⟨_, List.getElem?_eq_getElem hmod⟩
        obtain ⟨v', h2, h3⟩ := hC (i / L.length) (by omega) (i % L.length) l hl'
        have h6 := Nat.div_add_mod i L.length
        rw [Nat.mul_comm] at h6
        rw [show off + i / L.length * L.length + i % L.length = off + i by omega, hu] at h2
        cases h2
        exact okLeaf_g0 h3
      · intro k hk
        refine rdOk_of fun j l hj => ?_
        have hjl := (List.getElem?_eq_some_iff.1 hj).1
        obtain ⟨v', h2, h3⟩ := hC k (by omega) j l hj
        refine ⟨v', ?_, h3⟩
        rw [Nat.zero_add, hcget (k * L.length + j) ?_, ← Nat.add_assoc]
        · exact h2
        · have : (k + 1) * L.length ≤ len * L.length := Nat.mul_le_mul_right _ hk
          rw [Nat.add_mul, Nat.one_mul] at this
          omega
end
end
end Go.Gh

/- Tasks: the shapes of the answers about sources. Conditions: none. -/
namespace Go.Proofs.Ytohpmnfplglbdaa
open Go.Gh Go.RowKit
noncomputable section

abbrev L7 : List Leaf := [.str, .int .i64, .int .i64, .int .i64, .int .i64, .int .i64, .int .i64]
abbrev L5 : List Leaf := [.int .i64, .int .i64, .int .i64, .int .i64, .int .i64]
abbrev L1 : List Leaf := [.int .i64]
def sEq (a b : ByteArray) : Bool := a.toList == b.toList
/-- A source that has the name. -/
def twP (c : Array Value) (off : Nat) (s : ByteArray) (k : Nat) : Bool := sEq (getStr c (off + k * 7)) s
def twB (c : Array Value) (off : Nat) (s : ByteArray) (m i : Nat) : Bool := (fst (twP c off s) m i).isSome

def okA3 (b c : Option Addr) (n2 z2 n3 z3 : Nat) (rest : List Value) : Bool := dec (sc1 3 (.slice b n2 z2) = true ∧ sc1 3 (.slice c n3 z3) = true ∧ rest.all g0 = true)
def ok64 (off : Nat) (c : Array Value) (n : Nat) (i k : Int) : Bool := dec (GoodL L7 c off n ∧ 0 ≤ i ∧ i < n ∧ 0 ≤ k ∧ n ≤ 20)
def tk (a b c : Value) (age shear : Int) : Array Value := ⟨[a, b, c, .int .i64 age, .int .i64 shear]⟩
def sh64 : Shape
  | .code none (.loop code) ⟨t, [], ⟨.cells c true :: .dead :: .dead :: .cells ⟨[.slice (some ⟨0, off, none⟩) n 7, .slice b n2 z2, .slice d n3 z3, .int .i64 age, .int .i64 shear]⟩ false :: .cells ⟨.string s :: rest⟩ false :: G, 3, []⟩⟩ =>
    match Nat.beq (firstReg code) 5, lget t 1, lget t 2, lget t 5, lget t 6 with
    | true, .int .i64 i, .pointer (some ⟨3, 0, none⟩), .pointer (some ⟨4, 0, none⟩), .int .i64 k => some fun j =>
      .br (eqCode code (theLoop Try.prog 64 0)) (.br (Nat.beq t.length 69) (.br (okA3 b d n2 z2 n3 z3 rest) (.br (ok64 off c n i k)
        (.br (twB c off s (i.toNat - k.toNat) k.toNat)
          (loopEnd 69 .ret [(4, .int .i64 5)] ⟨.cells c true :: .dead :: .dead :: .cells ⟨[.slice (some ⟨0, off, none⟩) n 7, .slice b n2 z2, .slice d n3 z3, .int .i64 age, .int .i64 shear]⟩ false :: .cells ⟨.string s :: rest⟩ false :: G, 3, []⟩ j)
          (loopEnd 69 (.exit 0) [(2, pp 3), (5, pp 4)] ⟨.cells c true :: .dead :: .dead :: .cells ⟨[.slice (some ⟨0, off, none⟩) n 7, .slice b n2 z2, .slice d n3 z3, .int .i64 age, .int .i64 shear]⟩ false :: .cells ⟨.string s :: rest⟩ false :: G, 3, []⟩ j)) .no) .no) .no) .no
    | _, _, _, _, _ => none
  | _ => none
def mes64 : Task → Nat
  | .code _ _ s => match lget s.t 1, lget s.t 6 with
    | .int _ n, .int _ i => Nat.sub n.toNat i.toNat
    | _, _ => 0
  | _ => 0
def pick64 : Ex → List Nat
  | .ret => [4]
  | _ => [2, 5]

/-- The error of a source. -/
def inB (n lo hi : Int) : Bool := decide (lo ≤ n) && decide (n ≤ hi)
def srcE (c : Array Value) (off i : Nat) : Int :=
  if nm (getStr c (off + i * 7)) = false then 6
  else if twB c off (getStr c (off + i * 7)) i 0 = true then 5
  else if inB (getInt c (off + i * 7 + 1)) 1 3 = false then 2
  else if inB (getInt c (off + i * 7 + 2)) 0 5000 = false ∨ inB (getInt c (off + i * 7 + 3)) 0 6000 = false ∨ inB (getInt c (off + i * 7 + 4)) 1 60000 = false ∨ inB (getInt c (off + i * 7 + 5)) 0 99999999 = false ∨
    inB (getInt c (off + i * 7 + 6)) 0 99999999 = false ∨ getInt c (off + i * 7 + 6) < getInt c (off + i * 7 + 5) then 7 else 0
end
end Go.Proofs.Ytohpmnfplglbdaa

