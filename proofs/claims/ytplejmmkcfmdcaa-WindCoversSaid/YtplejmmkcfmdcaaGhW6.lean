/- The loop of wind.coversBand: whether a band is in the way. Conditions: none. -/
import Derived.Test.YtplejmmkcfmdcaaGhW4
namespace Go.Proofs.Ytplejmmkcfmdcaa
open Go.Gh Go.RowKit
noncomputable section
set_option maxRecDepth 100000
theorem tree72 (J : Task → List Value) (off : Nat) (c : Array Value) (n : Nat) (i b0 b1 b2 b3 b4 b5 : Int) (M : Nat) (y : List Value) :
    evS Try.prog (((sh72.ans J).below mes72 M).or (fun _ => none)) 60 (.code none (.loop (theLoop Try.prog 72 0)) ⟨sets (junkF 43 y) [(3, pp 1), (8, .slice (some ⟨0, off, none⟩) n 6), (9, .int .i64 (Int.ofNat n)), (10, .int .i64 i)], [], ⟨[.cells c true, .cells ⟨[.int .i64 b0, .int .i64 b1, .int .i64 b2, .int .i64 b3, .int .i64 b4, .int .i64 b5]⟩ false], 1, []⟩⟩) (sumK 2 43 pick72) =
    cond (decide (i < (Int.ofNat n)))
    (cond (and (decide ((0 : Int) ≤ i)) (decide (i < (Int.ofNat n))))
     (cond (and true (rdOk c [(Leaf.int .i64), (Leaf.int .i64), (Leaf.int .i64), (Leaf.int .i64), (Leaf.int .i64), (Leaf.int .i64)] (off + ((Int.toNat i) * 6))))
      (cond (decide ((getInt c (off + ((Int.toNat i) * 6))) < b1))
       (cond (decide (b0 < (getInt c ((off + ((Int.toNat i) * 6)) + 1))))
        (cond (decide ((getInt c (((off + ((Int.toNat i) * 6)) + 1) + 1)) ≤ b2))
         (cond (decide (b3 ≤ (getInt c ((((off + ((Int.toNat i) * 6)) + 1) + 1) + 1))))
          (cond (decide ((getInt c (((((off + ((Int.toNat i) * 6)) + 1) + 1) + 1) + 1)) ≤ b4))
           (cond (not (decide (b5 ≤ (getInt c ((((((off + ((Int.toNat i) * 6)) + 1) + 1) + 1) + 1) + 1)))))
            (some (Out.ex Ex.ret (St.mk [(Value.bool false)] [] (Hp.mk [(Ob.cells c true), (Ob.cells ⟨[(Value.int .i64 b0), (Value.int .i64 b1), (Value.int .i64 b2), (Value.int .i64 b3), (Value.int .i64 b4), (Value.int .i64 b5)]⟩ false)] 43 []))))
            (cond (Nat.blt (Nat.sub (Int.toNat (Int.ofNat n)) (Int.toNat (IntKind.wrap .i64 (i + (1 : Int))))) M)
             (cond (eqCode (theLoop Try.prog 72 0) (theLoop Try.prog 72 0))
              (cond (ok27 off c n (IntKind.wrap .i64 (i + (1 : Int))) (Int.ofNat n))
               (cond (cvB c off b0 b1 b2 b3 b4 b5 (n - (Int.toNat (IntKind.wrap .i64 (i + (1 : Int))))) (Int.toNat (IntKind.wrap .i64 (i + (1 : Int)))))
                (some (Out.ex Ex.ret (St.mk [(Value.bool false)] [] (Hp.mk [(Ob.cells c true), (Ob.cells ⟨[(Value.int .i64 b0), (Value.int .i64 b1), (Value.int .i64 b2), (Value.int .i64 b3), (Value.int .i64 b4), (Value.int .i64 b5)]⟩ false)] 43 []))))
                (some (Out.ex (Ex.exit 0) (St.mk [] [] (Hp.mk [(Ob.cells c true), (Ob.cells ⟨[(Value.int .i64 b0), (Value.int .i64 b1), (Value.int .i64 b2), (Value.int .i64 b3), (Value.int .i64 b4), (Value.int .i64 b5)]⟩ false)] 43 [])))))
               (none))
              (none))
             (none)))
           (some (Out.ex Ex.ret (St.mk [(Value.bool false)] [] (Hp.mk [(Ob.cells c true), (Ob.cells ⟨[(Value.int .i64 b0), (Value.int .i64 b1), (Value.int .i64 b2), (Value.int .i64 b3), (Value.int .i64 b4), (Value.int .i64 b5)]⟩ false)] 43 [])))))
          (some (Out.ex Ex.ret (St.mk [(Value.bool false)] [] (Hp.mk [(Ob.cells c true), (Ob.cells ⟨[(Value.int .i64 b0), (Value.int .i64 b1), (Value.int .i64 b2), (Value.int .i64 b3), (Value.int .i64 b4), (Value.int .i64 b5)]⟩ false)] 43 [])))))
         (some (Out.ex Ex.ret (St.mk [(Value.bool false)] [] (Hp.mk [(Ob.cells c true), (Ob.cells ⟨[(Value.int .i64 b0), (Value.int .i64 b1), (Value.int .i64 b2), (Value.int .i64 b3), (Value.int .i64 b4), (Value.int .i64 b5)]⟩ false)] 43 [])))))
        (cond (Nat.blt (Nat.sub (Int.toNat (Int.ofNat n)) (Int.toNat (IntKind.wrap .i64 (i + (1 : Int))))) M)
         (cond (eqCode (theLoop Try.prog 72 0) (theLoop Try.prog 72 0))
          (cond (ok27 off c n (IntKind.wrap .i64 (i + (1 : Int))) (Int.ofNat n))
           (cond (cvB c off b0 b1 b2 b3 b4 b5 (n - (Int.toNat (IntKind.wrap .i64 (i + (1 : Int))))) (Int.toNat (IntKind.wrap .i64 (i + (1 : Int)))))
            (some (Out.ex Ex.ret (St.mk [(Value.bool false)] [] (Hp.mk [(Ob.cells c true), (Ob.cells ⟨[(Value.int .i64 b0), (Value.int .i64 b1), (Value.int .i64 b2), (Value.int .i64 b3), (Value.int .i64 b4), (Value.int .i64 b5)]⟩ false)] 43 []))))
            (some (Out.ex (Ex.exit 0) (St.mk [] [] (Hp.mk [(Ob.cells c true), (Ob.cells ⟨[(Value.int .i64 b0), (Value.int .i64 b1), (Value.int .i64 b2), (Value.int .i64 b3), (Value.int .i64 b4), (Value.int .i64 b5)]⟩ false)] 43 [])))))
           (none))
          (none))
         (none)))
       (cond (Nat.blt (Nat.sub (Int.toNat (Int.ofNat n)) (Int.toNat (IntKind.wrap .i64 (i + (1 : Int))))) M)
        (cond (eqCode (theLoop Try.prog 72 0) (theLoop Try.prog 72 0))
         (cond (ok27 off c n (IntKind.wrap .i64 (i + (1 : Int))) (Int.ofNat n))
          (cond (cvB c off b0 b1 b2 b3 b4 b5 (n - (Int.toNat (IntKind.wrap .i64 (i + (1 : Int))))) (Int.toNat (IntKind.wrap .i64 (i + (1 : Int)))))
           (some (Out.ex Ex.ret (St.mk [(Value.bool false)] [] (Hp.mk [(Ob.cells c true), (Ob.cells ⟨[(Value.int .i64 b0), (Value.int .i64 b1), (Value.int .i64 b2), (Value.int .i64 b3), (Value.int .i64 b4), (Value.int .i64 b5)]⟩ false)] 43 []))))
           (some (Out.ex (Ex.exit 0) (St.mk [] [] (Hp.mk [(Ob.cells c true), (Ob.cells ⟨[(Value.int .i64 b0), (Value.int .i64 b1), (Value.int .i64 b2), (Value.int .i64 b3), (Value.int .i64 b4), (Value.int .i64 b5)]⟩ false)] 43 [])))))
          (none))
         (none))
        (none)))
      (none))
     (none))
    (some (Out.ex (Ex.exit 0) (St.mk [] [] (Hp.mk [(Ob.cells c true), (Ob.cells ⟨[(Value.int .i64 b0), (Value.int .i64 b1), (Value.int .i64 b2), (Value.int .i64 b3), (Value.int .i64 b4), (Value.int .i64 b5)]⟩ false)] 43 [])))) := by kernel_rfl

theorem kept2 (c d : Array Value) (r s : Bool) (h : c.toList.all g0 = true) (hd : d.toList.all g0 = true) : ObsKept 2 [.cells c r, .cells d s] [.cells c r, .cells d s] :=
  .cons (by simp [obKept, obSc_g0 h]) (.cons (by simp [obKept, obSc_g0 hd]) .nil)

theorem known72 : ∃ J, Known Try.prog (sh72.ans J) := by
  refine Known.junk (Known.nothing _) mes72 sh72 ?_
  intro J t f hs hkn
  unfold sh72 at hs
  split at hs
  case h_2 => cases hs
  rename_i code t c b0 b1 b2 b3 b4 b5 G
  split at hs
  case h_2 => cases hs
  rename_i off n m i e3 e8 e9 e10
  simp only [Option.some.injEq] at hs
  subst hs
  refine ex_guard fun h1 => ex_guard fun h2 => ex_guard fun h3 => ?_
  obtain rfl := eqCode_eq h1
  have hl : t.length = 43 := Nat.eq_of_beq_eq_true h2
  obtain ⟨hg, hi0, hn, rfl⟩ := dec_iff.1 h3
  obtain ⟨i, rfl⟩ := Int.eq_ofNat_of_zero_le hi0
  have hk2 := kept2 c ⟨[.int .i64 b0, .int .i64 b1, .int .i64 b2, .int .i64 b3, .int .i64 b4, .int .i64 b5]⟩ true false hg.1 rfl
  have use := fun e vs hev he hvs => hkn.loopLeaf (G := G) noNG mixed (n := 60) (N0 := 43) (N := 43) (live := [(3, pp 1), (8, .slice (some ⟨0, off, none⟩) n 6), (9, .int .i64 (Int.ofNat n)), (10, .int .i64 (Int.ofNat i))])
    (H0 := [.cells c true, .cells ⟨[.int .i64 b0, .int .i64 b1, .int .i64 b2, .int .i64 b3, .int .i64 b4, .int .i64 b5]⟩ false]) (pick := pick72) (e := e) (vs := vs)
    (base := 1) (wr := []) (wr1 := []) (c := theLoop Try.prog 72 0) (t := t) hev hl (by
      intro kv hm
      simp only [List.mem_cons, List.not_mem_nil, or_false] at hm
      rcases hm with rfl | rfl | rfl | rfl
      · exact ⟨e3, rfl, rfl⟩
      · exact ⟨e8, rfl, rfl⟩
      · exact ⟨e9, rfl, rfl⟩
      · exact ⟨e10, rfl, rfl⟩) (by simp) (by simp [obSc_g0 hg.1]; rfl) hk2 he hvs
  simp only [List.length_cons, List.length_nil, Nat.zero_add] at use
  rw [tree72] at use
  simp only [Int.ofNat_eq_natCast, Int.toNat_natCast] at use ⊢
  by_cases hin : (i : Int) < n
  · have hx := hg.2 i (by omega)
    obtain ⟨m, hm⟩ : ∃ m, n - i = m + 1 := ⟨n - i - 1, by omega⟩
    have hw : IntKind.i64.wrap ((i : Int) + 1) = ((i + 1 : Nat) : Int) := by rw [wrap64_id (by omega) (by omega)]; rfl
    rw [hm]
    have hm' : n - (i + 1) = m := by omega
    have hme : (n.sub (i + 1)).blt (mes72 (.code none (.loop (theLoop Try.prog 72 0)) ⟨t, [], ⟨.cells c true :: .cells ⟨[.int .i64 b0, .int .i64 b1, .int .i64 b2, .int .i64 b3, .int .i64 b4, .int .i64 b5]⟩ false :: G, 1, []⟩⟩)) = true := by
      simp only [mes72, e9, e10, Nat.blt_eq, Int.toNat_natCast]
      show n - (i + 1) < n - i
      omega
    have hok : ok27 off c n ↑(i + 1) n = true := dec_iff.2 ⟨hg, by omega, hn, rfl⟩
    simp only [hw, Int.toNat_natCast, hm', hx, hin, decide_true, cond_true, Bool.true_and, Int.natCast_nonneg, eqCode_self, hme, hok] at use
    cases hp : cvP c off b0 b1 b2 b3 b4 b5 i with
    | true =>
      have e1 : cvB c off b0 b1 b2 b3 b4 b5 (m + 1) i = true := by simp [cvB, fst_hit hp]
      rw [e1]
      refine use .ret [.bool false] ?_ rfl rfl
      revert hp
      unfold cvP
      simp only [cond_eq_ite, Bool.not_eq_true', Bool.and_eq_true, decide_eq_true_eq, decide_eq_false_iff_not]
      grind
    | false =>
      have e1 : cvB c off b0 b1 b2 b3 b4 b5 (m + 1) i = cvB c off b0 b1 b2 b3 b4 b5 m (i + 1) := by simp [cvB, fst_miss hp]
      rw [e1]
      cases hb : cvB c off b0 b1 b2 b3 b4 b5 m (i + 1) with
      | true =>
        rw [hb] at use
        refine use .ret [.bool false] ?_ rfl rfl
        revert hp
        unfold cvP
        simp only [cond_eq_ite, Bool.not_eq_true', decide_eq_true_eq, decide_eq_false_iff_not]
        grind
      | false =>
        rw [hb] at use
        refine use (.exit 0) [] ?_ rfl rfl
        revert hp
        unfold cvP
        simp only [cond_eq_ite, Bool.not_eq_true', decide_eq_true_eq, decide_eq_false_iff_not]
        grind
  · have h0 : n - i = 0 := by omega
    have e1 : cvB c off b0 b1 b2 b3 b4 b5 (n - i) i = false := by rw [h0]; rfl
    rw [e1]
    refine use (.exit 0) [] ?_ rfl rfl
    simp only [hin, decide_false, cond_false]
end
end Go.Proofs.Ytplejmmkcfmdcaa
