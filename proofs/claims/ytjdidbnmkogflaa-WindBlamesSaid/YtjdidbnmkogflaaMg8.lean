/- Part 8 of the texts below the claim. Conditions: none. -/
import Derived.Test.YtjdidbnmkogflaaMg7
import Derived.Test.YtjdidbnmkogflaaMg5
import Derived.Deep.Slices
namespace Go.Proofs.Ytjdidbnmkogflaa.Old
open Go.Gi Go.RowKit
noncomputable section
set_option maxRecDepth 100000
set_option linter.unusedSimpArgs false
theorem tree22 (J : Task → List Value) (s : ByteArray) (i : Int) (M : Nat) (y : List Value) :
    evS Try.prog (((sh22.ans J).below mes22 M).or (fun _ => none)) 60 (.code none (.loop (theLoop Try.prog 22 0)) ⟨sets (junkF 40 y) [(0, .string s), (3, .int .i64 i)], [], ⟨[], 0, []⟩⟩) (sumK 0 40 pick22) =
    cond (decide (i < (Int.ofNat (ByteArray.size s))))
 (cond (and (decide ((0 : Int) ≤ i)) (decide (i < (Int.ofNat (ByteArray.size s)))))
 (cond (decide ((97 : Int) ≤ (getByte s (Int.toNat i))))
 (cond (not (decide ((getByte s (Int.toNat i)) ≤ (122 : Int))))
 (cond (decide ((48 : Int) ≤ (getByte s (Int.toNat i))))
 (cond (not (decide ((getByte s (Int.toNat i)) ≤ (57 : Int))))
 (cond (not (decide ((getByte s (Int.toNat i)) = (45 : Int))))
 (some (Out.ex Ex.ret (St.mk [(.bool false)] [] (Hp.mk [] 40 []))))
 (cond (Nat.blt (Nat.sub (ByteArray.size s) (Int.toNat (IntKind.wrap .i64 (i + (1 : Int))))) M)
 (cond (eqCode (theLoop Try.prog 22 0) (theLoop Try.prog 22 0))
 (cond (okN s (IntKind.wrap .i64 (i + (1 : Int))) (1 : Int))
 (cond (nmB s ((ByteArray.size s) - (Int.toNat (IntKind.wrap .i64 (i + (1 : Int))))) (Int.toNat (IntKind.wrap .i64 (i + (1 : Int)))))
 (some (Out.ex Ex.ret (St.mk [(.bool false)] [] (Hp.mk [] 40 []))))
 (some (Out.ex (Ex.exit 0) (St.mk [] [] (Hp.mk [] 40 [])))))
 (none))
 (none))
 (none)))
 (cond (Nat.blt (Nat.sub (ByteArray.size s) (Int.toNat (IntKind.wrap .i64 (i + (1 : Int))))) M)
 (cond (eqCode (theLoop Try.prog 22 0) (theLoop Try.prog 22 0))
 (cond (okN s (IntKind.wrap .i64 (i + (1 : Int))) (1 : Int))
 (cond (nmB s ((ByteArray.size s) - (Int.toNat (IntKind.wrap .i64 (i + (1 : Int))))) (Int.toNat (IntKind.wrap .i64 (i + (1 : Int)))))
 (some (Out.ex Ex.ret (St.mk [(.bool false)] [] (Hp.mk [] 40 []))))
 (some (Out.ex (Ex.exit 0) (St.mk [] [] (Hp.mk [] 40 [])))))
 (none))
 (none))
 (none)))
 (cond (not (decide ((getByte s (Int.toNat i)) = (45 : Int))))
 (some (Out.ex Ex.ret (St.mk [(.bool false)] [] (Hp.mk [] 40 []))))
 (cond (Nat.blt (Nat.sub (ByteArray.size s) (Int.toNat (IntKind.wrap .i64 (i + (1 : Int))))) M)
 (cond (eqCode (theLoop Try.prog 22 0) (theLoop Try.prog 22 0))
 (cond (okN s (IntKind.wrap .i64 (i + (1 : Int))) (1 : Int))
 (cond (nmB s ((ByteArray.size s) - (Int.toNat (IntKind.wrap .i64 (i + (1 : Int))))) (Int.toNat (IntKind.wrap .i64 (i + (1 : Int)))))
 (some (Out.ex Ex.ret (St.mk [(.bool false)] [] (Hp.mk [] 40 []))))
 (some (Out.ex (Ex.exit 0) (St.mk [] [] (Hp.mk [] 40 [])))))
 (none))
 (none))
 (none))))
 (cond (Nat.blt (Nat.sub (ByteArray.size s) (Int.toNat (IntKind.wrap .i64 (i + (1 : Int))))) M)
 (cond (eqCode (theLoop Try.prog 22 0) (theLoop Try.prog 22 0))
 (cond (okN s (IntKind.wrap .i64 (i + (1 : Int))) (1 : Int))
 (cond (nmB s ((ByteArray.size s) - (Int.toNat (IntKind.wrap .i64 (i + (1 : Int))))) (Int.toNat (IntKind.wrap .i64 (i + (1 : Int)))))
 (some (Out.ex Ex.ret (St.mk [(.bool false)] [] (Hp.mk [] 40 []))))
 (some (Out.ex (Ex.exit 0) (St.mk [] [] (Hp.mk [] 40 [])))))
 (none))
 (none))
 (none)))
 (cond (decide ((48 : Int) ≤ (getByte s (Int.toNat i))))
 (cond (not (decide ((getByte s (Int.toNat i)) ≤ (57 : Int))))
 (cond (not (decide ((getByte s (Int.toNat i)) = (45 : Int))))
 (some (Out.ex Ex.ret (St.mk [(.bool false)] [] (Hp.mk [] 40 []))))
 (cond (Nat.blt (Nat.sub (ByteArray.size s) (Int.toNat (IntKind.wrap .i64 (i + (1 : Int))))) M)
 (cond (eqCode (theLoop Try.prog 22 0) (theLoop Try.prog 22 0))
 (cond (okN s (IntKind.wrap .i64 (i + (1 : Int))) (1 : Int))
 (cond (nmB s ((ByteArray.size s) - (Int.toNat (IntKind.wrap .i64 (i + (1 : Int))))) (Int.toNat (IntKind.wrap .i64 (i + (1 : Int)))))
 (some (Out.ex Ex.ret (St.mk [(.bool false)] [] (Hp.mk [] 40 []))))
 (some (Out.ex (Ex.exit 0) (St.mk [] [] (Hp.mk [] 40 [])))))
 (none))
 (none))
 (none)))
 (cond (Nat.blt (Nat.sub (ByteArray.size s) (Int.toNat (IntKind.wrap .i64 (i + (1 : Int))))) M)
 (cond (eqCode (theLoop Try.prog 22 0) (theLoop Try.prog 22 0))
 (cond (okN s (IntKind.wrap .i64 (i + (1 : Int))) (1 : Int))
 (cond (nmB s ((ByteArray.size s) - (Int.toNat (IntKind.wrap .i64 (i + (1 : Int))))) (Int.toNat (IntKind.wrap .i64 (i + (1 : Int)))))
 (some (Out.ex Ex.ret (St.mk [(.bool false)] [] (Hp.mk [] 40 []))))
 (some (Out.ex (Ex.exit 0) (St.mk [] [] (Hp.mk [] 40 [])))))
 (none))
 (none))
 (none)))
 (cond (not (decide ((getByte s (Int.toNat i)) = (45 : Int))))
 (some (Out.ex Ex.ret (St.mk [(.bool false)] [] (Hp.mk [] 40 []))))
 (cond (Nat.blt (Nat.sub (ByteArray.size s) (Int.toNat (IntKind.wrap .i64 (i + (1 : Int))))) M)
 (cond (eqCode (theLoop Try.prog 22 0) (theLoop Try.prog 22 0))
 (cond (okN s (IntKind.wrap .i64 (i + (1 : Int))) (1 : Int))
 (cond (nmB s ((ByteArray.size s) - (Int.toNat (IntKind.wrap .i64 (i + (1 : Int))))) (Int.toNat (IntKind.wrap .i64 (i + (1 : Int)))))
 (some (Out.ex Ex.ret (St.mk [(.bool false)] [] (Hp.mk [] 40 []))))
 (some (Out.ex (Ex.exit 0) (St.mk [] [] (Hp.mk [] 40 [])))))
 (none))
 (none))
 (none)))))
 (none))
 (some (Out.ex (Ex.exit 0) (St.mk [] [] (Hp.mk [] 40 [])))) := by kernel_rfl
theorem tree23 (J : Task → List Value) (s : ByteArray) (i : Int) (M : Nat) (y : List Value) :
    evS Try.prog (((sh23.ans J).below mes22 M).or (fun _ => none)) 60 (.code none (.loop (theLoop Try.prog 23 0)) ⟨sets (junkF 48 y) [(0, .string s), (3, .int .i64 i)], [], ⟨[], 0, []⟩⟩) (sumK 0 48 pick22) =
    cond (decide (i < (Int.ofNat (ByteArray.size s))))
 (cond (and (decide ((0 : Int) ≤ i)) (decide (i < (Int.ofNat (ByteArray.size s)))))
 (cond (decide ((97 : Int) ≤ (getByte s (Int.toNat i))))
 (cond (not (decide ((getByte s (Int.toNat i)) ≤ (122 : Int))))
 (cond (decide (i = (0 : Int)))
 (some (Out.ex Ex.ret (St.mk [(.bool false)] [] (Hp.mk [] 48 []))))
 (cond (decide ((48 : Int) ≤ (getByte s (Int.toNat i))))
 (cond (decide ((getByte s (Int.toNat i)) ≤ (57 : Int)))
 (cond (Nat.blt (Nat.sub (ByteArray.size s) (Int.toNat (IntKind.wrap .i64 (i + (1 : Int))))) M)
 (cond (eqCode (theLoop Try.prog 23 0) (theLoop Try.prog 23 0))
 (cond (okN s (IntKind.wrap .i64 (i + (1 : Int))) (0 : Int))
 (cond (nmB s ((ByteArray.size s) - (Int.toNat (IntKind.wrap .i64 (i + (1 : Int))))) (Int.toNat (IntKind.wrap .i64 (i + (1 : Int)))))
 (some (Out.ex Ex.ret (St.mk [(.bool false)] [] (Hp.mk [] 48 []))))
 (some (Out.ex (Ex.exit 0) (St.mk [] [] (Hp.mk [] 48 [])))))
 (none))
 (none))
 (none))
 (cond (not (decide ((getByte s (Int.toNat i)) = (45 : Int))))
 (some (Out.ex Ex.ret (St.mk [(.bool false)] [] (Hp.mk [] 48 []))))
 (cond (Nat.blt (Nat.sub (ByteArray.size s) (Int.toNat (IntKind.wrap .i64 (i + (1 : Int))))) M)
 (cond (eqCode (theLoop Try.prog 23 0) (theLoop Try.prog 23 0))
 (cond (okN s (IntKind.wrap .i64 (i + (1 : Int))) (0 : Int))
 (cond (nmB s ((ByteArray.size s) - (Int.toNat (IntKind.wrap .i64 (i + (1 : Int))))) (Int.toNat (IntKind.wrap .i64 (i + (1 : Int)))))
 (some (Out.ex Ex.ret (St.mk [(.bool false)] [] (Hp.mk [] 48 []))))
 (some (Out.ex (Ex.exit 0) (St.mk [] [] (Hp.mk [] 48 [])))))
 (none))
 (none))
 (none))))
 (cond (not (decide ((getByte s (Int.toNat i)) = (45 : Int))))
 (some (Out.ex Ex.ret (St.mk [(.bool false)] [] (Hp.mk [] 48 []))))
 (cond (Nat.blt (Nat.sub (ByteArray.size s) (Int.toNat (IntKind.wrap .i64 (i + (1 : Int))))) M)
 (cond (eqCode (theLoop Try.prog 23 0) (theLoop Try.prog 23 0))
 (cond (okN s (IntKind.wrap .i64 (i + (1 : Int))) (0 : Int))
 (cond (nmB s ((ByteArray.size s) - (Int.toNat (IntKind.wrap .i64 (i + (1 : Int))))) (Int.toNat (IntKind.wrap .i64 (i + (1 : Int)))))
 (some (Out.ex Ex.ret (St.mk [(.bool false)] [] (Hp.mk [] 48 []))))
 (some (Out.ex (Ex.exit 0) (St.mk [] [] (Hp.mk [] 48 [])))))
 (none))
 (none))
 (none)))))
 (cond (Nat.blt (Nat.sub (ByteArray.size s) (Int.toNat (IntKind.wrap .i64 (i + (1 : Int))))) M)
 (cond (eqCode (theLoop Try.prog 23 0) (theLoop Try.prog 23 0))
 (cond (okN s (IntKind.wrap .i64 (i + (1 : Int))) (0 : Int))
 (cond (nmB s ((ByteArray.size s) - (Int.toNat (IntKind.wrap .i64 (i + (1 : Int))))) (Int.toNat (IntKind.wrap .i64 (i + (1 : Int)))))
 (some (Out.ex Ex.ret (St.mk [(.bool false)] [] (Hp.mk [] 48 []))))
 (some (Out.ex (Ex.exit 0) (St.mk [] [] (Hp.mk [] 48 [])))))
 (none))
 (none))
 (none)))
 (cond (decide (i = (0 : Int)))
 (some (Out.ex Ex.ret (St.mk [(.bool false)] [] (Hp.mk [] 48 []))))
 (cond (decide ((48 : Int) ≤ (getByte s (Int.toNat i))))
 (cond (decide ((getByte s (Int.toNat i)) ≤ (57 : Int)))
 (cond (Nat.blt (Nat.sub (ByteArray.size s) (Int.toNat (IntKind.wrap .i64 (i + (1 : Int))))) M)
 (cond (eqCode (theLoop Try.prog 23 0) (theLoop Try.prog 23 0))
 (cond (okN s (IntKind.wrap .i64 (i + (1 : Int))) (0 : Int))
 (cond (nmB s ((ByteArray.size s) - (Int.toNat (IntKind.wrap .i64 (i + (1 : Int))))) (Int.toNat (IntKind.wrap .i64 (i + (1 : Int)))))
 (some (Out.ex Ex.ret (St.mk [(.bool false)] [] (Hp.mk [] 48 []))))
 (some (Out.ex (Ex.exit 0) (St.mk [] [] (Hp.mk [] 48 [])))))
 (none))
 (none))
 (none))
 (cond (not (decide ((getByte s (Int.toNat i)) = (45 : Int))))
 (some (Out.ex Ex.ret (St.mk [(.bool false)] [] (Hp.mk [] 48 []))))
 (cond (Nat.blt (Nat.sub (ByteArray.size s) (Int.toNat (IntKind.wrap .i64 (i + (1 : Int))))) M)
 (cond (eqCode (theLoop Try.prog 23 0) (theLoop Try.prog 23 0))
 (cond (okN s (IntKind.wrap .i64 (i + (1 : Int))) (0 : Int))
 (cond (nmB s ((ByteArray.size s) - (Int.toNat (IntKind.wrap .i64 (i + (1 : Int))))) (Int.toNat (IntKind.wrap .i64 (i + (1 : Int)))))
 (some (Out.ex Ex.ret (St.mk [(.bool false)] [] (Hp.mk [] 48 []))))
 (some (Out.ex (Ex.exit 0) (St.mk [] [] (Hp.mk [] 48 [])))))
 (none))
 (none))
 (none))))
 (cond (not (decide ((getByte s (Int.toNat i)) = (45 : Int))))
 (some (Out.ex Ex.ret (St.mk [(.bool false)] [] (Hp.mk [] 48 []))))
 (cond (Nat.blt (Nat.sub (ByteArray.size s) (Int.toNat (IntKind.wrap .i64 (i + (1 : Int))))) M)
 (cond (eqCode (theLoop Try.prog 23 0) (theLoop Try.prog 23 0))
 (cond (okN s (IntKind.wrap .i64 (i + (1 : Int))) (0 : Int))
 (cond (nmB s ((ByteArray.size s) - (Int.toNat (IntKind.wrap .i64 (i + (1 : Int))))) (Int.toNat (IntKind.wrap .i64 (i + (1 : Int)))))
 (some (Out.ex Ex.ret (St.mk [(.bool false)] [] (Hp.mk [] 48 []))))
 (some (Out.ex (Ex.exit 0) (St.mk [] [] (Hp.mk [] 48 [])))))
 (none))
 (none))
 (none))))))
 (none))
 (some (Out.ex (Ex.exit 0) (St.mk [] [] (Hp.mk [] 48 [])))) := by kernel_rfl
theorem tree22c (J : Task → List Value) (s : ByteArray) :
    evC Try.prog (sh22.ans J).c 60 (.call 22 ⟨[.string s]⟩ ⟨[], 0, []⟩) some =
    cond (decide ((Int.ofNat (ByteArray.size s)) < (1 : Int)))
 (some (Out.ret (.bool false) (Hp.mk [] 0 [])))
 (cond (decide ((24 : Int) < (Int.ofNat (ByteArray.size s))))
 (some (Out.ret (.bool false) (Hp.mk [] 0 [])))
 (cond (and true (decide ((0 : Int) < (Int.ofNat (ByteArray.size s)))))
 (cond (decide ((97 : Int) ≤ (getByte s 0)))
 (cond (not (decide ((getByte s 0) ≤ (122 : Int))))
 (some (Out.ret (.bool false) (Hp.mk [] 0 [])))
 (cond (eqCode (theLoop Try.prog 22 0) (theLoop Try.prog 22 0))
 (cond (okN s (1 : Int) (1 : Int))
 (cond (nmB s ((ByteArray.size s) - 1) 1)
 (some (Out.ret (.bool false) (Hp.mk [] 0 [])))
 (some (Out.ret (.bool true) (Hp.mk [] 0 []))))
 (none))
 (none)))
 (some (Out.ret (.bool false) (Hp.mk [] 0 []))))
 (none))) := by kernel_rfl
theorem tree23c (J : Task → List Value) (s : ByteArray) :
    evC Try.prog (sh23.ans J).c 60 (.call 23 ⟨[.string s]⟩ ⟨[], 0, []⟩) some =
    cond (decide ((Int.ofNat (ByteArray.size s)) < (1 : Int)))
 (some (Out.ret (.bool false) (Hp.mk [] 0 [])))
 (cond (decide ((24 : Int) < (Int.ofNat (ByteArray.size s))))
 (some (Out.ret (.bool false) (Hp.mk [] 0 [])))
 (cond (eqCode (theLoop Try.prog 23 0) (theLoop Try.prog 23 0))
 (cond (okN s (0 : Int) (0 : Int))
 (cond (nmB s ((ByteArray.size s) - 0) 0)
 (some (Out.ret (.bool false) (Hp.mk [] 0 [])))
 (some (Out.ret (.bool true) (Hp.mk [] 0 []))))
 (none))
 (none))) := by kernel_rfl
theorem known22 : ∃ J, Known Try.prog (sh22.ans J) := by
  refine Known.junk (Known.nothing _) mes22 sh22 ?_
  intro J t f hs hkn
  unfold sh22 at hs
  split at hs
  case h_2 => cases hs
  rename_i code t G
  split at hs
  case h_2 => cases hs
  rename_i s i er e0 e3
  simp only [Option.some.injEq] at hs
  subst hs
  refine ex_guard fun h1 => ex_guard fun h2 => ex_guard fun h3 => ?_
  obtain rfl := eqCode_eq h1
  have hl : t.length = 40 := Nat.eq_of_beq_eq_true h2
  obtain ⟨hn, hlo⟩ := dec_iff.1 h3
  obtain ⟨i, rfl⟩ := Int.eq_ofNat_of_zero_le (show 0 ≤ i by omega)
  have use := fun e' vs hev he hvs => hkn.loopLeaf (G := G) noNG mixed (n := 60) (N0 := 40) (N := 40) (live := [(0, .string s), (3, .int .i64 (Int.ofNat i))])
    (H0 := []) (H1 := []) (pick := pick22) (e := e') (vs := vs)
    (base := 0) (wr := []) (wr1 := []) (c := theLoop Try.prog 22 0) (t := t) hev hl (by
      intro kv hm
      simp only [List.mem_cons, List.not_mem_nil, or_false] at hm
      rcases hm with rfl | rfl
      · exact ⟨e0, rfl, rfl⟩
      · exact ⟨e3, rfl, rfl⟩) (Nat.le_refl 0) rfl .nil he hvs
  simp only [List.length_nil, List.nil_append] at use
  rw [tree22] at use
  simp only [Int.ofNat_eq_natCast, Int.toNat_natCast] at use ⊢
  by_cases hin : (i : Int) < s.size
  · obtain ⟨m, hm⟩ : ∃ m, s.size - i = m + 1 := ⟨s.size - i - 1, by omega⟩
    have hw : IntKind.i64.wrap ((i : Int) + 1) = ((i + 1 : Nat) : Int) := by rw [wrap64_id (by omega) (by omega)]; rfl
    rw [hm]
    have hm' : s.size - (i + 1) = m := by omega
    have hme : (s.size.sub (i + 1)).blt (mes22 (.code none (.loop (theLoop Try.prog 22 0)) ⟨t, [], ⟨G, 0, []⟩⟩)) = true := by
      simp only [mes22, e0, e3, Nat.blt_eq, Int.toNat_natCast]
      show s.size - (i + 1) < s.size - i
      omega
    have hok : okN s ↑(i + 1) 1 = true := dec_iff.2 ⟨hn, by omega⟩
    simp only [hw, Int.toNat_natCast, hm', hin, decide_true, cond_true, Bool.true_and, Bool.and_self, Int.natCast_nonneg, eqCode_self, hme, hok] at use
    cases hp : nmP s i with
    | true =>
      have e1 : nmB s (m + 1) i = true := by simp [nmB, fst_hit hp]
      rw [e1]
      refine use .ret [.bool false] ?_ rfl rfl
      revert hp
      unfold nmP
      simp only [cond_eq_ite, Bool.not_eq_true', Bool.and_eq_true, decide_eq_true_eq, decide_eq_false_iff_not]
      grind
    | false =>
      have e1 : nmB s (m + 1) i = nmB s m (i + 1) := by simp [nmB, fst_miss hp]
      rw [e1]
      cases hb : nmB s m (i + 1) with
      | true =>
        rw [hb] at use
        refine use .ret [.bool false] ?_ rfl rfl
        revert hp
        unfold nmP
        simp only [cond_eq_ite, Bool.not_eq_true', decide_eq_true_eq, decide_eq_false_iff_not]
        grind
      | false =>
        rw [hb] at use
        refine use (.exit 0) [] ?_ rfl rfl
        revert hp
        unfold nmP
        simp only [cond_eq_ite, Bool.not_eq_true', decide_eq_true_eq, decide_eq_false_iff_not]
        grind
  · have h0 : s.size - i = 0 := by omega
    have e1 : nmB s (s.size - i) i = false := by rw [h0]; rfl
    rw [e1]
    refine use (.exit 0) [] ?_ rfl rfl
    simp only [hin, decide_false, cond_false]
theorem known23 : ∃ J, Known Try.prog (sh23.ans J) := by
  refine Known.junk (Known.nothing _) mes22 sh23 ?_
  intro J t f hs hkn
  unfold sh23 at hs
  split at hs
  case h_2 => cases hs
  rename_i code t G
  split at hs
  case h_2 => cases hs
  rename_i s i er e0 e3
  simp only [Option.some.injEq] at hs
  subst hs
  refine ex_guard fun h1 => ex_guard fun h2 => ex_guard fun h3 => ?_
  obtain rfl := eqCode_eq h1
  have hl : t.length = 48 := Nat.eq_of_beq_eq_true h2
  obtain ⟨hn, hlo⟩ := dec_iff.1 h3
  obtain ⟨i, rfl⟩ := Int.eq_ofNat_of_zero_le (show 0 ≤ i by omega)
  have use := fun e' vs hev he hvs => hkn.loopLeaf (G := G) noNG mixed (n := 60) (N0 := 48) (N := 48) (live := [(0, .string s), (3, .int .i64 (Int.ofNat i))])
    (H0 := []) (H1 := []) (pick := pick22) (e := e') (vs := vs)
    (base := 0) (wr := []) (wr1 := []) (c := theLoop Try.prog 23 0) (t := t) hev hl (by
      intro kv hm
      simp only [List.mem_cons, List.not_mem_nil, or_false] at hm
      rcases hm with rfl | rfl
      · exact ⟨e0, rfl, rfl⟩
      · exact ⟨e3, rfl, rfl⟩) (Nat.le_refl 0) rfl .nil he hvs
  simp only [List.length_nil, List.nil_append] at use
  rw [tree23] at use
  simp only [Int.ofNat_eq_natCast, Int.toNat_natCast] at use ⊢
  by_cases hin : (i : Int) < s.size
  · obtain ⟨m, hm⟩ : ∃ m, s.size - i = m + 1 := ⟨s.size - i - 1, by omega⟩
    have hw : IntKind.i64.wrap ((i : Int) + 1) = ((i + 1 : Nat) : Int) := by rw [wrap64_id (by omega) (by omega)]; rfl
    rw [hm]
    have hm' : s.size - (i + 1) = m := by omega
    have hme : (s.size.sub (i + 1)).blt (mes22 (.code none (.loop (theLoop Try.prog 23 0)) ⟨t, [], ⟨G, 0, []⟩⟩)) = true := by
      simp only [mes22, e0, e3, Nat.blt_eq, Int.toNat_natCast]
      show s.size - (i + 1) < s.size - i
      omega
    have hok : okN s ↑(i + 1) 0 = true := dec_iff.2 ⟨hn, by omega⟩
    simp only [hw, Int.toNat_natCast, hm', hin, decide_true, cond_true, Bool.true_and, Bool.and_self, Int.natCast_nonneg, eqCode_self, hme, hok] at use
    cases hp : nmP s i with
    | true =>
      have e1 : nmB s (m + 1) i = true := by simp [nmB, fst_hit hp]
      rw [e1]
      refine use .ret [.bool false] ?_ rfl rfl
      revert hp
      unfold nmP
      simp only [cond_eq_ite, Bool.not_eq_true', Bool.and_eq_true, decide_eq_true_eq, decide_eq_false_iff_not]
      grind
    | false =>
      have e1 : nmB s (m + 1) i = nmB s m (i + 1) := by simp [nmB, fst_miss hp]
      rw [e1]
      cases hb : nmB s m (i + 1) with
      | true =>
        rw [hb] at use
        refine use .ret [.bool false] ?_ rfl rfl
        revert hp
        unfold nmP
        simp only [cond_eq_ite, Bool.not_eq_true', decide_eq_true_eq, decide_eq_false_iff_not]
        grind
      | false =>
        rw [hb] at use
        refine use (.exit 0) [] ?_ rfl rfl
        revert hp
        unfold nmP
        simp only [cond_eq_ite, Bool.not_eq_true', decide_eq_true_eq, decide_eq_false_iff_not]
        grind
  · have h0 : s.size - i = 0 := by omega
    have e1 : nmB s (s.size - i) i = false := by rw [h0]; rfl
    rw [e1]
    refine use (.exit 0) [] ?_ rfl rfl
    simp only [hin, decide_false, cond_false]
theorem known22c : Known Try.prog (p22 22) := by
  obtain ⟨J, hJ⟩ := known22
  intro t xx o h ho
  unfold p22 at h
  split at h
  case h_2 => cases h
  rename_i g s hp
  split at h
  case h_2 => cases h
  rename_i hg
  obtain rfl := Nat.eq_of_beq_eq_true hg
  simp only [Option.some.injEq] at h
  subst h
  simp only [AT.out, Option.some.injEq] at ho
  subst ho
  refine Fact.frame (args1 := ⟨[.string s]⟩) (H1 := []) (base1 := 0) (fun i => i) (hJ.fact noNG mixed (n := 60) ?_) (Nat.le_refl 0) rfl (fun i ob hi => by simp at hi) (by simp [ren1, ren0]) rfl
  rw [tree22c]
  unfold nm
  by_cases h1 : 1 ≤ s.size
  · by_cases h2 : s.size ≤ 24
    · have a1 : ¬ ((s.size : Int) < 1) := by omega
      have a2 : ¬ ((24 : Int) < s.size) := by omega
      have a3 : (0 : Int) < s.size := by omega
      have k0 : okN s 0 0 = true := dec_iff.2 ⟨h2, by omega⟩
      have k1 : okN s 1 1 = true := dec_iff.2 ⟨h2, by omega⟩
      obtain ⟨m, hm⟩ : ∃ m, s.size = m + 1 := ⟨s.size - 1, by omega⟩
      have hb : nmB s s.size 0 = (nmP s 0 || nmB s (s.size - 1) 1) := by
        rw [hm]
        cases hp : nmP s 0 with
        | true => simp [nmB, fst_hit hp]
        | false => simp [nmB, fst_miss hp]
      simp only [Int.ofNat_eq_natCast, a1, a2, a3, h1, h2, k0, k1, decide_true, decide_false, Bool.true_and, cond_true, cond_false, eqCode_self, Nat.sub_zero]
      first
      | (cases nmB s s.size 0 <;> rfl)
      | (rw [hb]
         unfold nmP
         by_cases c1 : 97 ≤ getByte s 0
         · by_cases c2 : getByte s 0 ≤ 122
           · simp only [c1, c2, decide_true, Bool.not_true, Bool.and_self, Bool.false_and, Bool.false_or, cond_true, cond_false]
             cases nmB s (s.size - 1) 1 <;> rfl
           · simp [c1, c2]
         · simp [c1])
    · have a1 : ¬ ((s.size : Int) < 1) := by omega
      have a2 : (24 : Int) < s.size := by omega
      simp [a1, a2, h1, h2]
  · have a1 : (s.size : Int) < 1 := by omega
    simp [a1, h1]
theorem known23c : Known Try.prog (p22 23) := by
  obtain ⟨J, hJ⟩ := known23
  intro t xx o h ho
  unfold p22 at h
  split at h
  case h_2 => cases h
  rename_i g s hp
  split at h
  case h_2 => cases h
  rename_i hg
  obtain rfl := Nat.eq_of_beq_eq_true hg
  simp only [Option.some.injEq] at h
  subst h
  simp only [AT.out, Option.some.injEq] at ho
  subst ho
  refine Fact.frame (args1 := ⟨[.string s]⟩) (H1 := []) (base1 := 0) (fun i => i) (hJ.fact noNG mixed (n := 60) ?_) (Nat.le_refl 0) rfl (fun i ob hi => by simp at hi) (by simp [ren1, ren0]) rfl
  rw [tree23c]
  unfold nm
  by_cases h1 : 1 ≤ s.size
  · by_cases h2 : s.size ≤ 24
    · have a1 : ¬ ((s.size : Int) < 1) := by omega
      have a2 : ¬ ((24 : Int) < s.size) := by omega
      have a3 : (0 : Int) < s.size := by omega
      have k0 : okN s 0 0 = true := dec_iff.2 ⟨h2, by omega⟩
      have k1 : okN s 1 1 = true := dec_iff.2 ⟨h2, by omega⟩
      obtain ⟨m, hm⟩ : ∃ m, s.size = m + 1 := ⟨s.size - 1, by omega⟩
      have hb : nmB s s.size 0 = (nmP s 0 || nmB s (s.size - 1) 1) := by
        rw [hm]
        cases hp : nmP s 0 with
        | true => simp [nmB, fst_hit hp]
        | false => simp [nmB, fst_miss hp]
      simp only [Int.ofNat_eq_natCast, a1, a2, a3, h1, h2, k0, k1, decide_true, decide_false, Bool.true_and, cond_true, cond_false, eqCode_self, Nat.sub_zero]
      first
      | (cases nmB s s.size 0 <;> rfl)
      | (rw [hb]
         unfold nmP
         by_cases c1 : 97 ≤ getByte s 0
         · by_cases c2 : getByte s 0 ≤ 122
           · simp only [c1, c2, decide_true, Bool.not_true, Bool.and_self, Bool.false_and, Bool.false_or, cond_true, cond_false]
             cases nmB s (s.size - 1) 1 <;> rfl
           · simp [c1, c2]
         · simp [c1])
    · have a1 : ¬ ((s.size : Int) < 1) := by omega
      have a2 : (24 : Int) < s.size := by omega
      simp [a1, a2, h1, h2]
  · have a1 : (s.size : Int) < 1 := by omega
    simp [a1, h1]
end
end Go.Proofs.Ytjdidbnmkogflaa.Old

namespace Go.Gi
open Go.RowKit
noncomputable section
def okLeaf : Leaf → Value → Prop
  | .int q, v => ∃ n, v = .int q n ∧ (Lit.int q n).wf = true
  | .bool, v => ∃ b, v = .bool b
  | .str, v => ∃ s, v = .string s ∧ s.size ≤ maxLen
  | .lst, _ => False
  | .any, _ => False
def offsOk (P : Program) (d : Nat) : Nat → List Field → Bool
  | _, [] => true
  | o, f :: r => ((f.offset == o) && (P.cellsOf f.type == (leaves P false d f.type).length)) && offsOk P d (o + (leaves P false d f.type).length) r
def flatT (P : Program) : Nat → TypeId → Bool
  | 0, _ => false
  | d + 1, t =>
    match P.underlying t with
    | some .bool | some (.int _) | some .string => true
    | some (.struct fs) => ((P.cellsOf t == (leaves P false (d + 1) t).length) && offsOk P d 0 fs.toList) && fs.toList.all fun f => flatT P d f.type
    | _ => false
inductive All2 {α β : Type} (R : α → β → Prop) : List α → List β → Prop
  | nil : All2 R [] []
  | cons {a : α} {b : β} {l : List α} {m : List β} (h : R a b) (r : All2 R l m) : All2 R (a :: l) (b :: m)
theorem All2.append {α β : Type} {R : α → β → Prop} {l l' : List α} {m m' : List β} (h : All2 R l m) (h' : All2 R l' m') : All2 R (l ++ l') (m ++ m') := by
  induction h with
  | nil => exact h'
  | cons h _ ih => exact .cons h ih
theorem All2.len {α β : Type} {R : α → β → Prop} {l : List α} {m : List β} (h : All2 R l m) : m.length = l.length := by
  induction h with
  | nil => rfl
  | cons _ _ ih => simp [ih]
theorem All2.get {α β : Type} {R : α → β → Prop} {l : List α} {m : List β} (h : All2 R l m) : ∀ {j : Nat} {a : α}, l[j]? = some a → ∃ b, m[j]? = some b ∧ R a b := by
  induction h with
  | nil => intro j a h; simp at h
  | cons h _ ih =>
    intro j a hj
    cases j with
    | zero => simp only [List.getElem?_cons_zero, Option.some.injEq] at hj; subst hj; exact ⟨_, rfl, h⟩
    | succ j => simp only [List.getElem?_cons_succ] at hj ⊢; exact ih hj
section
variable {H : Type} {enc : TypeId × Value → H} {P : Program} {w : World} {base : Nat} {spare : Nat → Bool} {held : Bool}
theorem mapM_all {α β : Type} {f : α → Option β} : ∀ {l : List α} {r : List β}, l.mapM f = some r → ∀ a ∈ l, ∃ b, f a = some b
  | [], _, _, a, ha => by simp at ha
  | x :: l, r, h, a, ha => by
    rw [List.mapM_cons] at h
    cases hx : f x with
    | none => rw [hx] at h; cases h
    | some y =>
      rw [hx] at h
      cases hl : l.mapM f with
      | none => rw [hl] at h; cases h
      | some ys =>
        rcases List.mem_cons.1 ha with rfl | ha
        · exact ⟨y, hx⟩
        · exact mapM_all hl a ha
theorem okLeaf_g0 {l : Leaf} {v : Value} (h : okLeaf l v) : g0 v = true := by
  cases l with
  | int q => obtain ⟨n, rfl, _⟩ := h; rfl
  | bool => obtain ⟨b, rfl⟩ := h; rfl
  | str => obtain ⟨s, rfl, _⟩ := h; rfl
  | lst => exact h.elim
  | any => exact h.elim
theorem okLeaf_rd {l : Leaf} {c : Array Value} {i : Nat} {v : Value} (hc : c[i]? = some v) (h : okLeaf l v) : (rdLeaf c l i).1 = true := by
  have hl : lget c.toList i = v := by rw [lget_eq, Array.toArray_toList, Array.getD_eq_getD_getElem?, hc]; rfl
  cases l with
  | int q => obtain ⟨n, rfl, _⟩ := h; simp [rdLeaf, isInt, hl]
  | bool => obtain ⟨b, rfl⟩ := h; simp [rdLeaf, isBool, hl]
  | str => obtain ⟨s, rfl, _⟩ := h; simp [rdLeaf, isStr, hl]
  | lst => exact h.elim
  | any => exact h.elim
theorem rdOk_of {c : Array Value} : ∀ {L : List Leaf} {x : Nat}, (∀ (j : Nat) (l : Leaf), L[j]? = some l → ∃ v, c[x + j]? = some v ∧ okLeaf l v) → rdOk c L x = true
  | [], _, _ => rfl
  | l :: L, x, h => by
    obtain ⟨v, h1, h2⟩ := h 0 l rfl
    simp only [rdOk, Bool.and_eq_true]
    refine ⟨okLeaf_rd h1 h2, rdOk_of fun j l' hj => ?_⟩
    obtain ⟨v', h3, h4⟩ := h (j + 1) l' (by simpa using hj)
    exact ⟨v', by rw [show x + 1 + j = x + (j + 1) by omega]; exact h3, h4⟩
def GoodL (L : List Leaf) (c : Array Value) (off n : Nat) : Prop := c.toList.all g0 = true ∧ ∀ k, k < n → rdOk c L (off + k * L.length) = true
structure SArg (w : World) (L : List Leaf) (b : Nat) (v : Value) (a : Option Addr) (n sz : Nat) (ob : Ob) (x : Option (Nat × Nat × Nat)) : Prop where
  adr : ∀ y, a = some y → y.block = b
  vr : ∀ φ : Phi, (∀ y, x = some y → φ b = some y) → VR φ (.slice a n sz) v
  live : ob.live = true → ∃ B bs tot, x = some (B, bs, tot) ∧ ∀ φ : Phi, ObR φ w ob B bs tot
  ro : ob.rw = false
  good : n = 0 ∨ (a = some ⟨b, 0, none⟩ ∧ sz = L.length ∧ ∃ c, ob = .cells c true ∧ GoodL L c 0 n)
  few : n ≤ maxLen
theorem cell_some {a : Addr} {v : Value} (h : w.cell? a = some v) : a.spot = none ∧ ∃ C el fr, w.heap[a.block]? = some (.cells C el fr) ∧ C[a.off]? = some v := by
  unfold World.cell? at h
  split at h
  · rename_i C el fr hh
    split at h
    · cases h
    · rename_i hs
      exact ⟨by simpa using hs, C, el, fr, hh, h⟩
  · cases h
theorem add_at (B off k : Nat) : (⟨B, off, none⟩ : Addr).add k = ⟨B, off + k, none⟩ := by
  unfold Addr.add
  split <;> simp_all
end
end
end Go.Gi

namespace Go.Proofs.Ytjdidbnmkogflaa.Old
open Go.Gi Go.RowKit
noncomputable section
abbrev L7 : List Leaf := [.str, .int .i64, .int .i64, .int .i64, .int .i64, .int .i64, .int .i64]
abbrev L5 : List Leaf := [.int .i64, .int .i64, .int .i64, .int .i64, .int .i64]
abbrev L1 : List Leaf := [.int .i64]
def sEq (a b : ByteArray) : Bool := a.toList == b.toList
def twP (c : Array Value) (off : Nat) (s : ByteArray) (k : Nat) : Bool := sEq (getStr c (off + k * 7)) s
def twB (c : Array Value) (off : Nat) (s : ByteArray) (m i : Nat) : Bool := (fst (twP c off s) m i).isSome
def okA3 (b c : Option Addr) (n2 z2 n3 z3 : Nat) (rest : List Value) : Bool := dec (sc1 3 (.slice b n2 z2) = true ∧ sc1 3 (.slice c n3 z3) = true ∧ rest.all g0 = true)
def ok64 (off : Nat) (c : Array Value) (n : Nat) (i k : Int) : Bool := dec (GoodL L7 c off n ∧ 0 ≤ i ∧ i < n ∧ 0 ≤ k ∧ n ≤ 20)
def tk (a b c : Value) (age shear : Int) : Array Value := ⟨[a, b, c, .int .i64 age, .int .i64 shear]⟩
def sh64 : Shape
  | .code none (.loop code) ⟨t, [], ⟨.cells c true :: .dead :: .dead :: .cells ⟨[.slice (some ⟨0, off, none⟩) n 7, .slice b n2 z2, .slice d n3 z3, .int .i64 age, .int .i64 shear]⟩ false :: .cells ⟨.string s :: rest⟩ false :: G, 3, []⟩⟩ =>
    match Nat.beq (firstReg code) 5, lget t 1, lget t 2, lget t 5, lget t 6 with
    | true, .int .i64 i, .pointer (some ⟨3, 0, none⟩), .pointer (some ⟨4, 0, none⟩), .int .i64 k => some fun j =>
      .br (eqCode code (theLoop Try.prog 64 0)) (.br (Nat.beq t.length 69) (.br (okA3 b d n2 z2 n3 z3 rest) (.br (ok64 off c n i k)
 (.br (twB c off s (i.toNat - k.toNat) k.toNat)
          (loopEnd 69 .ret [(4, .int .i64 5)] ⟨.cells c true :: .dead :: .dead :: .cells ⟨[.slice (some ⟨0, off, none⟩) n 7, .slice b n2 z2, .slice d n3 z3, .int .i64 age, .int .i64 shear]⟩ false :: .cells ⟨.string s :: rest⟩ false :: G, 3, []⟩ j)
          (loopEnd 69 (.exit 0) [(2, pp 3), (5, pp 4)] ⟨.cells c true :: .dead :: .dead :: .cells ⟨[.slice (some ⟨0, off, none⟩) n 7, .slice b n2 z2, .slice d n3 z3, .int .i64 age, .int .i64 shear]⟩ false :: .cells ⟨.string s :: rest⟩ false :: G, 3, []⟩ j)) .no) .no) .no) .no
    | _, _, _, _, _ => none
  | _ => none
def mes64 : Task → Nat
  | .code _ _ s => match lget s.t 1, lget s.t 6 with
    | .int _ n, .int _ i => Nat.sub n.toNat i.toNat
    | _, _ => 0
  | _ => 0
def pick64 : Ex → List Nat
  | .ret => [4]
  | _ => [2, 5]
def inB (n lo hi : Int) : Bool := decide (lo ≤ n) && decide (n ≤ hi)
def srcE (c : Array Value) (off i : Nat) : Int :=
  if nm (getStr c (off + i * 7)) = false then 6
  else if twB c off (getStr c (off + i * 7)) i 0 = true then 5
  else if inB (getInt c (off + i * 7 + 1)) 1 3 = false then 2
  else if inB (getInt c (off + i * 7 + 2)) 0 5000 = false ∨ inB (getInt c (off + i * 7 + 3)) 0 6000 = false ∨ inB (getInt c (off + i * 7 + 4)) 1 60000 = false ∨ inB (getInt c (off + i * 7 + 5)) 0 99999999 = false ∨
    inB (getInt c (off + i * 7 + 6)) 0 99999999 = false ∨ getInt c (off + i * 7 + 6) < getInt c (off + i * 7 + 5) then 7 else 0
end
end Go.Proofs.Ytjdidbnmkogflaa.Old

namespace Go.Proofs.Ytjdidbnmkogflaa.Old
open Go.Gi Go.RowKit
noncomputable section
set_option maxRecDepth 100000
set_option linter.unusedSimpArgs false
theorem tree64 (J : Task → List Value) (off : Nat) (c : Array Value) (n : Nat) (i k age shear : Int) (b d : Option Addr) (n2 z2 n3 z3 : Nat) (s : ByteArray) (rest : List Value) (M : Nat) (y : List Value) :
    evS Try.prog (((sh64.ans J).below mes64 M).or (fun _ => none)) 60 (.code none (.loop (theLoop Try.prog 64 0)) ⟨sets (junkF 69 y) [(1, .int .i64 i), (2, pp 3), (5, pp 4), (6, .int .i64 k)], [], ⟨[.cells c true, .dead, .dead, .cells ⟨[.slice (some ⟨0, off, none⟩) n 7, .slice b n2 z2, .slice d n3 z3, .int .i64 age, .int .i64 shear]⟩ false, .cells ⟨.string s :: rest⟩ false], 3, []⟩⟩) (sumK 5 69 pick64) =
    cond (decide (k < i))
 (cond (and (decide ((0 : Int) ≤ k)) (decide (k < (Int.ofNat n))))
 (cond (and true (isStr c ((off + ((Int.toNat k) * 7)) + 0)))
 (cond ((ByteArray.toList (getStr c ((off + ((Int.toNat k) * 7)) + 0))) == (ByteArray.toList s))
 (some (Out.ex Ex.ret (St.mk [(.int .i64 (5 : Int))] [] (Hp.mk [(Ob.cells c true), Ob.dead, Ob.dead, (Ob.cells ⟨[(.slice (some (Addr.mk 0 off none)) n 7), (.slice b n2 z2), (.slice d n3 z3), (.int .i64 age), (.int .i64 shear)]⟩ false), (Ob.cells ⟨([(.string s)] ++ rest)⟩ false)] 69 []))))
 (cond (Nat.blt (Nat.sub (Int.toNat i) (Int.toNat (IntKind.wrap .i64 (k + (1 : Int))))) M)
 (cond (eqCode (theLoop Try.prog 64 0) (theLoop Try.prog 64 0))
 (cond (okA3 b d n2 z2 n3 z3 rest)
 (cond (ok64 off c n i (IntKind.wrap .i64 (k + (1 : Int))))
 (cond (twB c off s ((Int.toNat i) - (Int.toNat (IntKind.wrap .i64 (k + (1 : Int))))) (Int.toNat (IntKind.wrap .i64 (k + (1 : Int)))))
 (some (Out.ex Ex.ret (St.mk [(.int .i64 (5 : Int))] [] (Hp.mk [(Ob.cells c true), Ob.dead, Ob.dead, (Ob.cells ⟨[(.slice (some (Addr.mk 0 off none)) n 7), (.slice b n2 z2), (.slice d n3 z3), (.int .i64 age), (.int .i64 shear)]⟩ false), (Ob.cells ⟨([(.string s)] ++ rest)⟩ false)] 69 []))))
 (some (Out.ex (Ex.exit 0) (St.mk [(.pointer (some (Addr.mk 3 0 none))), (.pointer (some (Addr.mk 4 0 none)))] [] (Hp.mk [(Ob.cells c true), Ob.dead, Ob.dead, (Ob.cells ⟨[(.slice (some (Addr.mk 0 off none)) n 7), (.slice b n2 z2), (.slice d n3 z3), (.int .i64 age), (.int .i64 shear)]⟩ false), (Ob.cells ⟨([(.string s)] ++ rest)⟩ false)] 69 [])))))
 (none))
 (none))
 (none))
 (none)))
 (none))
 (none))
 (some (Out.ex (Ex.exit 0) (St.mk [(.pointer (some (Addr.mk 3 0 none))), (.pointer (some (Addr.mk 4 0 none)))] [] (Hp.mk [(Ob.cells c true), Ob.dead, Ob.dead, (Ob.cells ⟨[(.slice (some (Addr.mk 0 off none)) n 7), (.slice b n2 z2), (.slice d n3 z3), (.int .i64 age), (.int .i64 shear)]⟩ false), (Ob.cells ⟨([(.string s)] ++ rest)⟩ false)] 69 [])))) := by kernel_rfl
theorem keptSelf {n : Nat} : ∀ {l : List Ob}, l.all (obSc n) = true → ObsKept n l l
  | [], _ => .nil
  | o :: l, h => by
    simp only [List.all_cons, Bool.and_eq_true] at h
    exact .cons (by cases o <;> simp [obKept, h.1]) (keptSelf h.2)
theorem slice_sc {n m : Nat} {b : Option Addr} {l z : Nat} (h : sc1 n (.slice b l z) = true) (hm : n ≤ m) : sc1 m (.slice b l z) = true := by
  cases b with
  | none => exact h
  | some x =>
    simp only [sc1, sc0, decide_eq_true_eq] at h ⊢
    omega
theorem str_sc (n : Nat) (s : ByteArray) : sc1 n (.string s) = true := rfl
theorem int_sc (n : Nat) (q : IntKind) (k : Int) : sc1 n (.int q k) = true := rfl
theorem at0_sc {n off l z : Nat} (h : 0 < n) : sc1 n (.slice (some ⟨0, off, none⟩) l z) = true := by simp [sc1, sc0, h]
theorem isStr7 {c : Array Value} {x : Nat} (h : rdOk c L7 x = true) : isStr c x = true := by
  simp only [rdOk, rdLeaf, Bool.and_eq_true] at h
  exact h.1
theorem known64 : ∃ J, Known Try.prog (sh64.ans J) := by
  refine Known.junk (Known.nothing _) mes64 sh64 ?_
  intro J t f hs hkn
  unfold sh64 at hs
  split at hs
  case h_2 => cases hs
  rename_i code t c off n b n2 z2 d n3 z3 age shear s rest G
  split at hs
  case h_2 => cases hs
  rename_i i k er e1 e2 e5 e6
  simp only [Option.some.injEq] at hs
  subst hs
  refine ex_guard fun h1 => ex_guard fun h2 => ex_guard fun h4 => ex_guard fun h3 => ?_
  obtain rfl := eqCode_eq h1
  have hl : t.length = 69 := Nat.eq_of_beq_eq_true h2
  obtain ⟨hb1, hd1, hrest⟩ := dec_iff.1 h4
  have hb5 := slice_sc hb1 (show 3 ≤ 5 by decide)
  have hd5 := slice_sc hd1 (show 3 ≤ 5 by decide)
  obtain ⟨hg, hi0, hik, hk0, hn⟩ := dec_iff.1 h3
  obtain ⟨i, rfl⟩ := Int.eq_ofNat_of_zero_le hi0
  obtain ⟨k, rfl⟩ := Int.eq_ofNat_of_zero_le hk0
  have hcs : (c.toList.all (sc1 5)) = true := by have := obSc_g0 (n := 5) (r := true) hg.1; simpa [obSc] using this
  have hrs2 : rest.all (sc1 5) = true := by rw [List.all_eq_true] at hrest ⊢; exact fun x hx => sc1_g0 (hrest x hx)
  have hsc2 : (([.cells c true, .dead, .dead, .cells ⟨[.slice (some ⟨0, off, none⟩) n 7, .slice b n2 z2, .slice d n3 z3, .int .i64 age, .int .i64 shear]⟩ false, .cells ⟨.string s :: rest⟩ false] : List Ob).all (obSc ([.cells c true, .dead, .dead, .cells ⟨[.slice (some ⟨0, off, none⟩) n 7, .slice b n2 z2, .slice d n3 z3, .int .i64 age, .int .i64 shear]⟩ false, .cells ⟨.string s :: rest⟩ false] : List Ob).length)) = true := by simp [obSc, hcs, hrs2, hb5, hd5, str_sc, int_sc, at0_sc]
  have hk2 := keptSelf hsc2
  have use := fun e' vs hev he hvs => hkn.loopLeaf (G := G) noNG mixed (n := 60) (N0 := 69) (N := 69) (live := [(1, .int .i64 (Int.ofNat i)), (2, pp 3), (5, pp 4), (6, .int .i64 (Int.ofNat k))])
    (H0 := [.cells c true, .dead, .dead, .cells ⟨[.slice (some ⟨0, off, none⟩) n 7, .slice b n2 z2, .slice d n3 z3, .int .i64 age, .int .i64 shear]⟩ false, .cells ⟨.string s :: rest⟩ false]) (pick := pick64) (e := e') (vs := vs)
    (base := 3) (wr := []) (wr1 := []) (c := theLoop Try.prog 64 0) (t := t) hev hl (by
      intro kv hm
      simp only [List.mem_cons, List.not_mem_nil, or_false] at hm
      rcases hm with rfl | rfl | rfl | rfl
      · exact ⟨e1, rfl, rfl⟩
      · exact ⟨e2, rfl, rfl⟩
      · exact ⟨e5, rfl, rfl⟩
      · exact ⟨e6, rfl, rfl⟩) (by simp) hsc2 hk2 he hvs
  simp only [List.length_cons, List.length_nil, Nat.zero_add, Nat.reduceAdd] at use
  rw [tree64] at use
  simp only [Int.ofNat_eq_natCast, Int.toNat_natCast] at use ⊢
  by_cases hin : (k : Int) < (i : Int)
  · obtain ⟨m, hm⟩ : ∃ m, i - k = m + 1 := ⟨i - k - 1, by omega⟩
    have hw : IntKind.i64.wrap ((k : Int) + 1) = ((k + 1 : Nat) : Int) := by rw [wrap64_id (by omega) (by omega)]; rfl
    rw [hm]
    have hm' : i - (k + 1) = m := by omega
    have hme : (Nat.sub i (k + 1)).blt (mes64 (.code none (.loop (theLoop Try.prog 64 0)) ⟨t, [], ⟨.cells c true :: .dead :: .dead :: .cells ⟨[.slice (some ⟨0, off, none⟩) n 7, .slice b n2 z2, .slice d n3 z3, .int .i64 age, .int .i64 shear]⟩ false :: .cells ⟨.string s :: rest⟩ false :: G, 3, []⟩⟩)) = true := by
      simp only [mes64, e1, e2, e5, e6, Nat.blt_eq, Int.toNat_natCast]
      show i - (k + 1) < i - k
      omega
    have hok : ok64 off c n i ↑(k + 1) = true := dec_iff.2 ⟨hg, by omega, hik, by omega, hn⟩
    have x0 : isStr c (off + k * 7) = true := isStr7 (hg.2 k (by omega))
    have hkn2 : (k : Int) < n := by omega
    simp only [hw, Int.toNat_natCast, hm', hin, decide_true, cond_true, Bool.true_and, Bool.and_self, Int.natCast_nonneg, eqCode_self, hme, hok, Nat.add_zero, x0, hkn2, h4] at use
    cases hp : twP c off s k with
    | true =>
      have e1 : twB c off s (m + 1) k = true := by simp [twB, fst_hit hp]
      rw [e1]
      refine use .ret [.int .i64 5] ?_ rfl rfl
      revert hp
      unfold twP sEq
      try simp only [Nat.add_zero]
      intro hp; rw [hp]; first | rfl | (simp; done)
    | false =>
      have e1 : twB c off s (m + 1) k = twB c off s m (k + 1) := by simp [twB, fst_miss hp]
      rw [e1]
      cases hb : twB c off s m (k + 1) with
      | true =>
        rw [hb] at use
        refine use .ret [.int .i64 5] ?_ rfl rfl
        revert hp
        unfold twP sEq
        try simp only [Nat.add_zero]
        intro hp; rw [hp]; first | rfl | (simp; done)
      | false =>
        rw [hb] at use
        refine use (.exit 0) [pp 3, pp 4] ?_ rfl rfl
        revert hp
        unfold twP sEq
        try simp only [Nat.add_zero]
        intro hp; rw [hp]; first | rfl | (simp; done)
  · have h0 : i - k = 0 := by omega
    have e1 : twB c off s (i - k) k = false := by rw [h0]; rfl
    rw [e1]
    refine use (.exit 0) [pp 3, pp 4] ?_ rfl rfl
    simp only [hin, decide_false, cond_false]
    try rfl
end
end Go.Proofs.Ytjdidbnmkogflaa.Old

namespace Go.Proofs.Ytjdidbnmkogflaa.Old
open Go.Gi Go.RowKit
noncomputable section
set_option maxRecDepth 100000
set_option linter.unusedSimpArgs false
set_option linter.unusedVariables false
def SliceL (L : List Leaf) (a : Option Addr) (n sz : Nat) (H : List Ob) : Prop := n = 0 ∨ ∃ b off, a = some ⟨b, off, none⟩ ∧ sz = L.length ∧ isCells H b = true ∧ GoodL L (cellsAt H b) off n
def blkOf (a : Option Addr) : Nat := match a with
  | some x => x.block
  | none => 0
def atB (k : Nat) (a : Option Addr) : Option Addr := match a with
  | some x => some ⟨k, x.off, x.spot⟩
  | none => none
theorem atB_ren {ρ : Nat → Nat} {k : Nat} {a : Option Addr} (h : ρ k = blkOf a) : renA ρ (atB k a) = a := by
  cases a with
  | none => rfl
  | some x => obtain ⟨b, o, s⟩ := x; simp only [atB, renA, h]; rfl
def NilOk (a : Option Addr) (l z : Nat) : Prop := a = none → l = 0 ∧ z = 0
theorem atB_sc {n k l z : Nat} {a : Option Addr} (h : k < n) (h0 : NilOk a l z) : sc1 n (.slice (atB k a) l z) = true := by
  cases a with
  | none => obtain ⟨rfl, rfl⟩ := h0 rfl; rfl
  | some x => simp [atB, sc1, sc0, h]
theorem atB_okR {n k l z : Nat} {a : Option Addr} (h : k < n) : okR0 n (.slice (atB k a) l z) = true := by
  cases a with
  | none => rfl
  | some x => simp [atB, okR0, okA, Nat.blt_eq, h]
section
variable {P : Program} {f : FuncId} {args args1 : Array Value} {v : Value} {h : Hp}
def ObAt (o : Ob) (b : Nat) (H : List Ob) : Prop := o = .dead ∨ ∃ c, o = .cells c true ∧ c.toList.all g0 = true ∧ ∃ ro, H[b]? = some (.cells c ro)
theorem frame3 {o0 o1 o2 : Ob} (b0 b1 b2 : Nat) (hf : Fact P (.call f args1 ⟨[o0, o1, o2], 3, []⟩) (.ret v ⟨[o0, o1, o2], 3, []⟩)) (hv : gr v = true) (h0 : ObAt o0 b0 h.bl) (h1 : ObAt o1 b1 h.bl) (h2 : ObAt o2 b2 h.bl)
    (ha : args = args1.map (ren1 fun i => if i = 0 then b0 else if i = 1 then b1 else b2)) (hok : args1.toList.all (okR1 3) = true) : Fact P (.call f args h) (.ret v h) := by
  have key : ∀ {o : Ob} {b : Nat}, ObAt o b h.bl → o = .dead ∨ ∃ c, o = .cells c true ∧ c.toList.all gA = true ∧ ∃ ro, h.bl[b]? = some (.cells c ro) := by
    rintro o b (h | ⟨c, h1, h2, h3⟩)
    · exact .inl h
    · exact .inr ⟨c, h1, all_gA h2, h3⟩
  refine hf.frame (fun i => if i = 0 then b0 else if i = 1 then b1 else b2) (Nat.le_refl 3) hv (fun i ob hi => ?_) ha hok
  cases i with
  | zero => simp only [List.getElem?_cons_zero, Option.some.injEq] at hi; subst hi; exact key h0
  | succ i => cases i with
    | zero => simp only [List.getElem?_cons_succ, List.getElem?_cons_zero, Option.some.injEq] at hi; subst hi; exact key h1
    | succ i => cases i with
      | zero => simp only [List.getElem?_cons_succ, List.getElem?_cons_zero, Option.some.injEq] at hi; subst hi; exact key h2
      | succ i => simp at hi
end
theorem cond_hd {α : Type} {b : Bool} {x y z : α} (h1 : b = true → x = z) (h2 : b = false → y = z) : cond b x y = z := by
  cases b with
  | true => exact h1 rfl
  | false => exact h2 rfl
def c64 (a b d : Option Addr) (n z n2 z2 n3 z3 : Nat) (i : Int) (H : List Ob) : Bool := dec (SliceL L7 a n z H ∧ 0 ≤ i ∧ i < n ∧ n ≤ 20 ∧ NilOk b n2 z2 ∧ NilOk d n3 z3)
def p64 : Ans
  | .call 64 ⟨[.agg ⟨[.slice a n z, .slice b n2 z2, .slice d n3 z3, .int .i64 age, .int .i64 shear]⟩, .int .i64 i]⟩ h =>
    some (.br (c64 a b d n z n2 z2 n3 z3 i h.bl) (.leaf (.ret (.int .i64 (srcE (arrOf a h.bl) (offOf a) i.toNat)) h)) .no)
  | _ => none
theorem tree64c (J : Task → List Value) (off : Nat) (c : Array Value) (n : Nat) (i age shear : Int) (b d : Option Addr) (n2 z2 n3 z3 : Nat) :
    evC Try.prog ((sh64.ans J).or (p22 23)).c 60 (.call 64 ⟨[.agg ⟨[.slice (some ⟨0, off, none⟩) n 7, .slice b n2 z2, .slice d n3 z3, .int .i64 age, .int .i64 shear]⟩, .int .i64 i]⟩ ⟨[.cells c true, .dead, .dead], 3, []⟩) some =
    cond (and (decide ((0 : Int) ≤ i)) (decide (i < (Int.ofNat n))))
 (cond (and true (rdOk c [Leaf.str, (Leaf.int .i64), (Leaf.int .i64), (Leaf.int .i64), (Leaf.int .i64), (Leaf.int .i64), (Leaf.int .i64)] (off + ((Int.toNat i) * 7))))
 (cond (not (nm (getStr c (off + ((Int.toNat i) * 7)))))
 (some (Out.ret (.int .i64 (6 : Int)) (Hp.mk [(Ob.cells c true), Ob.dead, Ob.dead] 3 [])))
 (cond (eqCode (theLoop Try.prog 64 0) (theLoop Try.prog 64 0))
 (cond (okA3 b d n2 z2 n3 z3 [(.int .i64 (getInt c ((off + ((Int.toNat i) * 7)) + 1))), (.int .i64 (getInt c (((off + ((Int.toNat i) * 7)) + 1) + 1))), (.int .i64 (getInt c ((((off + ((Int.toNat i) * 7)) + 1) + 1) + 1))), (.int .i64 (getInt c (((((off + ((Int.toNat i) * 7)) + 1) + 1) + 1) + 1))), (.int .i64 (getInt c ((((((off + ((Int.toNat i) * 7)) + 1) + 1) + 1) + 1) + 1))), (.int .i64 (getInt c (((((((off + ((Int.toNat i) * 7)) + 1) + 1) + 1) + 1) + 1) + 1)))])
 (cond (ok64 off c n i (0 : Int))
 (cond (twB c off (getStr c (off + ((Int.toNat i) * 7))) ((Int.toNat i) - 0) 0)
 (some (Out.ret (.int .i64 (5 : Int)) (Hp.mk [(Ob.cells c true), Ob.dead, Ob.dead] 3 [])))
 (cond (decide ((1 : Int) ≤ (getInt c ((off + ((Int.toNat i) * 7)) + 1))))
 (cond (not (decide ((getInt c ((off + ((Int.toNat i) * 7)) + 1)) ≤ (3 : Int))))
 (some (Out.ret (.int .i64 (2 : Int)) (Hp.mk [(Ob.cells c true), Ob.dead, Ob.dead] 3 [])))
 (cond (decide ((0 : Int) ≤ (getInt c (((off + ((Int.toNat i) * 7)) + 1) + 1))))
 (cond (not (decide ((getInt c (((off + ((Int.toNat i) * 7)) + 1) + 1)) ≤ (5000 : Int))))
 (some (Out.ret (.int .i64 (7 : Int)) (Hp.mk [(Ob.cells c true), Ob.dead, Ob.dead] 3 [])))
 (cond (decide ((0 : Int) ≤ (getInt c ((((off + ((Int.toNat i) * 7)) + 1) + 1) + 1))))
 (cond (not (decide ((getInt c ((((off + ((Int.toNat i) * 7)) + 1) + 1) + 1)) ≤ (6000 : Int))))
 (some (Out.ret (.int .i64 (7 : Int)) (Hp.mk [(Ob.cells c true), Ob.dead, Ob.dead] 3 [])))
 (cond (decide ((1 : Int) ≤ (getInt c (((((off + ((Int.toNat i) * 7)) + 1) + 1) + 1) + 1))))
 (cond (not (decide ((getInt c (((((off + ((Int.toNat i) * 7)) + 1) + 1) + 1) + 1)) ≤ (60000 : Int))))
 (some (Out.ret (.int .i64 (7 : Int)) (Hp.mk [(Ob.cells c true), Ob.dead, Ob.dead] 3 [])))
 (cond (decide ((0 : Int) ≤ (getInt c ((((((off + ((Int.toNat i) * 7)) + 1) + 1) + 1) + 1) + 1))))
 (cond (not (decide ((getInt c ((((((off + ((Int.toNat i) * 7)) + 1) + 1) + 1) + 1) + 1)) ≤ (99999999 : Int))))
 (some (Out.ret (.int .i64 (7 : Int)) (Hp.mk [(Ob.cells c true), Ob.dead, Ob.dead] 3 [])))
 (cond (decide ((0 : Int) ≤ (getInt c (((((((off + ((Int.toNat i) * 7)) + 1) + 1) + 1) + 1) + 1) + 1))))
 (cond (not (decide ((getInt c (((((((off + ((Int.toNat i) * 7)) + 1) + 1) + 1) + 1) + 1) + 1)) ≤ (99999999 : Int))))
 (some (Out.ret (.int .i64 (7 : Int)) (Hp.mk [(Ob.cells c true), Ob.dead, Ob.dead] 3 [])))
 (cond (decide ((getInt c (((((((off + ((Int.toNat i) * 7)) + 1) + 1) + 1) + 1) + 1) + 1)) < (getInt c ((((((off + ((Int.toNat i) * 7)) + 1) + 1) + 1) + 1) + 1))))
 (some (Out.ret (.int .i64 (7 : Int)) (Hp.mk [(Ob.cells c true), Ob.dead, Ob.dead] 3 [])))
 (some (Out.ret (.int .i64 (0 : Int)) (Hp.mk [(Ob.cells c true), Ob.dead, Ob.dead] 3 [])))))
 (some (Out.ret (.int .i64 (7 : Int)) (Hp.mk [(Ob.cells c true), Ob.dead, Ob.dead] 3 [])))))
 (some (Out.ret (.int .i64 (7 : Int)) (Hp.mk [(Ob.cells c true), Ob.dead, Ob.dead] 3 [])))))
 (some (Out.ret (.int .i64 (7 : Int)) (Hp.mk [(Ob.cells c true), Ob.dead, Ob.dead] 3 [])))))
 (some (Out.ret (.int .i64 (7 : Int)) (Hp.mk [(Ob.cells c true), Ob.dead, Ob.dead] 3 [])))))
 (some (Out.ret (.int .i64 (7 : Int)) (Hp.mk [(Ob.cells c true), Ob.dead, Ob.dead] 3 [])))))
 (some (Out.ret (.int .i64 (2 : Int)) (Hp.mk [(Ob.cells c true), Ob.dead, Ob.dead] 3 [])))))
 (none))
 (none))
 (none)))
 (none))
 (none) := by kernel_rfl
theorem known64c : Known Try.prog p64 := by
  obtain ⟨J, hJ⟩ := known64
  have hK := hJ.or known23c
  intro t xx o h ho
  unfold p64 at h
  split at h
  case h_2 => cases h
  rename_i a n z b n2 z2 d n3 z3 age shear i hp
  simp only [Option.some.injEq] at h
  subst h
  simp only [AT.out] at ho
  obtain ⟨hok, ho⟩ := cond_some ho
  simp only [Option.some.injEq] at ho
  subst ho
  obtain ⟨hs, hi0, hin, hn, hb, hd⟩ := dec_iff.1 hok
  rcases hs with rfl | ⟨b0, off, rfl, rfl, hc, hgood⟩
  · omega
  obtain ⟨i, rfl⟩ := Int.eq_ofNat_of_zero_le hi0
  refine frame3 (args1 := ⟨[.agg ⟨[.slice (some ⟨0, off, none⟩) n 7, .slice (atB 1 b) n2 z2, .slice (atB 2 d) n3 z3, .int .i64 age, .int .i64 shear]⟩, .int .i64 i]⟩) b0 (blkOf b) (blkOf d) (hK.fact noNG mixed (n := 60) ?_) rfl
    (.inr ⟨_, rfl, hgood.1, cells_ok hc⟩) (.inl rfl) (.inl rfl) ?_ ?_
  · rw [tree64c]
    have hkn : (i : Int) < n := hin
    have k1 : okA3 (atB 1 b) (atB 2 d) n2 z2 n3 z3 = fun rest => dec (rest.all g0 = true) := by
      funext rest; simp [okA3, atB_sc, hb, hd]
    have k2 : ok64 off (cellsAt hp.bl b0) n i 0 = true := dec_iff.2 ⟨hgood, by omega, by omega, by omega, hn⟩
    have k3 := hgood.2 i (by omega)
    simp only [show L7.length = 7 from rfl] at k3
    simp only [Int.ofNat_eq_natCast, Int.toNat_natCast, Int.natCast_nonneg, hkn, decide_true, Bool.and_self, Bool.true_and, cond_true, k1, k2, k3, eqCode_self, Nat.sub_zero, arrOf, offOf, srcE, inB]
    rw [show List.all _ g0 = true from rfl]
    simp only [dec_iff.2 trivial, Nat.add_assoc, Nat.reduceAdd, Nat.add_zero]
    clear ho hok hgood k1 k2 k3 hc hK hJ hb hd
    repeat' refine cond_hd (fun _ => ?_) (fun _ => ?_)
    all_goals first | (simp_all; done) | grind
  · simp only [List.map_toArray, List.map_cons, List.map_nil, ren1, ren0]
    rw [atB_ren (by simp), atB_ren (by simp)]; rfl
  · have e1 : okR0 3 (.slice (atB 1 b) n2 z2) = true := atB_okR (by decide)
    have e2 : okR0 3 (.slice (atB 2 d) n3 z3) = true := atB_okR (by decide)
    simp only [List.all_cons, List.all_nil, okR1, e1, e2]; rfl
end
end Go.Proofs.Ytjdidbnmkogflaa.Old

namespace Go.Proofs.Ytjdidbnmkogflaa.Old
open Go.Gi Go.RowKit
noncomputable section
def sdP (c : Array Value) (off : Nat) (x0 x1 x2 : Int) (k : Nat) : Bool :=
  decide (getInt c (off + k * 5) = x0) && (decide (getInt c (off + k * 5 + 1) = x1) && decide (getInt c (off + k * 5 + 2) = x2))
def sdB (c : Array Value) (off : Nat) (x0 x1 x2 : Int) (m k : Nat) : Bool := (fst (sdP c off x0 x1 x2) m k).isSome
def lastS (c : Array Value) (off : Nat) (x0 : Int) : Nat → Nat → Int → Int
  | 0, _, l => l
  | m + 1, k, l => lastS c off x0 m (k + 1) (if getInt c (off + k * 5) = x0 then k else l)
def okB65 (a d : Option Addr) (n z n3 z3 : Nat) (s c0 : Array Value) : Bool := dec (sc1 3 (.slice a n z) = true ∧ sc1 3 (.slice d n3 z3) = true ∧ s.toList.all g0 = true ∧ c0.toList.all g0 = true)
def ok65 (off : Nat) (c : Array Value) (n : Nat) (i k : Int) : Bool := dec (GoodL L5 c off n ∧ 0 ≤ i ∧ i < n ∧ 0 ≤ k ∧ n ≤ 60)
def sh65 : Shape
  | .code none (.loop code) ⟨t, [], ⟨.cells c0 true :: .cells c true :: .dead :: .cells ⟨[.slice a n z, .slice (some ⟨1, off, none⟩) n2 5, .slice d n3 z3, .int .i64 age, .int .i64 shear]⟩ false :: .cells ⟨[.int .i64 x0, .int .i64 x1, .int .i64 x2, .int .i64 x3, .int .i64 x4]⟩ false :: .cells s false :: G, 3, []⟩⟩ =>
    match Nat.beq (firstReg code) 9, lget t 1, lget t 2, lget t 5, lget t 6, lget t 7, lget t 8 with
    | true, .int .i64 i, .pointer (some ⟨3, 0, none⟩), .pointer (some ⟨4, 0, none⟩), .pointer (some ⟨5, 0, none⟩), .int .i64 l, .int .i64 k => some fun j =>
      .br (eqCode code (theLoop Try.prog 65 0)) (.br (Nat.beq t.length 119) (.br (okB65 a d n z n3 z3 s c0) (.br (ok65 off c n2 i k)
 (.br (sdB c off x0 x1 x2 (i.toNat - k.toNat) k.toNat)
          (loopEnd 119 .ret [(4, .int .i64 5)] ⟨.cells c0 true :: .cells c true :: .dead :: .cells ⟨[.slice a n z, .slice (some ⟨1, off, none⟩) n2 5, .slice d n3 z3, .int .i64 age, .int .i64 shear]⟩ false :: .cells ⟨[.int .i64 x0, .int .i64 x1, .int .i64 x2, .int .i64 x3, .int .i64 x4]⟩ false :: .cells s false :: G, 3, []⟩ j)
          (loopEnd 119 (.exit 0) [(2, pp 3), (5, pp 4), (6, pp 5), (7, .int .i64 (lastS c off x0 (i.toNat - k.toNat) k.toNat l))] ⟨.cells c0 true :: .cells c true :: .dead :: .cells ⟨[.slice a n z, .slice (some ⟨1, off, none⟩) n2 5, .slice d n3 z3, .int .i64 age, .int .i64 shear]⟩ false :: .cells ⟨[.int .i64 x0, .int .i64 x1, .int .i64 x2, .int .i64 x3, .int .i64 x4]⟩ false :: .cells s false :: G, 3, []⟩ j)) .no) .no) .no) .no
    | _, _, _, _, _, _, _ => none
  | _ => none
def mes65 : Task → Nat
  | .code _ _ s => match lget s.t 1, lget s.t 8 with
    | .int _ n, .int _ i => Nat.sub n.toNat i.toNat
    | _, _ => 0
  | _ => 0
def pick65 : Ex → List Nat
  | .ret => [4]
  | _ => [2, 5, 6, 7]
end
end Go.Proofs.Ytjdidbnmkogflaa.Old

namespace Go.Proofs.Ytjdidbnmkogflaa.Old
open Go.Gi Go.RowKit
noncomputable section
set_option maxRecDepth 100000
set_option linter.unusedSimpArgs false
theorem tree65 (J : Task → List Value) (off : Nat) (c0 c s : Array Value) (n n2 : Nat) (i k l x0 x1 x2 x3 x4 age shear : Int) (a d : Option Addr) (z n3 z3 : Nat) (M : Nat) (y : List Value) :
    evS Try.prog (((sh65.ans J).below mes65 M).or (fun _ => none)) 60 (.code none (.loop (theLoop Try.prog 65 0)) ⟨sets (junkF 119 y) [(1, .int .i64 i), (2, pp 3), (5, pp 4), (6, pp 5), (7, .int .i64 l), (8, .int .i64 k)], [], ⟨[.cells c0 true, .cells c true, .dead, .cells ⟨[.slice a n z, .slice (some ⟨1, off, none⟩) n2 5, .slice d n3 z3, .int .i64 age, .int .i64 shear]⟩ false, .cells ⟨[.int .i64 x0, .int .i64 x1, .int .i64 x2, .int .i64 x3, .int .i64 x4]⟩ false, .cells s false], 3, []⟩⟩) (sumK 6 119 pick65) =
    cond (decide (k < i))
 (cond (and (decide ((0 : Int) ≤ k)) (decide (k < (Int.ofNat n2))))
 (cond (and true (rdOk c [(Leaf.int .i64), (Leaf.int .i64), (Leaf.int .i64), (Leaf.int .i64), (Leaf.int .i64)] (off + ((Int.toNat k) * 5))))
 (cond (decide ((getInt c (off + ((Int.toNat k) * 5))) = x0))
 (cond (decide ((getInt c ((off + ((Int.toNat k) * 5)) + 1)) = x1))
 (cond (decide ((getInt c (((off + ((Int.toNat k) * 5)) + 1) + 1)) = x2))
 (some (Out.ex Ex.ret (St.mk [(.int .i64 (5 : Int))] [] (Hp.mk [(Ob.cells c0 true), (Ob.cells c true), Ob.dead, (Ob.cells ⟨[(.slice a n z), (.slice (some (Addr.mk 1 off none)) n2 5), (.slice d n3 z3), (.int .i64 age), (.int .i64 shear)]⟩ false), (Ob.cells ⟨[(.int .i64 x0), (.int .i64 x1), (.int .i64 x2), (.int .i64 x3), (.int .i64 x4)]⟩ false), (Ob.cells s false)] 119 []))))
 (cond (decide ((getInt c (off + ((Int.toNat k) * 5))) = x0))
 (cond (Nat.blt (Nat.sub (Int.toNat i) (Int.toNat (IntKind.wrap .i64 (k + (1 : Int))))) M)
 (cond (eqCode (theLoop Try.prog 65 0) (theLoop Try.prog 65 0))
 (cond (okB65 a d n z n3 z3 s c0)
 (cond (ok65 off c n2 i (IntKind.wrap .i64 (k + (1 : Int))))
 (cond (sdB c off x0 x1 x2 ((Int.toNat i) - (Int.toNat (IntKind.wrap .i64 (k + (1 : Int))))) (Int.toNat (IntKind.wrap .i64 (k + (1 : Int)))))
 (some (Out.ex Ex.ret (St.mk [(.int .i64 (5 : Int))] [] (Hp.mk [(Ob.cells c0 true), (Ob.cells c true), Ob.dead, (Ob.cells ⟨[(.slice a n z), (.slice (some (Addr.mk 1 off none)) n2 5), (.slice d n3 z3), (.int .i64 age), (.int .i64 shear)]⟩ false), (Ob.cells ⟨[(.int .i64 x0), (.int .i64 x1), (.int .i64 x2), (.int .i64 x3), (.int .i64 x4)]⟩ false), (Ob.cells s false)] 119 []))))
 (some (Out.ex (Ex.exit 0) (St.mk [(.pointer (some (Addr.mk 3 0 none))), (.pointer (some (Addr.mk 4 0 none))), (.pointer (some (Addr.mk 5 0 none))), (.int .i64 (lastS c off x0 ((Int.toNat i) - (Int.toNat (IntKind.wrap .i64 (k + (1 : Int))))) (Int.toNat (IntKind.wrap .i64 (k + (1 : Int)))) k))] [] (Hp.mk [(Ob.cells c0 true), (Ob.cells c true), Ob.dead, (Ob.cells ⟨[(.slice a n z), (.slice (some (Addr.mk 1 off none)) n2 5), (.slice d n3 z3), (.int .i64 age), (.int .i64 shear)]⟩ false), (Ob.cells ⟨[(.int .i64 x0), (.int .i64 x1), (.int .i64 x2), (.int .i64 x3), (.int .i64 x4)]⟩ false), (Ob.cells s false)] 119 [])))))
 (none))
 (none))
 (none))
 (none))
 (cond (Nat.blt (Nat.sub (Int.toNat i) (Int.toNat (IntKind.wrap .i64 (k + (1 : Int))))) M)
 (cond (eqCode (theLoop Try.prog 65 0) (theLoop Try.prog 65 0))
 (cond (okB65 a d n z n3 z3 s c0)
 (cond (ok65 off c n2 i (IntKind.wrap .i64 (k + (1 : Int))))
 (cond (sdB c off x0 x1 x2 ((Int.toNat i) - (Int.toNat (IntKind.wrap .i64 (k + (1 : Int))))) (Int.toNat (IntKind.wrap .i64 (k + (1 : Int)))))
 (some (Out.ex Ex.ret (St.mk [(.int .i64 (5 : Int))] [] (Hp.mk [(Ob.cells c0 true), (Ob.cells c true), Ob.dead, (Ob.cells ⟨[(.slice a n z), (.slice (some (Addr.mk 1 off none)) n2 5), (.slice d n3 z3), (.int .i64 age), (.int .i64 shear)]⟩ false), (Ob.cells ⟨[(.int .i64 x0), (.int .i64 x1), (.int .i64 x2), (.int .i64 x3), (.int .i64 x4)]⟩ false), (Ob.cells s false)] 119 []))))
 (some (Out.ex (Ex.exit 0) (St.mk [(.pointer (some (Addr.mk 3 0 none))), (.pointer (some (Addr.mk 4 0 none))), (.pointer (some (Addr.mk 5 0 none))), (.int .i64 (lastS c off x0 ((Int.toNat i) - (Int.toNat (IntKind.wrap .i64 (k + (1 : Int))))) (Int.toNat (IntKind.wrap .i64 (k + (1 : Int)))) l))] [] (Hp.mk [(Ob.cells c0 true), (Ob.cells c true), Ob.dead, (Ob.cells ⟨[(.slice a n z), (.slice (some (Addr.mk 1 off none)) n2 5), (.slice d n3 z3), (.int .i64 age), (.int .i64 shear)]⟩ false), (Ob.cells ⟨[(.int .i64 x0), (.int .i64 x1), (.int .i64 x2), (.int .i64 x3), (.int .i64 x4)]⟩ false), (Ob.cells s false)] 119 [])))))
 (none))
 (none))
 (none))
 (none))))
 (cond (decide ((getInt c (off + ((Int.toNat k) * 5))) = x0))
 (cond (Nat.blt (Nat.sub (Int.toNat i) (Int.toNat (IntKind.wrap .i64 (k + (1 : Int))))) M)
 (cond (eqCode (theLoop Try.prog 65 0) (theLoop Try.prog 65 0))
 (cond (okB65 a d n z n3 z3 s c0)
 (cond (ok65 off c n2 i (IntKind.wrap .i64 (k + (1 : Int))))
 (cond (sdB c off x0 x1 x2 ((Int.toNat i) - (Int.toNat (IntKind.wrap .i64 (k + (1 : Int))))) (Int.toNat (IntKind.wrap .i64 (k + (1 : Int)))))
 (some (Out.ex Ex.ret (St.mk [(.int .i64 (5 : Int))] [] (Hp.mk [(Ob.cells c0 true), (Ob.cells c true), Ob.dead, (Ob.cells ⟨[(.slice a n z), (.slice (some (Addr.mk 1 off none)) n2 5), (.slice d n3 z3), (.int .i64 age), (.int .i64 shear)]⟩ false), (Ob.cells ⟨[(.int .i64 x0), (.int .i64 x1), (.int .i64 x2), (.int .i64 x3), (.int .i64 x4)]⟩ false), (Ob.cells s false)] 119 []))))
 (some (Out.ex (Ex.exit 0) (St.mk [(.pointer (some (Addr.mk 3 0 none))), (.pointer (some (Addr.mk 4 0 none))), (.pointer (some (Addr.mk 5 0 none))), (.int .i64 (lastS c off x0 ((Int.toNat i) - (Int.toNat (IntKind.wrap .i64 (k + (1 : Int))))) (Int.toNat (IntKind.wrap .i64 (k + (1 : Int)))) k))] [] (Hp.mk [(Ob.cells c0 true), (Ob.cells c true), Ob.dead, (Ob.cells ⟨[(.slice a n z), (.slice (some (Addr.mk 1 off none)) n2 5), (.slice d n3 z3), (.int .i64 age), (.int .i64 shear)]⟩ false), (Ob.cells ⟨[(.int .i64 x0), (.int .i64 x1), (.int .i64 x2), (.int .i64 x3), (.int .i64 x4)]⟩ false), (Ob.cells s false)] 119 [])))))
 (none))
 (none))
 (none))
 (none))
 (cond (Nat.blt (Nat.sub (Int.toNat i) (Int.toNat (IntKind.wrap .i64 (k + (1 : Int))))) M)
 (cond (eqCode (theLoop Try.prog 65 0) (theLoop Try.prog 65 0))
 (cond (okB65 a d n z n3 z3 s c0)
 (cond (ok65 off c n2 i (IntKind.wrap .i64 (k + (1 : Int))))
 (cond (sdB c off x0 x1 x2 ((Int.toNat i) - (Int.toNat (IntKind.wrap .i64 (k + (1 : Int))))) (Int.toNat (IntKind.wrap .i64 (k + (1 : Int)))))
 (some (Out.ex Ex.ret (St.mk [(.int .i64 (5 : Int))] [] (Hp.mk [(Ob.cells c0 true), (Ob.cells c true), Ob.dead, (Ob.cells ⟨[(.slice a n z), (.slice (some (Addr.mk 1 off none)) n2 5), (.slice d n3 z3), (.int .i64 age), (.int .i64 shear)]⟩ false), (Ob.cells ⟨[(.int .i64 x0), (.int .i64 x1), (.int .i64 x2), (.int .i64 x3), (.int .i64 x4)]⟩ false), (Ob.cells s false)] 119 []))))
 (some (Out.ex (Ex.exit 0) (St.mk [(.pointer (some (Addr.mk 3 0 none))), (.pointer (some (Addr.mk 4 0 none))), (.pointer (some (Addr.mk 5 0 none))), (.int .i64 (lastS c off x0 ((Int.toNat i) - (Int.toNat (IntKind.wrap .i64 (k + (1 : Int))))) (Int.toNat (IntKind.wrap .i64 (k + (1 : Int)))) l))] [] (Hp.mk [(Ob.cells c0 true), (Ob.cells c true), Ob.dead, (Ob.cells ⟨[(.slice a n z), (.slice (some (Addr.mk 1 off none)) n2 5), (.slice d n3 z3), (.int .i64 age), (.int .i64 shear)]⟩ false), (Ob.cells ⟨[(.int .i64 x0), (.int .i64 x1), (.int .i64 x2), (.int .i64 x3), (.int .i64 x4)]⟩ false), (Ob.cells s false)] 119 [])))))
 (none))
 (none))
 (none))
 (none))))
 (cond (decide ((getInt c (off + ((Int.toNat k) * 5))) = x0))
 (cond (Nat.blt (Nat.sub (Int.toNat i) (Int.toNat (IntKind.wrap .i64 (k + (1 : Int))))) M)
 (cond (eqCode (theLoop Try.prog 65 0) (theLoop Try.prog 65 0))
 (cond (okB65 a d n z n3 z3 s c0)
 (cond (ok65 off c n2 i (IntKind.wrap .i64 (k + (1 : Int))))
 (cond (sdB c off x0 x1 x2 ((Int.toNat i) - (Int.toNat (IntKind.wrap .i64 (k + (1 : Int))))) (Int.toNat (IntKind.wrap .i64 (k + (1 : Int)))))
 (some (Out.ex Ex.ret (St.mk [(.int .i64 (5 : Int))] [] (Hp.mk [(Ob.cells c0 true), (Ob.cells c true), Ob.dead, (Ob.cells ⟨[(.slice a n z), (.slice (some (Addr.mk 1 off none)) n2 5), (.slice d n3 z3), (.int .i64 age), (.int .i64 shear)]⟩ false), (Ob.cells ⟨[(.int .i64 x0), (.int .i64 x1), (.int .i64 x2), (.int .i64 x3), (.int .i64 x4)]⟩ false), (Ob.cells s false)] 119 []))))
 (some (Out.ex (Ex.exit 0) (St.mk [(.pointer (some (Addr.mk 3 0 none))), (.pointer (some (Addr.mk 4 0 none))), (.pointer (some (Addr.mk 5 0 none))), (.int .i64 (lastS c off x0 ((Int.toNat i) - (Int.toNat (IntKind.wrap .i64 (k + (1 : Int))))) (Int.toNat (IntKind.wrap .i64 (k + (1 : Int)))) k))] [] (Hp.mk [(Ob.cells c0 true), (Ob.cells c true), Ob.dead, (Ob.cells ⟨[(.slice a n z), (.slice (some (Addr.mk 1 off none)) n2 5), (.slice d n3 z3), (.int .i64 age), (.int .i64 shear)]⟩ false), (Ob.cells ⟨[(.int .i64 x0), (.int .i64 x1), (.int .i64 x2), (.int .i64 x3), (.int .i64 x4)]⟩ false), (Ob.cells s false)] 119 [])))))
 (none))
 (none))
 (none))
 (none))
 (cond (Nat.blt (Nat.sub (Int.toNat i) (Int.toNat (IntKind.wrap .i64 (k + (1 : Int))))) M)
 (cond (eqCode (theLoop Try.prog 65 0) (theLoop Try.prog 65 0))
 (cond (okB65 a d n z n3 z3 s c0)
 (cond (ok65 off c n2 i (IntKind.wrap .i64 (k + (1 : Int))))
 (cond (sdB c off x0 x1 x2 ((Int.toNat i) - (Int.toNat (IntKind.wrap .i64 (k + (1 : Int))))) (Int.toNat (IntKind.wrap .i64 (k + (1 : Int)))))
 (some (Out.ex Ex.ret (St.mk [(.int .i64 (5 : Int))] [] (Hp.mk [(Ob.cells c0 true), (Ob.cells c true), Ob.dead, (Ob.cells ⟨[(.slice a n z), (.slice (some (Addr.mk 1 off none)) n2 5), (.slice d n3 z3), (.int .i64 age), (.int .i64 shear)]⟩ false), (Ob.cells ⟨[(.int .i64 x0), (.int .i64 x1), (.int .i64 x2), (.int .i64 x3), (.int .i64 x4)]⟩ false), (Ob.cells s false)] 119 []))))
 (some (Out.ex (Ex.exit 0) (St.mk [(.pointer (some (Addr.mk 3 0 none))), (.pointer (some (Addr.mk 4 0 none))), (.pointer (some (Addr.mk 5 0 none))), (.int .i64 (lastS c off x0 ((Int.toNat i) - (Int.toNat (IntKind.wrap .i64 (k + (1 : Int))))) (Int.toNat (IntKind.wrap .i64 (k + (1 : Int)))) l))] [] (Hp.mk [(Ob.cells c0 true), (Ob.cells c true), Ob.dead, (Ob.cells ⟨[(.slice a n z), (.slice (some (Addr.mk 1 off none)) n2 5), (.slice d n3 z3), (.int .i64 age), (.int .i64 shear)]⟩ false), (Ob.cells ⟨[(.int .i64 x0), (.int .i64 x1), (.int .i64 x2), (.int .i64 x3), (.int .i64 x4)]⟩ false), (Ob.cells s false)] 119 [])))))
 (none))
 (none))
 (none))
 (none))))
 (none))
 (none))
 (some (Out.ex (Ex.exit 0) (St.mk [(.pointer (some (Addr.mk 3 0 none))), (.pointer (some (Addr.mk 4 0 none))), (.pointer (some (Addr.mk 5 0 none))), (.int .i64 l)] [] (Hp.mk [(Ob.cells c0 true), (Ob.cells c true), Ob.dead, (Ob.cells ⟨[(.slice a n z), (.slice (some (Addr.mk 1 off none)) n2 5), (.slice d n3 z3), (.int .i64 age), (.int .i64 shear)]⟩ false), (Ob.cells ⟨[(.int .i64 x0), (.int .i64 x1), (.int .i64 x2), (.int .i64 x3), (.int .i64 x4)]⟩ false), (Ob.cells s false)] 119 [])))) := by kernel_rfl
theorem allsc {n : Nat} {c : Array Value} (h : c.toList.all g0 = true) : c.toList.all (sc1 n) = true := by rw [List.all_eq_true] at h ⊢; exact fun x hx => sc1_g0 (h x hx)
theorem at1_sc {n off l z : Nat} (h : 1 < n) : sc1 n (.slice (some ⟨1, off, none⟩) l z) = true := by simp [sc1, sc0, h]
theorem known65 : ∃ J, Known Try.prog (sh65.ans J) := by
  refine Known.junk (Known.nothing _) mes65 sh65 ?_
  intro J t f hs hkn
  unfold sh65 at hs
  split at hs
  case h_2 => cases hs
  rename_i code t c0 c a n z off n2 d n3 z3 age shear x0 x1 x2 x3 x4 s G
  split at hs
  case h_2 => cases hs
  rename_i i l k er e1 e2 e5 e6 e7 e8
  simp only [Option.some.injEq] at hs
  subst hs
  refine ex_guard fun h1 => ex_guard fun h2 => ex_guard fun h4 => ex_guard fun h3 => ?_
  obtain rfl := eqCode_eq h1
  have hl : t.length = 119 := Nat.eq_of_beq_eq_true h2
  obtain ⟨hb1, hd1, hrest, hc0⟩ := dec_iff.1 h4
  have hb5 := slice_sc hb1 (show 3 ≤ 6 by decide)
  have hd5 := slice_sc hd1 (show 3 ≤ 6 by decide)
  obtain ⟨hg, hi0, hik, hk0, hn⟩ := dec_iff.1 h3
  obtain ⟨i, rfl⟩ := Int.eq_ofNat_of_zero_le hi0
  obtain ⟨k, rfl⟩ := Int.eq_ofNat_of_zero_le hk0
  have q1 := allsc (n := 6) hg.1
  have q2 := allsc (n := 6) hrest
  have q3 := allsc (n := 6) hc0
  have hsc2 : (([.cells c0 true, .cells c true, .dead, .cells ⟨[.slice a n z, .slice (some ⟨1, off, none⟩) n2 5, .slice d n3 z3, .int .i64 age, .int .i64 shear]⟩ false, .cells ⟨[.int .i64 x0, .int .i64 x1, .int .i64 x2, .int .i64 x3, .int .i64 x4]⟩ false, .cells s false] : List Ob).all (obSc ([.cells c0 true, .cells c true, .dead, .cells ⟨[.slice a n z, .slice (some ⟨1, off, none⟩) n2 5, .slice d n3 z3, .int .i64 age, .int .i64 shear]⟩ false, .cells ⟨[.int .i64 x0, .int .i64 x1, .int .i64 x2, .int .i64 x3, .int .i64 x4]⟩ false, .cells s false] : List Ob).length)) = true := by simp [obSc, q1, q2, q3, hb5, hd5, str_sc, int_sc, at1_sc]
  have hk2 := keptSelf hsc2
  have use := fun e' vs hev he hvs => hkn.loopLeaf (G := G) noNG mixed (n := 60) (N0 := 119) (N := 119) (live := [(1, .int .i64 (Int.ofNat i)), (2, pp 3), (5, pp 4), (6, pp 5), (7, .int .i64 l), (8, .int .i64 (Int.ofNat k))])
    (H0 := [.cells c0 true, .cells c true, .dead, .cells ⟨[.slice a n z, .slice (some ⟨1, off, none⟩) n2 5, .slice d n3 z3, .int .i64 age, .int .i64 shear]⟩ false, .cells ⟨[.int .i64 x0, .int .i64 x1, .int .i64 x2, .int .i64 x3, .int .i64 x4]⟩ false, .cells s false]) (pick := pick65) (e := e') (vs := vs)
    (base := 3) (wr := []) (wr1 := []) (c := theLoop Try.prog 65 0) (t := t) hev hl (by
      intro kv hm
      simp only [List.mem_cons, List.not_mem_nil, or_false] at hm
      rcases hm with rfl | rfl | rfl | rfl | rfl | rfl
      · exact ⟨e1, rfl, rfl⟩
      · exact ⟨e2, rfl, rfl⟩
      · exact ⟨e5, rfl, rfl⟩
      · exact ⟨e6, rfl, rfl⟩
      · exact ⟨e7, rfl, rfl⟩
      · exact ⟨e8, rfl, rfl⟩) (by simp) hsc2 hk2 he hvs
  simp only [List.length_cons, List.length_nil, Nat.zero_add, Nat.reduceAdd] at use
  rw [tree65] at use
  simp only [Int.ofNat_eq_natCast, Int.toNat_natCast] at use ⊢
  by_cases hin : (k : Int) < (i : Int)
  · obtain ⟨m, hm⟩ : ∃ m, i - k = m + 1 := ⟨i - k - 1, by omega⟩
    have hw : IntKind.i64.wrap ((k : Int) + 1) = ((k + 1 : Nat) : Int) := by rw [wrap64_id (by omega) (by omega)]; rfl
    rw [hm]
    have hm' : i - (k + 1) = m := by omega
    have hme : (Nat.sub i (k + 1)).blt (mes65 (.code none (.loop (theLoop Try.prog 65 0)) ⟨t, [], ⟨.cells c0 true :: .cells c true :: .dead :: .cells ⟨[.slice a n z, .slice (some ⟨1, off, none⟩) n2 5, .slice d n3 z3, .int .i64 age, .int .i64 shear]⟩ false :: .cells ⟨[.int .i64 x0, .int .i64 x1, .int .i64 x2, .int .i64 x3, .int .i64 x4]⟩ false :: .cells s false :: G, 3, []⟩⟩)) = true := by
      simp only [mes65, e1, e2, e5, e6, e7, e8, Nat.blt_eq, Int.toNat_natCast]
      show i - (k + 1) < i - k
      omega
    have hok : ok65 off c n2 i ↑(k + 1) = true := dec_iff.2 ⟨hg, by omega, hik, by omega, hn⟩
    have x0' := hg.2 k (by omega)
    simp only [show L5.length = 5 from rfl] at x0'
    have hkn2 : (k : Int) < n2 := by omega
    simp only [hw, Int.toNat_natCast, hm', hin, decide_true, cond_true, Bool.true_and, Bool.and_self, Int.natCast_nonneg, eqCode_self, hme, hok, Nat.add_zero, x0', hkn2, h4] at use
    cases hp : sdP c off x0 x1 x2 k with
    | true =>
      have e1 : sdB c off x0 x1 x2 (m + 1) k = true := by simp [sdB, fst_hit hp]
      rw [e1]
      refine use .ret [.int .i64 5] ?_ rfl rfl
      revert hp
      unfold sdP
      try simp only [cond_eq_ite, Bool.not_eq_true', Bool.and_eq_true, decide_eq_true_eq, decide_eq_false_iff_not]
      (clear use hkn hk2 hsc2 hme hok h1 h2 h3 h4 er hg q1 q2 q3 hb1 hd1 hb5 hd5 hrest hc0 hl e2 e5 e6 e7 e8 x0'; simp only [lastS, Nat.add_assoc, Nat.reduceAdd]; by_cases d0 : getInt c (off + k * 5) = x0 <;> by_cases d1 : getInt c (off + (k * 5 + 1)) = x1 <;> by_cases d2 : getInt c (off + (k * 5 + 2)) = x2 <;> simp [d0, d1, d2, pp])
    | false =>
      have e1 : sdB c off x0 x1 x2 (m + 1) k = sdB c off x0 x1 x2 m (k + 1) := by simp [sdB, fst_miss hp]
      rw [e1]
      cases hb : sdB c off x0 x1 x2 m (k + 1) with
      | true =>
        rw [hb] at use
        refine use .ret [.int .i64 5] ?_ rfl rfl
        revert hp
        unfold sdP
        try simp only [cond_eq_ite, Bool.not_eq_true', Bool.and_eq_true, decide_eq_true_eq, decide_eq_false_iff_not]
        (clear use hkn hk2 hsc2 hme hok h1 h2 h3 h4 er hg q1 q2 q3 hb1 hd1 hb5 hd5 hrest hc0 hl e2 e5 e6 e7 e8 x0'; simp only [lastS, Nat.add_assoc, Nat.reduceAdd]; by_cases d0 : getInt c (off + k * 5) = x0 <;> by_cases d1 : getInt c (off + (k * 5 + 1)) = x1 <;> by_cases d2 : getInt c (off + (k * 5 + 2)) = x2 <;> simp [d0, d1, d2, pp])
      | false =>
        rw [hb] at use
        refine use (.exit 0) [pp 3, pp 4, pp 5, .int .i64 (lastS c off x0 (m + 1) k l)] ?_ rfl rfl
        revert hp
        unfold sdP
        try simp only [cond_eq_ite, Bool.not_eq_true', Bool.and_eq_true, decide_eq_true_eq, decide_eq_false_iff_not]
        (clear use hkn hk2 hsc2 hme hok h1 h2 h3 h4 er hg q1 q2 q3 hb1 hd1 hb5 hd5 hrest hc0 hl e2 e5 e6 e7 e8 x0'; simp only [lastS, Nat.add_assoc, Nat.reduceAdd]; by_cases d0 : getInt c (off + k * 5) = x0 <;> by_cases d1 : getInt c (off + (k * 5 + 1)) = x1 <;> by_cases d2 : getInt c (off + (k * 5 + 2)) = x2 <;> simp [d0, d1, d2, pp])
  · have h0 : i - k = 0 := by omega
    have e1 : sdB c off x0 x1 x2 (i - k) k = false := by rw [h0]; rfl
    rw [e1]
    rw [h0]
    refine use (.exit 0) [pp 3, pp 4, pp 5, .int .i64 (lastS c off x0 0 k l)] ?_ rfl rfl
    simp only [hin, decide_false, cond_false]
    try rfl
end
end Go.Proofs.Ytjdidbnmkogflaa.Old

namespace Go.Proofs.Ytjdidbnmkogflaa.Old
open Go.Gi Go.RowKit
noncomputable section
set_option maxRecDepth 100000
set_option linter.unusedSimpArgs false
set_option linter.unusedVariables false
theorem lastS_lt {c : Array Value} {off : Nat} {x0 : Int} {n : Nat} : ∀ {m k : Nat} {l : Int}, l < n → k + m ≤ n → lastS c off x0 m k l < n
  | 0, _, _, h, _ => h
  | m + 1, k, l, h, hk => by
    simp only [lastS]
    refine lastS_lt ?_ (by omega)
    split <;> omega
def sdE (c0 : Array Value) (off0 n : Nat) (c : Array Value) (off i : Nat) : Int :=
  if inB (getInt c (off + i * 5)) 0 ((n : Int) - 1) = false then 4
  else if inB (getInt c (off + i * 5 + 1)) 0 100000 = false ∨
    inB (getInt c (off + i * 5 + 2)) (getInt c0 (off0 + (getInt c (off + i * 5)).toNat * 7 + 5)) (getInt c0 (off0 + (getInt c (off + i * 5)).toNat * 7 + 6)) = false ∨
    inB (getInt c (off + i * 5 + 3)) (-20000) 20000 = false ∨ inB (getInt c (off + i * 5 + 4)) (-20000) 20000 = false then 7
  else if sdB c off (getInt c (off + i * 5)) (getInt c (off + i * 5 + 1)) (getInt c (off + i * 5 + 2)) i 0 = true then 5
  else if getInt c0 (off0 + (getInt c (off + i * 5)).toNat * 7 + 1) = 2 ∧ 0 ≤ lastS c off (getInt c (off + i * 5)) i 0 (-1) ∧
    (getInt c (off + i * 5 + 1) < getInt c (off + (lastS c off (getInt c (off + i * 5)) i 0 (-1)).toNat * 5 + 1) ∨
     getInt c (off + i * 5 + 2) < getInt c (off + (lastS c off (getInt c (off + i * 5)) i 0 (-1)).toNat * 5 + 2)) then 2 else 0
def c65 (a b d : Option Addr) (n z n2 z2 n3 z3 : Nat) (i : Int) (H : List Ob) : Bool := dec (SliceL L7 a n z H ∧ SliceL L5 b n2 z2 H ∧ 0 ≤ i ∧ i < n2 ∧ n ≤ 20 ∧ n2 ≤ 60 ∧ NilOk d n3 z3)
def p65 : Ans
  | .call 65 ⟨[.agg ⟨[.slice a n z, .slice b n2 z2, .slice d n3 z3, .int .i64 age, .int .i64 shear]⟩, .int .i64 i]⟩ h =>
    some (.br (c65 a b d n z n2 z2 n3 z3 i h.bl) (.leaf (.ret (.int .i64 (sdE (arrOf a h.bl) (offOf a) n (arrOf b h.bl) (offOf b) i.toNat)) h)) .no)
  | _ => none
theorem isInt5 {c : Array Value} {x : Nat} (h : rdOk c L5 x = true) : isInt .i64 c (x + 1) = true ∧ isInt .i64 c (x + 2) = true := by
  simp only [rdOk, rdLeaf, Bool.and_eq_true] at h
  exact ⟨h.2.1, h.2.2.1⟩
theorem tree65c (J : Task → List Value) (off off0 : Nat) (c0 c : Array Value) (n n2 : Nat) (i age shear : Int) (d : Option Addr) (n3 z3 : Nat) :
    evC Try.prog (sh65.ans J).c 60 (.call 65 ⟨[.agg ⟨[.slice (some ⟨0, off0, none⟩) n 7, .slice (some ⟨1, off, none⟩) n2 5, .slice d n3 z3, .int .i64 age, .int .i64 shear]⟩, .int .i64 i]⟩ ⟨[.cells c0 true, .cells c true, .dead], 3, []⟩) some =
    cond (and (decide ((0 : Int) ≤ i)) (decide (i < (Int.ofNat n2))))
 (cond (and true (rdOk c [(Leaf.int .i64), (Leaf.int .i64), (Leaf.int .i64), (Leaf.int .i64), (Leaf.int .i64)] (off + ((Int.toNat i) * 5))))
 (cond (decide ((0 : Int) ≤ (getInt c (off + ((Int.toNat i) * 5)))))
 (cond (not (decide ((getInt c (off + ((Int.toNat i) * 5))) ≤ (IntKind.wrap .i64 ((Int.ofNat n) - (1 : Int))))))
 (some (Out.ret (.int .i64 (4 : Int)) (Hp.mk [(Ob.cells c0 true), (Ob.cells c true), Ob.dead] 3 [])))
 (cond (and (decide ((0 : Int) ≤ (getInt c (off + ((Int.toNat i) * 5))))) (decide ((getInt c (off + ((Int.toNat i) * 5))) < (Int.ofNat n))))
 (cond (and true (rdOk c0 [Leaf.str, (Leaf.int .i64), (Leaf.int .i64), (Leaf.int .i64), (Leaf.int .i64), (Leaf.int .i64), (Leaf.int .i64)] (off0 + ((Int.toNat (getInt c (off + ((Int.toNat i) * 5)))) * 7))))
 (cond (decide ((0 : Int) ≤ (getInt c ((off + ((Int.toNat i) * 5)) + 1))))
 (cond (not (decide ((getInt c ((off + ((Int.toNat i) * 5)) + 1)) ≤ (100000 : Int))))
 (some (Out.ret (.int .i64 (7 : Int)) (Hp.mk [(Ob.cells c0 true), (Ob.cells c true), Ob.dead] 3 [])))
 (cond (decide ((getInt c0 ((((((off0 + ((Int.toNat (getInt c (off + ((Int.toNat i) * 5)))) * 7)) + 1) + 1) + 1) + 1) + 1)) ≤ (getInt c (((off + ((Int.toNat i) * 5)) + 1) + 1))))
 (cond (not (decide ((getInt c (((off + ((Int.toNat i) * 5)) + 1) + 1)) ≤ (getInt c0 (((((((off0 + ((Int.toNat (getInt c (off + ((Int.toNat i) * 5)))) * 7)) + 1) + 1) + 1) + 1) + 1) + 1)))))
 (some (Out.ret (.int .i64 (7 : Int)) (Hp.mk [(Ob.cells c0 true), (Ob.cells c true), Ob.dead] 3 [])))
 (cond (decide ((-20000 : Int) ≤ (getInt c ((((off + ((Int.toNat i) * 5)) + 1) + 1) + 1))))
 (cond (not (decide ((getInt c ((((off + ((Int.toNat i) * 5)) + 1) + 1) + 1)) ≤ (20000 : Int))))
 (some (Out.ret (.int .i64 (7 : Int)) (Hp.mk [(Ob.cells c0 true), (Ob.cells c true), Ob.dead] 3 [])))
 (cond (decide ((-20000 : Int) ≤ (getInt c (((((off + ((Int.toNat i) * 5)) + 1) + 1) + 1) + 1))))
 (cond (not (decide ((getInt c (((((off + ((Int.toNat i) * 5)) + 1) + 1) + 1) + 1)) ≤ (20000 : Int))))
 (some (Out.ret (.int .i64 (7 : Int)) (Hp.mk [(Ob.cells c0 true), (Ob.cells c true), Ob.dead] 3 [])))
 (cond (eqCode (theLoop Try.prog 65 0) (theLoop Try.prog 65 0))
 (cond (okB65 (some (Addr.mk 0 off0 none)) d n 7 n3 z3 ⟨[(.string (getStr c0 (off0 + ((Int.toNat (getInt c (off + ((Int.toNat i) * 5)))) * 7)))), (.int .i64 (getInt c0 ((off0 + ((Int.toNat (getInt c (off + ((Int.toNat i) * 5)))) * 7)) + 1))), (.int .i64 (getInt c0 (((off0 + ((Int.toNat (getInt c (off + ((Int.toNat i) * 5)))) * 7)) + 1) + 1))), (.int .i64 (getInt c0 ((((off0 + ((Int.toNat (getInt c (off + ((Int.toNat i) * 5)))) * 7)) + 1) + 1) + 1))), (.int .i64 (getInt c0 (((((off0 + ((Int.toNat (getInt c (off + ((Int.toNat i) * 5)))) * 7)) + 1) + 1) + 1) + 1))), (.int .i64 (getInt c0 ((((((off0 + ((Int.toNat (getInt c (off + ((Int.toNat i) * 5)))) * 7)) + 1) + 1) + 1) + 1) + 1))), (.int .i64 (getInt c0 (((((((off0 + ((Int.toNat (getInt c (off + ((Int.toNat i) * 5)))) * 7)) + 1) + 1) + 1) + 1) + 1) + 1)))]⟩ c0)
 (cond (ok65 off c n2 i (0 : Int))
 (cond (sdB c off (getInt c (off + ((Int.toNat i) * 5))) (getInt c ((off + ((Int.toNat i) * 5)) + 1)) (getInt c (((off + ((Int.toNat i) * 5)) + 1) + 1)) ((Int.toNat i) - 0) 0)
 (some (Out.ret (.int .i64 (5 : Int)) (Hp.mk [(Ob.cells c0 true), (Ob.cells c true), Ob.dead] 3 [])))
 (cond (decide ((getInt c0 ((off0 + ((Int.toNat (getInt c (off + ((Int.toNat i) * 5)))) * 7)) + 1)) = (2 : Int)))
 (cond (decide ((0 : Int) ≤ (lastS c off (getInt c (off + ((Int.toNat i) * 5))) ((Int.toNat i) - 0) 0 (-1 : Int))))
 (cond (and (decide ((0 : Int) ≤ (lastS c off (getInt c (off + ((Int.toNat i) * 5))) ((Int.toNat i) - 0) 0 (-1 : Int)))) (decide ((lastS c off (getInt c (off + ((Int.toNat i) * 5))) ((Int.toNat i) - 0) 0 (-1 : Int)) < (Int.ofNat n2))))
 (cond (and true (isInt .i64 c ((off + ((Int.toNat (lastS c off (getInt c (off + ((Int.toNat i) * 5))) ((Int.toNat i) - 0) 0 (-1 : Int))) * 5)) + 1)))
 (cond (decide ((getInt c ((off + ((Int.toNat i) * 5)) + 1)) < (getInt c ((off + ((Int.toNat (lastS c off (getInt c (off + ((Int.toNat i) * 5))) ((Int.toNat i) - 0) 0 (-1 : Int))) * 5)) + 1))))
 (some (Out.ret (.int .i64 (2 : Int)) (Hp.mk [(Ob.cells c0 true), (Ob.cells c true), Ob.dead] 3 [])))
 (cond (and (decide ((0 : Int) ≤ (lastS c off (getInt c (off + ((Int.toNat i) * 5))) ((Int.toNat i) - 0) 0 (-1 : Int)))) (decide ((lastS c off (getInt c (off + ((Int.toNat i) * 5))) ((Int.toNat i) - 0) 0 (-1 : Int)) < (Int.ofNat n2))))
 (cond (and true (isInt .i64 c ((off + ((Int.toNat (lastS c off (getInt c (off + ((Int.toNat i) * 5))) ((Int.toNat i) - 0) 0 (-1 : Int))) * 5)) + 2)))
 (cond (decide ((getInt c (((off + ((Int.toNat i) * 5)) + 1) + 1)) < (getInt c ((off + ((Int.toNat (lastS c off (getInt c (off + ((Int.toNat i) * 5))) ((Int.toNat i) - 0) 0 (-1 : Int))) * 5)) + 2))))
 (some (Out.ret (.int .i64 (2 : Int)) (Hp.mk [(Ob.cells c0 true), (Ob.cells c true), Ob.dead] 3 [])))
 (some (Out.ret (.int .i64 (0 : Int)) (Hp.mk [(Ob.cells c0 true), (Ob.cells c true), Ob.dead] 3 []))))
 (none))
 (none)))
 (none))
 (none))
 (some (Out.ret (.int .i64 (0 : Int)) (Hp.mk [(Ob.cells c0 true), (Ob.cells c true), Ob.dead] 3 []))))
 (some (Out.ret (.int .i64 (0 : Int)) (Hp.mk [(Ob.cells c0 true), (Ob.cells c true), Ob.dead] 3 [])))))
 (none))
 (none))
 (none)))
 (some (Out.ret (.int .i64 (7 : Int)) (Hp.mk [(Ob.cells c0 true), (Ob.cells c true), Ob.dead] 3 [])))))
 (some (Out.ret (.int .i64 (7 : Int)) (Hp.mk [(Ob.cells c0 true), (Ob.cells c true), Ob.dead] 3 [])))))
 (some (Out.ret (.int .i64 (7 : Int)) (Hp.mk [(Ob.cells c0 true), (Ob.cells c true), Ob.dead] 3 [])))))
 (some (Out.ret (.int .i64 (7 : Int)) (Hp.mk [(Ob.cells c0 true), (Ob.cells c true), Ob.dead] 3 []))))
 (none))
 (none)))
 (some (Out.ret (.int .i64 (4 : Int)) (Hp.mk [(Ob.cells c0 true), (Ob.cells c true), Ob.dead] 3 []))))
 (none))
 (none) := by kernel_rfl
theorem tree65y (off : Nat) (c : Array Value) (n2 : Nat) (i age shear : Int) (d : Option Addr) (z n3 z3 : Nat) :
    evC Try.prog (fun _ _ => none) 60 (.call 65 ⟨[.agg ⟨[.slice none 0 z, .slice (some ⟨1, off, none⟩) n2 5, .slice d n3 z3, .int .i64 age, .int .i64 shear]⟩, .int .i64 i]⟩ ⟨[.dead, .cells c true, .dead], 3, []⟩) some =
    cond (and (decide ((0 : Int) ≤ i)) (decide (i < (Int.ofNat n2))))
 (cond (and true (rdOk c [(Leaf.int .i64), (Leaf.int .i64), (Leaf.int .i64), (Leaf.int .i64), (Leaf.int .i64)] (off + ((Int.toNat i) * 5))))
 (cond (decide ((0 : Int) ≤ (getInt c (off + ((Int.toNat i) * 5)))))
 (cond (not (decide ((getInt c (off + ((Int.toNat i) * 5))) ≤ (-1 : Int))))
 (some (Out.ret (.int .i64 (4 : Int)) (Hp.mk [Ob.dead, (Ob.cells c true), Ob.dead] 3 [])))
 (none))
 (some (Out.ret (.int .i64 (4 : Int)) (Hp.mk [Ob.dead, (Ob.cells c true), Ob.dead] 3 []))))
 (none))
 (none) := by kernel_rfl
theorem tree65w (off o0 : Nat) (c : Array Value) (n2 : Nat) (i age shear : Int) (d : Option Addr) (z n3 z3 : Nat) :
    evC Try.prog (fun _ _ => none) 60 (.call 65 ⟨[.agg ⟨[.slice (some ⟨0, o0, none⟩) 0 z, .slice (some ⟨1, off, none⟩) n2 5, .slice d n3 z3, .int .i64 age, .int .i64 shear]⟩, .int .i64 i]⟩ ⟨[.dead, .cells c true, .dead], 3, []⟩) some =
    cond (and (decide ((0 : Int) ≤ i)) (decide (i < (Int.ofNat n2))))
 (cond (and true (rdOk c [(Leaf.int .i64), (Leaf.int .i64), (Leaf.int .i64), (Leaf.int .i64), (Leaf.int .i64)] (off + ((Int.toNat i) * 5))))
 (cond (decide ((0 : Int) ≤ (getInt c (off + ((Int.toNat i) * 5)))))
 (cond (not (decide ((getInt c (off + ((Int.toNat i) * 5))) ≤ (-1 : Int))))
 (some (Out.ret (.int .i64 (4 : Int)) (Hp.mk [Ob.dead, (Ob.cells c true), Ob.dead] 3 [])))
 (cond (and (decide ((0 : Int) ≤ (getInt c (off + ((Int.toNat i) * 5))))) (decide ((getInt c (off + ((Int.toNat i) * 5))) < (0 : Int))))
 (none)
 (none)))
 (some (Out.ret (.int .i64 (4 : Int)) (Hp.mk [Ob.dead, (Ob.cells c true), Ob.dead] 3 []))))
 (none))
 (none) := by kernel_rfl
theorem tree65x (off o0 : Nat) (sp : Nat) (c : Array Value) (n2 : Nat) (i age shear : Int) (d : Option Addr) (z n3 z3 : Nat) :
    evC Try.prog (fun _ _ => none) 60 (.call 65 ⟨[.agg ⟨[.slice (some ⟨0, o0, some sp⟩) 0 z, .slice (some ⟨1, off, none⟩) n2 5, .slice d n3 z3, .int .i64 age, .int .i64 shear]⟩, .int .i64 i]⟩ ⟨[.dead, .cells c true, .dead], 3, []⟩) some =
    cond (and (decide ((0 : Int) ≤ i)) (decide (i < (Int.ofNat n2))))
 (cond (and true (rdOk c [(Leaf.int .i64), (Leaf.int .i64), (Leaf.int .i64), (Leaf.int .i64), (Leaf.int .i64)] (off + ((Int.toNat i) * 5))))
 (cond (decide ((0 : Int) ≤ (getInt c (off + ((Int.toNat i) * 5)))))
 (cond (not (decide ((getInt c (off + ((Int.toNat i) * 5))) ≤ (-1 : Int))))
 (some (Out.ret (.int .i64 (4 : Int)) (Hp.mk [Ob.dead, (Ob.cells c true), Ob.dead] 3 [])))
 (none))
 (some (Out.ret (.int .i64 (4 : Int)) (Hp.mk [Ob.dead, (Ob.cells c true), Ob.dead] 3 []))))
 (none))
 (none) := by kernel_rfl
theorem known65c : Known Try.prog p65 := by
  obtain ⟨J, hJ⟩ := known65
  intro t xx o h ho
  unfold p65 at h
  split at h
  case h_2 => cases h
  rename_i a n z b n2 z2 d n3 z3 age shear i hp
  simp only [Option.some.injEq] at h
  subst h
  simp only [AT.out] at ho
  obtain ⟨hok, ho⟩ := cond_some ho
  simp only [Option.some.injEq] at ho
  subst ho
  obtain ⟨hs, hs2, hi0, hin, hn, hn2, hd⟩ := dec_iff.1 hok
  clear hok ho
  rcases hs2 with rfl | ⟨b1, off, rfl, rfl, hc, hgood⟩
  · omega
  obtain ⟨i, rfl⟩ := Int.eq_ofNat_of_zero_le hi0
  have hkn : (i : Int) < n2 := hin
  have e2 : ∀ k, okR0 3 (.slice (atB 2 d) n3 k) = true := fun k => atB_okR (by decide)
  have k3 := hgood.2 i (by omega)
  simp only [show L5.length = 5 from rfl] at k3
  rcases Nat.eq_zero_or_pos n with rfl | hpos
  · cases a with
    | none =>
      refine frame3 (args1 := ⟨[.agg ⟨[.slice none 0 z, .slice (some ⟨1, off, none⟩) n2 5, .slice (atB 2 d) n3 z3, .int .i64 age, .int .i64 shear]⟩, .int .i64 i]⟩) 0 b1 (blkOf d) ((Known.nothing _).fact noNG mixed (n := 60) ?_) rfl
        (.inl rfl) (.inr ⟨_, rfl, hgood.1, cells_ok hc⟩) (.inl rfl) ?_ ?_
      · refine (tree65y ..).trans ?_
        simp only [Int.ofNat_eq_natCast, Int.toNat_natCast, Int.natCast_nonneg, hkn, decide_true, Bool.and_self, Bool.true_and, cond_true, k3, arrOf, offOf, sdE, inB]
        repeat' refine cond_hd (fun _ => ?_) (fun _ => ?_)
        all_goals first | (simp_all; done) | grind
      · simp only [List.map_toArray, List.map_cons, List.map_nil, ren1, ren0]
        rw [atB_ren (by simp)]; rfl
      · simp only [List.all_cons, List.all_nil, okR1, e2]; rfl
    | some x =>
      obtain ⟨xb, o0, sp⟩ := x
      cases sp with
      | none =>
        refine frame3 (args1 := ⟨[.agg ⟨[.slice (some ⟨0, o0, none⟩) 0 z, .slice (some ⟨1, off, none⟩) n2 5, .slice (atB 2 d) n3 z3, .int .i64 age, .int .i64 shear]⟩, .int .i64 i]⟩) xb b1 (blkOf d) ((Known.nothing _).fact noNG mixed (n := 60) ?_) rfl
          (.inl rfl) (.inr ⟨_, rfl, hgood.1, cells_ok hc⟩) (.inl rfl) ?_ ?_
        · refine (tree65w ..).trans ?_
          simp only [Int.ofNat_eq_natCast, Int.toNat_natCast, Int.natCast_nonneg, hkn, decide_true, Bool.and_self, Bool.true_and, cond_true, k3, arrOf, offOf, sdE, inB]
          repeat' refine cond_hd (fun _ => ?_) (fun _ => ?_)
          all_goals first | (simp_all; done) | grind
        · simp only [List.map_toArray, List.map_cons, List.map_nil, ren1, ren0]
          rw [atB_ren (by simp)]; rfl
        · simp only [List.all_cons, List.all_nil, okR1, e2]; rfl
      | some sp =>
        refine frame3 (args1 := ⟨[.agg ⟨[.slice (some ⟨0, o0, some sp⟩) 0 z, .slice (some ⟨1, off, none⟩) n2 5, .slice (atB 2 d) n3 z3, .int .i64 age, .int .i64 shear]⟩, .int .i64 i]⟩) xb b1 (blkOf d) ((Known.nothing _).fact noNG mixed (n := 60) ?_) rfl
          (.inl rfl) (.inr ⟨_, rfl, hgood.1, cells_ok hc⟩) (.inl rfl) ?_ ?_
        · refine (tree65x ..).trans ?_
          simp only [Int.ofNat_eq_natCast, Int.toNat_natCast, Int.natCast_nonneg, hkn, decide_true, Bool.and_self, Bool.true_and, cond_true, k3, arrOf, offOf, sdE, inB]
          repeat' refine cond_hd (fun _ => ?_) (fun _ => ?_)
          all_goals first | (simp_all; done) | grind
        · simp only [List.map_toArray, List.map_cons, List.map_nil, ren1, ren0]
          rw [atB_ren (by simp)]; rfl
        · simp only [List.all_cons, List.all_nil, okR1, e2]; rfl
  rcases hs with rfl | ⟨b0, off0, rfl, rfl, hc0, hgood0⟩
  · omega
  refine frame3 (args1 := ⟨[.agg ⟨[.slice (some ⟨0, off0, none⟩) n 7, .slice (some ⟨1, off, none⟩) n2 5, .slice (atB 2 d) n3 z3, .int .i64 age, .int .i64 shear]⟩, .int .i64 i]⟩) b0 b1 (blkOf d) (hJ.fact noNG mixed (n := 60) ?_) rfl
    (.inr ⟨_, rfl, hgood0.1, cells_ok hc0⟩) (.inr ⟨_, rfl, hgood.1, cells_ok hc⟩) (.inl rfl) ?_ ?_
  · rw [tree65c]
    have hw : IntKind.i64.wrap ((n : Int) - 1) = (n : Int) - 1 := wrap64_id (by omega) (by omega)
    have k1 : ∀ s, okB65 (some ⟨0, off0, none⟩) (atB 2 d) n 7 n3 z3 s (cellsAt hp.bl b0) = dec (s.toList.all g0 = true) := by
      intro s
      have q1 := atB_sc (n := 3) (k := 2) (a := d) (l := n3) (z := z3) (by decide) hd
      have q2 := hgood0.1
      simp only [okB65, q1, q2, at0_sc (show 0 < 3 by decide), true_and, and_true]
    have k2 : ok65 off (cellsAt hp.bl b1) n2 i 0 = true := dec_iff.2 ⟨hgood, by omega, by omega, by omega, hn2⟩
    have kI := fun k hk => isInt5 (hgood.2 k hk)
    have kR := hgood0.2
    simp only [show L5.length = 5 from rfl] at kI
    simp only [show L7.length = 7 from rfl] at kR
    have hla := lastS_lt (c := cellsAt hp.bl b1) (off := off) (x0 := getInt (cellsAt hp.bl b1) (off + i * 5)) (n := n2) (m := i) (k := 0) (l := -1) (by omega) (by omega)
    simp only [Int.ofNat_eq_natCast, Int.toNat_natCast, Int.natCast_nonneg, hkn, decide_true, Bool.and_self, Bool.true_and, cond_true, k1, k2, k3, hw, eqCode_self, Nat.sub_zero, arrOf, offOf, sdE, inB]
    rw [show List.all _ g0 = true from rfl]
    simp only [dec_iff.2 trivial, Nat.add_assoc, Nat.reduceAdd, Nat.add_zero, cond_true, Int.reduceNeg]
    simp only [Nat.add_assoc, Nat.reduceAdd] at kI kR hla
    clear hJ hgood hgood0 k1 k2 e2 hd hw k3
    have kI1 : ∀ v : Int, 0 ≤ v → v < n2 → isInt .i64 (cellsAt hp.bl b1) (off + (v.toNat * 5 + 1)) = true := fun v h1 h2 => (kI v.toNat (by omega)).1
    have kI2 : ∀ v : Int, 0 ≤ v → v < n2 → isInt .i64 (cellsAt hp.bl b1) (off + (v.toNat * 5 + 2)) = true := fun v h1 h2 => (kI v.toNat (by omega)).2
    have kR1 : ∀ v : Int, 0 ≤ v → v < n → rdOk (cellsAt hp.bl b0) L7 (off0 + v.toNat * 7) = true := fun v h1 h2 => kR v.toNat (by omega)
    clear kI kR
    repeat' refine cond_hd (fun _ => ?_) (fun _ => ?_)
    all_goals grind
  · simp only [List.map_toArray, List.map_cons, List.map_nil, ren1, ren0]
    rw [atB_ren (by simp)]; rfl
  · simp only [List.all_cons, List.all_nil, okR1, e2]; rfl
end
end Go.Proofs.Ytjdidbnmkogflaa.Old

namespace Go.Proofs.Ytjdidbnmkogflaa.Old
open Go.Gi Go.RowKit
noncomputable section
def fB (p : Nat → Bool) (m k : Nat) : Bool := (fst p m k).isSome
def fI (p : Nat → Bool) (m k : Nat) : Nat := (fst p m k).getD 0
theorem fB_hit {p : Nat → Bool} {m i : Nat} (h : p i = true) : fB p (m + 1) i = true := by simp [fB, fst_hit h]
theorem fB_miss {p : Nat → Bool} {m i : Nat} (h : p i = false) : fB p (m + 1) i = fB p m (i + 1) := by simp [fB, fst_miss h]
theorem fI_hit {p : Nat → Bool} {m i : Nat} (h : p i = true) : fI p (m + 1) i = i := by simp [fI, fst_hit h]
theorem fI_miss {p : Nat → Bool} {m i : Nat} (h : p i = false) : fI p (m + 1) i = fI p m (i + 1) := by simp [fI, fst_miss h]
def srE (a : Option Addr) (H : List Ob) (k : Nat) : Int := srcE (arrOf a H) (offOf a) k
def srP (a : Option Addr) (H : List Ob) (k : Nat) : Bool := !decide (srE a H k = 0)
def soE (a b : Option Addr) (n : Nat) (H : List Ob) (k : Nat) : Int := sdE (arrOf a H) (offOf a) n (arrOf b H) (offOf b) k
def soP (a b : Option Addr) (n : Nat) (H : List Ob) (k : Nat) : Bool := !decide (soE a b n H k = 0)
def tmE (c : Array Value) (off k : Nat) : Int :=
  if inB (getInt c (off + k)) 1 100000000 = false then 7 else if 0 < k ∧ getInt c (off + k) ≤ getInt c (off + (k - 1)) then 2 else 0
def tmP (c : Array Value) (off k : Nat) : Bool := !decide (tmE c off k = 0)
def grOb (o : Ob) : Prop := o = .dead ∨ ∃ c, o = .cells c true ∧ c.toList.all g0 = true
def okC (a b d : Option Addr) (n z n2 z2 n3 z3 : Nat) (o0 o1 o2 : Ob) : Bool :=
  dec (sc1 3 (.slice a n z) = true ∧ sc1 3 (.slice b n2 z2) = true ∧ sc1 3 (.slice d n3 z3) = true ∧ grOb o0 ∧ grOb o1 ∧ grOb o2 ∧
    SliceL L7 a n z [o0, o1, o2] ∧ SliceL L5 b n2 z2 [o0, o1, o2] ∧ n ≤ 6 ∧ n2 ≤ 60 ∧ n3 ≤ 20)
def ok0 (i : Int) : Bool := dec (0 ≤ i)
def sh21a : Shape
  | .code none (.loop code) ⟨t, [], ⟨o0 :: o1 :: o2 :: .cells ⟨[.slice a n z, .slice b n2 z2, .slice d n3 z3, .int .i64 age, .int .i64 shear]⟩ false :: G, 3, []⟩⟩ =>
    match Nat.beq (firstReg code) 4, lget t 1, lget t 5 with
    | true, .pointer (some ⟨3, 0, none⟩), .int .i64 k => some fun j =>
      .br (eqCode code (theLoop Try.prog 21 0)) (.br (Nat.beq t.length 97) (.br (okC a b d n z n2 z2 n3 z3 o0 o1 o2) (.br (ok0 k)
 (.br (fB (srP a [o0, o1, o2]) (n - k.toNat) k.toNat)
          (loopEnd 97 .ret [(2, .int .i64 2), (3, .int .i64 (Int.ofNat (fI (srP a [o0, o1, o2]) (n - k.toNat) k.toNat))), (4, .int .i64 (srE a [o0, o1, o2] (fI (srP a [o0, o1, o2]) (n - k.toNat) k.toNat)))] ⟨o0 :: o1 :: o2 :: .cells ⟨[.slice a n z, .slice b n2 z2, .slice d n3 z3, .int .i64 age, .int .i64 shear]⟩ false :: G, 3, []⟩ j)
          (loopEnd 97 (.exit 0) [(1, pp 3)] ⟨o0 :: o1 :: o2 :: .cells ⟨[.slice a n z, .slice b n2 z2, .slice d n3 z3, .int .i64 age, .int .i64 shear]⟩ false :: G, 3, []⟩ j)) .no) .no) .no) .no
    | _, _, _ => none
  | _ => none
def sh21b : Shape
  | .code none (.loop code) ⟨t, [], ⟨o0 :: o1 :: o2 :: .cells ⟨[.slice a n z, .slice b n2 z2, .slice d n3 z3, .int .i64 age, .int .i64 shear]⟩ false :: G, 3, []⟩⟩ =>
    match Nat.beq (firstReg code) 10, lget t 1, lget t 7 with
    | true, .pointer (some ⟨3, 0, none⟩), .int .i64 k => some fun j =>
      .br (eqCode code (theLoop Try.prog 21 1)) (.br (Nat.beq t.length 97) (.br (okC a b d n z n2 z2 n3 z3 o0 o1 o2) (.br (ok0 k)
 (.br (fB (soP a b n [o0, o1, o2]) (n2 - k.toNat) k.toNat)
          (loopEnd 97 .ret [(2, .int .i64 3), (3, .int .i64 (Int.ofNat (fI (soP a b n [o0, o1, o2]) (n2 - k.toNat) k.toNat))), (4, .int .i64 (soE a b n [o0, o1, o2] (fI (soP a b n [o0, o1, o2]) (n2 - k.toNat) k.toNat)))] ⟨o0 :: o1 :: o2 :: .cells ⟨[.slice a n z, .slice b n2 z2, .slice d n3 z3, .int .i64 age, .int .i64 shear]⟩ false :: G, 3, []⟩ j)
          (loopEnd 97 (.exit 2) [(1, pp 3)] ⟨o0 :: o1 :: o2 :: .cells ⟨[.slice a n z, .slice b n2 z2, .slice d n3 z3, .int .i64 age, .int .i64 shear]⟩ false :: G, 3, []⟩ j)) .no) .no) .no) .no
    | _, _, _ => none
  | _ => none
def okD (a b : Option Addr) (n z n2 z2 : Nat) (c : Array Value) (off n3 : Nat) (o0 o1 : Ob) (k : Int) : Bool :=
  dec (sc1 3 (.slice a n z) = true ∧ sc1 3 (.slice b n2 z2) = true ∧ grOb o0 ∧ grOb o1 ∧ GoodL L1 c off n3 ∧ n3 ≤ 20 ∧ 0 ≤ k)
def sh21c : Shape
  | .code none (.loop code) ⟨t, [], ⟨o0 :: o1 :: .cells c true :: .cells ⟨[.slice a n z, .slice b n2 z2, .slice (some ⟨2, off, none⟩) n3 1, .int .i64 age, .int .i64 shear]⟩ false :: G, 3, []⟩⟩ =>
    match Nat.beq (firstReg code) 16, lget t 1, lget t 9 with
    | true, .pointer (some ⟨3, 0, none⟩), .int .i64 k => some fun j =>
      .br (eqCode code (theLoop Try.prog 21 2)) (.br (Nat.beq t.length 97) (.br (okD a b n z n2 z2 c off n3 o0 o1 k)
 (.br (fB (tmP c off) (n3 - k.toNat) k.toNat)
          (loopEnd 97 .ret [(2, .int .i64 4), (3, .int .i64 (Int.ofNat (fI (tmP c off) (n3 - k.toNat) k.toNat))), (4, .int .i64 (tmE c off (fI (tmP c off) (n3 - k.toNat) k.toNat)))] ⟨o0 :: o1 :: .cells c true :: .cells ⟨[.slice a n z, .slice b n2 z2, .slice (some ⟨2, off, none⟩) n3 1, .int .i64 age, .int .i64 shear]⟩ false :: G, 3, []⟩ j)
          (loopEnd 97 (.exit 4) [(1, pp 3)] ⟨o0 :: o1 :: .cells c true :: .cells ⟨[.slice a n z, .slice b n2 z2, .slice (some ⟨2, off, none⟩) n3 1, .int .i64 age, .int .i64 shear]⟩ false :: G, 3, []⟩ j)) .no) .no) .no
    | _, _, _ => none
  | _ => none
def mesB (q : Nat) (ix : Nat) : Task → Nat
  | .code _ _ ⟨t, _, ⟨_ :: _ :: _ :: .cells ⟨[.slice _ n _, .slice _ n2 _, .slice _ n3 _, _, _]⟩ _ :: _, _, _⟩⟩ => match lget t ix with
    | .int _ i => Nat.sub (match q with | 0 => n | 1 => n2 | _ => n3) i.toNat
    | _ => 0
  | _ => 0
def pick21 : Ex → List Nat
  | .ret => [2, 3, 4]
  | _ => [1]
end
end Go.Proofs.Ytjdidbnmkogflaa.Old

