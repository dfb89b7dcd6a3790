/- The loop of wind.CheckBands: what it finds. Conditions: none. -/
import Derived.Test.YtplejmmkcfmdcaaGhW1
import Derived.WalkKit
namespace Go.Proofs.Ytplejmmkcfmdcaa
open Go.Gh Go.RowKit
noncomputable section
set_option maxRecDepth 100000
theorem tree25 (J : Task → List Value) (off : Nat) (c : Array Value) (n : Nat) (i fr : Int) (M : Nat) (y : List Value) :
    evS Try.prog (((sh25.ans J).below mes25 M).or (fun _ => none)) 60 (.code none (.loop (theLoop Try.prog 25 0)) ⟨sets (junkF 33 y) [(4, .int .i64 fr), (16, .slice (some ⟨0, off, none⟩) n 6), (17, .int .i64 (Int.ofNat n)), (18, .int .i64 i)], [], ⟨[.cells c true], 1, []⟩⟩) (sumK 1 33 pick25) =
    cond (decide (i < (Int.ofNat n)))
    (cond (and (decide ((0 : Int) ≤ i)) (decide (i < (Int.ofNat n))))
     (cond (and true (rdOk c [(Leaf.int .i64), (Leaf.int .i64), (Leaf.int .i64), (Leaf.int .i64), (Leaf.int .i64), (Leaf.int .i64)] (off + ((Int.toNat i) * 6))))
      (cond (not (decide ((getInt c (off + ((Int.toNat i) * 6))) = fr)))
       (some (Out.ex Ex.ret (St.mk [(Value.int .i64 i), (Value.int .i64 (2 : Int))] [] (Hp.mk [(Ob.cells c true)] 33 []))))
       (cond (decide ((getInt c ((off + ((Int.toNat i) * 6)) + 1)) ≤ (getInt c (off + ((Int.toNat i) * 6)))))
        (some (Out.ex Ex.ret (St.mk [(Value.int .i64 i), (Value.int .i64 (7 : Int))] [] (Hp.mk [(Ob.cells c true)] 33 []))))
        (cond (decide ((100000000 : Int) < (getInt c ((off + ((Int.toNat i) * 6)) + 1))))
         (some (Out.ex Ex.ret (St.mk [(Value.int .i64 i), (Value.int .i64 (7 : Int))] [] (Hp.mk [(Ob.cells c true)] 33 []))))
         (cond (decide ((getInt c (((off + ((Int.toNat i) * 6)) + 1) + 1)) ≤ (getInt c ((((off + ((Int.toNat i) * 6)) + 1) + 1) + 1))))
          (cond (decide ((-20000 : Int) ≤ (getInt c (((off + ((Int.toNat i) * 6)) + 1) + 1))))
           (cond (decide ((getInt c (((off + ((Int.toNat i) * 6)) + 1) + 1)) ≤ (20000 : Int)))
            (cond (decide ((-20000 : Int) ≤ (getInt c ((((off + ((Int.toNat i) * 6)) + 1) + 1) + 1))))
             (cond (not (decide ((getInt c ((((off + ((Int.toNat i) * 6)) + 1) + 1) + 1)) ≤ (20000 : Int))))
              (some (Out.ex Ex.ret (St.mk [(Value.int .i64 i), (Value.int .i64 (7 : Int))] [] (Hp.mk [(Ob.cells c true)] 33 []))))
              (cond (decide ((getInt c (((((off + ((Int.toNat i) * 6)) + 1) + 1) + 1) + 1)) ≤ (getInt c ((((((off + ((Int.toNat i) * 6)) + 1) + 1) + 1) + 1) + 1))))
               (cond (decide ((-20000 : Int) ≤ (getInt c (((((off + ((Int.toNat i) * 6)) + 1) + 1) + 1) + 1))))
                (cond (decide ((getInt c (((((off + ((Int.toNat i) * 6)) + 1) + 1) + 1) + 1)) ≤ (20000 : Int)))
                 (cond (decide ((-20000 : Int) ≤ (getInt c ((((((off + ((Int.toNat i) * 6)) + 1) + 1) + 1) + 1) + 1))))
                  (cond (not (decide ((getInt c ((((((off + ((Int.toNat i) * 6)) + 1) + 1) + 1) + 1) + 1)) ≤ (20000 : Int))))
                   (some (Out.ex Ex.ret (St.mk [(Value.int .i64 i), (Value.int .i64 (7 : Int))] [] (Hp.mk [(Ob.cells c true)] 33 []))))
                   (cond (Nat.blt (Nat.sub (Int.toNat (Int.ofNat n)) (Int.toNat (IntKind.wrap .i64 (i + (1 : Int))))) M)
                    (cond (eqCode (theLoop Try.prog 25 0) (theLoop Try.prog 25 0))
                     (cond (ok25 off c n (IntKind.wrap .i64 (i + (1 : Int))) (Int.ofNat n))
                      (cond (cbB c off (n - (Int.toNat (IntKind.wrap .i64 (i + (1 : Int))))) (Int.toNat (IntKind.wrap .i64 (i + (1 : Int)))) (getInt c ((off + ((Int.toNat i) * 6)) + 1)))
                       (some (Out.ex Ex.ret (St.mk [(Value.int .i64 (cbI c off (n - (Int.toNat (IntKind.wrap .i64 (i + (1 : Int))))) (Int.toNat (IntKind.wrap .i64 (i + (1 : Int)))) (getInt c ((off + ((Int.toNat i) * 6)) + 1)))), (Value.int .i64 (cbE c off (n - (Int.toNat (IntKind.wrap .i64 (i + (1 : Int))))) (Int.toNat (IntKind.wrap .i64 (i + (1 : Int)))) (getInt c ((off + ((Int.toNat i) * 6)) + 1))))] [] (Hp.mk [(Ob.cells c true)] 33 []))))
                       (some (Out.ex (Ex.exit 0) (St.mk [] [] (Hp.mk [(Ob.cells c true)] 33 [])))))
                      (none))
                     (none))
                    (none)))
                  (some (Out.ex Ex.ret (St.mk [(Value.int .i64 i), (Value.int .i64 (7 : Int))] [] (Hp.mk [(Ob.cells c true)] 33 [])))))
                 (some (Out.ex Ex.ret (St.mk [(Value.int .i64 i), (Value.int .i64 (7 : Int))] [] (Hp.mk [(Ob.cells c true)] 33 [])))))
                (some (Out.ex Ex.ret (St.mk [(Value.int .i64 i), (Value.int .i64 (7 : Int))] [] (Hp.mk [(Ob.cells c true)] 33 [])))))
               (some (Out.ex Ex.ret (St.mk [(Value.int .i64 i), (Value.int .i64 (7 : Int))] [] (Hp.mk [(Ob.cells c true)] 33 []))))))
             (some (Out.ex Ex.ret (St.mk [(Value.int .i64 i), (Value.int .i64 (7 : Int))] [] (Hp.mk [(Ob.cells c true)] 33 [])))))
            (some (Out.ex Ex.ret (St.mk [(Value.int .i64 i), (Value.int .i64 (7 : Int))] [] (Hp.mk [(Ob.cells c true)] 33 [])))))
           (some (Out.ex Ex.ret (St.mk [(Value.int .i64 i), (Value.int .i64 (7 : Int))] [] (Hp.mk [(Ob.cells c true)] 33 [])))))
          (some (Out.ex Ex.ret (St.mk [(Value.int .i64 i), (Value.int .i64 (7 : Int))] [] (Hp.mk [(Ob.cells c true)] 33 []))))))))
      (none))
     (none))
    (some (Out.ex (Ex.exit 0) (St.mk [] [] (Hp.mk [(Ob.cells c true)] 33 [])))) := by kernel_rfl

theorem noNG_of {P : Program} (h : (P.funcs.toList.all fun fn => !(fn.name == "runtime.NumGoroutine")) = true) : NoNG P := by
  intro f fn hf _
  rw [List.all_eq_true] at h
  have := h fn (by rw [Array.mem_toList_iff]; exact Array.mem_of_getElem? hf)
  simpa using this
theorem noNG : NoNG Try.prog := noNG_of (by decide +kernel)
theorem mixed : Try.prog.follows .mixedOrders = true := by decide +kernel

theorem kept1 (c : Array Value) (r : Bool) (h : obSc 1 (.cells c r) = true) : ObsKept 1 [.cells c r] [.cells c r] := .cons (by simp [obKept, h]) .nil

theorem known25 : ∃ J, Known Try.prog (sh25.ans J) := by
  refine Known.junk (Known.nothing _) mes25 sh25 ?_
  intro J t f hs hkn
  unfold sh25 at hs
  split at hs
  case h_2 => cases hs
  rename_i code t c G
  split at hs
  case h_2 => cases hs
  rename_i off n m i fr e16 e17 e18 e4
  simp only [Option.some.injEq] at hs
  subst hs
  refine ex_guard fun h1 => ex_guard fun h2 => ex_guard fun h3 => ?_
  obtain rfl := eqCode_eq h1
  have hl : t.length = 33 := Nat.eq_of_beq_eq_true h2
  obtain ⟨hg, hi0, hn, rfl⟩ := dec_iff.1 h3
  obtain ⟨i, rfl⟩ := Int.eq_ofNat_of_zero_le hi0
  have use := fun e vs H1 wr1 hev hk he hvs => hkn.loopLeaf (G := G) noNG mixed (n := 60) (N0 := 33) (N := 33) (live := [(4, .int .i64 fr), (16, .slice (some ⟨0, off, none⟩) n 6), (17, .int .i64 (Int.ofNat n)), (18, .int .i64 (Int.ofNat i))]) (H0 := [.cells c true]) (pick := pick25) (e := e) (vs := vs) (H1 := H1) (wr1 := wr1)
    (base := 1) (wr := []) (c := theLoop Try.prog 25 0) (t := t) hev hl (by
      intro kv hm
      simp only [List.mem_cons, List.not_mem_nil, or_false] at hm
      rcases hm with rfl | rfl | rfl | rfl
      · exact ⟨e4, rfl, rfl⟩
      · exact ⟨e16, rfl, rfl⟩
      · exact ⟨e17, rfl, rfl⟩
      · exact ⟨e18, rfl, rfl⟩) (Nat.le_refl 1) (by simp [obSc_g0 hg.1]) hk he hvs
  simp only [List.length_cons, List.length_nil, Nat.zero_add] at use
  rw [tree25] at use
  have use2 := fun e vs hev he hvs => use e vs [.cells c true] [] hev (kept1 c true (obSc_g0 hg.1)) he hvs
  clear use
  simp only [Int.ofNat_eq_natCast, Int.toNat_natCast] at use2 ⊢
  by_cases hin : (i : Int) < n
  · have hx := hg.2 i (by omega)
    obtain ⟨m, hm⟩ : ∃ m, n - i = m + 1 := ⟨n - i - 1, by omega⟩
    have hw : IntKind.i64.wrap ((i : Int) + 1) = ((i + 1 : Nat) : Int) := by rw [wrap64_id (by omega) (by omega)]; rfl
    rw [hm]
    have hm' : n - (i + 1) = m := by omega
    simp only [hw, Int.toNat_natCast, hm', hx, hin, decide_true, cond_true, Bool.true_and, Int.natCast_nonneg, eqCode_self] at use2
    have hme : (n.sub (i + 1)).blt (mes25 (.code none (.loop (theLoop Try.prog 25 0)) ⟨t, [], ⟨.cells c true :: G, 1, []⟩⟩)) = true := by
      simp only [mes25, e17, e18, Nat.blt_eq, Int.toNat_natCast]
      show n - (i + 1) < n - i
      omega
    have hok : ok25 off c n ↑(i + 1) n = true := dec_iff.2 ⟨hg, by omega, hn, rfl⟩
    simp only [hme, hok, cond_true] at use2
    by_cases he : ckB c (off + i * 6) fr = 0
    · have e1 : cbB c off (m + 1) i fr = cbB c off m (i + 1) (getInt c (off + i * 6 + 1)) := by simp [cbB, cb, he]
      have e2 : cbI c off (m + 1) i fr = cbI c off m (i + 1) (getInt c (off + i * 6 + 1)) := by simp [cbI, cb, he]
      have e3 : cbE c off (m + 1) i fr = cbE c off m (i + 1) (getInt c (off + i * 6 + 1)) := by simp [cbE, cb, he]
      rw [e1, e2, e3]
      cases hb : cbB c off m (i + 1) (getInt c (off + i * 6 + 1)) with
      | true =>
        refine use2 .ret [.int .i64 (cbI c off m (i + 1) (getInt c (off + i * 6 + 1))), .int .i64 (cbE c off m (i + 1) (getInt c (off + i * 6 + 1)))] ?_ rfl rfl
        revert he
        unfold ckB wsp wnd
        simp only [cond_eq_ite, Bool.not_eq_true', decide_eq_true_eq, decide_eq_false_iff_not, hb]
        grind
      | false =>
        refine use2 (.exit 0) [] ?_ rfl rfl
        revert he
        unfold ckB wsp wnd
        simp only [cond_eq_ite, Bool.not_eq_true', decide_eq_true_eq, decide_eq_false_iff_not, hb]
        grind
    · have e1 : cbB c off (m + 1) i fr = true := by simp [cbB, cb, he]
      have e2 : cbI c off (m + 1) i fr = i := by simp [cbI, cb, he]
      have e3 : cbE c off (m + 1) i fr = ckB c (off + i * 6) fr := by simp [cbE, cb, he]
      rw [e1, e2, e3]
      refine use2 .ret [.int .i64 i, .int .i64 (ckB c (off + i * 6) fr)] ?_ rfl rfl
      revert he
      unfold ckB wsp wnd
      simp only [cond_eq_ite, Bool.not_eq_true', decide_eq_true_eq, decide_eq_false_iff_not]
      grind
  · have h0 : n - i = 0 := by omega
    have e1 : cbB c off (n - i) i fr = false := by rw [h0]; rfl
    rw [e1]
    refine use2 (.exit 0) [] ?_ rfl rfl
    simp only [hin, decide_false, cond_false]
end
end Go.Proofs.Ytplejmmkcfmdcaa
