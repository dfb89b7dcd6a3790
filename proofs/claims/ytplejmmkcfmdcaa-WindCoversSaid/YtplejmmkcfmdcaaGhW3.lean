/- The loop of hangfireref01.CheckBands: what it finds. Conditions: none. -/
import Derived.Test.YtplejmmkcfmdcaaGhW2
namespace Go.Proofs.Ytplejmmkcfmdcaa
open Go.Gh Go.RowKit
noncomputable section
set_option maxRecDepth 100000
theorem tree26 (J : Task → List Value) (off : Nat) (c : Array Value) (n : Nat) (i : Int) (M : Nat) (y : List Value) :
    evS Try.prog (((sh26.ans J).below mes26 M).or (fun _ => none)) 60 (.code none (.loop (theLoop Try.prog 26 0)) ⟨sets (junkF 70 y) [(0, .slice (some ⟨0, off, none⟩) n 6), (4, .int .i64 i)], [], ⟨[.cells c true], 1, []⟩⟩) (sumK 1 70 pick25) =
    cond (decide (i < (Int.ofNat n)))
    (cond (decide ((0 : Int) < i))
     (cond (and (decide ((0 : Int) ≤ (IntKind.wrap .i64 (i - (1 : Int))))) (decide ((IntKind.wrap .i64 (i - (1 : Int))) < (Int.ofNat n))))
      (cond (and true (isInt .i64 c ((off + ((Int.toNat (IntKind.wrap .i64 (i - (1 : Int)))) * 6)) + 1)))
       (cond (and (decide ((0 : Int) ≤ i)) (decide (i < (Int.ofNat n))))
        (cond (and true (isInt .i64 c ((off + ((Int.toNat i) * 6)) + 0)))
         (cond (not (decide ((getInt c ((off + ((Int.toNat i) * 6)) + 0)) = (getInt c ((off + ((Int.toNat (IntKind.wrap .i64 (i - (1 : Int)))) * 6)) + 1)))))
          (some (Out.ex Ex.ret (St.mk [(Value.int .i64 i), (Value.int .i64 (2 : Int))] [] (Hp.mk [(Ob.cells c true)] 70 []))))
          (cond (and (decide ((0 : Int) ≤ i)) (decide (i < (Int.ofNat n))))
           (cond (and true (isInt .i64 c ((off + ((Int.toNat i) * 6)) + 1)))
            (cond (and (decide ((0 : Int) ≤ i)) (decide (i < (Int.ofNat n))))
             (cond (and true (isInt .i64 c ((off + ((Int.toNat i) * 6)) + 0)))
              (cond (decide ((getInt c ((off + ((Int.toNat i) * 6)) + 1)) ≤ (getInt c ((off + ((Int.toNat i) * 6)) + 0))))
               (some (Out.ex Ex.ret (St.mk [(Value.int .i64 i), (Value.int .i64 (7 : Int))] [] (Hp.mk [(Ob.cells c true)] 70 []))))
               (cond (and (decide ((0 : Int) ≤ i)) (decide (i < (Int.ofNat n))))
                (cond (and true (isInt .i64 c ((off + ((Int.toNat i) * 6)) + 1)))
                 (cond (decide ((100000000 : Int) < (getInt c ((off + ((Int.toNat i) * 6)) + 1))))
                  (some (Out.ex Ex.ret (St.mk [(Value.int .i64 i), (Value.int .i64 (7 : Int))] [] (Hp.mk [(Ob.cells c true)] 70 []))))
                  (cond (and (decide ((0 : Int) ≤ i)) (decide (i < (Int.ofNat n))))
                   (cond (and true (rdOk c [(Leaf.int .i64), (Leaf.int .i64)] ((off + ((Int.toNat i) * 6)) + 2)))
                    (cond (decide ((-20000 : Int) ≤ (getInt c ((off + ((Int.toNat i) * 6)) + 2))))
                     (cond (decide ((getInt c ((off + ((Int.toNat i) * 6)) + 2)) ≤ (20000 : Int)))
                      (cond (decide ((-20000 : Int) ≤ (getInt c (((off + ((Int.toNat i) * 6)) + 2) + 1))))
                       (cond (decide ((getInt c (((off + ((Int.toNat i) * 6)) + 2) + 1)) ≤ (20000 : Int)))
                        (cond (not (decide ((getInt c ((off + ((Int.toNat i) * 6)) + 2)) ≤ (getInt c (((off + ((Int.toNat i) * 6)) + 2) + 1)))))
                         (some (Out.ex Ex.ret (St.mk [(Value.int .i64 i), (Value.int .i64 (7 : Int))] [] (Hp.mk [(Ob.cells c true)] 70 []))))
                         (cond (and (decide ((0 : Int) ≤ i)) (decide (i < (Int.ofNat n))))
                          (cond (and true (rdOk c [(Leaf.int .i64), (Leaf.int .i64)] ((off + ((Int.toNat i) * 6)) + 4)))
                           (cond (decide ((-20000 : Int) ≤ (getInt c ((off + ((Int.toNat i) * 6)) + 4))))
                            (cond (decide ((getInt c ((off + ((Int.toNat i) * 6)) + 4)) ≤ (20000 : Int)))
                             (cond (decide ((-20000 : Int) ≤ (getInt c (((off + ((Int.toNat i) * 6)) + 4) + 1))))
                              (cond (decide ((getInt c (((off + ((Int.toNat i) * 6)) + 4) + 1)) ≤ (20000 : Int)))
                               (cond (not (decide ((getInt c ((off + ((Int.toNat i) * 6)) + 4)) ≤ (getInt c (((off + ((Int.toNat i) * 6)) + 4) + 1)))))
                                (some (Out.ex Ex.ret (St.mk [(Value.int .i64 i), (Value.int .i64 (7 : Int))] [] (Hp.mk [(Ob.cells c true)] 70 []))))
                                (cond (Nat.blt (Nat.sub n (Int.toNat (IntKind.wrap .i64 (i + (1 : Int))))) M)
                                 (cond (eqCode (theLoop Try.prog 26 0) (theLoop Try.prog 26 0))
                                  (cond (ok26 off c n (IntKind.wrap .i64 (i + (1 : Int))))
                                   (cond (cbB c off (n - (Int.toNat (IntKind.wrap .i64 (i + (1 : Int))))) (Int.toNat (IntKind.wrap .i64 (i + (1 : Int)))) (frOfI c off (Int.toNat (IntKind.wrap .i64 (i + (1 : Int))))))
                                    (some (Out.ex Ex.ret (St.mk [(Value.int .i64 (cbI c off (n - (Int.toNat (IntKind.wrap .i64 (i + (1 : Int))))) (Int.toNat (IntKind.wrap .i64 (i + (1 : Int)))) (frOfI c off (Int.toNat (IntKind.wrap .i64 (i + (1 : Int))))))), (Value.int .i64 (cbE c off (n - (Int.toNat (IntKind.wrap .i64 (i + (1 : Int))))) (Int.toNat (IntKind.wrap .i64 (i + (1 : Int)))) (frOfI c off (Int.toNat (IntKind.wrap .i64 (i + (1 : Int)))))))] [] (Hp.mk [(Ob.cells c true)] 70 []))))
                                    (some (Out.ex (Ex.exit 0) (St.mk [] [] (Hp.mk [(Ob.cells c true)] 70 [])))))
                                   (none))
                                  (none))
                                 (none)))
                               (some (Out.ex Ex.ret (St.mk [(Value.int .i64 i), (Value.int .i64 (7 : Int))] [] (Hp.mk [(Ob.cells c true)] 70 [])))))
                              (some (Out.ex Ex.ret (St.mk [(Value.int .i64 i), (Value.int .i64 (7 : Int))] [] (Hp.mk [(Ob.cells c true)] 70 [])))))
                             (some (Out.ex Ex.ret (St.mk [(Value.int .i64 i), (Value.int .i64 (7 : Int))] [] (Hp.mk [(Ob.cells c true)] 70 [])))))
                            (some (Out.ex Ex.ret (St.mk [(Value.int .i64 i), (Value.int .i64 (7 : Int))] [] (Hp.mk [(Ob.cells c true)] 70 [])))))
                           (none))
                          (none)))
                        (some (Out.ex Ex.ret (St.mk [(Value.int .i64 i), (Value.int .i64 (7 : Int))] [] (Hp.mk [(Ob.cells c true)] 70 [])))))
                       (some (Out.ex Ex.ret (St.mk [(Value.int .i64 i), (Value.int .i64 (7 : Int))] [] (Hp.mk [(Ob.cells c true)] 70 [])))))
                      (some (Out.ex Ex.ret (St.mk [(Value.int .i64 i), (Value.int .i64 (7 : Int))] [] (Hp.mk [(Ob.cells c true)] 70 [])))))
                     (some (Out.ex Ex.ret (St.mk [(Value.int .i64 i), (Value.int .i64 (7 : Int))] [] (Hp.mk [(Ob.cells c true)] 70 [])))))
                    (none))
                   (none)))
                 (none))
                (none)))
              (none))
             (none))
            (none))
           (none)))
         (none))
        (none))
       (none))
      (none))
     (cond (and (decide ((0 : Int) ≤ i)) (decide (i < (Int.ofNat n))))
      (cond (and true (isInt .i64 c ((off + ((Int.toNat i) * 6)) + 0)))
       (cond (not (decide ((getInt c ((off + ((Int.toNat i) * 6)) + 0)) = (0 : Int))))
        (some (Out.ex Ex.ret (St.mk [(Value.int .i64 i), (Value.int .i64 (2 : Int))] [] (Hp.mk [(Ob.cells c true)] 70 []))))
        (cond (and (decide ((0 : Int) ≤ i)) (decide (i < (Int.ofNat n))))
         (cond (and true (isInt .i64 c ((off + ((Int.toNat i) * 6)) + 1)))
          (cond (and (decide ((0 : Int) ≤ i)) (decide (i < (Int.ofNat n))))
           (cond (and true (isInt .i64 c ((off + ((Int.toNat i) * 6)) + 0)))
            (cond (decide ((getInt c ((off + ((Int.toNat i) * 6)) + 1)) ≤ (getInt c ((off + ((Int.toNat i) * 6)) + 0))))
             (some (Out.ex Ex.ret (St.mk [(Value.int .i64 i), (Value.int .i64 (7 : Int))] [] (Hp.mk [(Ob.cells c true)] 70 []))))
             (cond (and (decide ((0 : Int) ≤ i)) (decide (i < (Int.ofNat n))))
              (cond (and true (isInt .i64 c ((off + ((Int.toNat i) * 6)) + 1)))
               (cond (decide ((100000000 : Int) < (getInt c ((off + ((Int.toNat i) * 6)) + 1))))
                (some (Out.ex Ex.ret (St.mk [(Value.int .i64 i), (Value.int .i64 (7 : Int))] [] (Hp.mk [(Ob.cells c true)] 70 []))))
                (cond (and (decide ((0 : Int) ≤ i)) (decide (i < (Int.ofNat n))))
                 (cond (and true (rdOk c [(Leaf.int .i64), (Leaf.int .i64)] ((off + ((Int.toNat i) * 6)) + 2)))
                  (cond (decide ((-20000 : Int) ≤ (getInt c ((off + ((Int.toNat i) * 6)) + 2))))
                   (cond (decide ((getInt c ((off + ((Int.toNat i) * 6)) + 2)) ≤ (20000 : Int)))
                    (cond (decide ((-20000 : Int) ≤ (getInt c (((off + ((Int.toNat i) * 6)) + 2) + 1))))
                     (cond (decide ((getInt c (((off + ((Int.toNat i) * 6)) + 2) + 1)) ≤ (20000 : Int)))
                      (cond (not (decide ((getInt c ((off + ((Int.toNat i) * 6)) + 2)) ≤ (getInt c (((off + ((Int.toNat i) * 6)) + 2) + 1)))))
                       (some (Out.ex Ex.ret (St.mk [(Value.int .i64 i), (Value.int .i64 (7 : Int))] [] (Hp.mk [(Ob.cells c true)] 70 []))))
                       (cond (and (decide ((0 : Int) ≤ i)) (decide (i < (Int.ofNat n))))
                        (cond (and true (rdOk c [(Leaf.int .i64), (Leaf.int .i64)] ((off + ((Int.toNat i) * 6)) + 4)))
                         (cond (decide ((-20000 : Int) ≤ (getInt c ((off + ((Int.toNat i) * 6)) + 4))))
                          (cond (decide ((getInt c ((off + ((Int.toNat i) * 6)) + 4)) ≤ (20000 : Int)))
                           (cond (decide ((-20000 : Int) ≤ (getInt c (((off + ((Int.toNat i) * 6)) + 4) + 1))))
                            (cond (decide ((getInt c (((off + ((Int.toNat i) * 6)) + 4) + 1)) ≤ (20000 : Int)))
                             (cond (not (decide ((getInt c ((off + ((Int.toNat i) * 6)) + 4)) ≤ (getInt c (((off + ((Int.toNat i) * 6)) + 4) + 1)))))
                              (some (Out.ex Ex.ret (St.mk [(Value.int .i64 i), (Value.int .i64 (7 : Int))] [] (Hp.mk [(Ob.cells c true)] 70 []))))
                              (cond (Nat.blt (Nat.sub n (Int.toNat (IntKind.wrap .i64 (i + (1 : Int))))) M)
                               (cond (eqCode (theLoop Try.prog 26 0) (theLoop Try.prog 26 0))
                                (cond (ok26 off c n (IntKind.wrap .i64 (i + (1 : Int))))
                                 (cond (cbB c off (n - (Int.toNat (IntKind.wrap .i64 (i + (1 : Int))))) (Int.toNat (IntKind.wrap .i64 (i + (1 : Int)))) (frOfI c off (Int.toNat (IntKind.wrap .i64 (i + (1 : Int))))))
                                  (some (Out.ex Ex.ret (St.mk [(Value.int .i64 (cbI c off (n - (Int.toNat (IntKind.wrap .i64 (i + (1 : Int))))) (Int.toNat (IntKind.wrap .i64 (i + (1 : Int)))) (frOfI c off (Int.toNat (IntKind.wrap .i64 (i + (1 : Int))))))), (Value.int .i64 (cbE c off (n - (Int.toNat (IntKind.wrap .i64 (i + (1 : Int))))) (Int.toNat (IntKind.wrap .i64 (i + (1 : Int)))) (frOfI c off (Int.toNat (IntKind.wrap .i64 (i + (1 : Int)))))))] [] (Hp.mk [(Ob.cells c true)] 70 []))))
                                  (some (Out.ex (Ex.exit 0) (St.mk [] [] (Hp.mk [(Ob.cells c true)] 70 [])))))
                                 (none))
                                (none))
                               (none)))
                             (some (Out.ex Ex.ret (St.mk [(Value.int .i64 i), (Value.int .i64 (7 : Int))] [] (Hp.mk [(Ob.cells c true)] 70 [])))))
                            (some (Out.ex Ex.ret (St.mk [(Value.int .i64 i), (Value.int .i64 (7 : Int))] [] (Hp.mk [(Ob.cells c true)] 70 [])))))
                           (some (Out.ex Ex.ret (St.mk [(Value.int .i64 i), (Value.int .i64 (7 : Int))] [] (Hp.mk [(Ob.cells c true)] 70 [])))))
                          (some (Out.ex Ex.ret (St.mk [(Value.int .i64 i), (Value.int .i64 (7 : Int))] [] (Hp.mk [(Ob.cells c true)] 70 [])))))
                         (none))
                        (none)))
                      (some (Out.ex Ex.ret (St.mk [(Value.int .i64 i), (Value.int .i64 (7 : Int))] [] (Hp.mk [(Ob.cells c true)] 70 [])))))
                     (some (Out.ex Ex.ret (St.mk [(Value.int .i64 i), (Value.int .i64 (7 : Int))] [] (Hp.mk [(Ob.cells c true)] 70 [])))))
                    (some (Out.ex Ex.ret (St.mk [(Value.int .i64 i), (Value.int .i64 (7 : Int))] [] (Hp.mk [(Ob.cells c true)] 70 [])))))
                   (some (Out.ex Ex.ret (St.mk [(Value.int .i64 i), (Value.int .i64 (7 : Int))] [] (Hp.mk [(Ob.cells c true)] 70 [])))))
                  (none))
                 (none)))
               (none))
              (none)))
            (none))
           (none))
          (none))
         (none)))
       (none))
      (none)))
    (some (Out.ex (Ex.exit 0) (St.mk [] [] (Hp.mk [(Ob.cells c true)] 70 [])))) := by kernel_rfl

theorem rd6 {c : Array Value} {x : Nat} (h : rdOk c L6 x = true) : isInt .i64 c x = true ∧ isInt .i64 c (x + 1) = true ∧ isInt .i64 c (x + 2) = true ∧ isInt .i64 c (x + 3) = true ∧ isInt .i64 c (x + 4) = true ∧ isInt .i64 c (x + 5) = true := by
  simp only [rdOk, rdLeaf, Bool.and_eq_true] at h
  exact ⟨h.1, h.2.1, h.2.2.1, h.2.2.2.1, h.2.2.2.2.1, h.2.2.2.2.2.1⟩
theorem rd2 {c : Array Value} {x : Nat} (h1 : isInt .i64 c x = true) (h2 : isInt .i64 c (x + 1) = true) : rdOk c [.int .i64, .int .i64] x = true := by
  simp only [rdOk, rdLeaf, h1, h2, Bool.and_self]

theorem known26 : ∃ J, Known Try.prog (sh26.ans J) := by
  refine Known.junk (Known.nothing _) mes26 sh26 ?_
  intro J t f hs hkn
  unfold sh26 at hs
  split at hs
  case h_2 => cases hs
  rename_i code t c G
  split at hs
  case h_2 => cases hs
  rename_i off n i e0 e4
  simp only [Option.some.injEq] at hs
  subst hs
  refine ex_guard fun h1 => ex_guard fun h2 => ex_guard fun h3 => ?_
  obtain rfl := eqCode_eq h1
  have hl : t.length = 70 := Nat.eq_of_beq_eq_true h2
  obtain ⟨hg, hi0, hn⟩ := dec_iff.1 h3
  obtain ⟨i, rfl⟩ := Int.eq_ofNat_of_zero_le hi0
  have use := fun e vs H1 wr1 hev hk he hvs => hkn.loopLeaf (G := G) noNG mixed (n := 60) (N0 := 70) (N := 70) (live := [(0, .slice (some ⟨0, off, none⟩) n 6), (4, .int .i64 (Int.ofNat i))]) (H0 := [.cells c true]) (pick := pick25) (e := e) (vs := vs) (H1 := H1) (wr1 := wr1)
    (base := 1) (wr := []) (c := theLoop Try.prog 26 0) (t := t) hev hl (by
      intro kv hm
      simp only [List.mem_cons, List.not_mem_nil, or_false] at hm
      rcases hm with rfl | rfl
      · exact ⟨e0, rfl, rfl⟩
      · exact ⟨e4, rfl, rfl⟩) (Nat.le_refl 1) (by simp [obSc_g0 hg.1]) hk he hvs
  simp only [List.length_cons, List.length_nil, Nat.zero_add] at use
  rw [tree26] at use
  have use2 := fun e vs hev he hvs => use e vs [.cells c true] [] hev (kept1 c true (obSc_g0 hg.1)) he hvs
  clear use
  simp only [Int.ofNat_eq_natCast, Int.toNat_natCast] at use2 ⊢
  by_cases hin : (i : Int) < n
  · obtain ⟨x0, x1, x2, x3, x4, x5⟩ := rd6 (hg.2 i (by omega))
    have x23 := rd2 x2 x3
    have x45 := rd2 x4 x5
    obtain ⟨m, hm⟩ : ∃ m, n - i = m + 1 := ⟨n - i - 1, by omega⟩
    have hw : IntKind.i64.wrap ((i : Int) + 1) = ((i + 1 : Nat) : Int) := by rw [wrap64_id (by omega) (by omega)]; rfl
    rw [hm]
    have hm' : n - (i + 1) = m := by omega
    have hme : (n.sub (i + 1)).blt (mes26 (.code none (.loop (theLoop Try.prog 26 0)) ⟨t, [], ⟨.cells c true :: G, 1, []⟩⟩)) = true := by
      simp only [mes26, e0, e4, Nat.blt_eq, Int.toNat_natCast]
      show n - (i + 1) < n - i
      omega
    have hok : ok26 off c n ↑(i + 1) = true := dec_iff.2 ⟨hg, by omega, hn⟩
    have hfr : frOfI c off (i + 1) = getInt c (off + i * 6 + 1) := by simp [frOfI]
    simp only [hw, Int.toNat_natCast, hm', hin, decide_true, cond_true, Bool.true_and, Int.natCast_nonneg, eqCode_self, hme, hok, hfr, Nat.add_zero, x0, x1, x23, x45] at use2
    have hprev : (0 < (i : Int)) → (IntKind.i64.wrap ((i : Int) - 1)) = ((i - 1 : Nat) : Int) ∧ isInt .i64 c (off + (i - 1) * 6 + 1) = true ∧ frOfI c off i = getInt c (off + (i - 1) * 6 + 1) := by
      intro hpos
      refine ⟨by rw [wrap64_id (by omega) (by omega)]; omega, (rd6 (hg.2 (i - 1) (by omega))).2.1, ?_⟩
      unfold frOfI; rw [if_neg (by omega)]
    have hz : ¬ (0 < (i : Int)) → frOfI c off i = 0 := fun h => by unfold frOfI; rw [if_pos (by omega)]
    by_cases hpos : 0 < (i : Int)
    · obtain ⟨p1, p2, p3⟩ := hprev hpos
      have p4 : ((i - 1 : Nat) : Int) < n := by omega
      simp only [hpos, decide_true, cond_true, p1, p2, Int.natCast_nonneg, Bool.true_and, p4, Int.toNat_natCast] at use2
      rw [p3]
      by_cases he : ckB c (off + i * 6) (getInt c (off + (i - 1) * 6 + 1)) = 0
      · have e1 : cbB c off (m + 1) i (getInt c (off + (i - 1) * 6 + 1)) = cbB c off m (i + 1) (getInt c (off + i * 6 + 1)) := by simp [cbB, cb, he]
        have e2 : cbI c off (m + 1) i (getInt c (off + (i - 1) * 6 + 1)) = cbI c off m (i + 1) (getInt c (off + i * 6 + 1)) := by simp [cbI, cb, he]
        have e3 : cbE c off (m + 1) i (getInt c (off + (i - 1) * 6 + 1)) = cbE c off m (i + 1) (getInt c (off + i * 6 + 1)) := by simp [cbE, cb, he]
        rw [e1, e2, e3]
        cases hb : cbB c off m (i + 1) (getInt c (off + i * 6 + 1)) with
        | true =>
          refine use2 .ret [.int .i64 (cbI c off m (i + 1) (getInt c (off + i * 6 + 1))), .int .i64 (cbE c off m (i + 1) (getInt c (off + i * 6 + 1)))] ?_ rfl rfl
          revert he
          unfold ckB wsp wnd
          simp only [cond_eq_ite, Bool.not_eq_true', decide_eq_true_eq, decide_eq_false_iff_not, hb]
          grind
        | false =>
          refine use2 (.exit 0) [] ?_ rfl rfl
          revert he
          unfold ckB wsp wnd
          simp only [cond_eq_ite, Bool.not_eq_true', decide_eq_true_eq, decide_eq_false_iff_not, hb]
          grind
      · have e1 : cbB c off (m + 1) i (getInt c (off + (i - 1) * 6 + 1)) = true := by simp [cbB, cb, he]
        have e2 : cbI c off (m + 1) i (getInt c (off + (i - 1) * 6 + 1)) = i := by simp [cbI, cb, he]
        have e3 : cbE c off (m + 1) i (getInt c (off + (i - 1) * 6 + 1)) = ckB c (off + i * 6) (getInt c (off + (i - 1) * 6 + 1)) := by simp [cbE, cb, he]
        rw [e1, e2, e3]
        refine use2 .ret [.int .i64 i, .int .i64 (ckB c (off + i * 6) (getInt c (off + (i - 1) * 6 + 1)))] ?_ rfl rfl
        revert he
        unfold ckB wsp wnd
        simp only [cond_eq_ite, Bool.not_eq_true', decide_eq_true_eq, decide_eq_false_iff_not]
        grind
    · have p3 := hz hpos
      simp only [hpos, decide_false, cond_false] at use2
      rw [p3]
      by_cases he : ckB c (off + i * 6) 0 = 0
      · have e1 : cbB c off (m + 1) i 0 = cbB c off m (i + 1) (getInt c (off + i * 6 + 1)) := by simp [cbB, cb, he]
        have e2 : cbI c off (m + 1) i 0 = cbI c off m (i + 1) (getInt c (off + i * 6 + 1)) := by simp [cbI, cb, he]
        have e3 : cbE c off (m + 1) i 0 = cbE c off m (i + 1) (getInt c (off + i * 6 + 1)) := by simp [cbE, cb, he]
        rw [e1, e2, e3]
        cases hb : cbB c off m (i + 1) (getInt c (off + i * 6 + 1)) with
        | true =>
          refine use2 .ret [.int .i64 (cbI c off m (i + 1) (getInt c (off + i * 6 + 1))), .int .i64 (cbE c off m (i + 1) (getInt c (off + i * 6 + 1)))] ?_ rfl rfl
          revert he
          unfold ckB wsp wnd
          simp only [cond_eq_ite, Bool.not_eq_true', decide_eq_true_eq, decide_eq_false_iff_not, hb]
          grind
        | false =>
          refine use2 (.exit 0) [] ?_ rfl rfl
          revert he
          unfold ckB wsp wnd
          simp only [cond_eq_ite, Bool.not_eq_true', decide_eq_true_eq, decide_eq_false_iff_not, hb]
          grind
      · have e1 : cbB c off (m + 1) i 0 = true := by simp [cbB, cb, he]
        have e2 : cbI c off (m + 1) i 0 = i := by simp [cbI, cb, he]
        have e3 : cbE c off (m + 1) i 0 = ckB c (off + i * 6) 0 := by simp [cbE, cb, he]
        rw [e1, e2, e3]
        refine use2 .ret [.int .i64 i, .int .i64 (ckB c (off + i * 6) 0)] ?_ rfl rfl
        revert he
        unfold ckB wsp wnd
        simp only [cond_eq_ite, Bool.not_eq_true', decide_eq_true_eq, decide_eq_false_iff_not]
        grind
  · have h0 : n - i = 0 := by omega
    have e1 : cbB c off (n - i) i (frOfI c off i) = false := by rw [h0]; rfl
    rw [e1]
    refine use2 (.exit 0) [] ?_ rfl rfl
    simp only [hin, decide_false, cond_false]
end
end Go.Proofs.Ytplejmmkcfmdcaa
