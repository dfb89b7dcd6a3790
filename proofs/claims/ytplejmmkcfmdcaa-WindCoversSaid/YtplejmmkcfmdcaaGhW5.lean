/- The loop of hangfireref01.Over: the band that it finds. Conditions: none. -/
import Derived.Test.YtplejmmkcfmdcaaGhW4
namespace Go.Proofs.Ytplejmmkcfmdcaa
open Go.Gh Go.RowKit
noncomputable section
set_option maxRecDepth 100000
theorem tree28 (J : Task → List Value) (off : Nat) (c : Array Value) (n : Nat) (i h : Int) (M : Nat) (y : List Value) :
    evS Try.prog (((sh28.ans J).below mes28 M).or (fun _ => none)) 60 (.code none (.loop (theLoop Try.prog 28 0)) ⟨sets (junkF 61 y) [(0, .slice (some ⟨0, off, none⟩) n 6), (1, .int .i64 h), (4, pp 1), (5, pp 2), (9, .int .i64 i)], [], ⟨[.cells c true, .cells Z2 false, .cells Z2 false], 1, []⟩⟩) (sumK 3 61 pick27) =
    cond (decide (i < (Int.ofNat n)))
    (cond (and (decide ((0 : Int) ≤ i)) (decide (i < (Int.ofNat n))))
     (cond (and true (isInt .i64 c ((off + ((Int.toNat i) * 6)) + 0)))
      (cond (decide ((getInt c ((off + ((Int.toNat i) * 6)) + 0)) ≤ h))
       (cond (and (decide ((0 : Int) ≤ i)) (decide (i < (Int.ofNat n))))
        (cond (and true (isInt .i64 c ((off + ((Int.toNat i) * 6)) + 1)))
         (cond (decide (h < (getInt c ((off + ((Int.toNat i) * 6)) + 1))))
          (cond (and (decide ((0 : Int) ≤ i)) (decide (i < (Int.ofNat n))))
           (cond (and true (rdOk c [(Leaf.int .i64), (Leaf.int .i64)] ((off + ((Int.toNat i) * 6)) + 2)))
            (cond (and (decide ((0 : Int) ≤ i)) (decide (i < (Int.ofNat n))))
             (cond (and true (rdOk c [(Leaf.int .i64), (Leaf.int .i64)] ((off + ((Int.toNat i) * 6)) + 4)))
              (cond (and true (rdOk c [(Leaf.int .i64), (Leaf.int .i64)] ((off + ((Int.toNat i) * 6)) + 4)))
               (cond (decide ((getInt c ((off + ((Int.toNat i) * 6)) + 4)) = (getInt c ((off + ((Int.toNat i) * 6)) + 4))))
                (cond (decide ((getInt c (((off + ((Int.toNat i) * 6)) + 4) + 1)) = (getInt c (((off + ((Int.toNat i) * 6)) + 4) + 1))))
                 (cond (and true (rdOk c [(Leaf.int .i64), (Leaf.int .i64)] ((off + ((Int.toNat i) * 6)) + 4)))
                  (cond (decide ((getInt c ((off + ((Int.toNat i) * 6)) + 4)) = (getInt c ((off + ((Int.toNat i) * 6)) + 4))))
                   (cond (decide ((getInt c (((off + ((Int.toNat i) * 6)) + 4) + 1)) = (getInt c (((off + ((Int.toNat i) * 6)) + 4) + 1))))
                    (some (Out.ex Ex.ret (St.mk [(Value.pointer (Option.some (Addr.mk 1 0 Option.none))), (Value.pointer (Option.some (Addr.mk 2 0 Option.none))), (Value.int .i64 (0 : Int))] [] (Hp.mk [(Ob.cells c true), (Ob.cells ⟨[(Value.int .i64 (getInt c ((off + ((Int.toNat i) * 6)) + 2))), (Value.int .i64 (getInt c (((off + ((Int.toNat i) * 6)) + 2) + 1)))]⟩ false), (Ob.cells ⟨[(Value.int .i64 (getInt c ((off + ((Int.toNat i) * 6)) + 4))), (Value.int .i64 (getInt c (((off + ((Int.toNat i) * 6)) + 4) + 1)))]⟩ false)] 61 []))))
                    (none))
                   (none))
                  (none))
                 (none))
                (none))
               (none))
              (none))
             (none))
            (none))
           (none))
          (cond (Nat.blt (Nat.sub n (Int.toNat (IntKind.wrap .i64 (i + (1 : Int))))) M)
           (cond (eqCode (theLoop Try.prog 28 0) (theLoop Try.prog 28 0))
            (cond (okZ ⟨[(Value.int .i64 (0 : Int)), (Value.int .i64 (0 : Int))]⟩ ⟨[(Value.int .i64 (0 : Int)), (Value.int .i64 (0 : Int))]⟩)
             (cond (ok28 off c n (IntKind.wrap .i64 (i + (1 : Int))))
              (cond (owB c off h (n - (Int.toNat (IntKind.wrap .i64 (i + (1 : Int))))) (Int.toNat (IntKind.wrap .i64 (i + (1 : Int)))))
               (some (Out.ex Ex.ret (St.mk [(Value.pointer (Option.some (Addr.mk 1 0 Option.none))), (Value.pointer (Option.some (Addr.mk 2 0 Option.none))), (Value.int .i64 (0 : Int))] [] (Hp.mk [(Ob.cells c true), (Ob.cells ⟨[(Value.int .i64 (getInt c ((off + ((owI c off h (n - (Int.toNat (IntKind.wrap .i64 (i + (1 : Int))))) (Int.toNat (IntKind.wrap .i64 (i + (1 : Int))))) * 6)) + 2))), (Value.int .i64 (getInt c (((off + ((owI c off h (n - (Int.toNat (IntKind.wrap .i64 (i + (1 : Int))))) (Int.toNat (IntKind.wrap .i64 (i + (1 : Int))))) * 6)) + 2) + 1)))]⟩ false), (Ob.cells ⟨[(Value.int .i64 (getInt c ((off + ((owI c off h (n - (Int.toNat (IntKind.wrap .i64 (i + (1 : Int))))) (Int.toNat (IntKind.wrap .i64 (i + (1 : Int))))) * 6)) + 4))), (Value.int .i64 (getInt c (((off + ((owI c off h (n - (Int.toNat (IntKind.wrap .i64 (i + (1 : Int))))) (Int.toNat (IntKind.wrap .i64 (i + (1 : Int))))) * 6)) + 4) + 1)))]⟩ false)] 61 []))))
               (some (Out.ex (Ex.exit 0) (St.mk [(Value.pointer (Option.some (Addr.mk 1 0 Option.none))), (Value.pointer (Option.some (Addr.mk 2 0 Option.none)))] [] (Hp.mk [(Ob.cells c true), (Ob.cells ⟨[(Value.int .i64 (0 : Int)), (Value.int .i64 (0 : Int))]⟩ false), (Ob.cells ⟨[(Value.int .i64 (0 : Int)), (Value.int .i64 (0 : Int))]⟩ false)] 61 [])))))
              (none))
             (none))
            (none))
           (none)))
         (none))
        (none))
       (cond (Nat.blt (Nat.sub n (Int.toNat (IntKind.wrap .i64 (i + (1 : Int))))) M)
        (cond (eqCode (theLoop Try.prog 28 0) (theLoop Try.prog 28 0))
         (cond (okZ ⟨[(Value.int .i64 (0 : Int)), (Value.int .i64 (0 : Int))]⟩ ⟨[(Value.int .i64 (0 : Int)), (Value.int .i64 (0 : Int))]⟩)
          (cond (ok28 off c n (IntKind.wrap .i64 (i + (1 : Int))))
           (cond (owB c off h (n - (Int.toNat (IntKind.wrap .i64 (i + (1 : Int))))) (Int.toNat (IntKind.wrap .i64 (i + (1 : Int)))))
            (some (Out.ex Ex.ret (St.mk [(Value.pointer (Option.some (Addr.mk 1 0 Option.none))), (Value.pointer (Option.some (Addr.mk 2 0 Option.none))), (Value.int .i64 (0 : Int))] [] (Hp.mk [(Ob.cells c true), (Ob.cells ⟨[(Value.int .i64 (getInt c ((off + ((owI c off h (n - (Int.toNat (IntKind.wrap .i64 (i + (1 : Int))))) (Int.toNat (IntKind.wrap .i64 (i + (1 : Int))))) * 6)) + 2))), (Value.int .i64 (getInt c (((off + ((owI c off h (n - (Int.toNat (IntKind.wrap .i64 (i + (1 : Int))))) (Int.toNat (IntKind.wrap .i64 (i + (1 : Int))))) * 6)) + 2) + 1)))]⟩ false), (Ob.cells ⟨[(Value.int .i64 (getInt c ((off + ((owI c off h (n - (Int.toNat (IntKind.wrap .i64 (i + (1 : Int))))) (Int.toNat (IntKind.wrap .i64 (i + (1 : Int))))) * 6)) + 4))), (Value.int .i64 (getInt c (((off + ((owI c off h (n - (Int.toNat (IntKind.wrap .i64 (i + (1 : Int))))) (Int.toNat (IntKind.wrap .i64 (i + (1 : Int))))) * 6)) + 4) + 1)))]⟩ false)] 61 []))))
            (some (Out.ex (Ex.exit 0) (St.mk [(Value.pointer (Option.some (Addr.mk 1 0 Option.none))), (Value.pointer (Option.some (Addr.mk 2 0 Option.none)))] [] (Hp.mk [(Ob.cells c true), (Ob.cells ⟨[(Value.int .i64 (0 : Int)), (Value.int .i64 (0 : Int))]⟩ false), (Ob.cells ⟨[(Value.int .i64 (0 : Int)), (Value.int .i64 (0 : Int))]⟩ false)] 61 [])))))
           (none))
          (none))
         (none))
        (none)))
      (none))
     (none))
    (some (Out.ex (Ex.exit 0) (St.mk [(Value.pointer (Option.some (Addr.mk 1 0 Option.none))), (Value.pointer (Option.some (Addr.mk 2 0 Option.none)))] [] (Hp.mk [(Ob.cells c true), (Ob.cells ⟨[(Value.int .i64 (0 : Int)), (Value.int .i64 (0 : Int))]⟩ false), (Ob.cells ⟨[(Value.int .i64 (0 : Int)), (Value.int .i64 (0 : Int))]⟩ false)] 61 [])))) := by kernel_rfl

theorem known28 : ∃ J, Known Try.prog (sh28.ans J) := by
  refine Known.junk (Known.nothing _) mes28 sh28 ?_
  intro J t f hs hkn
  unfold sh28 at hs
  split at hs
  case h_2 => cases hs
  rename_i code t c x y G
  split at hs
  case h_2 => cases hs
  rename_i h off n i e1 e4 e5 e0 e9
  simp only [Option.some.injEq] at hs
  subst hs
  refine ex_guard fun h1 => ex_guard fun h2 => ex_guard fun h2' => ex_guard fun h3 => ?_
  obtain rfl := eqCode_eq h1
  obtain ⟨rfl, rfl⟩ := dec_iff.1 h2'
  have hl : t.length = 61 := Nat.eq_of_beq_eq_true h2
  obtain ⟨hg, hi0, hn⟩ := dec_iff.1 h3
  obtain ⟨i, rfl⟩ := Int.eq_ofNat_of_zero_le hi0
  have use := fun e vs H1 wr1 hev hk he hvs => hkn.loopLeaf (G := G) noNG mixed (n := 60) (N0 := 61) (N := 61) (live := [(0, .slice (some ⟨0, off, none⟩) n 6), (1, .int .i64 h), (4, pp 1), (5, pp 2), (9, .int .i64 (Int.ofNat i))]) (H0 := [.cells c true, .cells Z2 false, .cells Z2 false]) (pick := pick27) (e := e) (vs := vs) (H1 := H1) (wr1 := wr1)
    (base := 1) (wr := []) (c := theLoop Try.prog 28 0) (t := t) hev hl (by
      intro kv hm
      simp only [List.mem_cons, List.not_mem_nil, or_false] at hm
      rcases hm with rfl | rfl | rfl | rfl | rfl
      · exact ⟨e0, rfl, rfl⟩
      · exact ⟨e1, rfl, rfl⟩
      · exact ⟨e4, rfl, rfl⟩
      · exact ⟨e5, rfl, rfl⟩
      · exact ⟨e9, rfl, rfl⟩) (by simp) (by simp [obSc_g0 hg.1]; decide) hk he hvs
  simp only [List.length_cons, List.length_nil, Nat.zero_add] at use
  have use0 := use
  rw [tree28] at use
  simp only [Int.ofNat_eq_natCast, Int.toNat_natCast] at use ⊢
  by_cases hin : (i : Int) < n
  · obtain ⟨x0, x1, x2, x3, x4, x5⟩ := rd6 (hg.2 i (by omega))
    have x23 := rd2 x2 x3
    have x45 := rd2 x4 x5
    obtain ⟨m, hm⟩ : ∃ m, n - i = m + 1 := ⟨n - i - 1, by omega⟩
    have hw : IntKind.i64.wrap ((i : Int) + 1) = ((i + 1 : Nat) : Int) := by rw [wrap64_id (by omega) (by omega)]; rfl
    rw [hm]
    have hm' : n - (i + 1) = m := by omega
    have hme : (n.sub (i + 1)).blt (mes28 (.code none (.loop (theLoop Try.prog 28 0)) ⟨t, [], ⟨.cells c true :: .cells Z2 false :: .cells Z2 false :: G, 1, []⟩⟩)) = true := by
      simp only [mes28, e0, e9, Nat.blt_eq, Int.toNat_natCast]
      show n - (i + 1) < n - i
      omega
    have hok : ok28 off c n ↑(i + 1) = true := dec_iff.2 ⟨hg, by omega, hn⟩
    have hz : okZ Z2 Z2 = true := dec_iff.2 ⟨rfl, rfl⟩
    simp only [hw, Int.toNat_natCast, hm', x0, x1, x23, x45, Nat.add_zero, hin, decide_true, cond_true, Bool.true_and, Int.natCast_nonneg, eqCode_self, hme, hok, hz] at use
    cases hp : owP c off h i with
    | true =>
      have e1 : owB c off h (m + 1) i = true := by simp [owB, fst_hit hp]
      have e2 : owI c off h (m + 1) i = i := by simp [owI, fst_hit hp]
      rw [e1, e2]
      refine use .ret [pp 1, pp 2, .int .i64 0] [.cells c true, .cells (sp c (off + i * 6 + 2)) false, .cells (sp c (off + i * 6 + 4)) false] [] ?_ (kept3 c _ _ _ _ hg.1 rfl rfl) rfl rfl
      simp only [owP, Bool.and_eq_true] at hp
      simp only [hp.1, hp.2, cond_true]
      rfl
    | false =>
      have e1 : owB c off h (m + 1) i = owB c off h m (i + 1) := by simp [owB, fst_miss hp]
      have e2 : owI c off h (m + 1) i = owI c off h m (i + 1) := by simp [owI, fst_miss hp]
      rw [e1, e2]
      have fin : (∀ (e : Ex) (vs : List Value) (H1 : List Ob) (wr1 : List Nat), (bif owB c off h m (i + 1) then some (Out.ex .ret { t := [pp 1, pp 2, .int .i64 0], d := [], h := { bl := [.cells c true, .cells (sp c (off + owI c off h m (i + 1) * 6 + 2)) false, .cells (sp c (off + owI c off h m (i + 1) * 6 + 4)) false], base := 61, wr := [] } })
          else some (Out.ex (.exit 0) { t := [pp 1, pp 2], d := [], h := { bl := [.cells c true, .cells Z2 false, .cells Z2 false], base := 61, wr := [] } })) = some (Out.ex e { t := vs, d := [], h := { bl := H1, base := 61, wr := wr1 } }) →
          evS Try.prog (((sh28.ans J).below mes28 (mes28 (.code none (.loop (theLoop Try.prog 28 0)) ⟨t, [], ⟨.cells c true :: .cells Z2 false :: .cells Z2 false :: G, 1, []⟩⟩))).or (fun _ => none)) 60 (.code none (.loop (theLoop Try.prog 28 0)) ⟨sets (junkF 61 (t.map lo)) [(0, .slice (some ⟨0, off, none⟩) n 6), (1, .int .i64 h), (4, pp 1), (5, pp 2), (9, .int .i64 (Int.ofNat i))], [], ⟨[.cells c true, .cells Z2 false, .cells Z2 false], 1, []⟩⟩) (sumK 3 61 pick27) = some (Out.ex e { t := vs, d := [], h := { bl := H1, base := 61, wr := wr1 } })) := by
        intro e vs H1 wr1 hev
        rw [tree28]
        refine Eq.trans ?_ hev
        simp only [Int.ofNat_eq_natCast, hw, Int.toNat_natCast, hm', x0, x1, x23, x45, Nat.add_zero, hin, decide_true, cond_true, Bool.true_and, Int.natCast_nonneg, eqCode_self, hme, hok, hz]
        simp only [owP, Bool.and_eq_false_iff] at hp
        rcases hp with hp | hp
        · simp only [hp, cond_false]; rfl
        · simp only [hp, cond_false]
          cases decide (getInt c (off + i * 6) ≤ h) <;> rfl
      clear use
      cases hb : owB c off h m (i + 1) with
      | true =>
        rw [hb] at fin
        exact use0 .ret [pp 1, pp 2, .int .i64 0] [.cells c true, .cells (sp c (off + owI c off h m (i + 1) * 6 + 2)) false, .cells (sp c (off + owI c off h m (i + 1) * 6 + 4)) false] [] (fin _ _ _ _ rfl) (kept3 c _ _ _ _ hg.1 rfl rfl) rfl rfl
      | false =>
        rw [hb] at fin
        exact use0 (.exit 0) [pp 1, pp 2] [.cells c true, .cells Z2 false, .cells Z2 false] [] (fin _ _ _ _ rfl) (kept3 c _ _ _ _ hg.1 rfl rfl) rfl rfl
  · have h0 : n - i = 0 := by omega
    have e1 : owB c off h (n - i) i = false := by rw [h0]; rfl
    rw [e1]
    refine use (.exit 0) [pp 1, pp 2] [.cells c true, .cells Z2 false, .cells Z2 false] [] ?_ (kept3 c _ _ _ _ hg.1 rfl rfl) rfl rfl
    simp only [hin, decide_false, cond_false]
    rfl
end
end Go.Proofs.Ytplejmmkcfmdcaa
