/- The loops of wind.Covers and hangfireref01.Covers. Conditions: none. -/
import Derived.Test.YtplejmmkcfmdcaaGhW5
import Derived.Test.YtplejmmkcfmdcaaGhW6
namespace Go.Proofs.Ytplejmmkcfmdcaa
open Go.Gh Go.RowKit
noncomputable section
set_option maxRecDepth 100000
theorem tree29 (J : Task → List Value) (c : Array Value) (off n : Nat) (d : Array Value) (e n2 : Nat) (i : Int) (M : Nat) (y : List Value) :
    evS Try.prog (((sh29.ans J).below mes29 M).or p72) 60 (.code none (.loop (theLoop Try.prog 29 0)) ⟨sets (junkF 54 y) [(0, .slice (some ⟨0, off, none⟩) n 6), (43, .slice (some ⟨1, e, none⟩) n2 6), (44, .int .i64 (Int.ofNat n2)), (45, .int .i64 i)], [], ⟨[.cells c true, .cells d true], 2, []⟩⟩) (sumK 2 54 pick29) =
    cond (decide (i < (Int.ofNat n2)))
    (cond (and (decide ((0 : Int) ≤ i)) (decide (i < (Int.ofNat n2))))
     (cond (and true (rdOk d [(Leaf.int .i64), (Leaf.int .i64), (Leaf.int .i64), (Leaf.int .i64), (Leaf.int .i64), (Leaf.int .i64)] (e + ((Int.toNat i) * 6))))
      (cond (okS (Option.some (Addr.mk 0 off Option.none)) n 6 [(Ob.cells c true), (Ob.cells d true), (Ob.cells ⟨[(Value.int .i64 (getInt d (e + ((Int.toNat i) * 6)))), (Value.int .i64 (getInt d ((e + ((Int.toNat i) * 6)) + 1))), (Value.int .i64 (getInt d (((e + ((Int.toNat i) * 6)) + 1) + 1))), (Value.int .i64 (getInt d ((((e + ((Int.toNat i) * 6)) + 1) + 1) + 1))), (Value.int .i64 (getInt d (((((e + ((Int.toNat i) * 6)) + 1) + 1) + 1) + 1))), (Value.int .i64 (getInt d ((((((e + ((Int.toNat i) * 6)) + 1) + 1) + 1) + 1) + 1)))]⟩ false)])
       (cond (Nat.ble n 20)
        (cond (not (not (cvB c off (getInt d (e + ((Int.toNat i) * 6))) (getInt d ((e + ((Int.toNat i) * 6)) + 1)) (getInt d (((e + ((Int.toNat i) * 6)) + 1) + 1)) (getInt d ((((e + ((Int.toNat i) * 6)) + 1) + 1) + 1)) (getInt d (((((e + ((Int.toNat i) * 6)) + 1) + 1) + 1) + 1)) (getInt d ((((((e + ((Int.toNat i) * 6)) + 1) + 1) + 1) + 1) + 1)) n 0)))
         (some (Out.ex Ex.ret (St.mk [(Value.bool false), (Value.int .i64 (0 : Int))] [] (Hp.mk [(Ob.cells c true), (Ob.cells d true)] 54 []))))
         (cond (Nat.blt (Nat.sub (Int.toNat (Int.ofNat n2)) (Int.toNat (IntKind.wrap .i64 (i + (1 : Int))))) M)
          (cond (eqCode (theLoop Try.prog 29 0) (theLoop Try.prog 29 0))
           (cond (ok29 c off n d e n2 (IntKind.wrap .i64 (i + (1 : Int))) (Int.ofNat n2))
            (cond (cvB2 c off n d e (n2 - (Int.toNat (IntKind.wrap .i64 (i + (1 : Int))))) (Int.toNat (IntKind.wrap .i64 (i + (1 : Int)))))
             (some (Out.ex Ex.ret (St.mk [(Value.bool false), (Value.int .i64 (0 : Int))] [] (Hp.mk [(Ob.cells c true), (Ob.cells d true)] 54 []))))
             (some (Out.ex (Ex.exit 0) (St.mk [] [] (Hp.mk [(Ob.cells c true), (Ob.cells d true)] 54 [])))))
            (none))
           (none))
          (none)))
        (none))
       (none))
      (none))
     (none))
    (some (Out.ex (Ex.exit 0) (St.mk [] [] (Hp.mk [(Ob.cells c true), (Ob.cells d true)] 54 [])))) := by kernel_rfl
theorem tree30 (J : Task → List Value) (c : Array Value) (off n : Nat) (d : Array Value) (e n2 : Nat) (i k : Int) (M : Nat) (y : List Value) :
    evS Try.prog (((sh30.ans J).below mes30 M).or (fun _ => none)) 60 (.code none (.loop (theLoop Try.prog 30 1)) ⟨sets (junkF 105 y) [(0, .slice (some ⟨0, off, none⟩) n 6), (1, .slice (some ⟨1, e, none⟩) n2 6), (8, .int .i64 i), (9, .int .i64 k)], [], ⟨[.cells c true, .cells d true], 2, []⟩⟩) (sumK 2 105 pick30) =
    cond (decide (k < (Int.ofNat n2)))
    (cond (and (decide ((0 : Int) ≤ i)) (decide (i < (Int.ofNat n))))
     (cond (and true (isInt .i64 c ((off + ((Int.toNat i) * 6)) + 0)))
      (cond (and (decide ((0 : Int) ≤ k)) (decide (k < (Int.ofNat n2))))
       (cond (and true (isInt .i64 d ((e + ((Int.toNat k) * 6)) + 0)))
        (cond (and (decide ((0 : Int) ≤ i)) (decide (i < (Int.ofNat n))))
         (cond (and true (isInt .i64 c ((off + ((Int.toNat i) * 6)) + 1)))
          (cond (and (decide ((0 : Int) ≤ k)) (decide (k < (Int.ofNat n2))))
           (cond (and true (isInt .i64 d ((e + ((Int.toNat k) * 6)) + 1)))
            (cond (decide ((max (getInt c ((off + ((Int.toNat i) * 6)) + 0)) (getInt d ((e + ((Int.toNat k) * 6)) + 0))) < (min (getInt c ((off + ((Int.toNat i) * 6)) + 1)) (getInt d ((e + ((Int.toNat k) * 6)) + 1)))))
             (cond (and (decide ((0 : Int) ≤ k)) (decide (k < (Int.ofNat n2))))
              (cond (and true (rdOk d [(Leaf.int .i64), (Leaf.int .i64)] ((e + ((Int.toNat k) * 6)) + 2)))
               (cond (and (decide ((0 : Int) ≤ i)) (decide (i < (Int.ofNat n))))
                (cond (and true (rdOk c [(Leaf.int .i64), (Leaf.int .i64)] ((off + ((Int.toNat i) * 6)) + 2)))
                 (cond (decide ((getInt c ((off + ((Int.toNat i) * 6)) + 2)) ≤ (getInt d ((e + ((Int.toNat k) * 6)) + 2))))
                  (cond (not (decide ((getInt d (((e + ((Int.toNat k) * 6)) + 2) + 1)) ≤ (getInt c (((off + ((Int.toNat i) * 6)) + 2) + 1)))))
                   (some (Out.ex Ex.ret (St.mk [(Value.bool false), (Value.int .i64 (0 : Int))] [] (Hp.mk [(Ob.cells c true), (Ob.cells d true)] 105 []))))
                   (cond (and (decide ((0 : Int) ≤ k)) (decide (k < (Int.ofNat n2))))
                    (cond (and true (rdOk d [(Leaf.int .i64), (Leaf.int .i64)] ((e + ((Int.toNat k) * 6)) + 4)))
                     (cond (and (decide ((0 : Int) ≤ i)) (decide (i < (Int.ofNat n))))
                      (cond (and true (rdOk c [(Leaf.int .i64), (Leaf.int .i64)] ((off + ((Int.toNat i) * 6)) + 4)))
                       (cond (decide ((getInt c ((off + ((Int.toNat i) * 6)) + 4)) ≤ (getInt d ((e + ((Int.toNat k) * 6)) + 4))))
                        (cond (not (decide ((getInt d (((e + ((Int.toNat k) * 6)) + 4) + 1)) ≤ (getInt c (((off + ((Int.toNat i) * 6)) + 4) + 1)))))
                         (some (Out.ex Ex.ret (St.mk [(Value.bool false), (Value.int .i64 (0 : Int))] [] (Hp.mk [(Ob.cells c true), (Ob.cells d true)] 105 []))))
                         (cond (Nat.blt (Nat.sub n2 (Int.toNat (IntKind.wrap .i64 (k + (1 : Int))))) M)
                          (cond (eqCode (theLoop Try.prog 30 1) (theLoop Try.prog 30 1))
                           (cond (ok30 c off n d e n2 i (IntKind.wrap .i64 (k + (1 : Int))))
                            (cond (cwB c (off + ((Int.toNat i) * 6)) d e (n2 - (Int.toNat (IntKind.wrap .i64 (k + (1 : Int))))) (Int.toNat (IntKind.wrap .i64 (k + (1 : Int)))))
                             (some (Out.ex Ex.ret (St.mk [(Value.bool false), (Value.int .i64 (0 : Int))] [] (Hp.mk [(Ob.cells c true), (Ob.cells d true)] 105 []))))
                             (some (Out.ex (Ex.exit 2) (St.mk [(Value.slice (Option.some (Addr.mk 0 off Option.none)) n 6), (Value.slice (Option.some (Addr.mk 1 e Option.none)) n2 6), (Value.int .i64 i)] [] (Hp.mk [(Ob.cells c true), (Ob.cells d true)] 105 [])))))
                            (none))
                           (none))
                          (none)))
                        (some (Out.ex Ex.ret (St.mk [(Value.bool false), (Value.int .i64 (0 : Int))] [] (Hp.mk [(Ob.cells c true), (Ob.cells d true)] 105 [])))))
                       (none))
                      (none))
                     (none))
                    (none)))
                  (some (Out.ex Ex.ret (St.mk [(Value.bool false), (Value.int .i64 (0 : Int))] [] (Hp.mk [(Ob.cells c true), (Ob.cells d true)] 105 [])))))
                 (none))
                (none))
               (none))
              (none))
             (cond (Nat.blt (Nat.sub n2 (Int.toNat (IntKind.wrap .i64 (k + (1 : Int))))) M)
              (cond (eqCode (theLoop Try.prog 30 1) (theLoop Try.prog 30 1))
               (cond (ok30 c off n d e n2 i (IntKind.wrap .i64 (k + (1 : Int))))
                (cond (cwB c (off + ((Int.toNat i) * 6)) d e (n2 - (Int.toNat (IntKind.wrap .i64 (k + (1 : Int))))) (Int.toNat (IntKind.wrap .i64 (k + (1 : Int)))))
                 (some (Out.ex Ex.ret (St.mk [(Value.bool false), (Value.int .i64 (0 : Int))] [] (Hp.mk [(Ob.cells c true), (Ob.cells d true)] 105 []))))
                 (some (Out.ex (Ex.exit 2) (St.mk [(Value.slice (Option.some (Addr.mk 0 off Option.none)) n 6), (Value.slice (Option.some (Addr.mk 1 e Option.none)) n2 6), (Value.int .i64 i)] [] (Hp.mk [(Ob.cells c true), (Ob.cells d true)] 105 [])))))
                (none))
               (none))
              (none)))
            (none))
           (none))
          (none))
         (none))
        (none))
       (none))
      (none))
     (none))
    (some (Out.ex (Ex.exit 2) (St.mk [(Value.slice (Option.some (Addr.mk 0 off Option.none)) n 6), (Value.slice (Option.some (Addr.mk 1 e Option.none)) n2 6), (Value.int .i64 i)] [] (Hp.mk [(Ob.cells c true), (Ob.cells d true)] 105 [])))) := by kernel_rfl
theorem tree31 (J J' : Task → List Value) (c : Array Value) (off n : Nat) (d : Array Value) (e n2 : Nat) (i : Int) (M : Nat) (y : List Value) :
    evS Try.prog (((sh31.ans J).below mes31 M).or (sh30.ans J')) 60 (.code none (.loop (theLoop Try.prog 30 0)) ⟨sets (junkF 105 y) [(0, .slice (some ⟨0, off, none⟩) n 6), (1, .slice (some ⟨1, e, none⟩) n2 6), (8, .int .i64 i)], [], ⟨[.cells c true, .cells d true], 2, []⟩⟩) (sumK 2 105 pick29) =
    cond (decide (i < (Int.ofNat n)))
    (cond (eqCode (theLoop Try.prog 30 1) (theLoop Try.prog 30 1))
     (cond (ok30 c off n d e n2 i (0 : Int))
      (cond (cwB c (off + ((Int.toNat i) * 6)) d e (n2 - 0) 0)
       (some (Out.ex Ex.ret (St.mk [(Value.bool false), (Value.int .i64 (0 : Int))] [] (Hp.mk [(Ob.cells c true), (Ob.cells d true)] 105 []))))
       (cond (Nat.blt (Nat.sub n (Int.toNat (IntKind.wrap .i64 (i + (1 : Int))))) M)
        (cond (eqCode (theLoop Try.prog 30 0) (theLoop Try.prog 30 0))
         (cond (ok31 c off n d e n2 (IntKind.wrap .i64 (i + (1 : Int))))
          (cond (cwB2 c off d e n2 (n - (Int.toNat (IntKind.wrap .i64 (i + (1 : Int))))) (Int.toNat (IntKind.wrap .i64 (i + (1 : Int)))))
           (some (Out.ex Ex.ret (St.mk [(Value.bool false), (Value.int .i64 (0 : Int))] [] (Hp.mk [(Ob.cells c true), (Ob.cells d true)] 105 []))))
           (some (Out.ex (Ex.exit 0) (St.mk [] [] (Hp.mk [(Ob.cells c true), (Ob.cells d true)] 105 [])))))
          (none))
         (none))
        (none)))
      (none))
     (none))
    (some (Out.ex (Ex.exit 0) (St.mk [] [] (Hp.mk [(Ob.cells c true), (Ob.cells d true)] 105 [])))) := by kernel_rfl

theorem sliceOk_app {a : Option Addr} {n sz : Nat} {H X : List Ob} (h : SliceOk a n sz H) : SliceOk a n sz (H ++ X) := by
  rcases h with h | ⟨b, off, rfl, h2, h3, h4⟩
  · exact .inl h
  · obtain ⟨ro, hc⟩ := cells_ok h3
    have hc' : (H ++ X)[b]? = some (.cells (cellsAt H b) ro) := get_left hc
    have e : cellsAt (H ++ X) b = cellsAt H b := by unfold cellsAt; rw [nthO_eq, hc', nthO_eq, hc]
    exact .inr ⟨b, off, rfl, h2, by unfold isCells; rw [nthO_eq, hc'], by rw [e]; exact h4⟩
theorem okS_at {c : Array Value} {off n : Nat} {H : List Ob} {b : Nat} {r : Bool} (hg : Good c off n) (hb : H[b]? = some (.cells c r)) : okS (some ⟨b, off, none⟩) n 6 H = true :=
  dec_iff.2 (.inr ⟨b, off, rfl, rfl, by unfold isCells; rw [nthO_eq, hb], by unfold cellsAt; rw [nthO_eq, hb]; exact hg⟩)

theorem known29 (hk72 : Known Try.prog p72) : ∃ J, Known Try.prog (sh29.ans J) := by
  refine Known.junk hk72 mes29 sh29 ?_
  intro J t f hs hkn
  unfold sh29 at hs
  split at hs
  case h_2 => cases hs
  rename_i code t c d G
  split at hs
  case h_2 => cases hs
  rename_i off n e n2 m i e0 e43 e44 e45
  simp only [Option.some.injEq] at hs
  subst hs
  refine ex_guard fun h1 => ex_guard fun h2 => ex_guard fun h3 => ?_
  obtain rfl := eqCode_eq h1
  have hl : t.length = 54 := Nat.eq_of_beq_eq_true h2
  obtain ⟨hg, hd, hi0, hn, hn2, rfl⟩ := dec_iff.1 h3
  obtain ⟨i, rfl⟩ := Int.eq_ofNat_of_zero_le hi0
  have hk2 := kept2 c d true true hg.1 hd.1
  have use := fun e' vs hev he hvs => hkn.loopLeaf (G := G) noNG mixed (n := 60) (N0 := 54) (N := 54) (live := [(0, .slice (some ⟨0, off, none⟩) n 6), (43, .slice (some ⟨1, e, none⟩) n2 6), (44, .int .i64 (Int.ofNat n2)), (45, .int .i64 (Int.ofNat i))])
    (H0 := [.cells c true, .cells d true]) (pick := pick29) (e := e') (vs := vs)
    (base := 2) (wr := []) (wr1 := []) (c := theLoop Try.prog 29 0) (t := t) hev hl (by
      intro kv hm
      simp only [List.mem_cons, List.not_mem_nil, or_false] at hm
      rcases hm with rfl | rfl | rfl | rfl
      · exact ⟨e0, rfl, rfl⟩
      · exact ⟨e43, rfl, rfl⟩
      · exact ⟨e44, rfl, rfl⟩
      · exact ⟨e45, rfl, rfl⟩) (by simp) (by simp [obSc_g0 hg.1, obSc_g0 hd.1]) hk2 he hvs
  simp only [List.length_cons, List.length_nil, Nat.zero_add] at use
  rw [tree29] at use
  simp only [Int.ofNat_eq_natCast, Int.toNat_natCast] at use ⊢
  by_cases hin : (i : Int) < n2
  · have hx := hd.2 i (by omega)
    obtain ⟨m, hm⟩ : ∃ m, n2 - i = m + 1 := ⟨n2 - i - 1, by omega⟩
    have hw : IntKind.i64.wrap ((i : Int) + 1) = ((i + 1 : Nat) : Int) := by rw [wrap64_id (by omega) (by omega)]; rfl
    rw [hm]
    have hm' : n2 - (i + 1) = m := by omega
    have hme : (n2.sub (i + 1)).blt (mes29 (.code none (.loop (theLoop Try.prog 29 0)) ⟨t, [], ⟨.cells c true :: .cells d true :: G, 2, []⟩⟩)) = true := by
      simp only [mes29, e44, e45, Nat.blt_eq, Int.toNat_natCast]
      show n2 - (i + 1) < n2 - i
      omega
    have hok : ok29 c off n d e n2 ↑(i + 1) n2 = true := dec_iff.2 ⟨hg, hd, by omega, hn, hn2, rfl⟩
    have hnb : Nat.ble n 20 = true := by rw [Nat.ble_eq]; exact hn
    rw [okS_at (c := c) (r := true) hg (by simp)] at use
    simp only [hw, Int.toNat_natCast, hm', hx, hin, decide_true, cond_true, Bool.true_and, Int.natCast_nonneg, eqCode_self, hme, hok, hnb, Bool.not_not] at use
    cases hp : cvP2 c off n d e i with
    | true =>
      have e1 : cvB2 c off n d e (m + 1) i = true := by simp [cvB2, fst_hit hp]
      rw [e1]
      refine use .ret [.bool false, .int .i64 0] ?_ rfl rfl
      unfold cvP2 at hp
      simp only [Nat.add_assoc, Nat.reduceAdd] at hp ⊢
      rw [hp]; rfl
    | false =>
      have e1 : cvB2 c off n d e (m + 1) i = cvB2 c off n d e m (i + 1) := by simp [cvB2, fst_miss hp]
      rw [e1]
      unfold cvP2 at hp
      simp only [Nat.add_assoc, Nat.reduceAdd] at hp use
      rw [hp] at use
      cases hb : cvB2 c off n d e m (i + 1) with
      | true =>
        rw [hb] at use
        exact use .ret [.bool false, .int .i64 0] rfl rfl rfl
      | false =>
        rw [hb] at use
        exact use (.exit 0) [] rfl rfl rfl
  · have h0 : n2 - i = 0 := by omega
    have e1 : cvB2 c off n d e (n2 - i) i = false := by rw [h0]; rfl
    rw [e1]
    refine use (.exit 0) [] ?_ rfl rfl
    simp only [hin, decide_false, cond_false]

theorem known30 : ∃ J, Known Try.prog (sh30.ans J) := by
  refine Known.junk (Known.nothing _) mes30 sh30 ?_
  intro J t f hs hkn
  unfold sh30 at hs
  split at hs
  case h_2 => cases hs
  rename_i code t c d G
  split at hs
  case h_2 => cases hs
  rename_i off n e n2 i k er e0 e1' e8 e9
  simp only [Option.some.injEq] at hs
  subst hs
  refine ex_guard fun h1 => ex_guard fun h2 => ex_guard fun h3 => ?_
  obtain rfl := eqCode_eq h1
  have hl : t.length = 105 := Nat.eq_of_beq_eq_true h2
  obtain ⟨hg, hd, hi0, hik, hk0, hn, hn2⟩ := dec_iff.1 h3
  obtain ⟨i, rfl⟩ := Int.eq_ofNat_of_zero_le hi0
  obtain ⟨k, rfl⟩ := Int.eq_ofNat_of_zero_le hk0
  have hk2 := kept2 c d true true hg.1 hd.1
  have use := fun e' vs hev he hvs => hkn.loopLeaf (G := G) noNG mixed (n := 60) (N0 := 105) (N := 105) (live := [(0, .slice (some ⟨0, off, none⟩) n 6), (1, .slice (some ⟨1, e, none⟩) n2 6), (8, .int .i64 (Int.ofNat i)), (9, .int .i64 (Int.ofNat k))])
    (H0 := [.cells c true, .cells d true]) (pick := pick30) (e := e') (vs := vs)
    (base := 2) (wr := []) (wr1 := []) (c := theLoop Try.prog 30 1) (t := t) hev hl (by
      intro kv hm
      simp only [List.mem_cons, List.not_mem_nil, or_false] at hm
      rcases hm with rfl | rfl | rfl | rfl
      · exact ⟨e0, rfl, rfl⟩
      · exact ⟨e1', rfl, rfl⟩
      · exact ⟨e8, rfl, rfl⟩
      · exact ⟨e9, rfl, rfl⟩) (by simp) (by simp [obSc_g0 hg.1, obSc_g0 hd.1]) hk2 he hvs
  simp only [List.length_cons, List.length_nil, Nat.zero_add] at use
  rw [tree30] at use
  simp only [Int.ofNat_eq_natCast, Int.toNat_natCast] at use ⊢
  by_cases hin : (k : Int) < n2
  · obtain ⟨x0, x1, x2, x3, x4, x5⟩ := rd6 (hg.2 i (by omega))
    have x23 := rd2 x2 x3
    have x45 := rd2 x4 x5
    obtain ⟨y0, y1, y2, y3, y4, y5⟩ := rd6 (hd.2 k (by omega))
    have y23 := rd2 y2 y3
    have y45 := rd2 y4 y5
    obtain ⟨m, hm⟩ : ∃ m, n2 - k = m + 1 := ⟨n2 - k - 1, by omega⟩
    have hw : IntKind.i64.wrap ((k : Int) + 1) = ((k + 1 : Nat) : Int) := by rw [wrap64_id (by omega) (by omega)]; rfl
    rw [hm]
    have hm' : n2 - (k + 1) = m := by omega
    have hme : (n2.sub (k + 1)).blt (mes30 (.code none (.loop (theLoop Try.prog 30 1)) ⟨t, [], ⟨.cells c true :: .cells d true :: G, 2, []⟩⟩)) = true := by
      simp only [mes30, e1', e9, Nat.blt_eq, Int.toNat_natCast]
      show n2 - (k + 1) < n2 - k
      omega
    have hok : ok30 c off n d e n2 i ↑(k + 1) = true := dec_iff.2 ⟨hg, hd, by omega, hik, by omega, hn, hn2⟩
    simp only [hw, Int.toNat_natCast, hm', hin, hik, decide_true, cond_true, Bool.true_and, Int.natCast_nonneg, eqCode_self, hme, hok, x0, x1, x23, x45, y0, y1, y23, y45, Nat.add_zero] at use
    cases hp : cwP c (off + i * 6) d e k with
    | true =>
      have e1 : cwB c (off + i * 6) d e (m + 1) k = true := by simp [cwB, fst_hit hp]
      rw [e1]
      refine use .ret [.bool false, .int .i64 0] ?_ rfl rfl
      revert hp
      unfold cwP
      simp only [cond_eq_ite, Bool.not_eq_true', Bool.and_eq_true, decide_eq_true_eq, decide_eq_false_iff_not]
      grind
    | false =>
      have e1 : cwB c (off + i * 6) d e (m + 1) k = cwB c (off + i * 6) d e m (k + 1) := by simp [cwB, fst_miss hp]
      rw [e1]
      cases hb : cwB c (off + i * 6) d e m (k + 1) with
      | true =>
        rw [hb] at use
        refine use .ret [.bool false, .int .i64 0] ?_ rfl rfl
        revert hp
        unfold cwP
        simp only [cond_eq_ite, Bool.not_eq_true', decide_eq_true_eq, decide_eq_false_iff_not]
        grind
      | false =>
        rw [hb] at use
        refine use (.exit 2) [.slice (some ⟨0, off, none⟩) n 6, .slice (some ⟨1, e, none⟩) n2 6, .int .i64 i] ?_ rfl rfl
        revert hp
        unfold cwP
        simp only [cond_eq_ite, Bool.not_eq_true', decide_eq_true_eq, decide_eq_false_iff_not]
        grind
  · have h0 : n2 - k = 0 := by omega
    have e1 : cwB c (off + i * 6) d e (n2 - k) k = false := by rw [h0]; rfl
    rw [e1]
    refine use (.exit 2) [.slice (some ⟨0, off, none⟩) n 6, .slice (some ⟨1, e, none⟩) n2 6, .int .i64 i] ?_ rfl rfl
    simp only [hin, decide_false, cond_false]

theorem known31 {J' : Gh.Task → List Value} (hk30 : Known Try.prog (sh30.ans J')) : ∃ J, Known Try.prog (sh31.ans J) := by
  refine Known.junk hk30 mes31 sh31 ?_
  intro J t f hs hkn
  unfold sh31 at hs
  split at hs
  case h_2 => cases hs
  rename_i code t c d G
  split at hs
  case h_2 => cases hs
  rename_i off n e n2 i er e0 e1' e8
  simp only [Option.some.injEq] at hs
  subst hs
  refine ex_guard fun h1 => ex_guard fun h2 => ex_guard fun h3 => ?_
  obtain rfl := eqCode_eq h1
  have hl : t.length = 105 := Nat.eq_of_beq_eq_true h2
  obtain ⟨hg, hd, hi0, hn, hn2⟩ := dec_iff.1 h3
  obtain ⟨i, rfl⟩ := Int.eq_ofNat_of_zero_le hi0
  have hk2 := kept2 c d true true hg.1 hd.1
  have use := fun e' vs hev he hvs => hkn.loopLeaf (G := G) noNG mixed (n := 60) (N0 := 105) (N := 105) (live := [(0, .slice (some ⟨0, off, none⟩) n 6), (1, .slice (some ⟨1, e, none⟩) n2 6), (8, .int .i64 (Int.ofNat i))])
    (H0 := [.cells c true, .cells d true]) (pick := pick29) (e := e') (vs := vs)
    (base := 2) (wr := []) (wr1 := []) (c := theLoop Try.prog 30 0) (t := t) hev hl (by
      intro kv hm
      simp only [List.mem_cons, List.not_mem_nil, or_false] at hm
      rcases hm with rfl | rfl | rfl
      · exact ⟨e0, rfl, rfl⟩
      · exact ⟨e1', rfl, rfl⟩
      · exact ⟨e8, rfl, rfl⟩) (by simp) (by simp [obSc_g0 hg.1, obSc_g0 hd.1]) hk2 he hvs
  simp only [List.length_cons, List.length_nil, Nat.zero_add] at use
  rw [tree31] at use
  simp only [Int.ofNat_eq_natCast, Int.toNat_natCast] at use ⊢
  by_cases hin : (i : Int) < n
  · obtain ⟨m, hm⟩ : ∃ m, n - i = m + 1 := ⟨n - i - 1, by omega⟩
    have hw : IntKind.i64.wrap ((i : Int) + 1) = ((i + 1 : Nat) : Int) := by rw [wrap64_id (by omega) (by omega)]; rfl
    rw [hm]
    have hm' : n - (i + 1) = m := by omega
    have hme : (n.sub (i + 1)).blt (mes31 (.code none (.loop (theLoop Try.prog 30 0)) ⟨t, [], ⟨.cells c true :: .cells d true :: G, 2, []⟩⟩)) = true := by
      simp only [mes31, e0, e8, Nat.blt_eq, Int.toNat_natCast]
      show n - (i + 1) < n - i
      omega
    have hok : ok31 c off n d e n2 ↑(i + 1) = true := dec_iff.2 ⟨hg, hd, by omega, hn, hn2⟩
    have hok2 : ok30 c off n d e n2 i 0 = true := dec_iff.2 ⟨hg, hd, by omega, hin, by omega, hn, hn2⟩
    simp only [hw, Int.toNat_natCast, hm', hin, decide_true, cond_true, eqCode_self, hme, hok, hok2, Nat.sub_zero] at use
    cases hp : cwP2 c off d e n2 i with
    | true =>
      have e1 : cwB2 c off d e n2 (m + 1) i = true := by simp [cwB2, fst_hit hp]
      rw [e1]
      refine use .ret [.bool false, .int .i64 0] ?_ rfl rfl
      unfold cwP2 at hp
      rw [hp]; rfl
    | false =>
      have e1 : cwB2 c off d e n2 (m + 1) i = cwB2 c off d e n2 m (i + 1) := by simp [cwB2, fst_miss hp]
      rw [e1]
      unfold cwP2 at hp
      rw [hp] at use
      cases hb : cwB2 c off d e n2 m (i + 1) with
      | true =>
        rw [hb] at use
        exact use .ret [.bool false, .int .i64 0] rfl rfl rfl
      | false =>
        rw [hb] at use
        exact use (.exit 0) [] rfl rfl rfl
  · have h0 : n - i = 0 := by omega
    have e1 : cwB2 c off d e n2 (n - i) i = false := by rw [h0]; rfl
    rw [e1]
    refine use (.exit 0) [] ?_ rfl rfl
    simp only [hin, decide_false, cond_false]
end
end Go.Proofs.Ytplejmmkcfmdcaa
