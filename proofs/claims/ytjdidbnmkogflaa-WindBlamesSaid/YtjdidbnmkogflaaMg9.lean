/- Part 9 of the texts below the claim. Conditions: none. -/
import Derived.Test.YtjdidbnmkogflaaMg8
namespace Go.Proofs.Ytjdidbnmkogflaa.Old
open Go.Gi Go.RowKit
noncomputable section
set_option maxRecDepth 100000
set_option linter.unusedSimpArgs false
theorem obSc_cells (n : Nat) (c : Array Value) (r : Bool) : obSc n (.cells c r) = c.toList.all (sc1 n) := rfl
theorem nilOk_of {n l z : Nat} {a : Option Addr} (h : sc1 n (.slice a l z) = true) : NilOk a l z := by
  rintro rfl
  simp only [sc1, sc0, g0, Bool.and_eq_true, beq_iff_eq] at h
  exact h
theorem grOb_sc {n : Nat} {o : Ob} (h : grOb o) : obSc n o = true := by
  rcases h with rfl | ⟨c, rfl, h⟩
  · rfl
  · exact allsc h
theorem at2_sc {n off l z : Nat} (h : 2 < n) : sc1 n (.slice (some ⟨2, off, none⟩) l z) = true := by simp [sc1, sc0, h]
theorem isInt1 {c : Array Value} {off x : Nat} (h : rdOk c L1 (off + x * 1) = true) : isInt .i64 c (off + x) = true := by
  rw [Nat.mul_one] at h
  simp only [rdOk, rdLeaf, Bool.and_eq_true] at h
  exact h.1
theorem nth3 {o0 o1 o2 : Ob} (X : List Ob) : ∀ {b : Nat}, b < 3 → nthO (o0 :: o1 :: o2 :: X) b = nthO [o0, o1, o2] b
  | 0, _ => rfl
  | 1, _ => rfl
  | 2, _ => rfl
  | b + 3, h => absurd h (by omega)
theorem arr3 {o0 o1 o2 : Ob} {X : List Ob} {a : Option Addr} {l z : Nat} (h : sc1 3 (.slice a l z) = true) : arrOf a (o0 :: o1 :: o2 :: X) = arrOf a [o0, o1, o2] := by
  cases a with
  | none => rfl
  | some x =>
    simp only [sc1, sc0, decide_eq_true_eq] at h
    simp only [arrOf, cellsAt, nth3 X h]
theorem sliceL3 {L : List Leaf} {o0 o1 o2 : Ob} {X : List Ob} {a : Option Addr} {l z n z' : Nat} (h : sc1 3 (.slice a l z) = true) (hs : SliceL L a n z' [o0, o1, o2]) : SliceL L a n z' (o0 :: o1 :: o2 :: X) := by
  rcases hs with rfl | ⟨b, off, rfl, rfl, hc, hg⟩
  · exact .inl rfl
  · simp only [sc1, sc0, decide_eq_true_eq] at h
    exact .inr ⟨b, off, rfl, rfl, by simpa only [isCells, nth3 X h] using hc, by simpa only [cellsAt, nth3 X h] using hg⟩
theorem tree21a (J : Task → List Value) (o0 o1 o2 : Ob) (a b d : Option Addr) (n z n2 z2 n3 z3 : Nat) (k age shear : Int) (M : Nat) (y : List Value) :
    evS Try.prog (((sh21a.ans J).below (mesB 0 5) M).or p64) 60 (.code none (.loop (theLoop Try.prog 21 0)) ⟨sets (junkF 97 y) [(1, pp 3), (5, .int .i64 k)], [], ⟨[o0, o1, o2, .cells ⟨[.slice a n z, .slice b n2 z2, .slice d n3 z3, .int .i64 age, .int .i64 shear]⟩ false], 3, []⟩⟩) (sumK 4 97 pick21) =
    cond (decide (k < (Int.ofNat n)))
 (cond (c64 a b d n z n2 z2 n3 z3 k [o0, o1, o2, (Ob.cells ⟨[(.slice a n z), (.slice b n2 z2), (.slice d n3 z3), (.int .i64 age), (.int .i64 shear)]⟩ false)])
 (cond (not (decide ((srcE (arrOf a [o0, o1, o2, (Ob.cells ⟨[(.slice a n z), (.slice b n2 z2), (.slice d n3 z3), (.int .i64 age), (.int .i64 shear)]⟩ false)]) (offOf a) (Int.toNat k)) = (0 : Int))))
 (some (Out.ex Ex.ret (St.mk [(.int .i64 (2 : Int)), (.int .i64 k), (.int .i64 (srcE (arrOf a [o0, o1, o2, (Ob.cells ⟨[(.slice a n z), (.slice b n2 z2), (.slice d n3 z3), (.int .i64 age), (.int .i64 shear)]⟩ false)]) (offOf a) (Int.toNat k)))] [] (Hp.mk [o0, o1, o2, (Ob.cells ⟨[(.slice a n z), (.slice b n2 z2), (.slice d n3 z3), (.int .i64 age), (.int .i64 shear)]⟩ false)] 97 []))))
 (cond (Nat.blt (Nat.sub n (Int.toNat (IntKind.wrap .i64 (k + (1 : Int))))) M)
 (cond (eqCode (theLoop Try.prog 21 0) (theLoop Try.prog 21 0))
 (cond (okC a b d n z n2 z2 n3 z3 o0 o1 o2)
 (cond (ok0 (IntKind.wrap .i64 (k + (1 : Int))))
 (cond (fB (srP a [o0, o1, o2]) (n - (Int.toNat (IntKind.wrap .i64 (k + (1 : Int))))) (Int.toNat (IntKind.wrap .i64 (k + (1 : Int)))))
 (some (Out.ex Ex.ret (St.mk [(.int .i64 (2 : Int)), (.int .i64 (Int.ofNat (fI (srP a [o0, o1, o2]) (n - (Int.toNat (IntKind.wrap .i64 (k + (1 : Int))))) (Int.toNat (IntKind.wrap .i64 (k + (1 : Int))))))), (.int .i64 (srE a [o0, o1, o2] (fI (srP a [o0, o1, o2]) (n - (Int.toNat (IntKind.wrap .i64 (k + (1 : Int))))) (Int.toNat (IntKind.wrap .i64 (k + (1 : Int)))))))] [] (Hp.mk [o0, o1, o2, (Ob.cells ⟨[(.slice a n z), (.slice b n2 z2), (.slice d n3 z3), (.int .i64 age), (.int .i64 shear)]⟩ false)] 97 []))))
 (some (Out.ex (Ex.exit 0) (St.mk [(.pointer (some (Addr.mk 3 0 none)))] [] (Hp.mk [o0, o1, o2, (Ob.cells ⟨[(.slice a n z), (.slice b n2 z2), (.slice d n3 z3), (.int .i64 age), (.int .i64 shear)]⟩ false)] 97 [])))))
 (none))
 (none))
 (none))
 (none)))
 (none))
 (some (Out.ex (Ex.exit 0) (St.mk [(.pointer (some (Addr.mk 3 0 none)))] [] (Hp.mk [o0, o1, o2, (Ob.cells ⟨[(.slice a n z), (.slice b n2 z2), (.slice d n3 z3), (.int .i64 age), (.int .i64 shear)]⟩ false)] 97 [])))) := by kernel_rfl
theorem known21a : ∃ J, Known Try.prog (sh21a.ans J) := by
  refine Known.junk known64c (mesB 0 5) sh21a ?_
  intro J t f hs hkn
  unfold sh21a at hs
  split at hs
  case h_2 => cases hs
  rename_i code t o0 o1 o2 a n z b n2 z2 d n3 z3 age shear G
  split at hs
  case h_2 => cases hs
  rename_i k er e1 e5
  simp only [Option.some.injEq] at hs
  subst hs
  refine ex_guard fun h1 => ex_guard fun h2 => ex_guard fun h4 => ex_guard fun h3 => ?_
  obtain rfl := eqCode_eq h1
  have hl : t.length = 97 := Nat.eq_of_beq_eq_true h2
  obtain ⟨ha, hb, hd, q0, q1, q2, sa, sb, hn, hn2, hn3⟩ := dec_iff.1 h4
  have hk0 : 0 ≤ k := dec_iff.1 h3
  have scs := And.intro (slice_sc ha (show 3 ≤ 4 by decide)) (And.intro (slice_sc hb (show 3 ≤ 4 by decide)) (And.intro (slice_sc hd (show 3 ≤ 4 by decide)) (And.intro (grOb_sc (n := 4) q0) (And.intro (grOb_sc (n := 4) q1) (grOb_sc (n := 4) q2)))))
  obtain ⟨k, rfl⟩ := Int.eq_ofNat_of_zero_le hk0
  have hsc2 : (([o0, o1, o2, .cells ⟨[.slice a n z, .slice b n2 z2, .slice d n3 z3, .int .i64 age, .int .i64 shear]⟩ false] : List Ob).all (obSc ([o0, o1, o2, .cells ⟨[.slice a n z, .slice b n2 z2, .slice d n3 z3, .int .i64 age, .int .i64 shear]⟩ false] : List Ob).length)) = true := by simp [obSc_cells, scs, str_sc, int_sc]
  have hk2 := keptSelf hsc2
  have use := fun e' vs hev he hvs => hkn.loopLeaf (G := G) noNG mixed (n := 60) (N0 := 97) (N := 97) (live := [(1, pp 3), (5, .int .i64 (Int.ofNat k))])
    (H0 := [o0, o1, o2, .cells ⟨[.slice a n z, .slice b n2 z2, .slice d n3 z3, .int .i64 age, .int .i64 shear]⟩ false]) (pick := pick21) (e := e') (vs := vs)
    (base := 3) (wr := []) (wr1 := []) (c := theLoop Try.prog 21 0) (t := t) hev hl (by
      intro kv hm
      simp only [List.mem_cons, List.not_mem_nil, or_false] at hm
      rcases hm with rfl | rfl
      · exact ⟨e1, rfl, rfl⟩
      · exact ⟨e5, rfl, rfl⟩) (by simp) hsc2 hk2 he hvs
  simp only [List.length_cons, List.length_nil, Nat.zero_add, Nat.reduceAdd] at use
  rw [tree21a] at use
  simp only [Int.ofNat_eq_natCast, Int.toNat_natCast] at use ⊢
  by_cases hin : (k : Int) < (n : Int)
  · obtain ⟨m, hm⟩ : ∃ m, n - k = m + 1 := ⟨n - k - 1, by omega⟩
    have hw : IntKind.i64.wrap ((k : Int) + 1) = ((k + 1 : Nat) : Int) := by rw [wrap64_id (by omega) (by omega)]; rfl
    rw [hm]
    have hm' : n - (k + 1) = m := by omega
    have hme : (Nat.sub n (k + 1)).blt (mesB 0 5 (.code none (.loop (theLoop Try.prog 21 0)) ⟨t, [], ⟨o0 :: o1 :: o2 :: .cells ⟨[.slice a n z, .slice b n2 z2, .slice d n3 z3, .int .i64 age, .int .i64 shear]⟩ false :: G, 3, []⟩⟩)) = true := by
      simp only [mesB, e1, e5, Nat.blt_eq, Int.toNat_natCast]
      show n - (k + 1) < n - k
      omega
    have hok : ok0 ↑(k + 1) = true := dec_iff.2 (by omega)
    have x0 : c64 a b d n z n2 z2 n3 z3 ↑k [o0, o1, o2, .cells ⟨[.slice a n z, .slice b n2 z2, .slice d n3 z3, .int .i64 age, .int .i64 shear]⟩ false] = true := dec_iff.2 ⟨sliceL3 ha sa, by omega, by omega, by omega, nilOk_of hb, nilOk_of hd⟩
    have x1 : arrOf a [o0, o1, o2, .cells ⟨[.slice a n z, .slice b n2 z2, .slice d n3 z3, .int .i64 age, .int .i64 shear]⟩ false] = arrOf a [o0, o1, o2] := arr3 ha
    simp only [hw, Int.toNat_natCast, hm', hin, decide_true, cond_true, Bool.true_and, Bool.and_self, Int.natCast_nonneg, eqCode_self, hme, Nat.add_zero, h4, hok, x0, x1] at use
    cases hp : (srP a [o0, o1, o2]) k with
    | true =>
      rw [fB_hit hp, fI_hit hp]
      refine use .ret [.int .i64 2, .int .i64 k, .int .i64 (srE a [o0, o1, o2] k)] ?_ rfl rfl
      have hq : (!decide (srcE (arrOf a [o0, o1, o2]) (offOf a) k = 0)) = true := hp
      rw [hq]; rfl
    | false =>
      rw [fB_miss hp, fI_miss hp]
      cases hb : fB (srP a [o0, o1, o2]) m (k + 1) with
      | true =>
        rw [hb] at use
        refine use .ret [.int .i64 2, .int .i64 (Int.ofNat (fI (srP a [o0, o1, o2]) m (k + 1))), .int .i64 (srE a [o0, o1, o2] (fI (srP a [o0, o1, o2]) m (k + 1)))] ?_ rfl rfl
        have hq : (!decide (srcE (arrOf a [o0, o1, o2]) (offOf a) k = 0)) = false := hp
        rw [hq]; rfl
      | false =>
        rw [hb] at use
        refine use (.exit 0) [pp 3] ?_ rfl rfl
        have hq : (!decide (srcE (arrOf a [o0, o1, o2]) (offOf a) k = 0)) = false := hp
        rw [hq]; rfl
  · have h0 : n - k = 0 := by omega
    rw [h0]
    refine use (.exit 0) [pp 3] ?_ rfl rfl
    simp only [hin, decide_false, cond_false]
    try rfl
theorem tree21b (J : Task → List Value) (o0 o1 o2 : Ob) (a b d : Option Addr) (n z n2 z2 n3 z3 : Nat) (k age shear : Int) (M : Nat) (y : List Value) :
    evS Try.prog (((sh21b.ans J).below (mesB 1 7) M).or p65) 60 (.code none (.loop (theLoop Try.prog 21 1)) ⟨sets (junkF 97 y) [(1, pp 3), (7, .int .i64 k)], [], ⟨[o0, o1, o2, .cells ⟨[.slice a n z, .slice b n2 z2, .slice d n3 z3, .int .i64 age, .int .i64 shear]⟩ false], 3, []⟩⟩) (sumK 4 97 pick21) =
    cond (decide (k < (Int.ofNat n2)))
 (cond (c65 a b d n z n2 z2 n3 z3 k [o0, o1, o2, (Ob.cells ⟨[(.slice a n z), (.slice b n2 z2), (.slice d n3 z3), (.int .i64 age), (.int .i64 shear)]⟩ false)])
 (cond (not (decide ((sdE (arrOf a [o0, o1, o2, (Ob.cells ⟨[(.slice a n z), (.slice b n2 z2), (.slice d n3 z3), (.int .i64 age), (.int .i64 shear)]⟩ false)]) (offOf a) n (arrOf b [o0, o1, o2, (Ob.cells ⟨[(.slice a n z), (.slice b n2 z2), (.slice d n3 z3), (.int .i64 age), (.int .i64 shear)]⟩ false)]) (offOf b) (Int.toNat k)) = (0 : Int))))
 (some (Out.ex Ex.ret (St.mk [(.int .i64 (3 : Int)), (.int .i64 k), (.int .i64 (sdE (arrOf a [o0, o1, o2, (Ob.cells ⟨[(.slice a n z), (.slice b n2 z2), (.slice d n3 z3), (.int .i64 age), (.int .i64 shear)]⟩ false)]) (offOf a) n (arrOf b [o0, o1, o2, (Ob.cells ⟨[(.slice a n z), (.slice b n2 z2), (.slice d n3 z3), (.int .i64 age), (.int .i64 shear)]⟩ false)]) (offOf b) (Int.toNat k)))] [] (Hp.mk [o0, o1, o2, (Ob.cells ⟨[(.slice a n z), (.slice b n2 z2), (.slice d n3 z3), (.int .i64 age), (.int .i64 shear)]⟩ false)] 97 []))))
 (cond (Nat.blt (Nat.sub n2 (Int.toNat (IntKind.wrap .i64 (k + (1 : Int))))) M)
 (cond (eqCode (theLoop Try.prog 21 1) (theLoop Try.prog 21 1))
 (cond (okC a b d n z n2 z2 n3 z3 o0 o1 o2)
 (cond (ok0 (IntKind.wrap .i64 (k + (1 : Int))))
 (cond (fB (soP a b n [o0, o1, o2]) (n2 - (Int.toNat (IntKind.wrap .i64 (k + (1 : Int))))) (Int.toNat (IntKind.wrap .i64 (k + (1 : Int)))))
 (some (Out.ex Ex.ret (St.mk [(.int .i64 (3 : Int)), (.int .i64 (Int.ofNat (fI (soP a b n [o0, o1, o2]) (n2 - (Int.toNat (IntKind.wrap .i64 (k + (1 : Int))))) (Int.toNat (IntKind.wrap .i64 (k + (1 : Int))))))), (.int .i64 (soE a b n [o0, o1, o2] (fI (soP a b n [o0, o1, o2]) (n2 - (Int.toNat (IntKind.wrap .i64 (k + (1 : Int))))) (Int.toNat (IntKind.wrap .i64 (k + (1 : Int)))))))] [] (Hp.mk [o0, o1, o2, (Ob.cells ⟨[(.slice a n z), (.slice b n2 z2), (.slice d n3 z3), (.int .i64 age), (.int .i64 shear)]⟩ false)] 97 []))))
 (some (Out.ex (Ex.exit 2) (St.mk [(.pointer (some (Addr.mk 3 0 none)))] [] (Hp.mk [o0, o1, o2, (Ob.cells ⟨[(.slice a n z), (.slice b n2 z2), (.slice d n3 z3), (.int .i64 age), (.int .i64 shear)]⟩ false)] 97 [])))))
 (none))
 (none))
 (none))
 (none)))
 (none))
 (some (Out.ex (Ex.exit 2) (St.mk [(.pointer (some (Addr.mk 3 0 none)))] [] (Hp.mk [o0, o1, o2, (Ob.cells ⟨[(.slice a n z), (.slice b n2 z2), (.slice d n3 z3), (.int .i64 age), (.int .i64 shear)]⟩ false)] 97 [])))) := by kernel_rfl
theorem known21b : ∃ J, Known Try.prog (sh21b.ans J) := by
  refine Known.junk known65c (mesB 1 7) sh21b ?_
  intro J t f hs hkn
  unfold sh21b at hs
  split at hs
  case h_2 => cases hs
  rename_i code t o0 o1 o2 a n z b n2 z2 d n3 z3 age shear G
  split at hs
  case h_2 => cases hs
  rename_i k er e1 e5
  simp only [Option.some.injEq] at hs
  subst hs
  refine ex_guard fun h1 => ex_guard fun h2 => ex_guard fun h4 => ex_guard fun h3 => ?_
  obtain rfl := eqCode_eq h1
  have hl : t.length = 97 := Nat.eq_of_beq_eq_true h2
  obtain ⟨ha, hb, hd, q0, q1, q2, sa, sb, hn, hn2, hn3⟩ := dec_iff.1 h4
  have hk0 : 0 ≤ k := dec_iff.1 h3
  have scs := And.intro (slice_sc ha (show 3 ≤ 4 by decide)) (And.intro (slice_sc hb (show 3 ≤ 4 by decide)) (And.intro (slice_sc hd (show 3 ≤ 4 by decide)) (And.intro (grOb_sc (n := 4) q0) (And.intro (grOb_sc (n := 4) q1) (grOb_sc (n := 4) q2)))))
  obtain ⟨k, rfl⟩ := Int.eq_ofNat_of_zero_le hk0
  have hsc2 : (([o0, o1, o2, .cells ⟨[.slice a n z, .slice b n2 z2, .slice d n3 z3, .int .i64 age, .int .i64 shear]⟩ false] : List Ob).all (obSc ([o0, o1, o2, .cells ⟨[.slice a n z, .slice b n2 z2, .slice d n3 z3, .int .i64 age, .int .i64 shear]⟩ false] : List Ob).length)) = true := by simp [obSc_cells, scs, str_sc, int_sc]
  have hk2 := keptSelf hsc2
  have use := fun e' vs hev he hvs => hkn.loopLeaf (G := G) noNG mixed (n := 60) (N0 := 97) (N := 97) (live := [(1, pp 3), (7, .int .i64 (Int.ofNat k))])
    (H0 := [o0, o1, o2, .cells ⟨[.slice a n z, .slice b n2 z2, .slice d n3 z3, .int .i64 age, .int .i64 shear]⟩ false]) (pick := pick21) (e := e') (vs := vs)
    (base := 3) (wr := []) (wr1 := []) (c := theLoop Try.prog 21 1) (t := t) hev hl (by
      intro kv hm
      simp only [List.mem_cons, List.not_mem_nil, or_false] at hm
      rcases hm with rfl | rfl
      · exact ⟨e1, rfl, rfl⟩
      · exact ⟨e5, rfl, rfl⟩) (by simp) hsc2 hk2 he hvs
  simp only [List.length_cons, List.length_nil, Nat.zero_add, Nat.reduceAdd] at use
  rw [tree21b] at use
  simp only [Int.ofNat_eq_natCast, Int.toNat_natCast] at use ⊢
  by_cases hin : (k : Int) < (n2 : Int)
  · obtain ⟨m, hm⟩ : ∃ m, n2 - k = m + 1 := ⟨n2 - k - 1, by omega⟩
    have hw : IntKind.i64.wrap ((k : Int) + 1) = ((k + 1 : Nat) : Int) := by rw [wrap64_id (by omega) (by omega)]; rfl
    rw [hm]
    have hm' : n2 - (k + 1) = m := by omega
    have hme : (Nat.sub n2 (k + 1)).blt (mesB 1 7 (.code none (.loop (theLoop Try.prog 21 1)) ⟨t, [], ⟨o0 :: o1 :: o2 :: .cells ⟨[.slice a n z, .slice b n2 z2, .slice d n3 z3, .int .i64 age, .int .i64 shear]⟩ false :: G, 3, []⟩⟩)) = true := by
      simp only [mesB, e1, e5, Nat.blt_eq, Int.toNat_natCast]
      show n2 - (k + 1) < n2 - k
      omega
    have hok : ok0 ↑(k + 1) = true := dec_iff.2 (by omega)
    have x0 : c65 a b d n z n2 z2 n3 z3 ↑k [o0, o1, o2, .cells ⟨[.slice a n z, .slice b n2 z2, .slice d n3 z3, .int .i64 age, .int .i64 shear]⟩ false] = true := dec_iff.2 ⟨sliceL3 ha sa, sliceL3 hb sb, by omega, by omega, by omega, by omega, nilOk_of hd⟩
    have x1 : arrOf a [o0, o1, o2, .cells ⟨[.slice a n z, .slice b n2 z2, .slice d n3 z3, .int .i64 age, .int .i64 shear]⟩ false] = arrOf a [o0, o1, o2] := arr3 ha
    have x2 : arrOf b [o0, o1, o2, .cells ⟨[.slice a n z, .slice b n2 z2, .slice d n3 z3, .int .i64 age, .int .i64 shear]⟩ false] = arrOf b [o0, o1, o2] := arr3 hb
    simp only [hw, Int.toNat_natCast, hm', hin, decide_true, cond_true, Bool.true_and, Bool.and_self, Int.natCast_nonneg, eqCode_self, hme, Nat.add_zero, h4, hok, x0, x1, x2] at use
    cases hp : (soP a b n [o0, o1, o2]) k with
    | true =>
      rw [fB_hit hp, fI_hit hp]
      refine use .ret [.int .i64 3, .int .i64 k, .int .i64 (soE a b n [o0, o1, o2] k)] ?_ rfl rfl
      have hq : (!decide (sdE (arrOf a [o0, o1, o2]) (offOf a) n (arrOf b [o0, o1, o2]) (offOf b) k = 0)) = true := hp
      rw [hq]; rfl
    | false =>
      rw [fB_miss hp, fI_miss hp]
      cases hb : fB (soP a b n [o0, o1, o2]) m (k + 1) with
      | true =>
        rw [hb] at use
        refine use .ret [.int .i64 3, .int .i64 (Int.ofNat (fI (soP a b n [o0, o1, o2]) m (k + 1))), .int .i64 (soE a b n [o0, o1, o2] (fI (soP a b n [o0, o1, o2]) m (k + 1)))] ?_ rfl rfl
        have hq : (!decide (sdE (arrOf a [o0, o1, o2]) (offOf a) n (arrOf b [o0, o1, o2]) (offOf b) k = 0)) = false := hp
        rw [hq]; rfl
      | false =>
        rw [hb] at use
        refine use (.exit 2) [pp 3] ?_ rfl rfl
        have hq : (!decide (sdE (arrOf a [o0, o1, o2]) (offOf a) n (arrOf b [o0, o1, o2]) (offOf b) k = 0)) = false := hp
        rw [hq]; rfl
  · have h0 : n2 - k = 0 := by omega
    rw [h0]
    refine use (.exit 2) [pp 3] ?_ rfl rfl
    simp only [hin, decide_false, cond_false]
    try rfl
theorem tree21c (J : Task → List Value) (o0 o1 : Ob) (c : Array Value) (off : Nat) (a b : Option Addr) (n z n2 z2 n3 : Nat) (k age shear : Int) (M : Nat) (y : List Value) :
    evS Try.prog (((sh21c.ans J).below (mesB 2 9) M).or (fun _ => none)) 60 (.code none (.loop (theLoop Try.prog 21 2)) ⟨sets (junkF 97 y) [(1, pp 3), (9, .int .i64 k)], [], ⟨[o0, o1, .cells c true, .cells ⟨[.slice a n z, .slice b n2 z2, .slice (some ⟨2, off, none⟩) n3 1, .int .i64 age, .int .i64 shear]⟩ false], 3, []⟩⟩) (sumK 4 97 pick21) =
    cond (decide (k < (Int.ofNat n3)))
 (cond (and (decide ((0 : Int) ≤ k)) (decide (k < (Int.ofNat n3))))
 (cond (and true (isInt .i64 c (off + ((Int.toNat k) * 1))))
 (cond (decide ((1 : Int) ≤ (getInt c (off + ((Int.toNat k) * 1)))))
 (cond (not (decide ((getInt c (off + ((Int.toNat k) * 1))) ≤ (100000000 : Int))))
 (some (Out.ex Ex.ret (St.mk [(.int .i64 (4 : Int)), (.int .i64 k), (.int .i64 (7 : Int))] [] (Hp.mk [o0, o1, (Ob.cells c true), (Ob.cells ⟨[(.slice a n z), (.slice b n2 z2), (.slice (some (Addr.mk 2 off none)) n3 1), (.int .i64 age), (.int .i64 shear)]⟩ false)] 97 []))))
 (cond (decide ((0 : Int) < k))
 (cond (and (decide ((0 : Int) ≤ k)) (decide (k < (Int.ofNat n3))))
 (cond (and true (isInt .i64 c (off + ((Int.toNat k) * 1))))
 (cond (and (decide ((0 : Int) ≤ (IntKind.wrap .i64 (k - (1 : Int))))) (decide ((IntKind.wrap .i64 (k - (1 : Int))) < (Int.ofNat n3))))
 (cond (and true (isInt .i64 c (off + ((Int.toNat (IntKind.wrap .i64 (k - (1 : Int)))) * 1))))
 (cond (decide ((getInt c (off + ((Int.toNat k) * 1))) ≤ (getInt c (off + ((Int.toNat (IntKind.wrap .i64 (k - (1 : Int)))) * 1)))))
 (some (Out.ex Ex.ret (St.mk [(.int .i64 (4 : Int)), (.int .i64 k), (.int .i64 (2 : Int))] [] (Hp.mk [o0, o1, (Ob.cells c true), (Ob.cells ⟨[(.slice a n z), (.slice b n2 z2), (.slice (some (Addr.mk 2 off none)) n3 1), (.int .i64 age), (.int .i64 shear)]⟩ false)] 97 []))))
 (cond (Nat.blt (Nat.sub n3 (Int.toNat (IntKind.wrap .i64 (k + (1 : Int))))) M)
 (cond (eqCode (theLoop Try.prog 21 2) (theLoop Try.prog 21 2))
 (cond (okD a b n z n2 z2 c off n3 o0 o1 (IntKind.wrap .i64 (k + (1 : Int))))
 (cond (fB (tmP c off) (n3 - (Int.toNat (IntKind.wrap .i64 (k + (1 : Int))))) (Int.toNat (IntKind.wrap .i64 (k + (1 : Int)))))
 (some (Out.ex Ex.ret (St.mk [(.int .i64 (4 : Int)), (.int .i64 (Int.ofNat (fI (tmP c off) (n3 - (Int.toNat (IntKind.wrap .i64 (k + (1 : Int))))) (Int.toNat (IntKind.wrap .i64 (k + (1 : Int))))))), (.int .i64 (tmE c off (fI (tmP c off) (n3 - (Int.toNat (IntKind.wrap .i64 (k + (1 : Int))))) (Int.toNat (IntKind.wrap .i64 (k + (1 : Int)))))))] [] (Hp.mk [o0, o1, (Ob.cells c true), (Ob.cells ⟨[(.slice a n z), (.slice b n2 z2), (.slice (some (Addr.mk 2 off none)) n3 1), (.int .i64 age), (.int .i64 shear)]⟩ false)] 97 []))))
 (some (Out.ex (Ex.exit 4) (St.mk [(.pointer (some (Addr.mk 3 0 none)))] [] (Hp.mk [o0, o1, (Ob.cells c true), (Ob.cells ⟨[(.slice a n z), (.slice b n2 z2), (.slice (some (Addr.mk 2 off none)) n3 1), (.int .i64 age), (.int .i64 shear)]⟩ false)] 97 [])))))
 (none))
 (none))
 (none)))
 (none))
 (none))
 (none))
 (none))
 (cond (Nat.blt (Nat.sub n3 (Int.toNat (IntKind.wrap .i64 (k + (1 : Int))))) M)
 (cond (eqCode (theLoop Try.prog 21 2) (theLoop Try.prog 21 2))
 (cond (okD a b n z n2 z2 c off n3 o0 o1 (IntKind.wrap .i64 (k + (1 : Int))))
 (cond (fB (tmP c off) (n3 - (Int.toNat (IntKind.wrap .i64 (k + (1 : Int))))) (Int.toNat (IntKind.wrap .i64 (k + (1 : Int)))))
 (some (Out.ex Ex.ret (St.mk [(.int .i64 (4 : Int)), (.int .i64 (Int.ofNat (fI (tmP c off) (n3 - (Int.toNat (IntKind.wrap .i64 (k + (1 : Int))))) (Int.toNat (IntKind.wrap .i64 (k + (1 : Int))))))), (.int .i64 (tmE c off (fI (tmP c off) (n3 - (Int.toNat (IntKind.wrap .i64 (k + (1 : Int))))) (Int.toNat (IntKind.wrap .i64 (k + (1 : Int)))))))] [] (Hp.mk [o0, o1, (Ob.cells c true), (Ob.cells ⟨[(.slice a n z), (.slice b n2 z2), (.slice (some (Addr.mk 2 off none)) n3 1), (.int .i64 age), (.int .i64 shear)]⟩ false)] 97 []))))
 (some (Out.ex (Ex.exit 4) (St.mk [(.pointer (some (Addr.mk 3 0 none)))] [] (Hp.mk [o0, o1, (Ob.cells c true), (Ob.cells ⟨[(.slice a n z), (.slice b n2 z2), (.slice (some (Addr.mk 2 off none)) n3 1), (.int .i64 age), (.int .i64 shear)]⟩ false)] 97 [])))))
 (none))
 (none))
 (none))))
 (some (Out.ex Ex.ret (St.mk [(.int .i64 (4 : Int)), (.int .i64 k), (.int .i64 (7 : Int))] [] (Hp.mk [o0, o1, (Ob.cells c true), (Ob.cells ⟨[(.slice a n z), (.slice b n2 z2), (.slice (some (Addr.mk 2 off none)) n3 1), (.int .i64 age), (.int .i64 shear)]⟩ false)] 97 [])))))
 (none))
 (none))
 (some (Out.ex (Ex.exit 4) (St.mk [(.pointer (some (Addr.mk 3 0 none)))] [] (Hp.mk [o0, o1, (Ob.cells c true), (Ob.cells ⟨[(.slice a n z), (.slice b n2 z2), (.slice (some (Addr.mk 2 off none)) n3 1), (.int .i64 age), (.int .i64 shear)]⟩ false)] 97 [])))) := by kernel_rfl
theorem known21c : ∃ J, Known Try.prog (sh21c.ans J) := by
  refine Known.junk (Known.nothing _) (mesB 2 9) sh21c ?_
  intro J t f hs hkn
  unfold sh21c at hs
  split at hs
  case h_2 => cases hs
  rename_i code t o0 o1 c a n z b n2 z2 off n3 age shear G
  split at hs
  case h_2 => cases hs
  rename_i k er e1 e5
  simp only [Option.some.injEq] at hs
  subst hs
  refine ex_guard fun h1 => ex_guard fun h2 => ex_guard fun h4 => ?_
  obtain rfl := eqCode_eq h1
  have hl : t.length = 97 := Nat.eq_of_beq_eq_true h2
  obtain ⟨ha, hb, q0, q1, q2, hn3, hk0⟩ := dec_iff.1 h4
  have scs := And.intro (slice_sc ha (show 3 ≤ 4 by decide)) (And.intro (slice_sc hb (show 3 ≤ 4 by decide)) (And.intro (allsc (n := 4) q2.1) (And.intro (grOb_sc (n := 4) q0) (And.intro (grOb_sc (n := 4) q1) (fun l z => at2_sc (l := l) (z := z) (off := off) (show 2 < 4 by decide))))))
  obtain ⟨k, rfl⟩ := Int.eq_ofNat_of_zero_le hk0
  have hsc2 : (([o0, o1, .cells c true, .cells ⟨[.slice a n z, .slice b n2 z2, .slice (some ⟨2, off, none⟩) n3 1, .int .i64 age, .int .i64 shear]⟩ false] : List Ob).all (obSc ([o0, o1, .cells c true, .cells ⟨[.slice a n z, .slice b n2 z2, .slice (some ⟨2, off, none⟩) n3 1, .int .i64 age, .int .i64 shear]⟩ false] : List Ob).length)) = true := by simp [obSc_cells, scs, str_sc, int_sc]
  have hk2 := keptSelf hsc2
  have use := fun e' vs hev he hvs => hkn.loopLeaf (G := G) noNG mixed (n := 60) (N0 := 97) (N := 97) (live := [(1, pp 3), (9, .int .i64 (Int.ofNat k))])
    (H0 := [o0, o1, .cells c true, .cells ⟨[.slice a n z, .slice b n2 z2, .slice (some ⟨2, off, none⟩) n3 1, .int .i64 age, .int .i64 shear]⟩ false]) (pick := pick21) (e := e') (vs := vs)
    (base := 3) (wr := []) (wr1 := []) (c := theLoop Try.prog 21 2) (t := t) hev hl (by
      intro kv hm
      simp only [List.mem_cons, List.not_mem_nil, or_false] at hm
      rcases hm with rfl | rfl
      · exact ⟨e1, rfl, rfl⟩
      · exact ⟨e5, rfl, rfl⟩) (by simp) hsc2 hk2 he hvs
  simp only [List.length_cons, List.length_nil, Nat.zero_add, Nat.reduceAdd] at use
  rw [tree21c] at use
  simp only [Int.ofNat_eq_natCast, Int.toNat_natCast] at use ⊢
  by_cases hin : (k : Int) < (n3 : Int)
  · obtain ⟨m, hm⟩ : ∃ m, n3 - k = m + 1 := ⟨n3 - k - 1, by omega⟩
    have hw : IntKind.i64.wrap ((k : Int) + 1) = ((k + 1 : Nat) : Int) := by rw [wrap64_id (by omega) (by omega)]; rfl
    rw [hm]
    have hm' : n3 - (k + 1) = m := by omega
    have hme : (Nat.sub n3 (k + 1)).blt (mesB 2 9 (.code none (.loop (theLoop Try.prog 21 2)) ⟨t, [], ⟨o0 :: o1 :: .cells c true :: .cells ⟨[.slice a n z, .slice b n2 z2, .slice (some ⟨2, off, none⟩) n3 1, .int .i64 age, .int .i64 shear]⟩ false :: G, 3, []⟩⟩)) = true := by
      simp only [mesB, e1, e5, Nat.blt_eq, Int.toNat_natCast]
      show n3 - (k + 1) < n3 - k
      omega
    have hok : okD a b n z n2 z2 c off n3 o0 o1 ↑(k + 1) = true := dec_iff.2 ⟨ha, hb, q0, q1, q2, hn3, by omega⟩
    have hw2 : IntKind.i64.wrap ((k : Int) - 1) = (k : Int) - 1 := wrap64_id (by omega) (by omega)
    have hw3 : Int.toNat ((k : Int) - 1) = k - 1 := by omega
    have x0 : isInt .i64 c (off + k) = true := isInt1 (q2.2 k (by omega))
    have x1 : isInt .i64 c (off + (k - 1)) = true := isInt1 (q2.2 (k - 1) (by omega))
    have hE : tmE c off k = if inB (getInt c (off + k)) 1 100000000 = false then 7 else if 0 < k ∧ getInt c (off + k) ≤ getInt c (off + (k - 1)) then 2 else 0 := rfl
    have hpp : tmP c off k = !decide (tmE c off k = 0) := rfl
    simp only [hw, Int.toNat_natCast, hm', hin, decide_true, cond_true, Bool.true_and, Bool.and_self, Int.natCast_nonneg, eqCode_self, hme, Nat.add_zero, h4, hok, x0, x1, hw2, hw3, Nat.mul_one] at use
    cases hp : (tmP c off) k with
    | true =>
      rw [fB_hit hp, fI_hit hp]
      refine use .ret [.int .i64 4, .int .i64 k, .int .i64 (tmE c off k)] ?_ rfl rfl
      clear use hkn hk2 hsc2 hme hok h1 h2 h4 er q0 q1 q2 hl e1 e5 x0 x1 scs; rw [hp] at hpp; unfold inB at hE; repeat' refine cond_hd (fun _ => ?_) (fun _ => ?_)
      all_goals grind [pp]
    | false =>
      rw [fB_miss hp, fI_miss hp]
      cases hb : fB (tmP c off) m (k + 1) with
      | true =>
        rw [hb] at use
        refine use .ret [.int .i64 4, .int .i64 (Int.ofNat (fI (tmP c off) m (k + 1))), .int .i64 (tmE c off (fI (tmP c off) m (k + 1)))] ?_ rfl rfl
        clear use hkn hk2 hsc2 hme hok h1 h2 h4 er q0 q1 q2 hl e1 e5 x0 x1 scs; rw [hp] at hpp; unfold inB at hE; repeat' refine cond_hd (fun _ => ?_) (fun _ => ?_)
        all_goals grind [pp]
      | false =>
        rw [hb] at use
        refine use (.exit 4) [pp 3] ?_ rfl rfl
        clear use hkn hk2 hsc2 hme hok h1 h2 h4 er q0 q1 q2 hl e1 e5 x0 x1 scs; rw [hp] at hpp; unfold inB at hE; repeat' refine cond_hd (fun _ => ?_) (fun _ => ?_)
        all_goals grind [pp]
  · have h0 : n3 - k = 0 := by omega
    rw [h0]
    refine use (.exit 4) [pp 3] ?_ rfl rfl
    simp only [hin, decide_false, cond_false]
    try rfl
end
end Go.Proofs.Ytjdidbnmkogflaa.Old

namespace Go.Proofs.Ytjdidbnmkogflaa.Old
open Go.Gi Go.RowKit
noncomputable section
set_option maxRecDepth 100000
set_option linter.unusedSimpArgs false
set_option linter.unusedVariables false
def ckR (a b d : Option Addr) (n n2 n3 : Nat) (age shear : Int) (H : List Ob) : Int × Int × Int :=
  if 6 < n ∨ 60 < n2 ∨ n3 < 1 ∨ 20 < n3 then (1, 0, 3)
  else if fB (srP a H) n 0 = true then (2, Int.ofNat (fI (srP a H) n 0), srE a H (fI (srP a H) n 0))
  else if fB (soP a b n H) n2 0 = true then (3, Int.ofNat (fI (soP a b n H) n2 0), soE a b n H (fI (soP a b n H) n2 0))
  else if fB (tmP (arrOf d H) (offOf d)) n3 0 = true then (4, Int.ofNat (fI (tmP (arrOf d H) (offOf d)) n3 0), tmE (arrOf d H) (offOf d) (fI (tmP (arrOf d H) (offOf d)) n3 0))
  else if inB age 0 1000 = false ∨ inB shear 0 1000 = false then (5, 0, 7) else (0, 0, 0)
def c21 (a b d : Option Addr) (n z n2 z2 n3 z3 : Nat) (H : List Ob) : Bool := dec (SliceL L7 a n z H ∧ SliceL L5 b n2 z2 H ∧ SliceL L1 d n3 z3 H ∧ NilOk a n z ∧ NilOk b n2 z2 ∧ NilOk d n3 z3)
def p21 (f : Nat) : Ans
  | .call g ⟨[.agg ⟨[.slice a n z, .slice b n2 z2, .slice d n3 z3, .int .i64 age, .int .i64 shear]⟩]⟩ h => (match Nat.beq g f with
    | true => some (.br (c21 a b d n z n2 z2 n3 z3 h.bl) (.leaf (.ret (.tuple ⟨[.int .i64 (ckR a b d n n2 n3 age shear h.bl).1, .int .i64 (ckR a b d n n2 n3 age shear h.bl).2.1, .int .i64 (ckR a b d n n2 n3 age shear h.bl).2.2]⟩) h)) .no)
    | false => none)
  | _ => none
theorem sdE_zero (c0 : Array Value) (off0 : Nat) (c : Array Value) (off i : Nat) : sdE c0 off0 0 c off i = 4 := by
  unfold sdE
  rw [if_pos]
  unfold inB
  simp only [Bool.and_eq_false_iff, decide_eq_false_iff_not]
  omega
theorem ckR_congr {a b d a' b' d' : Option Addr} {n n2 n3 : Nat} {age shear : Int} {H H' : List Ob} (hA : n = 0 ∨ arrOf a' H' = arrOf a H) (hB : n2 = 0 ∨ arrOf b' H' = arrOf b H) (hD : arrOf d' H' = arrOf d H)
    (oA : offOf a' = offOf a) (oB : offOf b' = offOf b) (oD : offOf d' = offOf d) : ckR a' b' d' n n2 n3 age shear H' = ckR a b d n n2 n3 age shear H := by
  have f0 : ∀ p, fB p 0 0 = false := fun _ => rfl
  unfold ckR
  rw [hD, oD]
  have key : n2 = 0 ∨ soE a' b' n H' = soE a b n H := by
    rcases hB with h | hB
    · exact .inl h
    · refine .inr (funext fun k => ?_)
      unfold soE
      rcases hA with rfl | hA
      · rw [sdE_zero, sdE_zero]
      · rw [hA, hB, oA, oB]
  have key2 : n = 0 ∨ srE a' H' = srE a H := by
    rcases hA with h | hA
    · exact .inl h
    · refine .inr (funext fun k => ?_)
      unfold srE
      rw [hA, oA]
  have kp : n2 = 0 ∨ soP a' b' n H' = soP a b n H := by
    rcases key with h | h
    · exact .inl h
    · refine .inr (funext fun k => ?_)
      unfold soP; rw [h]
  have kp2 : n = 0 ∨ srP a' H' = srP a H := by
    rcases key2 with h | h
    · exact .inl h
    · refine .inr (funext fun k => ?_)
      unfold srP; rw [h]
  rcases key2 with rfl | h2
  · simp only [f0, Bool.false_eq_true, if_false]
    rcases key with rfl | h1
    · simp only [f0, Bool.false_eq_true, if_false]
    · rcases kp with rfl | h3
      · simp only [f0, Bool.false_eq_true, if_false]
      · rw [h1, h3]
  · rcases kp2 with rfl | h4
    · simp only [f0, Bool.false_eq_true, if_false]
      rcases key with rfl | h1
      · simp only [f0, Bool.false_eq_true, if_false]
      · rcases kp with rfl | h3
        · simp only [f0, Bool.false_eq_true, if_false]
        · rw [h1, h3]
    · rw [h2, h4]
      rcases key with rfl | h1
      · simp only [f0, Bool.false_eq_true, if_false]
      · rcases kp with rfl | h3
        · simp only [f0, Bool.false_eq_true, if_false]
        · rw [h1, h3]
theorem offOf_atB (k : Nat) (a : Option Addr) : offOf (atB k a) = offOf a := by cases a <;> rfl
theorem pick_ob {L : List Leaf} {a : Option Addr} {n z : Nat} {H : List Ob} (hs : SliceL L a n z H) :
    ∃ o, ObAt o (blkOf a) H ∧ grOb o ∧ (n = 0 ∨ o = .cells (arrOf a H) true ∧ z = L.length ∧ GoodL L (arrOf a H) (offOf a) n ∧ ∃ b off, a = some ⟨b, off, none⟩) := by
  rcases hs with rfl | ⟨b, off, rfl, rfl, hc, hg⟩
  · exact ⟨.dead, .inl rfl, .inl rfl, .inl rfl⟩
  · exact ⟨.cells (cellsAt H b) true, .inr ⟨_, rfl, hg.1, cells_ok hc⟩, .inr ⟨_, rfl, hg.1⟩, .inr ⟨rfl, rfl, hg, b, off, rfl⟩⟩
theorem tree21m (J J2 J3 : Task → List Value) (o0 o1 : Ob) (c : Array Value) (off : Nat) (a b : Option Addr) (n z n2 z2 n3 : Nat) (age shear : Int) :
    evC Try.prog ((sh21a.ans J).or ((sh21b.ans J2).or (sh21c.ans J3))).c 60 (.call 21 ⟨[.agg ⟨[.slice a n z, .slice b n2 z2, .slice (some ⟨2, off, none⟩) n3 1, .int .i64 age, .int .i64 shear]⟩]⟩ ⟨[o0, o1, .cells c true], 3, []⟩) some =
    cond (decide ((6 : Int) < (Int.ofNat n)))
 (some (Out.ret (.tuple ⟨[(.int .i64 (1 : Int)), (.int .i64 (0 : Int)), (.int .i64 (3 : Int))]⟩) (Hp.mk [o0, o1, (Ob.cells c true)] 3 [])))
 (cond (decide ((60 : Int) < (Int.ofNat n2)))
 (some (Out.ret (.tuple ⟨[(.int .i64 (1 : Int)), (.int .i64 (0 : Int)), (.int .i64 (3 : Int))]⟩) (Hp.mk [o0, o1, (Ob.cells c true)] 3 [])))
 (cond (decide ((1 : Int) ≤ (Int.ofNat n3)))
 (cond (not (decide ((Int.ofNat n3) ≤ (20 : Int))))
 (some (Out.ret (.tuple ⟨[(.int .i64 (1 : Int)), (.int .i64 (0 : Int)), (.int .i64 (3 : Int))]⟩) (Hp.mk [o0, o1, (Ob.cells c true)] 3 [])))
 (cond (eqCode (theLoop Try.prog 21 0) (theLoop Try.prog 21 0))
 (cond (okC a b (some (Addr.mk 2 off none)) n z n2 z2 n3 1 o0 o1 (Ob.cells c true))
 (cond (ok0 (0 : Int))
 (cond (fB (srP a [o0, o1, (Ob.cells c true)]) (n - 0) 0)
 (some (Out.ret (.tuple ⟨[(.int .i64 (2 : Int)), (.int .i64 (Int.ofNat (fI (srP a [o0, o1, (Ob.cells c true)]) (n - 0) 0))), (.int .i64 (srE a [o0, o1, (Ob.cells c true)] (fI (srP a [o0, o1, (Ob.cells c true)]) (n - 0) 0)))]⟩) (Hp.mk [o0, o1, (Ob.cells c true)] 3 [])))
 (cond (eqCode (theLoop Try.prog 21 1) (theLoop Try.prog 21 1))
 (cond (okC a b (some (Addr.mk 2 off none)) n z n2 z2 n3 1 o0 o1 (Ob.cells c true))
 (cond (ok0 (0 : Int))
 (cond (fB (soP a b n [o0, o1, (Ob.cells c true)]) (n2 - 0) 0)
 (some (Out.ret (.tuple ⟨[(.int .i64 (3 : Int)), (.int .i64 (Int.ofNat (fI (soP a b n [o0, o1, (Ob.cells c true)]) (n2 - 0) 0))), (.int .i64 (soE a b n [o0, o1, (Ob.cells c true)] (fI (soP a b n [o0, o1, (Ob.cells c true)]) (n2 - 0) 0)))]⟩) (Hp.mk [o0, o1, (Ob.cells c true)] 3 [])))
 (cond (eqCode (theLoop Try.prog 21 2) (theLoop Try.prog 21 2))
 (cond (okD a b n z n2 z2 c off n3 o0 o1 (0 : Int))
 (cond (fB (tmP c off) (n3 - 0) 0)
 (some (Out.ret (.tuple ⟨[(.int .i64 (4 : Int)), (.int .i64 (Int.ofNat (fI (tmP c off) (n3 - 0) 0))), (.int .i64 (tmE c off (fI (tmP c off) (n3 - 0) 0)))]⟩) (Hp.mk [o0, o1, (Ob.cells c true)] 3 [])))
 (cond (decide ((0 : Int) ≤ age))
 (cond (not (decide (age ≤ (1000 : Int))))
 (some (Out.ret (.tuple ⟨[(.int .i64 (5 : Int)), (.int .i64 (0 : Int)), (.int .i64 (7 : Int))]⟩) (Hp.mk [o0, o1, (Ob.cells c true)] 3 [])))
 (cond (decide ((0 : Int) ≤ shear))
 (cond (not (decide (shear ≤ (1000 : Int))))
 (some (Out.ret (.tuple ⟨[(.int .i64 (5 : Int)), (.int .i64 (0 : Int)), (.int .i64 (7 : Int))]⟩) (Hp.mk [o0, o1, (Ob.cells c true)] 3 [])))
 (some (Out.ret (.tuple ⟨[(.int .i64 (0 : Int)), (.int .i64 (0 : Int)), (.int .i64 (0 : Int))]⟩) (Hp.mk [o0, o1, (Ob.cells c true)] 3 []))))
 (some (Out.ret (.tuple ⟨[(.int .i64 (5 : Int)), (.int .i64 (0 : Int)), (.int .i64 (7 : Int))]⟩) (Hp.mk [o0, o1, (Ob.cells c true)] 3 [])))))
 (some (Out.ret (.tuple ⟨[(.int .i64 (5 : Int)), (.int .i64 (0 : Int)), (.int .i64 (7 : Int))]⟩) (Hp.mk [o0, o1, (Ob.cells c true)] 3 [])))))
 (none))
 (none)))
 (none))
 (none))
 (none)))
 (none))
 (none))
 (none)))
 (some (Out.ret (.tuple ⟨[(.int .i64 (1 : Int)), (.int .i64 (0 : Int)), (.int .i64 (3 : Int))]⟩) (Hp.mk [o0, o1, (Ob.cells c true)] 3 []))))) := by kernel_rfl
theorem tree21z (a b d : Option Addr) (n z n2 z2 z3 : Nat) (age shear : Int) :
    evC Try.prog (Ans.c fun _ => none) 60 (.call 21 ⟨[.agg ⟨[.slice a n z, .slice b n2 z2, .slice d 0 z3, .int .i64 age, .int .i64 shear]⟩]⟩ ⟨[.dead, .dead, .dead], 3, []⟩) some =
    cond (decide ((6 : Int) < (Int.ofNat n)))
 (some (Out.ret (.tuple ⟨[(.int .i64 (1 : Int)), (.int .i64 (0 : Int)), (.int .i64 (3 : Int))]⟩) (Hp.mk [Ob.dead, Ob.dead, Ob.dead] 3 [])))
 (cond (decide ((60 : Int) < (Int.ofNat n2)))
 (some (Out.ret (.tuple ⟨[(.int .i64 (1 : Int)), (.int .i64 (0 : Int)), (.int .i64 (3 : Int))]⟩) (Hp.mk [Ob.dead, Ob.dead, Ob.dead] 3 [])))
 (some (Out.ret (.tuple ⟨[(.int .i64 (1 : Int)), (.int .i64 (0 : Int)), (.int .i64 (3 : Int))]⟩) (Hp.mk [Ob.dead, Ob.dead, Ob.dead] 3 [])))) := by kernel_rfl
theorem ok0_0 : ok0 0 = true := dec_iff.2 (Int.le_refl 0)
theorem known21 : Known Try.prog (p21 21) := by
  obtain ⟨J, hJ⟩ := known21a
  obtain ⟨J2, hJ2⟩ := known21b
  obtain ⟨J3, hJ3⟩ := known21c
  have hK := hJ.or (hJ2.or hJ3)
  intro t xx o h ho
  unfold p21 at h
  split at h
  case h_2 => cases h
  rename_i g a n z b n2 z2 d n3 z3 age shear hp
  split at h
  case h_2 => cases h
  rename_i hgg
  obtain rfl := Nat.eq_of_beq_eq_true hgg
  simp only [Option.some.injEq] at h
  subst h
  simp only [AT.out] at ho
  obtain ⟨hok, ho⟩ := cond_some ho
  simp only [Option.some.injEq] at ho
  subst ho
  obtain ⟨hs, hs2, hs3, na, nb, nd⟩ := dec_iff.1 hok
  clear hok
  have e0 : ∀ k, okR0 3 (.slice (atB 0 a) n k) = true := fun k => atB_okR (by decide)
  have e1 : ∀ k, okR0 3 (.slice (atB 1 b) n2 k) = true := fun k => atB_okR (by decide)
  have e2 : ∀ n k, okR0 3 (.slice (atB 2 d) n k) = true := fun n k => atB_okR (by decide)
  rcases Nat.eq_zero_or_pos n3 with rfl | hpos
  · refine frame3 (args1 := ⟨[.agg ⟨[.slice (atB 0 a) n z, .slice (atB 1 b) n2 z2, .slice (atB 2 d) 0 z3, .int .i64 age, .int .i64 shear]⟩]⟩) (blkOf a) (blkOf b) (blkOf d) ((Known.nothing _).fact noNG mixed (n := 60) ?_) rfl
      (.inl rfl) (.inl rfl) (.inl rfl) ?_ ?_
    · refine (tree21z ..).trans ?_
      unfold ckR
      rw [if_pos (by omega)]
      repeat' refine cond_hd (fun _ => ?_) (fun _ => ?_)
      all_goals rfl
    · simp only [List.map_toArray, List.map_cons, List.map_nil, ren1, ren0]
      rw [atB_ren (by simp), atB_ren (by simp), atB_ren (by simp)]
    · simp only [List.all_cons, List.all_nil, okR1, e0, e1, e2]; rfl
  obtain ⟨o0, at0, gr0, c0⟩ := pick_ob hs
  obtain ⟨o1, at1, gr1, c1⟩ := pick_ob hs2
  rcases hs3 with rfl | ⟨b2, off, rfl, rfl, hc, hgood⟩
  · omega
  refine frame3 (args1 := ⟨[.agg ⟨[.slice (atB 0 a) n z, .slice (atB 1 b) n2 z2, .slice (some ⟨2, off, none⟩) n3 1, .int .i64 age, .int .i64 shear]⟩]⟩) (o0 := o0) (o1 := o1) (o2 := .cells (cellsAt hp.bl b2) true) (blkOf a) (blkOf b) b2 (hK.fact noNG mixed (n := 60) ?_) rfl
    at0 at1 (.inr ⟨_, rfl, hgood.1, cells_ok hc⟩) ?_ ?_
  · refine (tree21m ..).trans ?_
    have hcong : ckR (atB 0 a) (atB 1 b) (some ⟨2, off, none⟩) n n2 n3 age shear [o0, o1, .cells (cellsAt hp.bl b2) true] = ckR a b (some ⟨b2, off, none⟩) n n2 n3 age shear hp.bl := by
      refine ckR_congr ?_ ?_ rfl (offOf_atB ..) (offOf_atB ..) rfl
      · rcases c0 with h | ⟨rfl, _, _, b, off, rfl⟩
        · exact .inl h
        · exact .inr rfl
      · rcases c1 with h | ⟨rfl, _, _, b, off, rfl⟩
        · exact .inl h
        · exact .inr rfl
    have sa : SliceL L7 (atB 0 a) n z [o0, o1, .cells (cellsAt hp.bl b2) true] := by
      rcases c0 with h | ⟨rfl, rfl, hg, b, off, rfl⟩
      · exact .inl h
      · exact .inr ⟨0, off, rfl, rfl, rfl, hg⟩
    have sb : SliceL L5 (atB 1 b) n2 z2 [o0, o1, .cells (cellsAt hp.bl b2) true] := by
      rcases c1 with h | ⟨rfl, rfl, hg, b, off, rfl⟩
      · exact .inl h
      · exact .inr ⟨1, off, rfl, rfl, rfl, hg⟩
    rw [← hcong]
    have k1 : n ≤ 6 → n2 ≤ 60 → n3 ≤ 20 → okC (atB 0 a) (atB 1 b) (some ⟨2, off, none⟩) n z n2 z2 n3 1 o0 o1 (.cells (cellsAt hp.bl b2) true) = true := fun h1 h2 h3 =>
      dec_iff.2 ⟨atB_sc (by decide) na, atB_sc (by decide) nb, at2_sc (by decide), gr0, gr1, .inr ⟨_, rfl, hgood.1⟩, sa, sb, h1, h2, h3⟩
    have k2 : n3 ≤ 20 → okD (atB 0 a) (atB 1 b) n z n2 z2 (cellsAt hp.bl b2) off n3 o0 o1 0 = true := fun h3 =>
      dec_iff.2 ⟨atB_sc (by decide) na, atB_sc (by decide) nb, gr0, gr1, hgood, h3, by omega⟩
    clear hJ hJ2 hJ3 hK hcong sa sb hgood hc e0 e1 e2 na nb nd c0 c1 at0 at1 gr0 gr1 hs hs2 hpos
    simp only [Int.ofNat_eq_natCast, eqCode_self, ok0_0, cond_true, Nat.sub_zero]
    unfold ckR
    have p1 : arrOf (some ⟨2, off, none⟩) [o0, o1, .cells (cellsAt hp.bl b2) true] = cellsAt hp.bl b2 := rfl
    have p2 : offOf (some ⟨2, off, none⟩) = off := rfl
    rw [p1, p2]
    by_cases h1 : 6 < n
    · have h1' : (6 : Int) < n := by omega
      simp only [h1, h1', decide_true, cond_true, true_or, if_true]
    have h1' : ¬ (6 : Int) < n := by omega
    by_cases h2 : 60 < n2
    · have h2' : (60 : Int) < n2 := by omega
      simp only [h1', h2, h2', decide_true, decide_false, cond_true, cond_false, true_or, or_true, if_true]
    have h2' : ¬ (60 : Int) < n2 := by omega
    by_cases h3 : n3 < 1
    · have h3' : ¬ (1 : Int) ≤ n3 := by omega
      simp only [h1', h2', h3, h3', decide_true, decide_false, cond_true, cond_false, true_or, or_true, if_true]
    have h3' : (1 : Int) ≤ n3 := by omega
    by_cases h4 : 20 < n3
    · have h4' : ¬ (n3 : Int) ≤ 20 := by omega
      simp only [h1', h2', h3', h4, h4', Bool.not_false, decide_true, decide_false, cond_true, cond_false, true_or, or_true, if_true]
    have h4' : (n3 : Int) ≤ 20 := by omega
    simp only [h1, h2, h3, h4, h1', h2', h3', h4', k1 (by omega) (by omega) (by omega), k2 (by omega), Bool.not_true, decide_true, decide_false, cond_true, cond_false, or_self, if_false]
    clear k1 k2
    repeat' refine cond_hd (fun _ => ?_) (fun _ => ?_)
    all_goals simp_all [inB]
    all_goals (rw [if_pos (by omega)]; simp)
  · simp only [List.map_toArray, List.map_cons, List.map_nil, ren1, ren0]
    rw [atB_ren (by simp), atB_ren (by simp)]; rfl
  · simp only [List.all_cons, List.all_nil, okR1, e0, e1]; rfl
end
end Go.Proofs.Ytjdidbnmkogflaa.Old

namespace Go.Proofs.Ytjdidbnmkogflaa.Old
open Go.Gi Go.RowKit
noncomputable section
def exS (c : Array Value) (off : Nat) (x0 : Int) : Nat → Bool
  | 0 => false
  | m + 1 => if getInt c (off + m * 5) = x0 then true else exS c off x0 m
def flS (c : Array Value) (off : Nat) (x0 x1 x2 : Int) : Nat → Bool
  | 0 => false
  | m + 1 => if getInt c (off + m * 5) = x0 then decide (x1 < getInt c (off + m * 5 + 1)) || decide (x2 < getInt c (off + m * 5 + 2)) else flS c off x0 x1 x2 m
def ok106 (off : Nat) (c : Array Value) (n : Nat) (i : Int) : Bool := dec (GoodL L5 c off n ∧ -1 ≤ i ∧ i < n ∧ n ≤ 60)
def sh106 : Shape
  | .code none (.loop code) ⟨t, [], ⟨.cells c true :: .cells ⟨[.int .i64 x0, .int .i64 x1, .int .i64 x2, .int .i64 x3, .int .i64 x4]⟩ false :: G, 1, []⟩⟩ =>
    match Nat.beq (firstReg code) 2, lget t 0, lget t 3, lget t 5 with
    | true, .slice (some ⟨0, off, none⟩) n 5, .pointer (some ⟨1, 0, none⟩), .int .i64 i => some fun j =>
      .br (eqCode code (theLoop Try.prog 106 0)) (.br (Nat.beq t.length 35) (.br (ok106 off c n i)
 (.br (exS c off x0 (Int.toNat (i + 1)))
          (loopEnd 35 .ret [(4, .bool (flS c off x0 x1 x2 (Int.toNat (i + 1))))] ⟨.cells c true :: .cells ⟨[.int .i64 x0, .int .i64 x1, .int .i64 x2, .int .i64 x3, .int .i64 x4]⟩ false :: G, 1, []⟩ j)
          (loopEnd 35 (.exit 0) [] ⟨.cells c true :: .cells ⟨[.int .i64 x0, .int .i64 x1, .int .i64 x2, .int .i64 x3, .int .i64 x4]⟩ false :: G, 1, []⟩ j)) .no) .no) .no
    | _, _, _, _ => none
  | _ => none
def mes106 : Task → Nat
  | .code _ _ s => match lget s.t 5 with
    | .int _ i => Int.toNat (i + 1)
    | _ => 0
  | _ => 0
def pick106 : Ex → List Nat
  | .ret => [4]
  | _ => []
end
end Go.Proofs.Ytjdidbnmkogflaa.Old

namespace Go.Proofs.Ytjdidbnmkogflaa.Old
open Go.Gi Go.RowKit
noncomputable section
set_option maxRecDepth 100000
set_option linter.unusedSimpArgs false
set_option linter.unusedVariables false
theorem tree106 (J : Task → List Value) (off : Nat) (c : Array Value) (n : Nat) (i x0 x1 x2 x3 x4 : Int) (M : Nat) (y : List Value) :
    evS Try.prog (((sh106.ans J).below mes106 M).or (fun _ => none)) 60 (.code none (.loop (theLoop Try.prog 106 0)) ⟨sets (junkF 35 y) [(0, .slice (some ⟨0, off, none⟩) n 5), (3, pp 1), (5, .int .i64 i)], [], ⟨[.cells c true, .cells ⟨[.int .i64 x0, .int .i64 x1, .int .i64 x2, .int .i64 x3, .int .i64 x4]⟩ false], 1, []⟩⟩) (sumK 2 35 pick106) =
    cond (decide ((0 : Int) ≤ i))
 (cond (and (decide ((0 : Int) ≤ i)) (decide (i < (Int.ofNat n))))
 (cond (and true (rdOk c [(Leaf.int .i64), (Leaf.int .i64), (Leaf.int .i64), (Leaf.int .i64), (Leaf.int .i64)] (off + ((Int.toNat i) * 5))))
 (cond (decide ((getInt c (off + ((Int.toNat i) * 5))) = x0))
 (cond (decide (x1 < (getInt c ((off + ((Int.toNat i) * 5)) + 1))))
 (some (Out.ex Ex.ret (St.mk [(.bool true)] [] (Hp.mk [(Ob.cells c true), (Ob.cells ⟨[(.int .i64 x0), (.int .i64 x1), (.int .i64 x2), (.int .i64 x3), (.int .i64 x4)]⟩ false)] 35 []))))
 (some (Out.ex Ex.ret (St.mk [(.bool (decide (x2 < (getInt c (((off + ((Int.toNat i) * 5)) + 1) + 1)))))] [] (Hp.mk [(Ob.cells c true), (Ob.cells ⟨[(.int .i64 x0), (.int .i64 x1), (.int .i64 x2), (.int .i64 x3), (.int .i64 x4)]⟩ false)] 35 [])))))
 (cond (Nat.blt (Int.toNat ((IntKind.wrap .i64 (i - (1 : Int))) + (1 : Int))) M)
 (cond (eqCode (theLoop Try.prog 106 0) (theLoop Try.prog 106 0))
 (cond (ok106 off c n (IntKind.wrap .i64 (i - (1 : Int))))
 (cond (exS c off x0 (Int.toNat ((IntKind.wrap .i64 (i - (1 : Int))) + (1 : Int))))
 (some (Out.ex Ex.ret (St.mk [(.bool (flS c off x0 x1 x2 (Int.toNat ((IntKind.wrap .i64 (i - (1 : Int))) + (1 : Int)))))] [] (Hp.mk [(Ob.cells c true), (Ob.cells ⟨[(.int .i64 x0), (.int .i64 x1), (.int .i64 x2), (.int .i64 x3), (.int .i64 x4)]⟩ false)] 35 []))))
 (some (Out.ex (Ex.exit 0) (St.mk [] [] (Hp.mk [(Ob.cells c true), (Ob.cells ⟨[(.int .i64 x0), (.int .i64 x1), (.int .i64 x2), (.int .i64 x3), (.int .i64 x4)]⟩ false)] 35 [])))))
 (none))
 (none))
 (none)))
 (none))
 (none))
 (some (Out.ex (Ex.exit 0) (St.mk [] [] (Hp.mk [(Ob.cells c true), (Ob.cells ⟨[(.int .i64 x0), (.int .i64 x1), (.int .i64 x2), (.int .i64 x3), (.int .i64 x4)]⟩ false)] 35 [])))) := by kernel_rfl
theorem tree106c (J : Task → List Value) (off : Nat) (c : Array Value) (n : Nat) (x0 x1 x2 x3 x4 : Int) :
    evC Try.prog (sh106.ans J).c 60 (.call 106 ⟨[.slice (some ⟨0, off, none⟩) n 5, .agg ⟨[.int .i64 x0, .int .i64 x1, .int .i64 x2, .int .i64 x3, .int .i64 x4]⟩]⟩ ⟨[.cells c true], 1, []⟩) some =
    cond (eqCode (theLoop Try.prog 106 0) (theLoop Try.prog 106 0))
 (cond (ok106 off c n (IntKind.wrap .i64 ((Int.ofNat n) - (1 : Int))))
 (cond (exS c off x0 (Int.toNat ((IntKind.wrap .i64 ((Int.ofNat n) - (1 : Int))) + (1 : Int))))
 (some (Out.ret (.bool (flS c off x0 x1 x2 (Int.toNat ((IntKind.wrap .i64 ((Int.ofNat n) - (1 : Int))) + (1 : Int))))) (Hp.mk [(Ob.cells c true)] 1 [])))
 (some (Out.ret (.bool false) (Hp.mk [(Ob.cells c true)] 1 []))))
 (none))
 (none) := by kernel_rfl
theorem tree106z (a : Option Addr) (z : Nat) (x0 x1 x2 x3 x4 : Int) :
    evC Try.prog (Ans.c fun _ => none) 60 (.call 106 ⟨[.slice a 0 z, .agg ⟨[.int .i64 x0, .int .i64 x1, .int .i64 x2, .int .i64 x3, .int .i64 x4]⟩]⟩ ⟨[.dead], 1, []⟩) some =
    some (Out.ret (Value.bool false) (Hp.mk [Ob.dead] 1 [])) := by kernel_rfl
theorem flS_false {c : Array Value} {off : Nat} {x0 x1 x2 : Int} : ∀ {m : Nat}, exS c off x0 m = false → flS c off x0 x1 x2 m = false
  | 0, _ => rfl
  | m + 1, h => by
    simp only [exS] at h
    simp only [flS]
    split at h
    · cases h
    · rename_i hx; rw [if_neg hx]; exact flS_false h
theorem known106 : ∃ J, Known Try.prog (sh106.ans J) := by
  refine Known.junk (Known.nothing _) mes106 sh106 ?_
  intro J t f hs hkn
  unfold sh106 at hs
  split at hs
  case h_2 => cases hs
  rename_i code t c x0 x1 x2 x3 x4 G
  split at hs
  case h_2 => cases hs
  rename_i off n i er e0 e3 e5
  simp only [Option.some.injEq] at hs
  subst hs
  refine ex_guard fun h1 => ex_guard fun h2 => ex_guard fun h3 => ?_
  obtain rfl := eqCode_eq h1
  have hl : t.length = 35 := Nat.eq_of_beq_eq_true h2
  obtain ⟨hg, hi1, hin, hn⟩ := dec_iff.1 h3
  have q1 := allsc (n := 2) hg.1
  have hsc2 : (([.cells c true, .cells ⟨[.int .i64 x0, .int .i64 x1, .int .i64 x2, .int .i64 x3, .int .i64 x4]⟩ false] : List Ob).all (obSc ([.cells c true, .cells ⟨[.int .i64 x0, .int .i64 x1, .int .i64 x2, .int .i64 x3, .int .i64 x4]⟩ false] : List Ob).length)) = true := by
    simp [obSc_cells, q1, int_sc]
  have hk2 := keptSelf hsc2
  have use := fun e' vs hev he hvs => hkn.loopLeaf (G := G) noNG mixed (n := 60) (N0 := 35) (N := 35) (live := [(0, .slice (some ⟨0, off, none⟩) n 5), (3, pp 1), (5, .int .i64 i)])
    (H0 := [.cells c true, .cells ⟨[.int .i64 x0, .int .i64 x1, .int .i64 x2, .int .i64 x3, .int .i64 x4]⟩ false]) (pick := pick106) (e := e') (vs := vs)
    (base := 1) (wr := []) (wr1 := []) (c := theLoop Try.prog 106 0) (t := t) hev hl (by
      intro kv hm
      simp only [List.mem_cons, List.not_mem_nil, or_false] at hm
      rcases hm with rfl | rfl | rfl
      · exact ⟨e0, rfl, rfl⟩
      · exact ⟨e3, rfl, rfl⟩
      · exact ⟨e5, rfl, rfl⟩) (by simp) hsc2 hk2 he hvs
  simp only [List.length_cons, List.length_nil, Nat.zero_add, Nat.reduceAdd] at use
  rw [tree106] at use
  simp only [Int.ofNat_eq_natCast, Int.toNat_natCast] at use ⊢
  by_cases hi0 : 0 ≤ i
  · obtain ⟨m, rfl⟩ := Int.eq_ofNat_of_zero_le hi0
    have hw : IntKind.i64.wrap ((m : Int) - 1) = (m : Int) - 1 := wrap64_id (by omega) (by omega)
    have hm1 : Int.toNat ((m : Int) + 1) = m + 1 := by omega
    have hm2 : Int.toNat ((m : Int) - 1 + 1) = m := by omega
    have hme : Nat.blt m (mes106 (.code none (.loop (theLoop Try.prog 106 0)) ⟨t, [], ⟨.cells c true :: .cells ⟨[.int .i64 x0, .int .i64 x1, .int .i64 x2, .int .i64 x3, .int .i64 x4]⟩ false :: G, 1, []⟩⟩)) = true := by
      simp only [mes106, e5, hm1, Nat.blt_eq]; omega
    have hok : ok106 off c n ((m : Int) - 1) = true := dec_iff.2 ⟨hg, by omega, by omega, hn⟩
    have x0' := hg.2 m (by omega)
    simp only [show L5.length = 5 from rfl] at x0'
    have hkn2 : (m : Int) < n := hin
    rw [hm1]
    simp only [hw, Int.toNat_natCast, hm2, hi0, hkn2, decide_true, cond_true, Bool.true_and, Bool.and_self, eqCode_self, hme, hok, x0'] at use
    by_cases hx : getInt c (off + m * 5) = x0
    · have e1 : exS c off x0 (m + 1) = true := by simp [exS, hx]
      have e2 : flS c off x0 x1 x2 (m + 1) = (decide (x1 < getInt c (off + m * 5 + 1)) || decide (x2 < getInt c (off + m * 5 + 2))) := by simp [flS, hx]
      rw [e1, e2]
      refine use .ret [.bool (decide (x1 < getInt c (off + m * 5 + 1)) || decide (x2 < getInt c (off + m * 5 + 2)))] ?_ rfl rfl
      simp only [hx, decide_true, cond_true]
      by_cases h4 : x1 < getInt c (off + m * 5 + 1)
      · simp only [h4, decide_true, cond_true, Bool.true_or]
      · simp only [h4, decide_false, cond_false, Bool.false_or]
    · have e1 : exS c off x0 (m + 1) = exS c off x0 m := by simp [exS, hx]
      have e2 : flS c off x0 x1 x2 (m + 1) = flS c off x0 x1 x2 m := by simp [flS, hx]
      rw [e1, e2]
      cases hb : exS c off x0 m with
      | true =>
        rw [hb] at use
        refine use .ret [.bool (flS c off x0 x1 x2 m)] ?_ rfl rfl
        simp only [hx, decide_false, cond_false, cond_true]
      | false =>
        rw [hb] at use
        refine use (.exit 0) [] ?_ rfl rfl
        simp only [hx, decide_false, cond_false, cond_true]
  · have hm1 : Int.toNat (i + 1) = 0 := by omega
    rw [hm1]
    refine use (.exit 0) [] ?_ rfl rfl
    simp only [hi0, decide_false, cond_false]
def c106 (a : Option Addr) (n z : Nat) (H : List Ob) : Bool := dec (SliceL L5 a n z H ∧ n ≤ 60)
def p106 : Ans
  | .call 106 ⟨[.slice a n z, .agg ⟨[.int .i64 x0, .int .i64 x1, .int .i64 x2, .int .i64 x3, .int .i64 x4]⟩]⟩ h =>
    some (.br (c106 a n z h.bl) (.leaf (.ret (.bool (flS (arrOf a h.bl) (offOf a) x0 x1 x2 n)) h)) .no)
  | _ => none
theorem known106c : Known Try.prog p106 := by
  obtain ⟨J, hJ⟩ := known106
  intro t xx o h ho
  unfold p106 at h
  split at h
  case h_2 => cases h
  rename_i a n z x0 x1 x2 x3 x4 hp
  simp only [Option.some.injEq] at h
  subst h
  simp only [AT.out] at ho
  obtain ⟨hok, ho⟩ := cond_some ho
  simp only [Option.some.injEq] at ho
  subst ho
  obtain ⟨hs, hn⟩ := dec_iff.1 hok
  rcases hs with rfl | ⟨b, off, rfl, rfl, hc, hgood⟩
  · have e : flS (arrOf a hp.bl) (offOf a) x0 x1 x2 0 = false := rfl
    rw [e]
    have eo : okR0 1 (.slice (atB 0 a) 0 z) = true := atB_okR (by decide)
    refine frame0 (args1 := ⟨[.slice (atB 0 a) 0 z, .agg ⟨[.int .i64 x0, .int .i64 x1, .int .i64 x2, .int .i64 x3, .int .i64 x4]⟩]⟩) (blkOf a) ((Known.nothing _).fact noNG mixed (tree106z (atB 0 a) z x0 x1 x2 x3 x4)) rfl ?_ ?_
    · simp only [List.map_toArray, List.map_cons, List.map_nil, ren1, ren0]
      rw [atB_ren (by simp)]
    · simp only [List.all_cons, List.all_nil, okR1, eo]; rfl
  · refine frame1 (args1 := ⟨[.slice (some ⟨0, off, none⟩) n 5, .agg ⟨[.int .i64 x0, .int .i64 x1, .int .i64 x2, .int .i64 x3, .int .i64 x4]⟩]⟩) b (hJ.fact noNG mixed (n := 60) ?_) rfl hgood.1 (cells_ok hc) (by simp [ren1, ren0, renA]) rfl
    rw [tree106c]
    have hw : IntKind.i64.wrap ((n : Int) - 1) = (n : Int) - 1 := wrap64_id (by omega) (by omega)
    have hm : Int.toNat ((n : Int) - 1 + 1) = n := by omega
    have hk : ok106 off (cellsAt hp.bl b) n ((n : Int) - 1) = true := dec_iff.2 ⟨hgood, by omega, by omega, hn⟩
    simp only [Int.ofNat_eq_natCast, hw, hm, hk, eqCode_self, cond_true, arrOf, offOf]
    cases hb : exS (cellsAt hp.bl b) off x0 n with
    | true => rfl
    | false => rw [flS_false hb]; rfl
end
end Go.Proofs.Ytjdidbnmkogflaa.Old

namespace Go.Proofs.Ytjdidbnmkogflaa.Old
open Go.Gi Go.RowKit
noncomputable section
abbrev Es := List (Value × Value)
noncomputable def mkV (s : ByteArray) (a b c : Int) : Value := .agg ⟨[.string s, .int .i64 a, .int .i64 b, .int .i64 c]⟩
def isMk (k : Value) : Prop := ∃ s a b c, k = mkV s a b c
def TakenM (es : Es) : Prop := ∀ e ∈ es, isMk e.1 ∧ e.2 = .bool true
def keysM (es : Es) : List Value := es.map (·.1)
noncomputable def tkL (es : Es) (k : Value) : Bool := dec (k ∈ keysM es)
noncomputable def tkU (es : Es) (k : Value) : Es := es ++ [(k, .bool true)]
noncomputable def rgE (c : Array Value) (x : Nat) : Int :=
  if inB (getInt c (x + 1)) 1 3 = false then 2
  else if inB (getInt c (x + 2)) 0 5000 = false ∨ inB (getInt c (x + 3)) 0 6000 = false ∨ inB (getInt c (x + 4)) 1 60000 = false ∨ inB (getInt c (x + 5)) 0 99999999 = false ∨
    inB (getInt c (x + 6)) 0 99999999 = false ∨ getInt c (x + 6) < getInt c (x + 5) then 7 else 0
noncomputable def nmK (c : Array Value) (x : Nat) : Value := mkV (getStr c x) 0 0 0
noncomputable def seE (c : Array Value) (x : Nat) (es : Es) : Int := if nm (getStr c x) = false then 6 else if tkL es (nmK c x) = true then 5 else rgE c x
noncomputable def seM (c : Array Value) (x : Nat) (es : Es) : Es := if nm (getStr c x) = false then es else if tkL es (nmK c x) = true then es else tkU es (nmK c x)
structure Sa where
  bad : Bool
  ix : Nat
  err : Int
  es : Es
noncomputable def saR (c : Array Value) (off : Nat) : Nat → Nat → Es → Sa
  | 0, _, es => ⟨false, 0, 0, es⟩
  | m + 1, k, es => if seE c (off + k * 7) es = 0 then saR c off m (k + 1) (seM c (off + k * 7) es) else ⟨true, k, seE c (off + k * 7) es, seM c (off + k * 7) es⟩
noncomputable def saB (c : Array Value) (off m k : Nat) (es : Es) : Bool := (saR c off m k es).bad
noncomputable def saI (c : Array Value) (off m k : Nat) (es : Es) : Nat := (saR c off m k es).ix
noncomputable def saE (c : Array Value) (off m k : Nat) (es : Es) : Int := (saR c off m k es).err
noncomputable def saM (c : Array Value) (off m k : Nat) (es : Es) : Es := (saR c off m k es).es
noncomputable def okM (es : Es) : Bool := dec (TakenM es)
noncomputable def okA20 (c : Array Value) (off n : Nat) (b d : Option Addr) (n2 z2 n3 z3 : Nat) (o1 o2 : Ob) (m k : Int) (off' n' : Nat) : Bool :=
  dec (off' = off ∧ n' = n ∧ GoodL L7 c off n ∧ sc1 3 (.slice b n2 z2) = true ∧ sc1 3 (.slice d n3 z3) = true ∧ grOb o1 ∧ grOb o2 ∧ n ≤ 6 ∧ m = n ∧ 0 ≤ k)
noncomputable def sh20a : Shape
  | .code none (.loop code) ⟨t, [], ⟨.cells c true :: o1 :: o2 :: .cells ⟨[.slice (some ⟨0, off, none⟩) n 7, .slice b n2 z2, .slice d n3 z3, .int .i64 age, .int .i64 shear]⟩ false :: .map es :: G, 3, []⟩⟩ =>
    match Nat.beq (firstReg code) 5, lget t 1, lget t 5, lget t 39, lget t 40, lget t 41 with
    | true, .pointer (some ⟨3, 0, none⟩), .map (some 4), .slice (some ⟨0, off', none⟩) n' 7, .int .i64 m, .int .i64 k => some fun j =>
 (.br (eqCode code (theLoop Try.prog 20 0)) (.br (Nat.beq t.length 96) (.br (okA20 c off n b d n2 z2 n3 z3 o1 o2 m k off' n') (.br (okM es)
 (.br (saB c off (n - k.toNat) k.toNat es)
          (loopEnd 96 .ret [(2, .int .i64 2), (3, .int .i64 (Int.ofNat (saI c off (n - k.toNat) k.toNat es))), (4, .int .i64 (saE c off (n - k.toNat) k.toNat es))]
            ⟨.cells c true :: o1 :: o2 :: .cells ⟨[.slice (some ⟨0, off, none⟩) n 7, .slice b n2 z2, .slice d n3 z3, .int .i64 age, .int .i64 shear]⟩ false :: .map (saM c off (n - k.toNat) k.toNat es) :: G, 3, []⟩ j)
          (loopEnd 96 (.exit 0) [(1, pp 3), (5, .map (some 4))]
            ⟨.cells c true :: o1 :: o2 :: .cells ⟨[.slice (some ⟨0, off, none⟩) n 7, .slice b n2 z2, .slice d n3 z3, .int .i64 age, .int .i64 shear]⟩ false :: .map (saM c off (n - k.toNat) k.toNat es) :: G, 3, []⟩ j)) .no) .no) .no) .no)
    | _, _, _, _, _, _ => none
  | _ => none
noncomputable def mes20a : Task → Nat
  | .code _ _ s => match lget s.t 40, lget s.t 41 with
    | .int _ n, .int _ i => Nat.sub n.toNat i.toNat
    | _, _ => 0
  | _ => 0
noncomputable def pick20 (l : List Nat) : Ex → List Nat
  | .ret => [2, 3, 4]
  | _ => l
end
end Go.Proofs.Ytjdidbnmkogflaa.Old

namespace Go.Proofs.Ytjdidbnmkogflaa.Old
open Go.Gi Go.RowKit
noncomputable section
set_option maxRecDepth 100000
set_option linter.unusedSimpArgs false
set_option linter.unusedVariables false
def mkF : Array Field := ⟨[⟨"name", 9, 0, false, "", "hangfire/wind", 0⟩, ⟨"source", 3, 1, false, "", "hangfire/wind", 16⟩, ⟨"tick", 3, 2, false, "", "hangfire/wind", 24⟩, ⟨"height", 3, 3, false, "", "hangfire/wind", 32⟩]⟩
theorem und161 : Try.prog.underlying 161 = some (.struct mkF) := by kernel_rfl
theorem und105 : Try.prog.underlying 105 = some (.map 161 4) := by kernel_rfl
theorem und9 : Try.prog.underlying 9 = some .string := by kernel_rfl
theorem und3 : Try.prog.underlying 3 = some (.int .i64) := by kernel_rfl
theorem stood161 : Try.prog.stoodInHeld 161 = false := by kernel_rfl
theorem prog_run (P : Program) : pureRun P program = some P := rfl
theorem part0 (s : ByteArray) (a b c : Int) : pureRun Try.prog (part 9 ⟨[.string s, .int .i64 a, .int .i64 b, .int .i64 c]⟩ 0) = some (.string s) := by kernel_rfl
theorem part1 (s : ByteArray) (a b c : Int) : pureRun Try.prog (part 3 ⟨[.string s, .int .i64 a, .int .i64 b, .int .i64 c]⟩ 1) = some (.int .i64 a) := by kernel_rfl
theorem part2 (s : ByteArray) (a b c : Int) : pureRun Try.prog (part 3 ⟨[.string s, .int .i64 a, .int .i64 b, .int .i64 c]⟩ 2) = some (.int .i64 b) := by kernel_rfl
theorem part3 (s : ByteArray) (a b c : Int) : pureRun Try.prog (part 3 ⟨[.string s, .int .i64 a, .int .i64 b, .int .i64 c]⟩ 3) = some (.int .i64 c) := by kernel_rfl
theorem eqMark1 (d : Nat) (s s' : ByteArray) (a b c a' b' c' : Int) : pureRun Try.prog (Op.equalIn ((d + 1) + 1) 161 (mkV s a b c) (mkV s' a' b' c')) = some (s == s' && (a == a' && (b == b' && c == c'))) := by
  have e0 := equalIn_string (P := Try.prog) d und9 s s'
  have e1 := equalIn_int (P := Try.prog) d und3 .i64 a a'
  have e2 := equalIn_int (P := Try.prog) d und3 .i64 b b'
  have e3 := equalIn_int (P := Try.prog) d und3 .i64 c c'
  generalize hd : d + 1 = d1 at e0 e1 e2 e3 ⊢
  rw [Op.equalIn]
  rw [pureRun_bind, pure_underlying und161, Option.bind_some]
  simp only [mkV]
  rw [pureRun_bind, prog_run, Option.bind_some, stood161]
  simp only [Bool.false_eq_true, if_false]
  rw [pureRun_bind]
  simp only [mkF, ← Array.forIn_toList, List.forIn_cons, List.forIn_nil, pureRun_bind, Option.bind_some, part0, part1, part2, part3, e0, e1, e2, e3]
  have n0 : (("name" : String) ≠ "_") = True := by simp
  have n1 : (("source" : String) ≠ "_") = True := by simp
  have n2 : (("tick" : String) ≠ "_") = True := by simp
  have n3 : (("height" : String) ≠ "_") = True := by simp
  simp only [n0, n1, n2, n3, if_true, pureRun_bind, part0, part1, part2, part3, Option.bind_some, e0, e1, e2, e3]
  generalize (s == s') = p0
  generalize (a == a') = p1 at e1 ⊢
  generalize (b == b') = p2 at e2 ⊢
  generalize (c == c') = p3 at e3 ⊢
  have S : ∀ {α : Type} (x : α), pureRun Try.prog (pure x) = some x := fun _ => rfl
  cases p0 with
  | false => rfl
  | true =>
    simp only [Bool.not_true, Bool.false_eq_true, if_false, S, Option.bind_some, pureRun_bind, part1, part2, part3, e1]
    cases p1 with
    | false => rfl
    | true =>
      simp only [Bool.not_true, Bool.false_eq_true, if_false, S, Option.bind_some, pureRun_bind, part1, part2, part3, e2]
      cases p2 with
      | false => rfl
      | true =>
        simp only [Bool.not_true, Bool.false_eq_true, if_false, S, Option.bind_some, pureRun_bind, part1, part2, part3, e3]
        cases p3 <;> rfl
theorem ba_eq (s s' : ByteArray) : (s == s') = true ↔ s = s' := by
  cases s with | mk d => cases s' with | mk d' =>
  show (d == d') = true ↔ _
  rw [beq_iff_eq, ByteArray.mk.injEq]
theorem eqMark (s s' : ByteArray) (a b c a' b' c' : Int) : pureRun Try.prog (Op.equal 161 (mkV s a b c) (mkV s' a' b' c')) = some (dec (mkV s' a' b' c' = mkV s a b c)) := by
  have h := eqMark1 9998 s s' a b c a' b' c'
  refine Eq.trans h ?_
  congr 1
  rw [Bool.eq_iff_iff]
  simp only [Bool.and_eq_true, ba_eq, beq_iff_eq, dec_iff, mkV, Value.agg.injEq, Array.mk.injEq, List.cons.injEq, Value.string.injEq, Value.int.injEq, true_and, and_true]
  constructor
  · rintro ⟨rfl, rfl, rfl, rfl⟩; simp
  · rintro ⟨rfl, rfl, rfl, rfl⟩; simp
theorem find_mark {k : Value} (hk : isMk k) : ∀ (l : List Value) (i : Nat), (∀ x ∈ l, isMk x) →
    (k ∈ l ∧ ∃ j, aFind Try.prog 161 k l i = some (some (i + j)) ∧ j < l.length) ∨ (k ∉ l ∧ aFind Try.prog 161 k l i = some none)
  | [], i, _ => .inr ⟨by simp, rfl⟩
  | x :: r, i, h => by
    obtain ⟨s, a, b, c, rfl⟩ := hk
    obtain ⟨s', a', b', c', hx⟩ := h x (List.mem_cons_self ..)
    subst hx
    have e := eqMark s s' a b c a' b' c'
    simp only [aFind, e]
    by_cases hq : mkV s' a' b' c' = mkV s a b c
    · have hd : dec (mkV s' a' b' c' = mkV s a b c) = true := dec_iff.2 hq
      rw [hd]
      rw [hq]
      exact .inl ⟨List.mem_cons_self .., 0, rfl, by simp⟩
    · have hd : dec (mkV s' a' b' c' = mkV s a b c) = false := by cases h : dec (mkV s' a' b' c' = mkV s a b c) with | true => exact absurd (dec_iff.1 h) hq | false => rfl
      rw [hd]
      simp only
      rcases find_mark ⟨s, a, b, c, rfl⟩ r (i + 1) (fun x hx => h x (List.mem_cons_of_mem _ hx)) with ⟨h1, j, h2, h3⟩ | ⟨h1, h2⟩
      · exact .inl ⟨List.mem_cons_of_mem _ h1, j + 1, by rw [h2]; congr 2; omega, by simp; omega⟩
      · exact .inr ⟨by simp only [List.mem_cons, not_or]; exact ⟨fun h => hq h.symm, h1⟩, h2⟩
theorem check_mark {k : Value} (hk : isMk k) (e : Bool) : pureRun Try.prog (Instr.checkKey e 10000 161 k) = some () := by
  obtain ⟨s, a, b, c, rfl⟩ := hk
  cases e <;> kernel_rfl
theorem gr_mark {k : Value} (hk : isMk k) : gr k = true := by
  obtain ⟨s, a, b, c, rfl⟩ := hk
  rfl
theorem zero4 : zeroB Try.prog 4 = some (.bool false) := by kernel_rfl
theorem lkL_mark {k : Value} {es : Es} (hk : isMk k) (he : TakenM es) : lkL Try.prog 105 k es = some (.bool (dec (k ∈ keysM es))) := by
  unfold lkL
  rw [und105]
  simp only [gr_mark hk, check_mark hk, und161, Option.isSome_some, and_self, if_true]
  have hm : ∀ x ∈ keysM es, isMk x := by
    intro x hx
    simp only [keysM, List.mem_map] at hx
    obtain ⟨e, h1, rfl⟩ := hx
    exact (he e h1).1
  rcases find_mark hk (keysM es) 0 hm with ⟨h1, j, h2, h3⟩ | ⟨h1, h2⟩
  · rw [show es.map (·.1) = keysM es from rfl, h2]
    simp only [Nat.zero_add]
    have hj : j < es.length := by simpa [keysM] using h3
    rw [List.getElem?_eq_getElem hj]
    have := (he _ (List.getElem_mem hj)).2
    have hd : dec (k ∈ keysM es) = true := dec_iff.2 h1
    simp only [this, hd]
  · rw [show es.map (·.1) = keysM es from rfl, h2]
    have hd : dec (k ∈ keysM es) = false := by cases h : dec (k ∈ keysM es) with | true => exact absurd (dec_iff.1 h) h1 | false => rfl
    simp only [zero4, hd]
theorem upL_mark {k : Value} {es : Es} (hk : isMk k) (he : TakenM es) (hn : k ∉ keysM es) : upL Try.prog 105 k (.bool true) es = some (es ++ [(k, .bool true)]) := by
  unfold upL
  rw [und105]
  simp only [gr_mark hk, check_mark hk, und161, Option.isSome_some, and_self, if_true]
  have hm : ∀ x ∈ keysM es, isMk x := by
    intro x hx
    simp only [keysM, List.mem_map] at hx
    obtain ⟨e, h1, rfl⟩ := hx
    exact (he e h1).1
  rcases find_mark hk (keysM es) 0 hm with ⟨h1, _⟩ | ⟨h1, h2⟩
  · exact absurd h1 hn
  · rw [show es.map (·.1) = keysM es from rfl, h2]
end
end Go.Proofs.Ytjdidbnmkogflaa.Old

