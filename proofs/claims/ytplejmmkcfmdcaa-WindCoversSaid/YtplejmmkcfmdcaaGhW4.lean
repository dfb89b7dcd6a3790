/- The loops of wind.Over and hangfireref01.Over: the band that they find. Conditions: none. -/
import Derived.Test.YtplejmmkcfmdcaaGhW3
namespace Go.Proofs.Ytplejmmkcfmdcaa
open Go.Gh Go.RowKit
noncomputable section
set_option maxRecDepth 100000

theorem fst_hit {p : Nat → Bool} {m i : Nat} (h : p i = true) : fst p (m + 1) i = some i := by simp only [fst]; rw [if_pos h]
theorem fst_miss {p : Nat → Bool} {m i : Nat} (h : p i = false) : fst p (m + 1) i = fst p m (i + 1) := by simp only [fst]; rw [if_neg (by simp [h])]
theorem kept3 (c : Array Value) (x y x' y' : Array Value) (h : c.toList.all g0 = true) (hx : x'.toList.all g0 = true) (hy : y'.toList.all g0 = true) :
    ObsKept 3 [.cells c true, .cells x false, .cells y false] [.cells c true, .cells x' false, .cells y' false] :=
  .cons (by simp [obKept, obSc_g0 h, Ob.live, Ob.rw]) (.cons (by simp [obKept, obSc_g0 hx, Ob.live, Ob.rw]) (.cons (by simp [obKept, obSc_g0 hy, Ob.live, Ob.rw]) .nil))
theorem sp_g0 (c : Array Value) (x : Nat) : (sp c x).toList.all g0 = true := rfl
theorem tree27 (J : Task → List Value) (off : Nat) (c : Array Value) (n : Nat) (i h : Int) (M : Nat) (y : List Value) :
    evS Try.prog (((sh27.ans J).below mes27 M).or (fun _ => none)) 60 (.code none (.loop (theLoop Try.prog 27 0)) ⟨sets (junkF 43 y) [(1, .int .i64 h), (4, pp 1), (5, pp 2), (26, .slice (some ⟨0, off, none⟩) n 6), (27, .int .i64 (Int.ofNat n)), (28, .int .i64 i)], [], ⟨[.cells c true, .cells Z2 false, .cells Z2 false], 1, []⟩⟩) (sumK 3 43 pick27) =
    cond (decide (i < (Int.ofNat n)))
    (cond (and (decide ((0 : Int) ≤ i)) (decide (i < (Int.ofNat n))))
     (cond (and true (rdOk c [(Leaf.int .i64), (Leaf.int .i64), (Leaf.int .i64), (Leaf.int .i64), (Leaf.int .i64), (Leaf.int .i64)] (off + ((Int.toNat i) * 6))))
      (cond (decide (h < (getInt c ((off + ((Int.toNat i) * 6)) + 1))))
       (cond (decide ((getInt c (((((off + ((Int.toNat i) * 6)) + 1) + 1) + 1) + 1)) = (getInt c (((((off + ((Int.toNat i) * 6)) + 1) + 1) + 1) + 1))))
        (cond (decide ((getInt c ((((((off + ((Int.toNat i) * 6)) + 1) + 1) + 1) + 1) + 1)) = (getInt c ((((((off + ((Int.toNat i) * 6)) + 1) + 1) + 1) + 1) + 1))))
         (cond (decide ((getInt c (((((off + ((Int.toNat i) * 6)) + 1) + 1) + 1) + 1)) = (getInt c (((((off + ((Int.toNat i) * 6)) + 1) + 1) + 1) + 1))))
          (cond (decide ((getInt c ((((((off + ((Int.toNat i) * 6)) + 1) + 1) + 1) + 1) + 1)) = (getInt c ((((((off + ((Int.toNat i) * 6)) + 1) + 1) + 1) + 1) + 1))))
           (some (Out.ex Ex.ret (St.mk [(Value.pointer (Option.some (Addr.mk 1 0 Option.none))), (Value.pointer (Option.some (Addr.mk 2 0 Option.none))), (Value.int .i64 (0 : Int))] [] (Hp.mk [(Ob.cells c true), (Ob.cells ⟨[(Value.int .i64 (getInt c (((off + ((Int.toNat i) * 6)) + 1) + 1))), (Value.int .i64 (getInt c ((((off + ((Int.toNat i) * 6)) + 1) + 1) + 1)))]⟩ false), (Ob.cells ⟨[(Value.int .i64 (getInt c (((((off + ((Int.toNat i) * 6)) + 1) + 1) + 1) + 1))), (Value.int .i64 (getInt c ((((((off + ((Int.toNat i) * 6)) + 1) + 1) + 1) + 1) + 1)))]⟩ false)] 43 []))))
           (none))
          (none))
         (none))
        (none))
       (cond (Nat.blt (Nat.sub (Int.toNat (Int.ofNat n)) (Int.toNat (IntKind.wrap .i64 (i + (1 : Int))))) M)
        (cond (eqCode (theLoop Try.prog 27 0) (theLoop Try.prog 27 0))
         (cond (okZ ⟨[(Value.int .i64 (0 : Int)), (Value.int .i64 (0 : Int))]⟩ ⟨[(Value.int .i64 (0 : Int)), (Value.int .i64 (0 : Int))]⟩)
          (cond (ok27 off c n (IntKind.wrap .i64 (i + (1 : Int))) (Int.ofNat n))
           (cond (ovB c off h (n - (Int.toNat (IntKind.wrap .i64 (i + (1 : Int))))) (Int.toNat (IntKind.wrap .i64 (i + (1 : Int)))))
            (some (Out.ex Ex.ret (St.mk [(Value.pointer (Option.some (Addr.mk 1 0 Option.none))), (Value.pointer (Option.some (Addr.mk 2 0 Option.none))), (Value.int .i64 (0 : Int))] [] (Hp.mk [(Ob.cells c true), (Ob.cells ⟨[(Value.int .i64 (getInt c ((off + ((ovI c off h (n - (Int.toNat (IntKind.wrap .i64 (i + (1 : Int))))) (Int.toNat (IntKind.wrap .i64 (i + (1 : Int))))) * 6)) + 2))), (Value.int .i64 (getInt c (((off + ((ovI c off h (n - (Int.toNat (IntKind.wrap .i64 (i + (1 : Int))))) (Int.toNat (IntKind.wrap .i64 (i + (1 : Int))))) * 6)) + 2) + 1)))]⟩ false), (Ob.cells ⟨[(Value.int .i64 (getInt c ((off + ((ovI c off h (n - (Int.toNat (IntKind.wrap .i64 (i + (1 : Int))))) (Int.toNat (IntKind.wrap .i64 (i + (1 : Int))))) * 6)) + 4))), (Value.int .i64 (getInt c (((off + ((ovI c off h (n - (Int.toNat (IntKind.wrap .i64 (i + (1 : Int))))) (Int.toNat (IntKind.wrap .i64 (i + (1 : Int))))) * 6)) + 4) + 1)))]⟩ false)] 43 []))))
            (some (Out.ex (Ex.exit 0) (St.mk [(Value.pointer (Option.some (Addr.mk 1 0 Option.none))), (Value.pointer (Option.some (Addr.mk 2 0 Option.none)))] [] (Hp.mk [(Ob.cells c true), (Ob.cells ⟨[(Value.int .i64 (0 : Int)), (Value.int .i64 (0 : Int))]⟩ false), (Ob.cells ⟨[(Value.int .i64 (0 : Int)), (Value.int .i64 (0 : Int))]⟩ false)] 43 [])))))
           (none))
          (none))
         (none))
        (none)))
      (none))
     (none))
    (some (Out.ex (Ex.exit 0) (St.mk [(Value.pointer (Option.some (Addr.mk 1 0 Option.none))), (Value.pointer (Option.some (Addr.mk 2 0 Option.none)))] [] (Hp.mk [(Ob.cells c true), (Ob.cells ⟨[(Value.int .i64 (0 : Int)), (Value.int .i64 (0 : Int))]⟩ false), (Ob.cells ⟨[(Value.int .i64 (0 : Int)), (Value.int .i64 (0 : Int))]⟩ false)] 43 [])))) := by kernel_rfl

theorem known27 : ∃ J, Known Try.prog (sh27.ans J) := by
  refine Known.junk (Known.nothing _) mes27 sh27 ?_
  intro J t f hs hkn
  unfold sh27 at hs
  split at hs
  case h_2 => cases hs
  rename_i code t c x y G
  split at hs
  case h_2 => cases hs
  rename_i h off n m i e1 e4 e5 e26 e27 e28
  simp only [Option.some.injEq] at hs
  subst hs
  refine ex_guard fun h1 => ex_guard fun h2 => ex_guard fun h2' => ex_guard fun h3 => ?_
  obtain rfl := eqCode_eq h1
  obtain ⟨rfl, rfl⟩ := dec_iff.1 h2'
  have hl : t.length = 43 := Nat.eq_of_beq_eq_true h2
  obtain ⟨hg, hi0, hn, rfl⟩ := dec_iff.1 h3
  obtain ⟨i, rfl⟩ := Int.eq_ofNat_of_zero_le hi0
  have use := fun e vs H1 wr1 hev hk he hvs => hkn.loopLeaf (G := G) noNG mixed (n := 60) (N0 := 43) (N := 43) (live := [(1, .int .i64 h), (4, pp 1), (5, pp 2), (26, .slice (some ⟨0, off, none⟩) n 6), (27, .int .i64 (Int.ofNat n)), (28, .int .i64 (Int.ofNat i))]) (H0 := [.cells c true, .cells Z2 false, .cells Z2 false]) (pick := pick27) (e := e) (vs := vs) (H1 := H1) (wr1 := wr1)
    (base := 1) (wr := []) (c := theLoop Try.prog 27 0) (t := t) hev hl (by
      intro kv hm
      simp only [List.mem_cons, List.not_mem_nil, or_false] at hm
      rcases hm with rfl | rfl | rfl | rfl | rfl | rfl
      · exact ⟨e1, rfl, rfl⟩
      · exact ⟨e4, rfl, rfl⟩
      · exact ⟨e5, rfl, rfl⟩
      · exact ⟨e26, rfl, rfl⟩
      · exact ⟨e27, rfl, rfl⟩
      · exact ⟨e28, rfl, rfl⟩) (by simp) (by simp [obSc_g0 hg.1]; decide) hk he hvs
  simp only [List.length_cons, List.length_nil, Nat.zero_add] at use
  rw [tree27] at use
  simp only [Int.ofNat_eq_natCast, Int.toNat_natCast] at use ⊢
  by_cases hin : (i : Int) < n
  · have hx := hg.2 i (by omega)
    obtain ⟨m, hm⟩ : ∃ m, n - i = m + 1 := ⟨n - i - 1, by omega⟩
    have hw : IntKind.i64.wrap ((i : Int) + 1) = ((i + 1 : Nat) : Int) := by rw [wrap64_id (by omega) (by omega)]; rfl
    rw [hm]
    have hm' : n - (i + 1) = m := by omega
    have hme : (n.sub (i + 1)).blt (mes27 (.code none (.loop (theLoop Try.prog 27 0)) ⟨t, [], ⟨.cells c true :: .cells Z2 false :: .cells Z2 false :: G, 1, []⟩⟩)) = true := by
      simp only [mes27, e27, e28, Nat.blt_eq, Int.toNat_natCast]
      show n - (i + 1) < n - i
      omega
    have hok : ok27 off c n ↑(i + 1) n = true := dec_iff.2 ⟨hg, by omega, hn, rfl⟩
    have hz : okZ Z2 Z2 = true := dec_iff.2 ⟨rfl, rfl⟩
    simp only [hw, Int.toNat_natCast, hm', hx, hin, decide_true, cond_true, Bool.true_and, Int.natCast_nonneg, eqCode_self, hme, hok, hz] at use
    cases hp : ovP c off h i with
    | true =>
      have e1 : ovB c off h (m + 1) i = true := by simp [ovB, fst_hit hp]
      have e2 : ovI c off h (m + 1) i = i := by simp [ovI, fst_hit hp]
      rw [e1, e2]
      refine use .ret [pp 1, pp 2, .int .i64 0] [.cells c true, .cells (sp c (off + i * 6 + 2)) false, .cells (sp c (off + i * 6 + 4)) false] [] ?_ (kept3 c _ _ _ _ hg.1 rfl rfl) rfl rfl
      have : h < getInt c (off + i * 6 + 1) := of_decide_eq_true hp
      simp only [this, decide_true, cond_true]
      rfl
    | false =>
      have e1 : ovB c off h (m + 1) i = ovB c off h m (i + 1) := by simp [ovB, fst_miss hp]
      have e2 : ovI c off h (m + 1) i = ovI c off h m (i + 1) := by simp [ovI, fst_miss hp]
      rw [e1, e2]
      have : ¬ h < getInt c (off + i * 6 + 1) := of_decide_eq_false hp
      simp only [this, decide_false, cond_false] at use
      cases hb : ovB c off h m (i + 1) with
      | true =>
        rw [hb] at use
        exact use .ret [pp 1, pp 2, .int .i64 0] [.cells c true, .cells (sp c (off + ovI c off h m (i + 1) * 6 + 2)) false, .cells (sp c (off + ovI c off h m (i + 1) * 6 + 4)) false] [] rfl (kept3 c _ _ _ _ hg.1 rfl rfl) rfl rfl
      | false =>
        rw [hb] at use
        exact use (.exit 0) [pp 1, pp 2] [.cells c true, .cells Z2 false, .cells Z2 false] [] rfl (kept3 c _ _ _ _ hg.1 rfl rfl) rfl rfl
  · have h0 : n - i = 0 := by omega
    have e1 : ovB c off h (n - i) i = false := by rw [h0]; rfl
    rw [e1]
    refine use (.exit 0) [pp 1, pp 2] [.cells c true, .cells Z2 false, .cells Z2 false] [] ?_ (kept3 c _ _ _ _ hg.1 rfl rfl) rfl rfl
    simp only [hin, decide_false, cond_false]
    rfl
end
end Go.Proofs.Ytplejmmkcfmdcaa
