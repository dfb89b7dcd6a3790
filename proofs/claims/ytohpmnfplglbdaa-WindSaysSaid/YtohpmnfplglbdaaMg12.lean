/- Part 12 of the texts below the claim. Conditions: none. -/
import Derived.Test.YtohpmnfplglbdaaMg11
/- wind.hear: its loop, for one kind of choice. Conditions: none. -/
namespace Go.Proofs.Ytohpmnfplglbdaa
open Go.Gh Go.RowKit
noncomputable section
set_option maxRecDepth 100000
set_option linter.unusedSimpArgs false
set_option linter.unusedVariables false

theorem hsc128 (c0 c : Array Value) (o2 : Ob) (off0 n off n2 : Nat) (d : Option Addr) (n3 z3 : Nat) (age shear lo hi tick now q xl xh yl yh : Int) (sm : Bool) (h0 : c0.toList.all g0 = true) (h1 : c.toList.all g0 = true) (h2 : grOb o2) (hd : sc1 3 (.slice d n3 z3) = true) :
    (hdH (.cells c0 true) (.cells c true) o2 (obG 128 q) (tkV off0 n off n2 d n3 z3 age shear) (quV lo hi tick now) (fvG 128) now xl xh yl yh sm).all (obSc 17) = true := by
  have q0 := obSc_g0 (n := 17) (r := true) h0
  have q1 := obSc_g0 (n := 17) (r := true) h1
  have q2 := grOb_sc (n := 17) h2
  unfold hdH
  rw [List.all_cons, q0, List.all_cons, q1, List.all_cons, q2]
  cases d with
  | none =>
    obtain ⟨rfl, rfl⟩ : n3 = 0 ∧ z3 = 0 := by simpa [sc1, sc0, g0] using hd
    rfl
  | some y =>
    have hy : y.block < 17 := by
      simp only [sc1, sc0, decide_eq_true_eq] at hd
      omega
    simp [tkV, quV, tmH, uV, obSc, obG, fvG, sc1, scA, scT, sc0, g0, gA, hy]

theorem kept128 {c0 c : Array Value} {o2 : Ob} {off0 n off n2 : Nat} {d : Option Addr} {n3 z3 : Nat} {age shear lo hi tick now q xl xh yl yh xl' xh' yl' yh' : Int} {sm sm' : Bool} (h0 : c0.toList.all g0 = true) (h1 : c.toList.all g0 = true) (h2 : grOb o2) (hd : sc1 3 (.slice d n3 z3) = true) :
    ObsKept 17 (hdH (.cells c0 true) (.cells c true) o2 (obG 128 q) (tkV off0 n off n2 d n3 z3 age shear) (quV lo hi tick now) (fvG 128) now xl xh yl yh sm) (hdH (.cells c0 true) (.cells c true) o2 (obG 128 q) (tkV off0 n off n2 d n3 z3 age shear) (quV lo hi tick now) (fvG 128) now xl' xh' yl' yh' sm') := by
  have hs := hsc128 c0 c o2 off0 n off n2 d n3 z3 age shear lo hi tick now q xl' xh' yl' yh' sm' h0 h1 h2 hd
  unfold hdH at hs ⊢
  simp only [List.all_cons, Bool.and_eq_true] at hs
  obtain ⟨s0, s1, s2, s3, s4, s5, s6, s7, s8, s9, s10, s11, s12, s13, s14, s15, s16, _⟩ := hs
  exact .cons (kept_self s0) (.cons (kept_self s1) (.cons (kept_self s2) (.cons (kept_self s3) (.cons (kept_self s4) (.cons (kept_self s5) (.cons (kept_self s6) (.cons rfl (.cons (kept_self s8) (.cons (kept_self s9) (.cons (kept_self s10)
    (.cons (kept_self s11) (.cons rfl (.cons (kept_self s13) (.cons (kept_self s14) (.cons (kept_self s15) (.cons (kept_self s16) .nil))))))))))))))))
theorem stepH128 (J : Task → List Value) {c0 c : Array Value} {o2 : Ob} {off0 n off n2 : Nat} {d : Option Addr} {n3 z3 : Nat} {age shear lo hi tick now q xl xh yl yh : Int} {sm : Bool} {k : Nat} {M : Nat} (y : List Value)
    (hv : Vld c0 off0 n c off n2 age shear) (hq : Qst lo hi tick now) (hd : sc1 3 (.slice d n3 z3) = true) (ho2 : grOb o2)
    (b1 : -100000000 ≤ xl) (b2 : xl ≤ 100000000) (b3 : -100000000 ≤ xh) (b4 : xh ≤ 100000000) (b5 : -100000000 ≤ yl) (b6 : yl ≤ 100000000) (b7 : -100000000 ≤ yh) (b8 : yh ≤ 100000000) (hM : k < n2 → (Nat.sub n2 (k + 1)).blt M = true) :
    ∃ wr1, evS Try.prog ((((shHear 128).ans J).below mesH M).or (fun _ => none)) 60 (.code none (.loop (theLoop Try.prog 110 0)) ⟨sets (junkF 44 y) [(0, .func (.yield 16) ⟨[]⟩ ⟨[]⟩), (1, pp 13), (2, pp 14), (8, .slice (some ⟨1, off, none⟩) n2 5), (9, .int .i64 (n2 : Int)), (10, .int .i64 (k : Int))], [], ⟨hdH (.cells c0 true) (.cells c true) o2 (obG 128 q) (tkV off0 n off n2 d n3 z3 age shear) (quV lo hi tick now) (fvG 128) now xl xh yl yh sm, 17, []⟩⟩) (sumK 17 44 pick106) =
      some (.ex (.exit 0) ⟨[], [], ⟨hdH (.cells c0 true) (.cells c true) o2 (obG 128 q) (tkV off0 n off n2 d n3 z3 age shear) (quV lo hi tick now) (fvG 128) now (hXl c0 off0 c off age shear lo hi tick now 128 (qOf (obG 128 q)) (n2 - k) k xl xh yl yh sm) (hXh c0 off0 c off age shear lo hi tick now 128 (qOf (obG 128 q)) (n2 - k) k xl xh yl yh sm) (hYl c0 off0 c off age shear lo hi tick now 128 (qOf (obG 128 q)) (n2 - k) k xl xh yl yh sm) (hYh c0 off0 c off age shear lo hi tick now 128 (qOf (obG 128 q)) (n2 - k) k xl xh yl yh sm) (hSm c0 off0 c off age shear lo hi tick now 128 (qOf (obG 128 q)) (n2 - k) k xl xh yl yh sm), 44, wr1⟩⟩) ∧ ∀ b ∈ wr1, b ∈ [16, 12, 7] := by
  rw [treeH128]
  by_cases hin : (k : Int) < n2
  · obtain ⟨m, hm⟩ : ∃ m, n2 - k = m + 1 := ⟨n2 - k - 1, by omega⟩
    have hkn2 : k < n2 := by omega
    have hm' : n2 - (k + 1) = m := by omega
    have hfew := hv.few2
    have hw : IntKind.i64.wrap ((k : Int) + 1) = ((k + 1 : Nat) : Int) := by rw [wrap64_id (by omega) (by omega)]; rfl
    have hme := hM hkn2
    obtain ⟨s0, s1⟩ := hv.src k hkn2
    have hsn : (getInt c (off + k * 5)).toNat < n := by omega
    have rd5 : rdOk c [.int .i64, .int .i64, .int .i64, .int .i64, .int .i64] (off + k * 5) = true := hv.g1.2 k hkn2
    have rd7 : rdOk c0 [.str, .int .i64, .int .i64, .int .i64, .int .i64, .int .i64, .int .i64] (off0 + (getInt c (off + k * 5)).toNat * 7) = true := hv.g0.2 _ hsn
    have is2 : isInt .i64 c0 (off0 + (getInt c (off + k * 5)).toNat * 7 + 2) = true := by
      have := rd7
      simp only [rdOk, rdLeaf, Bool.and_eq_true] at this
      exact this.2.2.1
    have tk := hv.tick k hkn2
    have lt := hv.late _ hsn
    have w1 : IntKind.i64.wrap (getInt c (off + k * 5 + 1) + getInt c0 (off0 + (getInt c (off + k * 5)).toNat * 7 + 1 + 1 + 1)) = getInt c (off + k * 5 + 1) + getInt c0 (off0 + (getInt c (off + k * 5)).toNat * 7 + 1 + 1 + 1) := by
      have : getInt c0 (off0 + (getInt c (off + k * 5)).toNat * 7 + 3) = getInt c0 (off0 + (getInt c (off + k * 5)).toNat * 7 + 1 + 1 + 1) := rfl
      exact wrap64_id (by omega) (by omega)
    have w2 : IntKind.i64.wrap (now - getInt c (off + k * 5 + 1)) = now - getInt c (off + k * 5 + 1) := by
      have := hq.now
      exact wrap64_id (by omega) (by omega)
    obtain ⟨dbw, d0, d1⟩ := dbW_eq hv hq hkn2
    have hx : -20000 ≤ getInt c (off + k * 5 + 1 + 1 + 1) ∧ getInt c (off + k * 5 + 1 + 1 + 1) ≤ 20000 := hv.x k hkn2
    have hy : -20000 ≤ getInt c (off + k * 5 + 1 + 1 + 1 + 1) ∧ getInt c (off + k * 5 + 1 + 1 + 1 + 1) ≤ 20000 := hv.y k hkn2
    have x1 : IntKind.i64.wrap (getInt c (off + k * 5 + 1 + 1 + 1) - dbI c0 off0 c off age shear lo hi tick k) = getInt c (off + k * 5 + 3) - dbI c0 off0 c off age shear lo hi tick k := wrap64_id (by omega) (by omega)
    have x2 : IntKind.i64.wrap (getInt c (off + k * 5 + 1 + 1 + 1) + dbI c0 off0 c off age shear lo hi tick k) = getInt c (off + k * 5 + 3) + dbI c0 off0 c off age shear lo hi tick k := wrap64_id (by omega) (by omega)
    have y1 : IntKind.i64.wrap (getInt c (off + k * 5 + 1 + 1 + 1 + 1) - dbI c0 off0 c off age shear lo hi tick k) = getInt c (off + k * 5 + 4) - dbI c0 off0 c off age shear lo hi tick k := wrap64_id (by omega) (by omega)
    have y2 : IntKind.i64.wrap (getInt c (off + k * 5 + 1 + 1 + 1 + 1) + dbI c0 off0 c off age shear lo hi tick k) = getInt c (off + k * 5 + 4) + dbI c0 off0 c off age shear lo hi tick k := wrap64_id (by omega) (by omega)
    have hok : ∀ X xl xh yl yh sm, -100000000 ≤ xl → xl ≤ 100000000 → -100000000 ≤ xh → xh ≤ 100000000 → -100000000 ≤ yl → yl ≤ 100000000 → -100000000 ≤ yh → yh ≤ 100000000 →
        okHear 128 (hdH (.cells c0 true) (.cells c true) o2 (obG 128 q) (tkV off0 n off n2 d n3 z3 age shear) (quV lo hi tick now) (fvG 128) now xl xh yl yh sm ++ X) c0 c o2 off0 n off n2 d n3 z3 age shear lo hi tick now (qOf (obG 128 q)) xl xh yl yh sm (n2 : Int) ((k + 1 : Nat) : Int) 17 = true :=
      fun X xl xh yl yh sm c1 c2 c3 c4 c5 c6 c7 c8 => dec_iff.2 ⟨⟨X, rfl⟩, hv, hq, hd, ho2, c1, c2, c3, c4, c5, c6, c7, c8, rfl, by omega, rfl⟩
    have hok1 := fun X => hok X xl xh yl yh sm b1 b2 b3 b4 b5 b6 b7 b8
    have hx3 : -20000 ≤ getInt c (off + k * 5 + 3) ∧ getInt c (off + k * 5 + 3) ≤ 20000 := hx
    have hy4 : -20000 ≤ getInt c (off + k * 5 + 4) ∧ getInt c (off + k * 5 + 4) ≤ 20000 := hy
    have hok2 := fun X => hok X (max xl (getInt c (off + k * 5 + 3) - dbI c0 off0 c off age shear lo hi tick k)) (min xh (getInt c (off + k * 5 + 3) + dbI c0 off0 c off age shear lo hi tick k)) (max yl (getInt c (off + k * 5 + 4) - dbI c0 off0 c off age shear lo hi tick k)) (min yh (getInt c (off + k * 5 + 4) + dbI c0 off0 c off age shear lo hi tick k)) true (by omega) (by omega) (by omega) (by omega) (by omega) (by omega) (by omega) (by omega)
    rw [hm]
    have hknP : knP c0 off0 c off now k = (decide (getInt c (off + k * 5 + 1) + getInt c0 (off0 + (getInt c (off + k * 5)).toNat * 7 + 1 + 1 + 1) ≤ now) && decide (now - getInt c (off + k * 5 + 1) ≤ getInt c0 (off0 + (getInt c (off + k * 5)).toNat * 7 + 1 + 1 + 1 + 1))) := rfl
    simp only [Int.ofNat_eq_natCast, Int.toNat_natCast, hin, hw, s0, s1, rd5, rd7, is2, w1, w2, dbw, x1, x2, y1, y2, hme, hm', hok1, hok2, eqCode_self, decide_true, Bool.and_self, cond_true, Int.natCast_nonneg]
    cases dA : decide (getInt c (off + k * 5 + 1) + getInt c0 (off0 + (getInt c (off + k * 5)).toNat * 7 + 1 + 1 + 1) ≤ now) with
    | true =>
     cases dB : decide (now - getInt c (off + k * 5 + 1) ≤ getInt c0 (off0 + (getInt c (off + k * 5)).toNat * 7 + 1 + 1 + 1 + 1)) with
     | true =>
        have hkn1 : knP c0 off0 c off now k = true := by rw [hknP, dA, dB]; rfl
        cases dC : decide (getInt c (off + k * 5) = q) with
        | true =>
          have hC := of_decide_eq_true dC
          have e : ¬ (knP c0 off0 c off now k = true ∧ chB 128 (qOf (obG 128 q)) (getInt c (off + k * 5)) = true) := by
            rintro ⟨_, h⟩; simp only [chB, Bool.not_eq_true', decide_eq_false_iff_not, decide_eq_true_eq] at h; exact h hC
          rw [hXl_miss e, hXh_miss e, hYl_miss e, hYh_miss e, hSm_miss e]
          refine ⟨[16, 12, 7, 16, 16], ?_, by simp⟩
          simp only [dA, dB, dC, cond_true, cond_false, Bool.not_true, Bool.not_false]
        | false =>
          have hC := of_decide_eq_false dC
          have hch : chB 128 (qOf (obG 128 q)) (getInt c (off + k * 5)) = true := (by simp only [chB, Bool.not_eq_true', decide_eq_false_iff_not]; exact hC)
          rw [hXl_hit hkn1 hch, hXh_hit hkn1 hch, hYl_hit hkn1 hch, hYh_hit hkn1 hch, hSm_hit hkn1 hch]
          refine ⟨[16, 12, 7, 16, 12, 7, 7, 7, 7, 16], ?_, by simp⟩
          simp only [dA, dB, dC, cond_true, cond_false, Bool.not_true, Bool.not_false]
     | false =>
        have e : ¬ (knP c0 off0 c off now k = true ∧ chB 128 (qOf (obG 128 q)) (getInt c (off + k * 5)) = true) := by
          rw [hknP, dA, dB]; simp
        rw [hXl_miss e, hXh_miss e, hYl_miss e, hYh_miss e, hSm_miss e]
        refine ⟨[16, 12, 7], ?_, by simp⟩
        simp only [dA, dB, cond_true, cond_false, Bool.not_true, Bool.not_false]
    | false =>
        have e : ¬ (knP c0 off0 c off now k = true ∧ chB 128 (qOf (obG 128 q)) (getInt c (off + k * 5)) = true) := by
          rw [hknP, dA]; simp
        rw [hXl_miss e, hXh_miss e, hYl_miss e, hYh_miss e, hSm_miss e]
        refine ⟨[16, 12, 7], ?_, by simp⟩
        simp only [dA, cond_false, Bool.not_true, Bool.not_false]
  · have h0 : n2 - k = 0 := by omega
    rw [h0, hXl_end, hXh_end, hYl_end, hYh_end, hSm_end]
    refine ⟨[], ?_, by simp⟩
    simp only [hin, decide_false, cond_false]
theorem knownH128 : ∃ J, Known Try.prog ((shHear 128).ans J) := by
  refine Known.junk (Known.nothing _) mesH (shHear 128) ?_
  intro J t f hs hkn
  unfold shHear at hs
  split at hs
  case h_2 => cases hs
  rename_i code t c0 c o2 o3 H base wr
  split at hs
  case h_2 => cases hs
  rename_i off n2 m k er e0 e1 e2 e8 e9 e10
  split at hs
  case h_2 => cases hs
  rename_i off0 n u d n3 z3 age shear r0
  split at hs
  case h_2 => cases hs
  rename_i lo hi tick now r1
  split at hs
  case h_2 => cases hs
  rename_i xl xh yl yh r3
  split at hs
  case h_2 => cases hs
  rename_i g' fi ca r6
  split at hs
  case h_2 => cases hs
  rename_i hgg
  split at hs
  case h_2 => cases hs
  rename_i sm r8
  simp only [Option.some.injEq] at hs
  subst hs
  refine ex_guard fun h1 => ex_guard fun h2 => ex_guard fun h3 => ?_
  obtain rfl := eqCode_eq h1
  have hl : t.length = 44 := Nat.eq_of_beq_eq_true h2
  obtain ⟨⟨G, hH⟩, hv, hq, hd, ho2, b1, b2, b3, b4, b5, b6, b7, b8, hm, hk0, rfl⟩ := dec_iff.1 h3
  clear r0 r1 r3 r6 r8 h1 h2 h3 hgg
  obtain ⟨q, hq3⟩ : ∃ q, q = qOf o3 := ⟨_, rfl⟩
  rw [← hq3] at hH
  unfold hdH at hH
  simp only [List.cons_append, List.nil_append, List.cons.injEq, true_and] at hH
  obtain ⟨rfl, rfl⟩ := hH
  clear hq3
  subst hm
  obtain ⟨k, rfl⟩ := Int.eq_ofNat_of_zero_le hk0
  have hgd0 := hv.g0.1
  have hgd1 := hv.g1.1
  show ∃ j, ∀ o, (loopEnd 44 (.exit 0) [] ⟨hdH (.cells c0 true) (.cells c true) o2 (obG 128 q) (tkV off0 n off n2 d n3 z3 age shear) (quV lo hi tick now) (fvG 128) now (hXl c0 off0 c off age shear lo hi tick now 128 (qOf (obG 128 q)) (n2 - k) k xl xh yl yh sm) (hXh c0 off0 c off age shear lo hi tick now 128 (qOf (obG 128 q)) (n2 - k) k xl xh yl yh sm) (hYl c0 off0 c off age shear lo hi tick now 128 (qOf (obG 128 q)) (n2 - k) k xl xh yl yh sm) (hYh c0 off0 c off age shear lo hi tick now 128 (qOf (obG 128 q)) (n2 - k) k xl xh yl yh sm) (hSm c0 off0 c off age shear lo hi tick now 128 (qOf (obG 128 q)) (n2 - k) k xl xh yl yh sm) ++ G, 17, 16 :: 12 :: 7 :: wr⟩ j).out = some o →
    Fact Try.prog (.code none (.loop (theLoop Try.prog 110 0)) ⟨t, [], ⟨hdH (.cells c0 true) (.cells c true) o2 (obG 128 q) (tkV off0 n off n2 d n3 z3 age shear) (quV lo hi tick now) (fvG 128) now xl xh yl yh sm ++ G, 17, wr⟩⟩) o
  change Known Try.prog ((((shHear 128).ans J).below mesH (mesH (.code none (.loop (theLoop Try.prog 110 0)) ⟨t, [], ⟨hdH (.cells c0 true) (.cells c true) o2 (obG 128 q) (tkV off0 n off n2 d n3 z3 age shear) (quV lo hi tick now) (fvG 128) now xl xh yl yh sm ++ G, 17, wr⟩⟩))).or (fun _ => none)) at hkn
  obtain ⟨wr1, hev, hwr⟩ := stepH128 J (M := mesH (.code none (.loop (theLoop Try.prog 110 0)) ⟨t, [], ⟨hdH (.cells c0 true) (.cells c true) o2 (obG 128 q) (tkV off0 n off n2 d n3 z3 age shear) (quV lo hi tick now) (fvG 128) now xl xh yl yh sm ++ G, 17, wr⟩⟩)) (t.map Go.Gh.lo) hv hq (c0 := c0) (c := c) (o2 := o2) (q := q) (sm := sm) (k := k) hd ho2 b1 b2 b3 b4 b5 b6 b7 b8 (by
    intro hkn2
    simp only [mesH, e9, e10, Nat.blt_eq, Int.toNat_natCast]
    show n2 - (k + 1) < n2 - k
    omega)
  refine out_wr (wr1 := wr1) (hkn.loopLeaf (G := G) noNG mixed (n := 60) (N0 := 44) (N := 44) (live := [(0, .func (.yield 16) ⟨[]⟩ ⟨[]⟩), (1, pp 13), (2, pp 14), (8, .slice (some ⟨1, off, none⟩) n2 5), (9, .int .i64 (n2 : Int)), (10, .int .i64 (k : Int))])
      (H0 := hdH (.cells c0 true) (.cells c true) o2 (obG 128 q) (tkV off0 n off n2 d n3 z3 age shear) (quV lo hi tick now) (fvG 128) now xl xh yl yh sm) (pick := pick106) (e := .exit 0) (vs := []) (base := 17) (wr := []) (wr1 := wr1) (c := theLoop Try.prog 110 0) (t := t) hev hl (by
        intro kv hm
        simp only [List.mem_cons, List.not_mem_nil, or_false] at hm
        rcases hm with rfl | rfl | rfl | rfl | rfl | rfl
        · exact ⟨e0, rfl, rfl⟩
        · exact ⟨e1, rfl, rfl⟩
        · exact ⟨e2, rfl, rfl⟩
        · exact ⟨e8, rfl, rfl⟩
        · exact ⟨e9, rfl, rfl⟩
        · exact ⟨e10, rfl, rfl⟩) (Nat.le_refl 17) (hsc128 c0 c o2 off0 n off n2 d n3 z3 age shear lo hi tick now q xl xh yl yh sm hgd0 hgd1 ho2 hd) (kept128 hgd0 hgd1 ho2 hd) rfl rfl) ?_ (fun b hb => ?_)
  · intro b hb
    have := hwr b hb
    simp only [List.mem_cons, List.not_mem_nil, or_false] at this
    rcases this with rfl | rfl | rfl <;> simp
  · simp [hb]
end
end Go.Proofs.Ytohpmnfplglbdaa

/- wind.hear: its loop, for one kind of choice. Conditions: none. -/
namespace Go.Proofs.Ytohpmnfplglbdaa
open Go.Gh Go.RowKit
noncomputable section
set_option maxRecDepth 100000
set_option linter.unusedSimpArgs false
set_option linter.unusedVariables false

theorem hsc88 (c0 c : Array Value) (o2 : Ob) (off0 n off n2 : Nat) (d : Option Addr) (n3 z3 : Nat) (age shear lo hi tick now q xl xh yl yh : Int) (sm : Bool) (h0 : c0.toList.all g0 = true) (h1 : c.toList.all g0 = true) (h2 : grOb o2) (hd : sc1 3 (.slice d n3 z3) = true) :
    (hdH (.cells c0 true) (.cells c true) o2 (obG 88 q) (tkV off0 n off n2 d n3 z3 age shear) (quV lo hi tick now) (fvG 88) now xl xh yl yh sm).all (obSc 17) = true := by
  have q0 := obSc_g0 (n := 17) (r := true) h0
  have q1 := obSc_g0 (n := 17) (r := true) h1
  have q2 := grOb_sc (n := 17) h2
  unfold hdH
  rw [List.all_cons, q0, List.all_cons, q1, List.all_cons, q2]
  cases d with
  | none =>
    obtain ⟨rfl, rfl⟩ : n3 = 0 ∧ z3 = 0 := by simpa [sc1, sc0, g0] using hd
    rfl
  | some y =>
    have hy : y.block < 17 := by
      simp only [sc1, sc0, decide_eq_true_eq] at hd
      omega
    simp [tkV, quV, tmH, uV, obSc, obG, fvG, sc1, scA, scT, sc0, g0, gA, hy]

theorem kept88 {c0 c : Array Value} {o2 : Ob} {off0 n off n2 : Nat} {d : Option Addr} {n3 z3 : Nat} {age shear lo hi tick now q xl xh yl yh xl' xh' yl' yh' : Int} {sm sm' : Bool} (h0 : c0.toList.all g0 = true) (h1 : c.toList.all g0 = true) (h2 : grOb o2) (hd : sc1 3 (.slice d n3 z3) = true) :
    ObsKept 17 (hdH (.cells c0 true) (.cells c true) o2 (obG 88 q) (tkV off0 n off n2 d n3 z3 age shear) (quV lo hi tick now) (fvG 88) now xl xh yl yh sm) (hdH (.cells c0 true) (.cells c true) o2 (obG 88 q) (tkV off0 n off n2 d n3 z3 age shear) (quV lo hi tick now) (fvG 88) now xl' xh' yl' yh' sm') := by
  have hs := hsc88 c0 c o2 off0 n off n2 d n3 z3 age shear lo hi tick now q xl' xh' yl' yh' sm' h0 h1 h2 hd
  unfold hdH at hs ⊢
  simp only [List.all_cons, Bool.and_eq_true] at hs
  obtain ⟨s0, s1, s2, s3, s4, s5, s6, s7, s8, s9, s10, s11, s12, s13, s14, s15, s16, _⟩ := hs
  exact .cons (kept_self s0) (.cons (kept_self s1) (.cons (kept_self s2) (.cons (kept_self s3) (.cons (kept_self s4) (.cons (kept_self s5) (.cons (kept_self s6) (.cons rfl (.cons (kept_self s8) (.cons (kept_self s9) (.cons (kept_self s10)
    (.cons (kept_self s11) (.cons rfl (.cons (kept_self s13) (.cons (kept_self s14) (.cons (kept_self s15) (.cons (kept_self s16) .nil))))))))))))))))
theorem stepH88 (J : Task → List Value) {c0 c : Array Value} {o2 : Ob} {off0 n off n2 : Nat} {d : Option Addr} {n3 z3 : Nat} {age shear lo hi tick now q xl xh yl yh : Int} {sm : Bool} {k : Nat} {M : Nat} (y : List Value)
    (hv : Vld c0 off0 n c off n2 age shear) (hq : Qst lo hi tick now) (hd : sc1 3 (.slice d n3 z3) = true) (ho2 : grOb o2)
    (b1 : -100000000 ≤ xl) (b2 : xl ≤ 100000000) (b3 : -100000000 ≤ xh) (b4 : xh ≤ 100000000) (b5 : -100000000 ≤ yl) (b6 : yl ≤ 100000000) (b7 : -100000000 ≤ yh) (b8 : yh ≤ 100000000) (hM : k < n2 → (Nat.sub n2 (k + 1)).blt M = true) :
    ∃ wr1, evS Try.prog ((((shHear 88).ans J).below mesH M).or (fun _ => none)) 60 (.code none (.loop (theLoop Try.prog 110 0)) ⟨sets (junkF 44 y) [(0, .func (.yield 16) ⟨[]⟩ ⟨[]⟩), (1, pp 13), (2, pp 14), (8, .slice (some ⟨1, off, none⟩) n2 5), (9, .int .i64 (n2 : Int)), (10, .int .i64 (k : Int))], [], ⟨hdH (.cells c0 true) (.cells c true) o2 (obG 88 q) (tkV off0 n off n2 d n3 z3 age shear) (quV lo hi tick now) (fvG 88) now xl xh yl yh sm, 17, []⟩⟩) (sumK 17 44 pick106) =
      some (.ex (.exit 0) ⟨[], [], ⟨hdH (.cells c0 true) (.cells c true) o2 (obG 88 q) (tkV off0 n off n2 d n3 z3 age shear) (quV lo hi tick now) (fvG 88) now (hXl c0 off0 c off age shear lo hi tick now 88 (qOf (obG 88 q)) (n2 - k) k xl xh yl yh sm) (hXh c0 off0 c off age shear lo hi tick now 88 (qOf (obG 88 q)) (n2 - k) k xl xh yl yh sm) (hYl c0 off0 c off age shear lo hi tick now 88 (qOf (obG 88 q)) (n2 - k) k xl xh yl yh sm) (hYh c0 off0 c off age shear lo hi tick now 88 (qOf (obG 88 q)) (n2 - k) k xl xh yl yh sm) (hSm c0 off0 c off age shear lo hi tick now 88 (qOf (obG 88 q)) (n2 - k) k xl xh yl yh sm), 44, wr1⟩⟩) ∧ ∀ b ∈ wr1, b ∈ [16, 12, 7] := by
  rw [treeH88]
  by_cases hin : (k : Int) < n2
  · obtain ⟨m, hm⟩ : ∃ m, n2 - k = m + 1 := ⟨n2 - k - 1, by omega⟩
    have hkn2 : k < n2 := by omega
    have hm' : n2 - (k + 1) = m := by omega
    have hfew := hv.few2
    have hw : IntKind.i64.wrap ((k : Int) + 1) = ((k + 1 : Nat) : Int) := by rw [wrap64_id (by omega) (by omega)]; rfl
    have hme := hM hkn2
    obtain ⟨s0, s1⟩ := hv.src k hkn2
    have hsn : (getInt c (off + k * 5)).toNat < n := by omega
    have rd5 : rdOk c [.int .i64, .int .i64, .int .i64, .int .i64, .int .i64] (off + k * 5) = true := hv.g1.2 k hkn2
    have rd7 : rdOk c0 [.str, .int .i64, .int .i64, .int .i64, .int .i64, .int .i64, .int .i64] (off0 + (getInt c (off + k * 5)).toNat * 7) = true := hv.g0.2 _ hsn
    have is2 : isInt .i64 c0 (off0 + (getInt c (off + k * 5)).toNat * 7 + 2) = true := by
      have := rd7
      simp only [rdOk, rdLeaf, Bool.and_eq_true] at this
      exact this.2.2.1
    have tk := hv.tick k hkn2
    have lt := hv.late _ hsn
    have w1 : IntKind.i64.wrap (getInt c (off + k * 5 + 1) + getInt c0 (off0 + (getInt c (off + k * 5)).toNat * 7 + 1 + 1 + 1)) = getInt c (off + k * 5 + 1) + getInt c0 (off0 + (getInt c (off + k * 5)).toNat * 7 + 1 + 1 + 1) := by
      have : getInt c0 (off0 + (getInt c (off + k * 5)).toNat * 7 + 3) = getInt c0 (off0 + (getInt c (off + k * 5)).toNat * 7 + 1 + 1 + 1) := rfl
      exact wrap64_id (by omega) (by omega)
    have w2 : IntKind.i64.wrap (now - getInt c (off + k * 5 + 1)) = now - getInt c (off + k * 5 + 1) := by
      have := hq.now
      exact wrap64_id (by omega) (by omega)
    obtain ⟨dbw, d0, d1⟩ := dbW_eq hv hq hkn2
    have hx : -20000 ≤ getInt c (off + k * 5 + 1 + 1 + 1) ∧ getInt c (off + k * 5 + 1 + 1 + 1) ≤ 20000 := hv.x k hkn2
    have hy : -20000 ≤ getInt c (off + k * 5 + 1 + 1 + 1 + 1) ∧ getInt c (off + k * 5 + 1 + 1 + 1 + 1) ≤ 20000 := hv.y k hkn2
    have x1 : IntKind.i64.wrap (getInt c (off + k * 5 + 1 + 1 + 1) - dbI c0 off0 c off age shear lo hi tick k) = getInt c (off + k * 5 + 3) - dbI c0 off0 c off age shear lo hi tick k := wrap64_id (by omega) (by omega)
    have x2 : IntKind.i64.wrap (getInt c (off + k * 5 + 1 + 1 + 1) + dbI c0 off0 c off age shear lo hi tick k) = getInt c (off + k * 5 + 3) + dbI c0 off0 c off age shear lo hi tick k := wrap64_id (by omega) (by omega)
    have y1 : IntKind.i64.wrap (getInt c (off + k * 5 + 1 + 1 + 1 + 1) - dbI c0 off0 c off age shear lo hi tick k) = getInt c (off + k * 5 + 4) - dbI c0 off0 c off age shear lo hi tick k := wrap64_id (by omega) (by omega)
    have y2 : IntKind.i64.wrap (getInt c (off + k * 5 + 1 + 1 + 1 + 1) + dbI c0 off0 c off age shear lo hi tick k) = getInt c (off + k * 5 + 4) + dbI c0 off0 c off age shear lo hi tick k := wrap64_id (by omega) (by omega)
    have hok : ∀ X xl xh yl yh sm, -100000000 ≤ xl → xl ≤ 100000000 → -100000000 ≤ xh → xh ≤ 100000000 → -100000000 ≤ yl → yl ≤ 100000000 → -100000000 ≤ yh → yh ≤ 100000000 →
        okHear 88 (hdH (.cells c0 true) (.cells c true) o2 (obG 88 q) (tkV off0 n off n2 d n3 z3 age shear) (quV lo hi tick now) (fvG 88) now xl xh yl yh sm ++ X) c0 c o2 off0 n off n2 d n3 z3 age shear lo hi tick now (qOf (obG 88 q)) xl xh yl yh sm (n2 : Int) ((k + 1 : Nat) : Int) 17 = true :=
      fun X xl xh yl yh sm c1 c2 c3 c4 c5 c6 c7 c8 => dec_iff.2 ⟨⟨X, rfl⟩, hv, hq, hd, ho2, c1, c2, c3, c4, c5, c6, c7, c8, rfl, by omega, rfl⟩
    have hok1 := fun X => hok X xl xh yl yh sm b1 b2 b3 b4 b5 b6 b7 b8
    have hx3 : -20000 ≤ getInt c (off + k * 5 + 3) ∧ getInt c (off + k * 5 + 3) ≤ 20000 := hx
    have hy4 : -20000 ≤ getInt c (off + k * 5 + 4) ∧ getInt c (off + k * 5 + 4) ≤ 20000 := hy
    have hok2 := fun X => hok X (max xl (getInt c (off + k * 5 + 3) - dbI c0 off0 c off age shear lo hi tick k)) (min xh (getInt c (off + k * 5 + 3) + dbI c0 off0 c off age shear lo hi tick k)) (max yl (getInt c (off + k * 5 + 4) - dbI c0 off0 c off age shear lo hi tick k)) (min yh (getInt c (off + k * 5 + 4) + dbI c0 off0 c off age shear lo hi tick k)) true (by omega) (by omega) (by omega) (by omega) (by omega) (by omega) (by omega) (by omega)
    rw [hm]
    have hknP : knP c0 off0 c off now k = (decide (getInt c (off + k * 5 + 1) + getInt c0 (off0 + (getInt c (off + k * 5)).toNat * 7 + 1 + 1 + 1) ≤ now) && decide (now - getInt c (off + k * 5 + 1) ≤ getInt c0 (off0 + (getInt c (off + k * 5)).toNat * 7 + 1 + 1 + 1 + 1))) := rfl
    simp only [Int.ofNat_eq_natCast, Int.toNat_natCast, hin, hw, s0, s1, rd5, rd7, is2, w1, w2, dbw, x1, x2, y1, y2, hme, hm', hok1, hok2, eqCode_self, decide_true, Bool.and_self, cond_true, Int.natCast_nonneg]
    cases dA : decide (getInt c (off + k * 5 + 1) + getInt c0 (off0 + (getInt c (off + k * 5)).toNat * 7 + 1 + 1 + 1) ≤ now) with
    | true =>
     cases dB : decide (now - getInt c (off + k * 5 + 1) ≤ getInt c0 (off0 + (getInt c (off + k * 5)).toNat * 7 + 1 + 1 + 1 + 1)) with
     | true =>
        have hkn1 : knP c0 off0 c off now k = true := by rw [hknP, dA, dB]; rfl
        have hch : chB 88 (qOf (obG 88 q)) (getInt c (off + k * 5)) = true := rfl
        rw [hXl_hit hkn1 hch, hXh_hit hkn1 hch, hYl_hit hkn1 hch, hYh_hit hkn1 hch, hSm_hit hkn1 hch]
        refine ⟨[16, 12, 7, 16, 12, 7, 7, 7, 7, 16], ?_, by simp⟩
        simp only [dA, dB, cond_true, cond_false, Bool.not_true, Bool.not_false]
     | false =>
        have e : ¬ (knP c0 off0 c off now k = true ∧ chB 88 (qOf (obG 88 q)) (getInt c (off + k * 5)) = true) := by
          rw [hknP, dA, dB]; simp
        rw [hXl_miss e, hXh_miss e, hYl_miss e, hYh_miss e, hSm_miss e]
        refine ⟨[16, 12, 7], ?_, by simp⟩
        simp only [dA, dB, cond_true, cond_false, Bool.not_true, Bool.not_false]
    | false =>
        have e : ¬ (knP c0 off0 c off now k = true ∧ chB 88 (qOf (obG 88 q)) (getInt c (off + k * 5)) = true) := by
          rw [hknP, dA]; simp
        rw [hXl_miss e, hXh_miss e, hYl_miss e, hYh_miss e, hSm_miss e]
        refine ⟨[16, 12, 7], ?_, by simp⟩
        simp only [dA, cond_false, Bool.not_true, Bool.not_false]
  · have h0 : n2 - k = 0 := by omega
    rw [h0, hXl_end, hXh_end, hYl_end, hYh_end, hSm_end]
    refine ⟨[], ?_, by simp⟩
    simp only [hin, decide_false, cond_false]
theorem knownH88 : ∃ J, Known Try.prog ((shHear 88).ans J) := by
  refine Known.junk (Known.nothing _) mesH (shHear 88) ?_
  intro J t f hs hkn
  unfold shHear at hs
  split at hs
  case h_2 => cases hs
  rename_i code t c0 c o2 o3 H base wr
  split at hs
  case h_2 => cases hs
  rename_i off n2 m k er e0 e1 e2 e8 e9 e10
  split at hs
  case h_2 => cases hs
  rename_i off0 n u d n3 z3 age shear r0
  split at hs
  case h_2 => cases hs
  rename_i lo hi tick now r1
  split at hs
  case h_2 => cases hs
  rename_i xl xh yl yh r3
  split at hs
  case h_2 => cases hs
  rename_i g' fi ca r6
  split at hs
  case h_2 => cases hs
  rename_i hgg
  split at hs
  case h_2 => cases hs
  rename_i sm r8
  simp only [Option.some.injEq] at hs
  subst hs
  refine ex_guard fun h1 => ex_guard fun h2 => ex_guard fun h3 => ?_
  obtain rfl := eqCode_eq h1
  have hl : t.length = 44 := Nat.eq_of_beq_eq_true h2
  obtain ⟨⟨G, hH⟩, hv, hq, hd, ho2, b1, b2, b3, b4, b5, b6, b7, b8, hm, hk0, rfl⟩ := dec_iff.1 h3
  clear r0 r1 r3 r6 r8 h1 h2 h3 hgg
  obtain ⟨q, hq3⟩ : ∃ q, q = qOf o3 := ⟨_, rfl⟩
  rw [← hq3] at hH
  unfold hdH at hH
  simp only [List.cons_append, List.nil_append, List.cons.injEq, true_and] at hH
  obtain ⟨rfl, rfl⟩ := hH
  clear hq3
  subst hm
  obtain ⟨k, rfl⟩ := Int.eq_ofNat_of_zero_le hk0
  have hgd0 := hv.g0.1
  have hgd1 := hv.g1.1
  show ∃ j, ∀ o, (loopEnd 44 (.exit 0) [] ⟨hdH (.cells c0 true) (.cells c true) o2 (obG 88 q) (tkV off0 n off n2 d n3 z3 age shear) (quV lo hi tick now) (fvG 88) now (hXl c0 off0 c off age shear lo hi tick now 88 (qOf (obG 88 q)) (n2 - k) k xl xh yl yh sm) (hXh c0 off0 c off age shear lo hi tick now 88 (qOf (obG 88 q)) (n2 - k) k xl xh yl yh sm) (hYl c0 off0 c off age shear lo hi tick now 88 (qOf (obG 88 q)) (n2 - k) k xl xh yl yh sm) (hYh c0 off0 c off age shear lo hi tick now 88 (qOf (obG 88 q)) (n2 - k) k xl xh yl yh sm) (hSm c0 off0 c off age shear lo hi tick now 88 (qOf (obG 88 q)) (n2 - k) k xl xh yl yh sm) ++ G, 17, 16 :: 12 :: 7 :: wr⟩ j).out = some o →
    Fact Try.prog (.code none (.loop (theLoop Try.prog 110 0)) ⟨t, [], ⟨hdH (.cells c0 true) (.cells c true) o2 (obG 88 q) (tkV off0 n off n2 d n3 z3 age shear) (quV lo hi tick now) (fvG 88) now xl xh yl yh sm ++ G, 17, wr⟩⟩) o
  change Known Try.prog ((((shHear 88).ans J).below mesH (mesH (.code none (.loop (theLoop Try.prog 110 0)) ⟨t, [], ⟨hdH (.cells c0 true) (.cells c true) o2 (obG 88 q) (tkV off0 n off n2 d n3 z3 age shear) (quV lo hi tick now) (fvG 88) now xl xh yl yh sm ++ G, 17, wr⟩⟩))).or (fun _ => none)) at hkn
  obtain ⟨wr1, hev, hwr⟩ := stepH88 J (M := mesH (.code none (.loop (theLoop Try.prog 110 0)) ⟨t, [], ⟨hdH (.cells c0 true) (.cells c true) o2 (obG 88 q) (tkV off0 n off n2 d n3 z3 age shear) (quV lo hi tick now) (fvG 88) now xl xh yl yh sm ++ G, 17, wr⟩⟩)) (t.map Go.Gh.lo) hv hq (c0 := c0) (c := c) (o2 := o2) (q := q) (sm := sm) (k := k) hd ho2 b1 b2 b3 b4 b5 b6 b7 b8 (by
    intro hkn2
    simp only [mesH, e9, e10, Nat.blt_eq, Int.toNat_natCast]
    show n2 - (k + 1) < n2 - k
    omega)
  refine out_wr (wr1 := wr1) (hkn.loopLeaf (G := G) noNG mixed (n := 60) (N0 := 44) (N := 44) (live := [(0, .func (.yield 16) ⟨[]⟩ ⟨[]⟩), (1, pp 13), (2, pp 14), (8, .slice (some ⟨1, off, none⟩) n2 5), (9, .int .i64 (n2 : Int)), (10, .int .i64 (k : Int))])
      (H0 := hdH (.cells c0 true) (.cells c true) o2 (obG 88 q) (tkV off0 n off n2 d n3 z3 age shear) (quV lo hi tick now) (fvG 88) now xl xh yl yh sm) (pick := pick106) (e := .exit 0) (vs := []) (base := 17) (wr := []) (wr1 := wr1) (c := theLoop Try.prog 110 0) (t := t) hev hl (by
        intro kv hm
        simp only [List.mem_cons, List.not_mem_nil, or_false] at hm
        rcases hm with rfl | rfl | rfl | rfl | rfl | rfl
        · exact ⟨e0, rfl, rfl⟩
        · exact ⟨e1, rfl, rfl⟩
        · exact ⟨e2, rfl, rfl⟩
        · exact ⟨e8, rfl, rfl⟩
        · exact ⟨e9, rfl, rfl⟩
        · exact ⟨e10, rfl, rfl⟩) (Nat.le_refl 17) (hsc88 c0 c o2 off0 n off n2 d n3 z3 age shear lo hi tick now q xl xh yl yh sm hgd0 hgd1 ho2 hd) (kept88 hgd0 hgd1 ho2 hd) rfl rfl) ?_ (fun b hb => ?_)
  · intro b hb
    have := hwr b hb
    simp only [List.mem_cons, List.not_mem_nil, or_false] at this
    rcases this with rfl | rfl | rfl <;> simp
  · simp [hb]
end
end Go.Proofs.Ytohpmnfplglbdaa

/- A task that is right: what its numbers are. Conditions: none. -/
namespace Go.Proofs.Ytohpmnfplglbdaa
open Go.Gh Go.RowKit
noncomputable section
set_option linter.unusedSimpArgs false
set_option linter.unusedVariables false
/-- A task over three blocks, each list in its own. -/
structure TaskAt (a b d : Option Addr) (n z n2 z2 n3 z3 : Nat) (o0 o1 o2 : Ob) : Prop where
  on : TaskOn a b d n z n2 z2 n3 z3 [o0, o1, o2]
  a0 : ∀ y, a = some y → y.block = 0
  b1 : ∀ y, b = some y → y.block = 1
  d2 : ∀ y, d = some y → y.block = 2
  g0 : grOb o0
  g1 : grOb o1
  g2 : grOb o2
theorem fB_none {p : Nat → Bool} {m : Nat} (h : fB p m 0 = false) : ∀ k, k < m → p k = false := by
  intro k hk
  cases hp : p k with
  | false => rfl
  | true =>
    have : fB p m 0 = true := fst_iff2.2 ⟨k, Nat.zero_le _, by omega, hp⟩
    rw [h] at this; cases this
theorem fI_hit2 {p : Nat → Bool} {m : Nat} (h : fB p m 0 = true) : p (fI p m 0) = true := by
  have key : ∀ {m i}, (fst p m i).isSome = true → p ((fst p m i).getD 0) = true := by
    intro m
    induction m with
    | zero => intro i h; cases h
    | succ m ih =>
      intro i h
      by_cases hp : p i = true
      · rw [fst_hit hp]; exact hp
      · have hp' : p i = false := by simpa using hp
        rw [fst_miss hp'] at h ⊢
        exact ih h
  exact key h
theorem inB_iff {n lo hi : Int} : inB n lo hi = false ↔ ¬ (lo ≤ n ∧ n ≤ hi) := by
  unfold inB
  simp only [Bool.and_eq_false_iff, decide_eq_false_iff_not]
  omega
structure CkZ (a b d : Option Addr) (n n2 n3 : Nat) (age shear : Int) (H : List Ob) : Prop where
  few : n ≤ 6
  few2 : n2 ≤ 60
  some3 : 1 ≤ n3
  few3 : n3 ≤ 20
  src : ∀ k, k < n → srcE (arrOf a H) (offOf a) k = 0
  snd : ∀ k, k < n2 → sdE (arrOf a H) (offOf a) n (arrOf b H) (offOf b) k = 0
  cut : ∀ k, k < n3 → tmE (arrOf d H) (offOf d) k = 0
  age : 0 ≤ age ∧ age ≤ 1000
  shear : 0 ≤ shear ∧ shear ≤ 1000
theorem ck_zero {a b d : Option Addr} {n n2 n3 : Nat} {age shear : Int} {H : List Ob} (h : ck3 a b d n n2 n3 age shear H = 0) : CkZ a b d n n2 n3 age shear H := by
  unfold ck3 ckR at h
  by_cases h1 : 6 < n ∨ 60 < n2 ∨ n3 < 1 ∨ 20 < n3
  · rw [if_pos h1] at h; simp at h
  rw [if_neg h1] at h
  by_cases h2 : fB (srP a H) n 0 = true
  · rw [if_pos h2] at h
    have := fI_hit2 h2
    unfold srP at this
    simp only [Bool.not_eq_true', decide_eq_false_iff_not] at this
    exact absurd h this
  rw [if_neg h2] at h
  by_cases h3 : fB (soP a b n H) n2 0 = true
  · rw [if_pos h3] at h
    have := fI_hit2 h3
    unfold soP at this
    simp only [Bool.not_eq_true', decide_eq_false_iff_not] at this
    exact absurd h this
  rw [if_neg h3] at h
  by_cases h4 : fB (tmP (arrOf d H) (offOf d)) n3 0 = true
  · rw [if_pos h4] at h
    have := fI_hit2 h4
    unfold tmP at this
    simp only [Bool.not_eq_true', decide_eq_false_iff_not] at this
    exact absurd h this
  rw [if_neg h4] at h
  by_cases h5 : inB age 0 1000 = false ∨ inB shear 0 1000 = false
  · rw [if_pos h5] at h; simp at h
  rw [inB_iff, inB_iff] at h5
  refine ⟨by omega, by omega, by omega, by omega, fun k hk => ?_, fun k hk => ?_, fun k hk => ?_, by omega, by omega⟩
  · have := fB_none (by simpa using h2) k hk
    unfold srP srE at this
    simpa using this
  · have := fB_none (by simpa using h3) k hk
    unfold soP soE at this
    simpa using this
  · have := fB_none (by simpa using h4) k hk
    unfold tmP at this
    simpa using this
theorem src_of {c : Array Value} {off k : Nat} (h : srcE c off k = 0) : 0 ≤ getInt c (off + k * 7 + 2) ∧ getInt c (off + k * 7 + 2) ≤ 5000 ∧ 0 ≤ getInt c (off + k * 7 + 3) ∧ getInt c (off + k * 7 + 3) ≤ 6000 ∧
    1 ≤ getInt c (off + k * 7 + 4) ∧ getInt c (off + k * 7 + 4) ≤ 60000 ∧ 0 ≤ getInt c (off + k * 7 + 5) ∧ getInt c (off + k * 7 + 5) ≤ 99999999 ∧ 0 ≤ getInt c (off + k * 7 + 6) ∧ getInt c (off + k * 7 + 6) ≤ 99999999 := by
  unfold srcE at h
  by_cases h1 : nm (getStr c (off + k * 7)) = false
  · rw [if_pos h1] at h; omega
  rw [if_neg h1] at h
  by_cases h2 : twB c off (getStr c (off + k * 7)) k 0 = true
  · rw [if_pos h2] at h; omega
  rw [if_neg h2] at h
  by_cases h3 : inB (getInt c (off + k * 7 + 1)) 1 3 = false
  · rw [if_pos h3] at h; omega
  rw [if_neg h3] at h
  split at h
  · omega
  · rename_i h4
    rw [inB_iff, inB_iff, inB_iff, inB_iff, inB_iff] at h4
    omega
theorem snd_of {c0 : Array Value} {off0 n : Nat} {c : Array Value} {off k : Nat} (h : sdE c0 off0 n c off k = 0) : 0 ≤ getInt c (off + k * 5) ∧ getInt c (off + k * 5) < n ∧ 0 ≤ getInt c (off + k * 5 + 1) ∧ getInt c (off + k * 5 + 1) ≤ 100000 ∧
    getInt c0 (off0 + (getInt c (off + k * 5)).toNat * 7 + 5) ≤ getInt c (off + k * 5 + 2) ∧ getInt c (off + k * 5 + 2) ≤ getInt c0 (off0 + (getInt c (off + k * 5)).toNat * 7 + 6) ∧
    -20000 ≤ getInt c (off + k * 5 + 3) ∧ getInt c (off + k * 5 + 3) ≤ 20000 ∧ -20000 ≤ getInt c (off + k * 5 + 4) ∧ getInt c (off + k * 5 + 4) ≤ 20000 := by
  unfold sdE at h
  by_cases h1 : inB (getInt c (off + k * 5)) 0 ((n : Int) - 1) = false
  · rw [if_pos h1] at h; omega
  rw [if_neg h1] at h
  rw [inB_iff] at h1
  split at h
  · omega
  · rename_i h4
    rw [inB_iff, inB_iff, inB_iff, inB_iff] at h4
    omega
theorem cut_of {c : Array Value} {off k : Nat} (h : tmE c off k = 0) : 1 ≤ getInt c (off + k) ∧ getInt c (off + k) ≤ 100000000 := by
  unfold tmE at h
  by_cases h1 : inB (getInt c (off + k)) 1 100000000 = false
  · rw [if_pos h1] at h; omega
  rw [inB_iff] at h1
  omega
/-- With soundings: both lists are there, and their numbers are right. -/
theorem vld_of {a b d : Option Addr} {n z n2 z2 n3 z3 : Nat} {age shear : Int} {o0 o1 o2 : Ob} (ht : TaskAt a b d n z n2 z2 n3 z3 o0 o1 o2) (h : ck3 a b d n n2 n3 age shear [o0, o1, o2] = 0) (h2 : 0 < n2) :
    ∃ off0 off, a = some ⟨0, off0, none⟩ ∧ z = 7 ∧ b = some ⟨1, off, none⟩ ∧ z2 = 5 ∧ (∃ c0 c, o0 = .cells c0 true ∧ o1 = .cells c true ∧ Vld c0 off0 n c off n2 age shear) := by
  have hz := ck_zero h
  obtain ⟨hs, hs2, hs3, _, _, _⟩ := ht.on
  have hn : 0 < n := by
    have := snd_of (hz.snd 0 h2)
    omega
  rcases hs with rfl | ⟨b0, off0, rfl, rfl, hc0, hg0⟩
  · omega
  rcases hs2 with rfl | ⟨b1, off, rfl, rfl, hc1, hg1⟩
  · omega
  obtain rfl : b0 = 0 := ht.a0 _ rfl
  obtain rfl : b1 = 1 := ht.b1 _ rfl
  have e0 : ∃ c0, o0 = .cells c0 true := by
    rcases ht.g0 with rfl | ⟨c, rfl, _⟩
    · cases hc0
    · exact ⟨c, rfl⟩
  have e1 : ∃ c, o1 = .cells c true := by
    rcases ht.g1 with rfl | ⟨c, rfl, _⟩
    · cases hc1
    · exact ⟨c, rfl⟩
  obtain ⟨c0, rfl⟩ := e0
  obtain ⟨c, rfl⟩ := e1
  have hsn : ∀ k, k < n2 → (getInt c (off + k * 5)).toNat < n := fun k hk => by
    have := snd_of (hz.snd k hk)
    have e : getInt (arrOf (some ⟨1, off, none⟩) [.cells c0 true, .cells c true, o2]) (offOf (some ⟨1, off, none⟩) + k * 5) = getInt c (off + k * 5) := rfl
    rw [e] at this
    omega
  refine ⟨off0, off, rfl, rfl, rfl, rfl, c0, c, rfl, rfl, hg0, hg1, hz.few, hz.few2, hz.age, hz.shear, fun k hk => ?_, fun k hk => ?_, fun k hk => ?_, fun k hk => ?_, fun k hk => ?_, fun i hi => ?_, fun i hi => ?_, fun i hi => ?_⟩
  · exact ⟨(snd_of (hz.snd k hk)).1, (snd_of (hz.snd k hk)).2.1⟩
  · have := snd_of (hz.snd k hk); exact ⟨this.2.2.1, this.2.2.2.1⟩
  · have h1 := snd_of (hz.snd k hk)
    have h2 := src_of (hz.src _ (hsn k hk))
    exact ⟨Int.le_trans h2.2.2.2.2.2.2.1 h1.2.2.2.2.1, Int.le_trans h1.2.2.2.2.2.1 h2.2.2.2.2.2.2.2.2.2⟩
  · have := snd_of (hz.snd k hk); exact ⟨this.2.2.2.2.2.2.1, this.2.2.2.2.2.2.2.1⟩
  · have := snd_of (hz.snd k hk); exact ⟨this.2.2.2.2.2.2.2.2.1, this.2.2.2.2.2.2.2.2.2⟩
  · have := src_of (hz.src i hi); exact ⟨this.1, this.2.1⟩
  · have := src_of (hz.src i hi); exact ⟨this.2.2.1, this.2.2.2.1⟩
  · have := src_of (hz.src i hi); exact ⟨this.2.2.2.2.1, this.2.2.2.2.2.1⟩
theorem cut_at {a b d : Option Addr} {n z n2 z2 n3 z3 : Nat} {age shear : Int} {o0 o1 o2 : Ob} (ht : TaskAt a b d n z n2 z2 n3 z3 o0 o1 o2) (h : ck3 a b d n n2 n3 age shear [o0, o1, o2] = 0) :
    ∃ off3 c3, d = some ⟨2, off3, none⟩ ∧ z3 = 1 ∧ o2 = .cells c3 true ∧ GoodL L1 c3 off3 n3 ∧ ∀ k, k < n3 → 1 ≤ getInt c3 (off3 + k) ∧ getInt c3 (off3 + k) ≤ 100000000 := by
  have hz := ck_zero h
  obtain ⟨_, _, hs3, _, _, _⟩ := ht.on
  rcases hs3 with rfl | ⟨b2, off3, rfl, rfl, hc, hg⟩
  · have := hz.some3; omega
  obtain rfl : b2 = 2 := ht.d2 _ rfl
  have e2 : ∃ c, o2 = .cells c true := by
    rcases ht.g2 with rfl | ⟨c, rfl, _⟩
    · cases hc
    · exact ⟨c, rfl⟩
  obtain ⟨c3, rfl⟩ := e2
  exact ⟨off3, c3, rfl, rfl, rfl, hg, fun k hk => cut_of (hz.cut k hk)⟩
end
end Go.Proofs.Ytohpmnfplglbdaa

/- wind.leave: what the known soundings of the chosen leave. Conditions: none. -/
namespace Go.Proofs.Ytohpmnfplglbdaa
open Go.Gh Go.RowKit
noncomputable section
set_option maxRecDepth 100000
set_option linter.unusedSimpArgs false
set_option linter.unusedVariables false
theorem tree81117 (J : Task → List Value) (c0 c : Array Value) (o2 : Ob) (off0 n off n2 : Nat) (off3 n3 : Nat) (age shear lo hi tick now q : Int) :
    evC Try.prog ((shHear 117).ans J).c 60 (.call 81 ⟨[.agg ⟨tkV off0 n off n2 (some ⟨2, off3, none⟩) n3 1 age shear⟩, .agg ⟨quV lo hi tick now⟩, fvG 117]⟩ ⟨[.cells c0 true, .cells c true, o2, obG 117 q], 4, []⟩) some =
    cond (eqCode (theLoop Try.prog 110 0) (theLoop Try.prog 110 0))
    (cond (okHear 117 [(Ob.cells c0 true), (Ob.cells c true), o2, (Ob.cells ⟨[(Value.int .i64 q)]⟩ false), (Ob.cells ⟨[(Value.slice (Option.some (Addr.mk 0 off0 Option.none)) n 7), (Value.slice (Option.some (Addr.mk 1 off Option.none)) n2 5), (Value.slice (Option.some (Addr.mk 2 off3 Option.none)) n3 1), (Value.int .i64 age), (Value.int .i64 shear)]⟩ false), (Ob.cells ⟨[(Value.int .i64 lo), (Value.int .i64 hi), (Value.int .i64 tick), (Value.int .i64 now)]⟩ false), (Ob.cells ⟨[(Value.int .i64 (-20000 : Int)), (Value.int .i64 (20000 : Int))]⟩ false), (Ob.cells ⟨[(Value.int .i64 (-20000 : Int)), (Value.int .i64 (20000 : Int)), (Value.int .i64 (-20000 : Int)), (Value.int .i64 (20000 : Int))]⟩ false), (Ob.cells ⟨[(Value.slice (Option.some (Addr.mk 0 off0 Option.none)) n 7), (Value.slice (Option.some (Addr.mk 1 off Option.none)) n2 5), (Value.slice (Option.some (Addr.mk 2 off3 Option.none)) n3 1), (Value.int .i64 age), (Value.int .i64 shear)]⟩ false), (Ob.cells ⟨[(Value.int .i64 lo), (Value.int .i64 hi), (Value.int .i64 tick), (Value.int .i64 now)]⟩ false), (Ob.cells ⟨[(Value.func (Fn.func 117) ⟨[]⟩ ⟨[(Value.pointer (Option.some (Addr.mk 3 0 Option.none)))]⟩)]⟩ false), (Ob.cells ⟨[(Value.func (Fn.func 116) ⟨[(Value.slice (Option.some (Addr.mk 7 0 Option.none)) 2 2)]⟩ ⟨[]⟩)]⟩ false), (Ob.cells ⟨[(Value.bool false)]⟩ false), (Ob.cells ⟨[(Value.slice (Option.some (Addr.mk 0 off0 Option.none)) n 7), (Value.slice (Option.some (Addr.mk 1 off Option.none)) n2 5), (Value.slice (Option.some (Addr.mk 2 off3 Option.none)) n3 1), (Value.int .i64 age), (Value.int .i64 shear)]⟩ false), (Ob.cells ⟨[(Value.int .i64 now)]⟩ false), (Ob.dfr false), (Ob.loop LoopState.ready Option.none ⟨[(Value.agg ⟨[(Value.slice (Option.some (Addr.mk 0 off0 Option.none)) n 7), (Value.slice (Option.some (Addr.mk 1 off Option.none)) n2 5), (Value.slice (Option.some (Addr.mk 2 off3 Option.none)) n3 1), (Value.int .i64 age), (Value.int .i64 shear)]⟩), (Value.agg ⟨[(Value.int .i64 lo), (Value.int .i64 hi), (Value.int .i64 tick), (Value.int .i64 now)]⟩), (Value.func (Fn.func 117) ⟨[]⟩ ⟨[(Value.pointer (Option.some (Addr.mk 3 0 Option.none)))]⟩), (Value.func (Fn.func 116) ⟨[(Value.slice (Option.some (Addr.mk 7 0 Option.none)) 2 2)]⟩ ⟨[]⟩), (Value.pointer (Option.some (Addr.mk 8 0 Option.none))), (Value.pointer (Option.some (Addr.mk 9 0 Option.none))), (Value.pointer (Option.some (Addr.mk 10 0 Option.none))), (Value.pointer (Option.some (Addr.mk 11 0 Option.none))), (Value.pointer (Option.some (Addr.mk 12 0 Option.none))), (Value.tuple ⟨[]⟩), (Value.tuple ⟨[]⟩), (Value.agg ⟨[(Value.slice (Option.some (Addr.mk 0 off0 Option.none)) n 7), (Value.slice (Option.some (Addr.mk 1 off Option.none)) n2 5), (Value.slice (Option.some (Addr.mk 2 off3 Option.none)) n3 1), (Value.int .i64 age), (Value.int .i64 shear)]⟩), (Value.pointer (Option.some (Addr.mk 9 3 Option.none))), (Value.int .i64 now), (Value.func (Fn.func 110) ⟨[]⟩ ⟨[(Value.pointer (Option.some (Addr.mk 13 0 Option.none))), (Value.pointer (Option.some (Addr.mk 14 0 Option.none)))]⟩), (Value.tuple ⟨[]⟩), (Value.tuple ⟨[]⟩), (Value.tuple ⟨[]⟩), (Value.tuple ⟨[]⟩), (Value.tuple ⟨[]⟩), (Value.tuple ⟨[]⟩), (Value.tuple ⟨[]⟩), (Value.tuple ⟨[]⟩), (Value.tuple ⟨[]⟩), (Value.tuple ⟨[]⟩), (Value.tuple ⟨[]⟩), (Value.tuple ⟨[]⟩), (Value.tuple ⟨[]⟩), (Value.tuple ⟨[]⟩), (Value.tuple ⟨[]⟩), (Value.tuple ⟨[]⟩), (Value.tuple ⟨[]⟩), (Value.tuple ⟨[]⟩), (Value.tuple ⟨[]⟩), (Value.tuple ⟨[]⟩), (Value.tuple ⟨[]⟩)]⟩ ⟨[15]⟩ (asg 115) (bdy 115) 15)] c0 c o2 off0 n off n2 (Option.some (Addr.mk 2 off3 Option.none)) n3 1 age shear lo hi tick now (qOf (Ob.cells ⟨[(Value.int .i64 q)]⟩ false)) (-20000 : Int) (20000 : Int) (-20000 : Int) (20000 : Int) false (Int.ofNat n2) (0 : Int) 17)
     (some (Out.ret (Value.tuple ⟨[(Value.slice (Option.some (Addr.mk 7 0 Option.none)) 2 2), (Value.bool (hSm c0 off0 c off age shear lo hi tick now 117 (qOf (Ob.cells ⟨[(Value.int .i64 q)]⟩ false)) (n2 - 0) 0 (-20000 : Int) (20000 : Int) (-20000 : Int) (20000 : Int) false))]⟩) (Hp.mk [(Ob.cells c0 true), (Ob.cells c true), o2, (Ob.cells ⟨[(Value.int .i64 q)]⟩ false), (Ob.cells ⟨[(Value.slice (Option.some (Addr.mk 0 off0 Option.none)) n 7), (Value.slice (Option.some (Addr.mk 1 off Option.none)) n2 5), (Value.slice (Option.some (Addr.mk 2 off3 Option.none)) n3 1), (Value.int .i64 age), (Value.int .i64 shear)]⟩ false), (Ob.cells ⟨[(Value.int .i64 lo), (Value.int .i64 hi), (Value.int .i64 tick), (Value.int .i64 now)]⟩ false), (Ob.cells ⟨[(Value.int .i64 (-20000 : Int)), (Value.int .i64 (20000 : Int))]⟩ false), (Ob.cells ⟨[(Value.int .i64 (hXl c0 off0 c off age shear lo hi tick now 117 (qOf (Ob.cells ⟨[(Value.int .i64 q)]⟩ false)) (n2 - 0) 0 (-20000 : Int) (20000 : Int) (-20000 : Int) (20000 : Int) false)), (Value.int .i64 (hXh c0 off0 c off age shear lo hi tick now 117 (qOf (Ob.cells ⟨[(Value.int .i64 q)]⟩ false)) (n2 - 0) 0 (-20000 : Int) (20000 : Int) (-20000 : Int) (20000 : Int) false)), (Value.int .i64 (hYl c0 off0 c off age shear lo hi tick now 117 (qOf (Ob.cells ⟨[(Value.int .i64 q)]⟩ false)) (n2 - 0) 0 (-20000 : Int) (20000 : Int) (-20000 : Int) (20000 : Int) false)), (Value.int .i64 (hYh c0 off0 c off age shear lo hi tick now 117 (qOf (Ob.cells ⟨[(Value.int .i64 q)]⟩ false)) (n2 - 0) 0 (-20000 : Int) (20000 : Int) (-20000 : Int) (20000 : Int) false))]⟩ false)] 4 [])))
     (none))
    (none) := by kernel_rfl
theorem tree81128 (J : Task → List Value) (c0 c : Array Value) (o2 : Ob) (off0 n off n2 : Nat) (off3 n3 : Nat) (age shear lo hi tick now q : Int) :
    evC Try.prog ((shHear 128).ans J).c 60 (.call 81 ⟨[.agg ⟨tkV off0 n off n2 (some ⟨2, off3, none⟩) n3 1 age shear⟩, .agg ⟨quV lo hi tick now⟩, fvG 128]⟩ ⟨[.cells c0 true, .cells c true, o2, obG 128 q], 4, []⟩) some =
    cond (eqCode (theLoop Try.prog 110 0) (theLoop Try.prog 110 0))
    (cond (okHear 128 [(Ob.cells c0 true), (Ob.cells c true), o2, (Ob.cells ⟨[(Value.int .i64 q)]⟩ false), (Ob.cells ⟨[(Value.slice (Option.some (Addr.mk 0 off0 Option.none)) n 7), (Value.slice (Option.some (Addr.mk 1 off Option.none)) n2 5), (Value.slice (Option.some (Addr.mk 2 off3 Option.none)) n3 1), (Value.int .i64 age), (Value.int .i64 shear)]⟩ false), (Ob.cells ⟨[(Value.int .i64 lo), (Value.int .i64 hi), (Value.int .i64 tick), (Value.int .i64 now)]⟩ false), (Ob.cells ⟨[(Value.int .i64 (-20000 : Int)), (Value.int .i64 (20000 : Int))]⟩ false), (Ob.cells ⟨[(Value.int .i64 (-20000 : Int)), (Value.int .i64 (20000 : Int)), (Value.int .i64 (-20000 : Int)), (Value.int .i64 (20000 : Int))]⟩ false), (Ob.cells ⟨[(Value.slice (Option.some (Addr.mk 0 off0 Option.none)) n 7), (Value.slice (Option.some (Addr.mk 1 off Option.none)) n2 5), (Value.slice (Option.some (Addr.mk 2 off3 Option.none)) n3 1), (Value.int .i64 age), (Value.int .i64 shear)]⟩ false), (Ob.cells ⟨[(Value.int .i64 lo), (Value.int .i64 hi), (Value.int .i64 tick), (Value.int .i64 now)]⟩ false), (Ob.cells ⟨[(Value.func (Fn.func 128) ⟨[]⟩ ⟨[(Value.pointer (Option.some (Addr.mk 3 0 Option.none)))]⟩)]⟩ false), (Ob.cells ⟨[(Value.func (Fn.func 116) ⟨[(Value.slice (Option.some (Addr.mk 7 0 Option.none)) 2 2)]⟩ ⟨[]⟩)]⟩ false), (Ob.cells ⟨[(Value.bool false)]⟩ false), (Ob.cells ⟨[(Value.slice (Option.some (Addr.mk 0 off0 Option.none)) n 7), (Value.slice (Option.some (Addr.mk 1 off Option.none)) n2 5), (Value.slice (Option.some (Addr.mk 2 off3 Option.none)) n3 1), (Value.int .i64 age), (Value.int .i64 shear)]⟩ false), (Ob.cells ⟨[(Value.int .i64 now)]⟩ false), (Ob.dfr false), (Ob.loop LoopState.ready Option.none ⟨[(Value.agg ⟨[(Value.slice (Option.some (Addr.mk 0 off0 Option.none)) n 7), (Value.slice (Option.some (Addr.mk 1 off Option.none)) n2 5), (Value.slice (Option.some (Addr.mk 2 off3 Option.none)) n3 1), (Value.int .i64 age), (Value.int .i64 shear)]⟩), (Value.agg ⟨[(Value.int .i64 lo), (Value.int .i64 hi), (Value.int .i64 tick), (Value.int .i64 now)]⟩), (Value.func (Fn.func 128) ⟨[]⟩ ⟨[(Value.pointer (Option.some (Addr.mk 3 0 Option.none)))]⟩), (Value.func (Fn.func 116) ⟨[(Value.slice (Option.some (Addr.mk 7 0 Option.none)) 2 2)]⟩ ⟨[]⟩), (Value.pointer (Option.some (Addr.mk 8 0 Option.none))), (Value.pointer (Option.some (Addr.mk 9 0 Option.none))), (Value.pointer (Option.some (Addr.mk 10 0 Option.none))), (Value.pointer (Option.some (Addr.mk 11 0 Option.none))), (Value.pointer (Option.some (Addr.mk 12 0 Option.none))), (Value.tuple ⟨[]⟩), (Value.tuple ⟨[]⟩), (Value.agg ⟨[(Value.slice (Option.some (Addr.mk 0 off0 Option.none)) n 7), (Value.slice (Option.some (Addr.mk 1 off Option.none)) n2 5), (Value.slice (Option.some (Addr.mk 2 off3 Option.none)) n3 1), (Value.int .i64 age), (Value.int .i64 shear)]⟩), (Value.pointer (Option.some (Addr.mk 9 3 Option.none))), (Value.int .i64 now), (Value.func (Fn.func 110) ⟨[]⟩ ⟨[(Value.pointer (Option.some (Addr.mk 13 0 Option.none))), (Value.pointer (Option.some (Addr.mk 14 0 Option.none)))]⟩), (Value.tuple ⟨[]⟩), (Value.tuple ⟨[]⟩), (Value.tuple ⟨[]⟩), (Value.tuple ⟨[]⟩), (Value.tuple ⟨[]⟩), (Value.tuple ⟨[]⟩), (Value.tuple ⟨[]⟩), (Value.tuple ⟨[]⟩), (Value.tuple ⟨[]⟩), (Value.tuple ⟨[]⟩), (Value.tuple ⟨[]⟩), (Value.tuple ⟨[]⟩), (Value.tuple ⟨[]⟩), (Value.tuple ⟨[]⟩), (Value.tuple ⟨[]⟩), (Value.tuple ⟨[]⟩), (Value.tuple ⟨[]⟩), (Value.tuple ⟨[]⟩), (Value.tuple ⟨[]⟩), (Value.tuple ⟨[]⟩), (Value.tuple ⟨[]⟩)]⟩ ⟨[15]⟩ (asg 115) (bdy 115) 15)] c0 c o2 off0 n off n2 (Option.some (Addr.mk 2 off3 Option.none)) n3 1 age shear lo hi tick now (qOf (Ob.cells ⟨[(Value.int .i64 q)]⟩ false)) (-20000 : Int) (20000 : Int) (-20000 : Int) (20000 : Int) false (Int.ofNat n2) (0 : Int) 17)
     (some (Out.ret (Value.tuple ⟨[(Value.slice (Option.some (Addr.mk 7 0 Option.none)) 2 2), (Value.bool (hSm c0 off0 c off age shear lo hi tick now 128 (qOf (Ob.cells ⟨[(Value.int .i64 q)]⟩ false)) (n2 - 0) 0 (-20000 : Int) (20000 : Int) (-20000 : Int) (20000 : Int) false))]⟩) (Hp.mk [(Ob.cells c0 true), (Ob.cells c true), o2, (Ob.cells ⟨[(Value.int .i64 q)]⟩ false), (Ob.cells ⟨[(Value.slice (Option.some (Addr.mk 0 off0 Option.none)) n 7), (Value.slice (Option.some (Addr.mk 1 off Option.none)) n2 5), (Value.slice (Option.some (Addr.mk 2 off3 Option.none)) n3 1), (Value.int .i64 age), (Value.int .i64 shear)]⟩ false), (Ob.cells ⟨[(Value.int .i64 lo), (Value.int .i64 hi), (Value.int .i64 tick), (Value.int .i64 now)]⟩ false), (Ob.cells ⟨[(Value.int .i64 (-20000 : Int)), (Value.int .i64 (20000 : Int))]⟩ false), (Ob.cells ⟨[(Value.int .i64 (hXl c0 off0 c off age shear lo hi tick now 128 (qOf (Ob.cells ⟨[(Value.int .i64 q)]⟩ false)) (n2 - 0) 0 (-20000 : Int) (20000 : Int) (-20000 : Int) (20000 : Int) false)), (Value.int .i64 (hXh c0 off0 c off age shear lo hi tick now 128 (qOf (Ob.cells ⟨[(Value.int .i64 q)]⟩ false)) (n2 - 0) 0 (-20000 : Int) (20000 : Int) (-20000 : Int) (20000 : Int) false)), (Value.int .i64 (hYl c0 off0 c off age shear lo hi tick now 128 (qOf (Ob.cells ⟨[(Value.int .i64 q)]⟩ false)) (n2 - 0) 0 (-20000 : Int) (20000 : Int) (-20000 : Int) (20000 : Int) false)), (Value.int .i64 (hYh c0 off0 c off age shear lo hi tick now 128 (qOf (Ob.cells ⟨[(Value.int .i64 q)]⟩ false)) (n2 - 0) 0 (-20000 : Int) (20000 : Int) (-20000 : Int) (20000 : Int) false))]⟩ false)] 4 [])))
     (none))
    (none) := by kernel_rfl
theorem tree8188 (J : Task → List Value) (c0 c : Array Value) (o2 : Ob) (off0 n off n2 : Nat) (off3 n3 : Nat) (age shear lo hi tick now q : Int) :
    evC Try.prog ((shHear 88).ans J).c 60 (.call 81 ⟨[.agg ⟨tkV off0 n off n2 (some ⟨2, off3, none⟩) n3 1 age shear⟩, .agg ⟨quV lo hi tick now⟩, fvG 88]⟩ ⟨[.cells c0 true, .cells c true, o2, obG 88 q], 4, []⟩) some =
    cond (eqCode (theLoop Try.prog 110 0) (theLoop Try.prog 110 0))
    (cond (okHear 88 [(Ob.cells c0 true), (Ob.cells c true), o2, Ob.dead, (Ob.cells ⟨[(Value.slice (Option.some (Addr.mk 0 off0 Option.none)) n 7), (Value.slice (Option.some (Addr.mk 1 off Option.none)) n2 5), (Value.slice (Option.some (Addr.mk 2 off3 Option.none)) n3 1), (Value.int .i64 age), (Value.int .i64 shear)]⟩ false), (Ob.cells ⟨[(Value.int .i64 lo), (Value.int .i64 hi), (Value.int .i64 tick), (Value.int .i64 now)]⟩ false), (Ob.cells ⟨[(Value.int .i64 (-20000 : Int)), (Value.int .i64 (20000 : Int))]⟩ false), (Ob.cells ⟨[(Value.int .i64 (-20000 : Int)), (Value.int .i64 (20000 : Int)), (Value.int .i64 (-20000 : Int)), (Value.int .i64 (20000 : Int))]⟩ false), (Ob.cells ⟨[(Value.slice (Option.some (Addr.mk 0 off0 Option.none)) n 7), (Value.slice (Option.some (Addr.mk 1 off Option.none)) n2 5), (Value.slice (Option.some (Addr.mk 2 off3 Option.none)) n3 1), (Value.int .i64 age), (Value.int .i64 shear)]⟩ false), (Ob.cells ⟨[(Value.int .i64 lo), (Value.int .i64 hi), (Value.int .i64 tick), (Value.int .i64 now)]⟩ false), (Ob.cells ⟨[(Value.func (Fn.func 88) ⟨[]⟩ ⟨[]⟩)]⟩ false), (Ob.cells ⟨[(Value.func (Fn.func 116) ⟨[(Value.slice (Option.some (Addr.mk 7 0 Option.none)) 2 2)]⟩ ⟨[]⟩)]⟩ false), (Ob.cells ⟨[(Value.bool false)]⟩ false), (Ob.cells ⟨[(Value.slice (Option.some (Addr.mk 0 off0 Option.none)) n 7), (Value.slice (Option.some (Addr.mk 1 off Option.none)) n2 5), (Value.slice (Option.some (Addr.mk 2 off3 Option.none)) n3 1), (Value.int .i64 age), (Value.int .i64 shear)]⟩ false), (Ob.cells ⟨[(Value.int .i64 now)]⟩ false), (Ob.dfr false), (Ob.loop LoopState.ready Option.none ⟨[(Value.agg ⟨[(Value.slice (Option.some (Addr.mk 0 off0 Option.none)) n 7), (Value.slice (Option.some (Addr.mk 1 off Option.none)) n2 5), (Value.slice (Option.some (Addr.mk 2 off3 Option.none)) n3 1), (Value.int .i64 age), (Value.int .i64 shear)]⟩), (Value.agg ⟨[(Value.int .i64 lo), (Value.int .i64 hi), (Value.int .i64 tick), (Value.int .i64 now)]⟩), (Value.func (Fn.func 88) ⟨[]⟩ ⟨[]⟩), (Value.func (Fn.func 116) ⟨[(Value.slice (Option.some (Addr.mk 7 0 Option.none)) 2 2)]⟩ ⟨[]⟩), (Value.pointer (Option.some (Addr.mk 8 0 Option.none))), (Value.pointer (Option.some (Addr.mk 9 0 Option.none))), (Value.pointer (Option.some (Addr.mk 10 0 Option.none))), (Value.pointer (Option.some (Addr.mk 11 0 Option.none))), (Value.pointer (Option.some (Addr.mk 12 0 Option.none))), (Value.tuple ⟨[]⟩), (Value.tuple ⟨[]⟩), (Value.agg ⟨[(Value.slice (Option.some (Addr.mk 0 off0 Option.none)) n 7), (Value.slice (Option.some (Addr.mk 1 off Option.none)) n2 5), (Value.slice (Option.some (Addr.mk 2 off3 Option.none)) n3 1), (Value.int .i64 age), (Value.int .i64 shear)]⟩), (Value.pointer (Option.some (Addr.mk 9 3 Option.none))), (Value.int .i64 now), (Value.func (Fn.func 110) ⟨[]⟩ ⟨[(Value.pointer (Option.some (Addr.mk 13 0 Option.none))), (Value.pointer (Option.some (Addr.mk 14 0 Option.none)))]⟩), (Value.tuple ⟨[]⟩), (Value.tuple ⟨[]⟩), (Value.tuple ⟨[]⟩), (Value.tuple ⟨[]⟩), (Value.tuple ⟨[]⟩), (Value.tuple ⟨[]⟩), (Value.tuple ⟨[]⟩), (Value.tuple ⟨[]⟩), (Value.tuple ⟨[]⟩), (Value.tuple ⟨[]⟩), (Value.tuple ⟨[]⟩), (Value.tuple ⟨[]⟩), (Value.tuple ⟨[]⟩), (Value.tuple ⟨[]⟩), (Value.tuple ⟨[]⟩), (Value.tuple ⟨[]⟩), (Value.tuple ⟨[]⟩), (Value.tuple ⟨[]⟩), (Value.tuple ⟨[]⟩), (Value.tuple ⟨[]⟩), (Value.tuple ⟨[]⟩)]⟩ ⟨[15]⟩ (asg 115) (bdy 115) 15)] c0 c o2 off0 n off n2 (Option.some (Addr.mk 2 off3 Option.none)) n3 1 age shear lo hi tick now (qOf Ob.dead) (-20000 : Int) (20000 : Int) (-20000 : Int) (20000 : Int) false (Int.ofNat n2) (0 : Int) 17)
     (some (Out.ret (Value.tuple ⟨[(Value.slice (Option.some (Addr.mk 7 0 Option.none)) 2 2), (Value.bool (hSm c0 off0 c off age shear lo hi tick now 88 (qOf Ob.dead) (n2 - 0) 0 (-20000 : Int) (20000 : Int) (-20000 : Int) (20000 : Int) false))]⟩) (Hp.mk [(Ob.cells c0 true), (Ob.cells c true), o2, Ob.dead, (Ob.cells ⟨[(Value.slice (Option.some (Addr.mk 0 off0 Option.none)) n 7), (Value.slice (Option.some (Addr.mk 1 off Option.none)) n2 5), (Value.slice (Option.some (Addr.mk 2 off3 Option.none)) n3 1), (Value.int .i64 age), (Value.int .i64 shear)]⟩ false), (Ob.cells ⟨[(Value.int .i64 lo), (Value.int .i64 hi), (Value.int .i64 tick), (Value.int .i64 now)]⟩ false), (Ob.cells ⟨[(Value.int .i64 (-20000 : Int)), (Value.int .i64 (20000 : Int))]⟩ false), (Ob.cells ⟨[(Value.int .i64 (hXl c0 off0 c off age shear lo hi tick now 88 (qOf Ob.dead) (n2 - 0) 0 (-20000 : Int) (20000 : Int) (-20000 : Int) (20000 : Int) false)), (Value.int .i64 (hXh c0 off0 c off age shear lo hi tick now 88 (qOf Ob.dead) (n2 - 0) 0 (-20000 : Int) (20000 : Int) (-20000 : Int) (20000 : Int) false)), (Value.int .i64 (hYl c0 off0 c off age shear lo hi tick now 88 (qOf Ob.dead) (n2 - 0) 0 (-20000 : Int) (20000 : Int) (-20000 : Int) (20000 : Int) false)), (Value.int .i64 (hYh c0 off0 c off age shear lo hi tick now 88 (qOf Ob.dead) (n2 - 0) 0 (-20000 : Int) (20000 : Int) (-20000 : Int) (20000 : Int) false))]⟩ false)] 4 [])))
     (none))
    (none) := by kernel_rfl
theorem tree81z117 (o0 o1 o2 : Ob) (a b d : Option Addr) (n z z2 n3 z3 : Nat) (age shear lo hi tick now q : Int) :
    evC Try.prog (Ans.c fun _ => none) 60 (.call 81 ⟨[.agg ⟨[.slice a n z, .slice b 0 z2, .slice d n3 z3, .int .i64 age, .int .i64 shear]⟩, .agg ⟨quV lo hi tick now⟩, fvG 117]⟩ ⟨[o0, o1, o2, obG 117 q], 4, []⟩) some =
    some (Out.ret (Value.tuple ⟨[(Value.slice (Option.some (Addr.mk 7 0 Option.none)) 2 2), (Value.bool false)]⟩) (Hp.mk [o0, o1, o2, (Ob.cells ⟨[(Value.int .i64 q)]⟩ false), (Ob.cells ⟨[(Value.slice a n z), (Value.slice b 0 z2), (Value.slice d n3 z3), (Value.int .i64 age), (Value.int .i64 shear)]⟩ false), (Ob.cells ⟨[(Value.int .i64 lo), (Value.int .i64 hi), (Value.int .i64 tick), (Value.int .i64 now)]⟩ false), (Ob.cells ⟨[(Value.int .i64 (-20000 : Int)), (Value.int .i64 (20000 : Int))]⟩ false), (Ob.cells ⟨[(Value.int .i64 (-20000 : Int)), (Value.int .i64 (20000 : Int)), (Value.int .i64 (-20000 : Int)), (Value.int .i64 (20000 : Int))]⟩ false)] 4 [])) := by kernel_rfl
theorem tree81z128 (o0 o1 o2 : Ob) (a b d : Option Addr) (n z z2 n3 z3 : Nat) (age shear lo hi tick now q : Int) :
    evC Try.prog (Ans.c fun _ => none) 60 (.call 81 ⟨[.agg ⟨[.slice a n z, .slice b 0 z2, .slice d n3 z3, .int .i64 age, .int .i64 shear]⟩, .agg ⟨quV lo hi tick now⟩, fvG 128]⟩ ⟨[o0, o1, o2, obG 128 q], 4, []⟩) some =
    some (Out.ret (Value.tuple ⟨[(Value.slice (Option.some (Addr.mk 7 0 Option.none)) 2 2), (Value.bool false)]⟩) (Hp.mk [o0, o1, o2, (Ob.cells ⟨[(Value.int .i64 q)]⟩ false), (Ob.cells ⟨[(Value.slice a n z), (Value.slice b 0 z2), (Value.slice d n3 z3), (Value.int .i64 age), (Value.int .i64 shear)]⟩ false), (Ob.cells ⟨[(Value.int .i64 lo), (Value.int .i64 hi), (Value.int .i64 tick), (Value.int .i64 now)]⟩ false), (Ob.cells ⟨[(Value.int .i64 (-20000 : Int)), (Value.int .i64 (20000 : Int))]⟩ false), (Ob.cells ⟨[(Value.int .i64 (-20000 : Int)), (Value.int .i64 (20000 : Int)), (Value.int .i64 (-20000 : Int)), (Value.int .i64 (20000 : Int))]⟩ false)] 4 [])) := by kernel_rfl
theorem tree81z88 (o0 o1 o2 : Ob) (a b d : Option Addr) (n z z2 n3 z3 : Nat) (age shear lo hi tick now q : Int) :
    evC Try.prog (Ans.c fun _ => none) 60 (.call 81 ⟨[.agg ⟨[.slice a n z, .slice b 0 z2, .slice d n3 z3, .int .i64 age, .int .i64 shear]⟩, .agg ⟨quV lo hi tick now⟩, fvG 88]⟩ ⟨[o0, o1, o2, obG 88 q], 4, []⟩) some =
    some (Out.ret (Value.tuple ⟨[(Value.slice (Option.some (Addr.mk 7 0 Option.none)) 2 2), (Value.bool false)]⟩) (Hp.mk [o0, o1, o2, Ob.dead, (Ob.cells ⟨[(Value.slice a n z), (Value.slice b 0 z2), (Value.slice d n3 z3), (Value.int .i64 age), (Value.int .i64 shear)]⟩ false), (Ob.cells ⟨[(Value.int .i64 lo), (Value.int .i64 hi), (Value.int .i64 tick), (Value.int .i64 now)]⟩ false), (Ob.cells ⟨[(Value.int .i64 (-20000 : Int)), (Value.int .i64 (20000 : Int))]⟩ false), (Ob.cells ⟨[(Value.int .i64 (-20000 : Int)), (Value.int .i64 (20000 : Int)), (Value.int .i64 (-20000 : Int)), (Value.int .i64 (20000 : Int))]⟩ false)] 4 [])) := by kernel_rfl
def lvXl (a b : Option Addr) (n n2 : Nat) (age shear lo hi tick now : Int) (g : Nat) (q : Int) (H : List Ob) : Int := hXl (arrOf a H) (offOf a) (arrOf b H) (offOf b) age shear lo hi tick now g q n2 0 (-20000) 20000 (-20000) 20000 false
def lvXh (a b : Option Addr) (n n2 : Nat) (age shear lo hi tick now : Int) (g : Nat) (q : Int) (H : List Ob) : Int := hXh (arrOf a H) (offOf a) (arrOf b H) (offOf b) age shear lo hi tick now g q n2 0 (-20000) 20000 (-20000) 20000 false
def lvYl (a b : Option Addr) (n n2 : Nat) (age shear lo hi tick now : Int) (g : Nat) (q : Int) (H : List Ob) : Int := hYl (arrOf a H) (offOf a) (arrOf b H) (offOf b) age shear lo hi tick now g q n2 0 (-20000) 20000 (-20000) 20000 false
def lvYh (a b : Option Addr) (n n2 : Nat) (age shear lo hi tick now : Int) (g : Nat) (q : Int) (H : List Ob) : Int := hYh (arrOf a H) (offOf a) (arrOf b H) (offOf b) age shear lo hi tick now g q n2 0 (-20000) 20000 (-20000) 20000 false
def lvSm (a b : Option Addr) (n n2 : Nat) (age shear lo hi tick now : Int) (g : Nat) (q : Int) (H : List Ob) : Bool := hSm (arrOf a H) (offOf a) (arrOf b H) (offOf b) age shear lo hi tick now g q n2 0 (-20000) 20000 (-20000) 20000 false

/-- What is made. -/
def lvOb (a b : Option Addr) (n n2 : Nat) (age shear lo hi tick now : Int) (g : Nat) (q : Int) (H : List Ob) : Ob := .cells ⟨[.int .i64 (lvXl a b n n2 age shear lo hi tick now g q H), .int .i64 (lvXh a b n n2 age shear lo hi tick now g q H), .int .i64 (lvYl a b n n2 age shear lo hi tick now g q H), .int .i64 (lvYh a b n n2 age shear lo hi tick now g q H)]⟩ false
def okLv (a b d : Option Addr) (n z n2 z2 n3 z3 : Nat) (age shear lo hi tick now : Int) (o0 o1 o2 : Ob) : Bool :=
  dec (TaskAt a b d n z n2 z2 n3 z3 o0 o1 o2 ∧ ck3 a b d n n2 n3 age shear [o0, o1, o2] = 0 ∧ Qst lo hi tick now)
def tk5 (a b d : Option Addr) (n z n2 z2 n3 z3 : Nat) (age shear : Int) : List Value := [.slice a n z, .slice b n2 z2, .slice d n3 z3, .int .i64 age, .int .i64 shear]

theorem min81_117 {a b d : Option Addr} {n z n2 z2 n3 z3 : Nat} {age shear lo hi tick now q : Int} {o0 o1 o2 : Ob} (ht : TaskAt a b d n z n2 z2 n3 z3 o0 o1 o2) (hc : ck3 a b d n n2 n3 age shear [o0, o1, o2] = 0) (hq : Qst lo hi tick now) :
    ∃ X4 X5 X6, Fact Try.prog (.call 81 ⟨[.agg ⟨tk5 a b d n z n2 z2 n3 z3 age shear⟩, .agg ⟨quV lo hi tick now⟩, fvG 117]⟩ ⟨[o0, o1, o2, obG 117 q], 4, []⟩)
      (.ret (.tuple ⟨[.slice (some ⟨7, 0, none⟩) 2 2, .bool (lvSm a b n n2 age shear lo hi tick now 117 (qOf (obG 117 q)) [o0, o1, o2])]⟩) ⟨[o0, o1, o2, obG 117 q, X4, X5, X6, lvOb a b n n2 age shear lo hi tick now 117 (qOf (obG 117 q)) [o0, o1, o2]], 4, []⟩) := by
  rcases Nat.eq_zero_or_pos n2 with rfl | h2
  · exact ⟨_, _, _, (Known.nothing _).fact noNG mixed (n := 60) (tree81z117 o0 o1 o2 a b d n z z2 n3 z3 age shear lo hi tick now q)⟩
  · obtain ⟨off0, off, rfl, rfl, rfl, rfl, c0, c, rfl, rfl, hv⟩ := vld_of ht hc h2
    obtain ⟨off3, c3, rfl, rfl, rfl, hg3, _⟩ := cut_at ht hc
    obtain ⟨J, hJ⟩ := knownH117
    refine ⟨.cells ⟨tkV off0 n off n2 (some ⟨2, off3, none⟩) n3 1 age shear⟩ false, .cells ⟨quV lo hi tick now⟩ false, .cells ⟨[.int .i64 (-20000), .int .i64 20000]⟩ false, hJ.fact noNG mixed (n := 60) ((tree81117 J c0 c (.cells c3 true) off0 n off n2 off3 n3 age shear lo hi tick now q).trans ?_)⟩
    have hok : okHear 117 (hdH (.cells c0 true) (.cells c true) (.cells c3 true) (obG 117 q) (tkV off0 n off n2 (some ⟨2, off3, none⟩) n3 1 age shear) (quV lo hi tick now) (fvG 117) now (-20000) 20000 (-20000) 20000 false ++ []) c0 c (.cells c3 true) off0 n off n2 (some ⟨2, off3, none⟩) n3 1 age shear lo hi tick now (qOf (obG 117 q)) (-20000) 20000 (-20000) 20000 false (n2 : Int) 0 17 = true :=
      dec_iff.2 ⟨⟨[], by cases hq; rfl⟩, hv, hq, rfl, ht.g2, by omega, by omega, by omega, by omega, by omega, by omega, by omega, by omega, rfl, by omega, rfl⟩
    rw [eqCode_self, cond_true]
    refine (congrArg (fun b => cond b _ none) hok).trans ?_
    rfl

theorem min81_128 {a b d : Option Addr} {n z n2 z2 n3 z3 : Nat} {age shear lo hi tick now q : Int} {o0 o1 o2 : Ob} (ht : TaskAt a b d n z n2 z2 n3 z3 o0 o1 o2) (hc : ck3 a b d n n2 n3 age shear [o0, o1, o2] = 0) (hq : Qst lo hi tick now) :
    ∃ X4 X5 X6, Fact Try.prog (.call 81 ⟨[.agg ⟨tk5 a b d n z n2 z2 n3 z3 age shear⟩, .agg ⟨quV lo hi tick now⟩, fvG 128]⟩ ⟨[o0, o1, o2, obG 128 q], 4, []⟩)
      (.ret (.tuple ⟨[.slice (some ⟨7, 0, none⟩) 2 2, .bool (lvSm a b n n2 age shear lo hi tick now 128 (qOf (obG 128 q)) [o0, o1, o2])]⟩) ⟨[o0, o1, o2, obG 128 q, X4, X5, X6, lvOb a b n n2 age shear lo hi tick now 128 (qOf (obG 128 q)) [o0, o1, o2]], 4, []⟩) := by
  rcases Nat.eq_zero_or_pos n2 with rfl | h2
  · exact ⟨_, _, _, (Known.nothing _).fact noNG mixed (n := 60) (tree81z128 o0 o1 o2 a b d n z z2 n3 z3 age shear lo hi tick now q)⟩
  · obtain ⟨off0, off, rfl, rfl, rfl, rfl, c0, c, rfl, rfl, hv⟩ := vld_of ht hc h2
    obtain ⟨off3, c3, rfl, rfl, rfl, hg3, _⟩ := cut_at ht hc
    obtain ⟨J, hJ⟩ := knownH128
    refine ⟨.cells ⟨tkV off0 n off n2 (some ⟨2, off3, none⟩) n3 1 age shear⟩ false, .cells ⟨quV lo hi tick now⟩ false, .cells ⟨[.int .i64 (-20000), .int .i64 20000]⟩ false, hJ.fact noNG mixed (n := 60) ((tree81128 J c0 c (.cells c3 true) off0 n off n2 off3 n3 age shear lo hi tick now q).trans ?_)⟩
    have hok : okHear 128 (hdH (.cells c0 true) (.cells c true) (.cells c3 true) (obG 128 q) (tkV off0 n off n2 (some ⟨2, off3, none⟩) n3 1 age shear) (quV lo hi tick now) (fvG 128) now (-20000) 20000 (-20000) 20000 false ++ []) c0 c (.cells c3 true) off0 n off n2 (some ⟨2, off3, none⟩) n3 1 age shear lo hi tick now (qOf (obG 128 q)) (-20000) 20000 (-20000) 20000 false (n2 : Int) 0 17 = true :=
      dec_iff.2 ⟨⟨[], by cases hq; rfl⟩, hv, hq, rfl, ht.g2, by omega, by omega, by omega, by omega, by omega, by omega, by omega, by omega, rfl, by omega, rfl⟩
    rw [eqCode_self, cond_true]
    refine (congrArg (fun b => cond b _ none) hok).trans ?_
    rfl

theorem min81_88 {a b d : Option Addr} {n z n2 z2 n3 z3 : Nat} {age shear lo hi tick now q : Int} {o0 o1 o2 : Ob} (ht : TaskAt a b d n z n2 z2 n3 z3 o0 o1 o2) (hc : ck3 a b d n n2 n3 age shear [o0, o1, o2] = 0) (hq : Qst lo hi tick now) :
    ∃ X4 X5 X6, Fact Try.prog (.call 81 ⟨[.agg ⟨tk5 a b d n z n2 z2 n3 z3 age shear⟩, .agg ⟨quV lo hi tick now⟩, fvG 88]⟩ ⟨[o0, o1, o2, obG 88 q], 4, []⟩)
      (.ret (.tuple ⟨[.slice (some ⟨7, 0, none⟩) 2 2, .bool (lvSm a b n n2 age shear lo hi tick now 88 (qOf (obG 88 q)) [o0, o1, o2])]⟩) ⟨[o0, o1, o2, obG 88 q, X4, X5, X6, lvOb a b n n2 age shear lo hi tick now 88 (qOf (obG 88 q)) [o0, o1, o2]], 4, []⟩) := by
  rcases Nat.eq_zero_or_pos n2 with rfl | h2
  · exact ⟨_, _, _, (Known.nothing _).fact noNG mixed (n := 60) (tree81z88 o0 o1 o2 a b d n z z2 n3 z3 age shear lo hi tick now q)⟩
  · obtain ⟨off0, off, rfl, rfl, rfl, rfl, c0, c, rfl, rfl, hv⟩ := vld_of ht hc h2
    obtain ⟨off3, c3, rfl, rfl, rfl, hg3, _⟩ := cut_at ht hc
    obtain ⟨J, hJ⟩ := knownH88
    refine ⟨.cells ⟨tkV off0 n off n2 (some ⟨2, off3, none⟩) n3 1 age shear⟩ false, .cells ⟨quV lo hi tick now⟩ false, .cells ⟨[.int .i64 (-20000), .int .i64 20000]⟩ false, hJ.fact noNG mixed (n := 60) ((tree8188 J c0 c (.cells c3 true) off0 n off n2 off3 n3 age shear lo hi tick now q).trans ?_)⟩
    have hok : okHear 88 (hdH (.cells c0 true) (.cells c true) (.cells c3 true) (obG 88 q) (tkV off0 n off n2 (some ⟨2, off3, none⟩) n3 1 age shear) (quV lo hi tick now) (fvG 88) now (-20000) 20000 (-20000) 20000 false ++ []) c0 c (.cells c3 true) off0 n off n2 (some ⟨2, off3, none⟩) n3 1 age shear lo hi tick now (qOf (obG 88 q)) (-20000) 20000 (-20000) 20000 false (n2 : Int) 0 17 = true :=
      dec_iff.2 ⟨⟨[], by cases hq; rfl⟩, hv, hq, rfl, ht.g2, by omega, by omega, by omega, by omega, by omega, by omega, by omega, by omega, rfl, by omega, rfl⟩
    rw [eqCode_self, cond_true]
    refine (congrArg (fun b => cond b _ none) hok).trans ?_
    rfl

theorem grOb_same {σ : Nat → Nat → Prop} {o : Ob} (h : grOb o) : ObTR σ o o := ObTR.same fun n => grOb_sc h
theorem grOb_rw {o : Ob} (h : grOb o) : o.rw = false := by
  rcases h with rfl | ⟨c, rfl, _⟩ <;> rfl
theorem obG_cases (g : Nat) (q : Int) : obG g q = .dead ∨ obG g q = .cells ⟨[.int .i64 q]⟩ false := by
  unfold obG; split
  · exact .inr rfl
  · exact .inr rfl
  · exact .inl rfl
theorem obG_sc (g : Nat) (q : Int) (n : Nat) : obSc n (obG g q) = true := by
  rcases obG_cases g q with h | h <;> rw [h] <;> rfl
/-- The same, over every heap. -/
theorem carry81 {T : List Value} {o0 o1 o2 X4 X5 X6 : Ob} {g : Nat} {q : Int} {S : List Value} {sm : Bool} {Q : Value} {F0 F : Value} {G : List Ob} {base : Nat} {wr : List Nat} {p : Nat}
    (hf : Fact Try.prog (.call 81 ⟨[.agg ⟨T⟩, Q, F0]⟩ ⟨[o0, o1, o2, obG g q], 4, []⟩) (.ret (.tuple ⟨[.slice (some ⟨7, 0, none⟩) 2 2, .bool sm]⟩) ⟨[o0, o1, o2, obG g q, X4, X5, X6, .cells ⟨S⟩ false], 4, []⟩))
    (h0 : grOb o0) (h1 : grOb o1) (h2 : grOb o2) (hT : T.all (sc1 3) = true) (hQ : gr Q = true) (hS : S.all g0 = true) (hp : 3 ≤ p) (hpl : p < (o0 :: o1 :: o2 :: G).length)
    (hpq : obG g q = .dead ∨ (o0 :: o1 :: o2 :: G)[p]? = some (obG g q)) (hF : TR (inS (fun i => if i < 3 then i else p) [o0, o1, o2, obG g q]) F F0) :
    Fact Try.prog (.call 81 ⟨[.agg ⟨T⟩, Q, F]⟩ ⟨o0 :: o1 :: o2 :: G, base, wr⟩) (.ret (.tuple ⟨[.slice (some ⟨(o0 :: o1 :: o2 :: G).length, 0, none⟩) 2 2, .bool sm]⟩) ⟨(o0 :: o1 :: o2 :: G) ++ [.cells ⟨S⟩ false], base, wr⟩) := by
  have hN : (o0 :: o1 :: o2 :: G).length = G.length + 3 := rfl
  have hid : ∀ i, i < 3 → inS (fun i => if i < 3 then i else p) [o0, o1, o2, obG g q] i i := fun i hi => ⟨by simp; omega, by simp [hi]⟩
  refine hf.carryCall (ρ := fun i => if i < 3 then i else p) (κ := fun j => if j = (o0 :: o1 :: o2 :: G).length then some 7 else none) (Nat.le_refl 4) ⟨?_, ?_, ?_, ?_, ?_, ?_, ?_⟩ ?_ ?_ ?_
  · intro i ob hi hl
    rcases i with _ | _ | _ | _ | i
    · simp only [List.getElem?_cons_zero, Option.some.injEq] at hi
      subst hi
      exact ⟨o0, rfl, hl, id, grOb_same h0⟩
    · simp only [List.getElem?_cons_succ, List.getElem?_cons_zero, Option.some.injEq] at hi
      subst hi
      exact ⟨o1, rfl, hl, id, grOb_same h1⟩
    · simp only [List.getElem?_cons_succ, List.getElem?_cons_zero, Option.some.injEq] at hi
      subst hi
      exact ⟨o2, rfl, hl, id, grOb_same h2⟩
    · simp only [List.getElem?_cons_succ, List.getElem?_cons_zero, Option.some.injEq] at hi
      subst hi
      rcases hpq with h | h
      · rw [h] at hl; cases hl
      · exact ⟨obG g q, by simpa using h, hl, id, ObTR.same (obG_sc g q)⟩
    · simp at hi
  · intro i i' hi hi' he
    simp only [List.length_cons, List.length_nil] at hi hi'
    split at he <;> split at he <;> omega
  · intro i hi
    simp only [List.length_cons, List.length_nil] at hi
    simp only
    split
    · rw [hN]; omega
    · exact hpl
  · simp
  · intro j i hj hl
    split at hj
    · simp only [Option.some.injEq] at hj; subst hj; simp
    · cases hj
  · intro j j' i _ _ hj hj'
    split at hj
    · split at hj'
      · omega
      · cases hj'
    · cases hj
  · intro j ob' hj hl
    simp only at hj
    by_cases hlt : j < (o0 :: o1 :: o2 :: G).length
    · rw [List.getElem?_append_left hlt] at hj
      by_cases hjp : j = p ∧ obG g q ≠ .dead
      · obtain ⟨rfl, hne⟩ := hjp
        have hj2 := hpq.resolve_left hne
        rw [hj2] at hj
        simp only [Option.some.injEq] at hj
        subst hj
        exact .inr ⟨3, obG g q, rfl, hl, id, .inr ⟨obG g q, rfl, hl⟩, ObTR.same (obG_sc g q), .inl ⟨by simp, by simp⟩⟩
      · refine .inl ⟨hj, fun i ob0 hi hrw he => ?_⟩
        rcases i with _ | _ | _ | _ | i
        · simp only [List.getElem?_cons_zero, Option.some.injEq] at hi
          subst hi; rw [grOb_rw h0] at hrw; cases hrw
        · simp only [List.getElem?_cons_succ, List.getElem?_cons_zero, Option.some.injEq] at hi
          subst hi; rw [grOb_rw h1] at hrw; cases hrw
        · simp only [List.getElem?_cons_succ, List.getElem?_cons_zero, Option.some.injEq] at hi
          subst hi; rw [grOb_rw h2] at hrw; cases hrw
        · simp only [List.getElem?_cons_succ, List.getElem?_cons_zero, Option.some.injEq] at hi
          subst hi
          refine hjp ⟨by simpa using he.symm, fun h => ?_⟩
          rw [h] at hrw; cases hrw
        · simp at hi
    · rw [List.getElem?_append_right (by omega)] at hj
      obtain ⟨hj0, rfl⟩ : j - (o0 :: o1 :: o2 :: G).length = 0 ∧ ob' = .cells ⟨S⟩ false := by
        cases hh : j - (o0 :: o1 :: o2 :: G).length with
        | zero => rw [hh] at hj; simp only [List.getElem?_cons_zero, Option.some.injEq] at hj; exact ⟨rfl, hj.symm⟩
        | succ k => rw [hh] at hj; simp at hj
      have hjN : j = (o0 :: o1 :: o2 :: G).length := by omega
      exact .inr ⟨7, .cells ⟨S⟩ false, rfl, rfl, id, .inl rfl, ObTR.same (fun n => obSc_g0 hS), .inr ⟨by simp [hjN], by rw [hjN]; exact Nat.le_refl _, by rw [hjN]; simp⟩⟩
  · exact .cons (TR.sc (n := 3) hid hT) (.cons (TR.ground hQ) (.cons hF .nil))
  · refine TRs.tuple rfl (.cons (TR.slice (.inr ⟨by simp, Nat.le_refl _, by simp⟩)) (.cons (TR.ground rfl) .nil))
  · intro hb
    refine ⟨rfl, by simp, fun b hlt hn => ⟨hn, ?_⟩, fun b ob hj hl hr => ?_⟩
    · have : b < (o0 :: o1 :: o2 :: G).length := Nat.lt_of_lt_of_le hlt hb
      rw [List.getElem?_append_left this]
    · by_cases hlt : b < (o0 :: o1 :: o2 :: G).length
      · simp only at hj
        rw [List.getElem?_append_left hlt] at hj; exact hj
      · simp only at hj
        rw [List.getElem?_append_right (by omega)] at hj
        cases hh : b - (o0 :: o1 :: o2 :: G).length with
        | zero => rw [hh] at hj; simp only [List.getElem?_cons_zero, Option.some.injEq] at hj; subst hj; cases hr
        | succ k => rw [hh] at hj; simp at hj

/-! ### as answers -/
def p81e : Ans
  | .call 81 ⟨[.agg ⟨[.slice a n z, .slice b n2 z2, .slice d n3 z3, .int .i64 age, .int .i64 shear]⟩, .agg ⟨[.int .i64 lo, .int .i64 hi, .int .i64 tick, .int .i64 now]⟩, .func (.func 88) ⟨[]⟩ ⟨[]⟩]⟩ ⟨o0 :: o1 :: o2 :: G, base, wr⟩ =>
    some (.br (okLv a b d n z n2 z2 n3 z3 age shear lo hi tick now o0 o1 o2) (.br (Nat.blt 0 G.length) (.leaf (.ret (.tuple ⟨[.slice (some ⟨G.length + 3, 0, none⟩) 2 2, .bool (lvSm a b n n2 age shear lo hi tick now 88 0 [o0, o1, o2])]⟩) ⟨o0 :: o1 :: o2 :: (G ++ [.cells ⟨[.int .i64 (lvXl a b n n2 age shear lo hi tick now 88 0 [o0, o1, o2]), .int .i64 (lvXh a b n n2 age shear lo hi tick now 88 0 [o0, o1, o2]), .int .i64 (lvYl a b n n2 age shear lo hi tick now 88 0 [o0, o1, o2]), .int .i64 (lvYh a b n n2 age shear lo hi tick now 88 0 [o0, o1, o2])]⟩ false]), base, wr⟩)) .no) .no)
  | _ => none
def p81c (g : Nat) : Ans
  | .call 81 ⟨[.agg ⟨[.slice a n z, .slice b n2 z2, .slice d n3 z3, .int .i64 age, .int .i64 shear]⟩, .agg ⟨[.int .i64 lo, .int .i64 hi, .int .i64 tick, .int .i64 now]⟩, .func (.func g') ⟨[]⟩ ⟨[.pointer (some ⟨p, 0, none⟩)]⟩]⟩ ⟨o0 :: o1 :: o2 :: G, base, wr⟩ => (match Nat.beq g' g with
    | true => (match nthO (o0 :: o1 :: o2 :: G) p with
      | some (.cells ⟨[.int .i64 q]⟩ false) => some (.br (okLv a b d n z n2 z2 n3 z3 age shear lo hi tick now o0 o1 o2) (.br (Nat.ble 3 p) (.leaf (.ret (.tuple ⟨[.slice (some ⟨G.length + 3, 0, none⟩) 2 2, .bool (lvSm a b n n2 age shear lo hi tick now g q [o0, o1, o2])]⟩) ⟨o0 :: o1 :: o2 :: (G ++ [.cells ⟨[.int .i64 (lvXl a b n n2 age shear lo hi tick now g q [o0, o1, o2]), .int .i64 (lvXh a b n n2 age shear lo hi tick now g q [o0, o1, o2]), .int .i64 (lvYl a b n n2 age shear lo hi tick now g q [o0, o1, o2]), .int .i64 (lvYh a b n n2 age shear lo hi tick now g q [o0, o1, o2])]⟩ false]), base, wr⟩)) .no) .no)
      | _ => none)
    | false => none)
  | _ => none
theorem tkSc {a b d : Option Addr} {n z n2 z2 n3 z3 : Nat} {age shear : Int} {o0 o1 o2 : Ob} (ht : TaskAt a b d n z n2 z2 n3 z3 o0 o1 o2) : (tk5 a b d n z n2 z2 n3 z3 age shear).all (sc1 3) = true := by
  obtain ⟨_, _, _, s0, s1, s2⟩ := ht.on
  simp only [tk5, List.all_cons, List.all_nil, s0, s1, s2]
  rfl
theorem known81e : Known Try.prog p81e := by
  intro t xx o h ho
  unfold p81e at h
  split at h
  case h_2 => cases h
  rename_i a n z b n2 z2 d n3 z3 age shear lo hi tick now o0 o1 o2 G base wr
  simp only [Option.some.injEq] at h
  subst h
  simp only [AT.out] at ho
  obtain ⟨hok, ho⟩ := cond_some ho
  obtain ⟨hG, ho⟩ := cond_some ho
  simp only [Option.some.injEq] at ho
  subst ho
  obtain ⟨ht, hc, hq⟩ := dec_iff.1 hok
  obtain ⟨X4, X5, X6, hf⟩ := min81_88 (q := 0) ht hc hq
  have hG' : 0 < G.length := by simpa using hG
  have := carry81 (g := 88) (q := 0) (G := G) (base := base) (wr := wr) (p := 3) (F := .func (.func 88) ⟨[]⟩ ⟨[]⟩) hf ht.g0 ht.g1 ht.g2 (tkSc ht) rfl rfl (Nat.le_refl 3) (by simp; omega) (.inl rfl) (TRs.func .nil .nil)
  exact this
theorem known81c_117 : Known Try.prog (p81c 117) := by
  intro t xx o h ho
  unfold p81c at h
  split at h
  case h_2 => cases h
  rename_i a n z b n2 z2 d n3 z3 age shear lo hi tick now g' p o0 o1 o2 G base wr
  split at h
  case h_2 => cases h
  rename_i hgg
  obtain rfl := Nat.eq_of_beq_eq_true hgg
  split at h
  case h_2 => cases h
  rename_i q hpq
  simp only [Option.some.injEq] at h
  subst h
  simp only [AT.out] at ho
  obtain ⟨hok, ho⟩ := cond_some ho
  obtain ⟨hp, ho⟩ := cond_some ho
  simp only [Option.some.injEq] at ho
  subst ho
  obtain ⟨ht, hc, hq⟩ := dec_iff.1 hok
  rw [nthO_eq] at hpq
  obtain ⟨X4, X5, X6, hf⟩ := min81_117 (q := q) ht hc hq
  have hp' : 3 ≤ p := by simpa using hp
  exact carry81 (g := 117) (q := q) (G := G) (base := base) (wr := wr) (p := p) (F := .func (.func 117) ⟨[]⟩ ⟨[.pointer (some ⟨p, 0, none⟩)]⟩) hf ht.g0 ht.g1 ht.g2 (tkSc ht) rfl rfl hp' (lt_of_get hpq) (.inr hpq)
    (TRs.func .nil (.cons (TR.ptr ⟨by simp, by simp⟩) .nil))
theorem known81c_128 : Known Try.prog (p81c 128) := by
  intro t xx o h ho
  unfold p81c at h
  split at h
  case h_2 => cases h
  rename_i a n z b n2 z2 d n3 z3 age shear lo hi tick now g' p o0 o1 o2 G base wr
  split at h
  case h_2 => cases h
  rename_i hgg
  obtain rfl := Nat.eq_of_beq_eq_true hgg
  split at h
  case h_2 => cases h
  rename_i q hpq
  simp only [Option.some.injEq] at h
  subst h
  simp only [AT.out] at ho
  obtain ⟨hok, ho⟩ := cond_some ho
  obtain ⟨hp, ho⟩ := cond_some ho
  simp only [Option.some.injEq] at ho
  subst ho
  obtain ⟨ht, hc, hq⟩ := dec_iff.1 hok
  rw [nthO_eq] at hpq
  obtain ⟨X4, X5, X6, hf⟩ := min81_128 (q := q) ht hc hq
  have hp' : 3 ≤ p := by simpa using hp
  exact carry81 (g := 128) (q := q) (G := G) (base := base) (wr := wr) (p := p) (F := .func (.func 128) ⟨[]⟩ ⟨[.pointer (some ⟨p, 0, none⟩)]⟩) hf ht.g0 ht.g1 ht.g2 (tkSc ht) rfl rfl hp' (lt_of_get hpq) (.inr hpq)
    (TRs.func .nil (.cons (TR.ptr ⟨by simp, by simp⟩) .nil))
end
end Go.Proofs.Ytohpmnfplglbdaa

/- wind.Says: what is refused. Conditions: none. -/
namespace Go.Proofs.Ytohpmnfplglbdaa
open Go.Gh Go.RowKit
noncomputable section
/-- No answer at all. -/
def pNo (f : Nat) : Ans
  | .call g _ _ => (match Nat.beq g f with
    | true => some .no
    | false => none)
  | _ => none
theorem knownNo (f : Nat) : Known Try.prog (pNo f) := by
  intro t x o h ho
  unfold pNo at h
  split at h
  case h_2 => cases h
  split at h
  case h_2 => cases h
  simp only [Option.some.injEq] at h
  subst h
  cases ho
end
end Go.Proofs.Ytohpmnfplglbdaa

/- hangfireref01.says: the shape of the answers of its loop. Conditions: none. -/
namespace Go.Proofs.Ytohpmnfplglbdaa
open Go.Gh Go.RowKit
noncomputable section
/-- The doubt about one height, as it is reckoned. -/
noncomputable def d1W (c0 : Array Value) (off0 : Nat) (c : Array Value) (off : Nat) (age shear h tick : Int) (k : Nat) : Int :=
  IntKind.i64.wrap (IntKind.i64.wrap (getInt c0 (off0 + (getInt c (off + k * 5)).toNat * 7 + 2) + IntKind.i64.wrap (age * IntKind.i64.wrap (Int.tdiv (IntKind.i64.wrap (IntKind.i64.wrap (max (IntKind.i64.wrap (getInt c (off + k * 5 + 1) - tick)) (IntKind.i64.wrap (tick - getInt c (off + k * 5 + 1))) + 600) - 1)) 600))) +
    IntKind.i64.wrap (shear * IntKind.i64.wrap (Int.tdiv (IntKind.i64.wrap (IntKind.i64.wrap (max (IntKind.i64.wrap (getInt c (off + k * 5 + 1 + 1) - h)) (IntKind.i64.wrap (h - getInt c (off + k * 5 + 1 + 1))) + 100000) - 1)) 100000)))
noncomputable def ok85 (c0 : Array Value) (off0 n : Nat) (c : Array Value) (off n2 : Nat) (d : Option Addr) (n3 z3 : Nat) (age shear lo hi tick now xl xh yl yh : Int) (o2 : Ob) (r : Array Value) (k : Int) : Bool :=
  dec (Vld c0 off0 n c off n2 age shear ∧ Qst lo hi tick now ∧ sc1 3 (.slice d n3 z3) = true ∧ grOb o2 ∧ r.toList.all g0 = true ∧
    -100000000 ≤ xl ∧ xl ≤ 100000000 ∧ -100000000 ≤ xh ∧ xh ≤ 100000000 ∧ -100000000 ≤ yl ∧ yl ≤ 100000000 ∧ -100000000 ≤ yh ∧ yh ≤ 100000000 ∧ 0 ≤ k)
noncomputable def sh85 : Shape
  | .code none (.loop code) ⟨t, [], ⟨.cells c0 true :: .cells c true :: o2 :: .cells ⟨[.slice (some ⟨0, off0, none⟩) n 7, .slice (some ⟨1, off, none⟩) n2 5, .slice (some ⟨2, off3, none⟩) n3 1, .int .i64 age, .int .i64 shear]⟩ false :: .cells r false :: .cells ⟨[.bool sm, .int .i64 xl, .int .i64 xh, .int .i64 yl, .int .i64 yh]⟩ false :: G, 3, []⟩⟩ =>
    match Nat.beq (firstReg code) 3, lget t 1, lget t 2, lget t 3, lget t 4, lget t 5, lget t 6, lget t 12, lget t 13, lget t 14 with
    | true, .int .i64 src, .int .i64 lo, .int .i64 hi, .int .i64 tick, .int .i64 now, .pointer (some ⟨3, 0, none⟩), .pointer (some ⟨4, 0, none⟩), .pointer (some ⟨5, 0, none⟩), .int .i64 k => some fun j =>
      .br (eqCode code (theLoop Try.prog 85 0)) (.br (Nat.beq t.length 70) (.br (ok85 c0 off0 n c off n2 (some ⟨2, off3, none⟩) n3 1 age shear lo hi tick now xl xh yl yh o2 r k)
        (loopEnd 70 (.exit 0) [(12, pp 4), (13, pp 5)] ⟨.cells c0 true :: .cells c true :: o2 :: .cells ⟨[.slice (some ⟨0, off0, none⟩) n 7, .slice (some ⟨1, off, none⟩) n2 5, .slice (some ⟨2, off3, none⟩) n3 1, .int .i64 age, .int .i64 shear]⟩ false :: .cells r false ::
          .cells ⟨[.bool (hSm c0 off0 c off age shear lo hi tick now 117 src (n2 - k.toNat) k.toNat xl xh yl yh sm), .int .i64 (hXl c0 off0 c off age shear lo hi tick now 117 src (n2 - k.toNat) k.toNat xl xh yl yh sm), .int .i64 (hXh c0 off0 c off age shear lo hi tick now 117 src (n2 - k.toNat) k.toNat xl xh yl yh sm),
            .int .i64 (hYl c0 off0 c off age shear lo hi tick now 117 src (n2 - k.toNat) k.toNat xl xh yl yh sm), .int .i64 (hYh c0 off0 c off age shear lo hi tick now 117 src (n2 - k.toNat) k.toNat xl xh yl yh sm)]⟩ false :: G, 3, []⟩ j) .no) .no) .no
    | _, _, _, _, _, _, _, _, _, _ => none
  | _ => none
noncomputable def mes85 : Task → Nat
  | .code _ _ s => match lget s.t 14, nthO s.h.bl 3 with
    | .int _ i, some (.cells ⟨[_, .slice _ n2 _, _, _, _]⟩ _) => Nat.sub n2 i.toNat
    | _, _ => 0
  | _ => 0
noncomputable def pick85 : Ex → List Nat
  | .ret => []
  | _ => [12, 13]
end
end Go.Proofs.Ytohpmnfplglbdaa

/- hangfireref01.doubt. Conditions: none. -/
namespace Go.Proofs.Ytohpmnfplglbdaa
open Go.Gh Go.RowKit
noncomputable section
set_option maxRecDepth 100000
set_option linter.unusedSimpArgs false
set_option linter.unusedVariables false
theorem tree79 (o2 : Ob) (c0 c : Array Value) (off0 off n n2 : Nat) (d : Option Addr) (n3 z3 : Nat) (age shear i h tick : Int) :
    evC Try.prog (Ans.c fun _ => none) 60 (.call 79 ⟨[.agg ⟨[.slice (some ⟨0, off0, none⟩) n 7, .slice (some ⟨1, off, none⟩) n2 5, .slice d n3 z3, .int .i64 age, .int .i64 shear]⟩, .int .i64 i, .int .i64 h, .int .i64 tick]⟩ ⟨[.cells c0 true, .cells c true, o2], 3, []⟩) some =
    cond (and (decide ((0 : Int) ≤ i)) (decide (i < (Int.ofNat n2))))
    (cond (and true (rdOk c [(Leaf.int .i64), (Leaf.int .i64), (Leaf.int .i64), (Leaf.int .i64), (Leaf.int .i64)] (off + ((Int.toNat i) * 5))))
     (cond (and (decide ((0 : Int) ≤ (getInt c (off + ((Int.toNat i) * 5))))) (decide ((getInt c (off + ((Int.toNat i) * 5))) < (Int.ofNat n))))
      (cond (and true (isInt .i64 c0 ((off0 + ((Int.toNat (getInt c (off + ((Int.toNat i) * 5)))) * 7)) + 2)))
       (cond (and (decide ((Addr.mk 0 off0 Option.none) = (Addr.mk 0 off0 Option.none))) (and (decide (n = n)) true))
        (cond (and (decide ((Addr.mk 0 off0 Option.none) = (Addr.mk 0 off0 Option.none))) (and (decide (n = n)) true))
         (cond (decide ((getInt c (off + ((Int.toNat i) * 5))) = (getInt c (off + ((Int.toNat i) * 5)))))
          (cond (decide ((getInt c (off + ((Int.toNat i) * 5))) = (getInt c (off + ((Int.toNat i) * 5)))))
           (cond (and true (isInt .i64 c0 ((off0 + ((Int.toNat (getInt c (off + ((Int.toNat i) * 5)))) * 7)) + 2)))
            (cond (decide ((getInt c0 ((off0 + ((Int.toNat (getInt c (off + ((Int.toNat i) * 5)))) * 7)) + 2)) = (getInt c0 ((off0 + ((Int.toNat (getInt c (off + ((Int.toNat i) * 5)))) * 7)) + 2))))
             (cond (and true (isInt .i64 c0 ((off0 + ((Int.toNat (getInt c (off + ((Int.toNat i) * 5)))) * 7)) + 2)))
              (cond (decide ((getInt c0 ((off0 + ((Int.toNat (getInt c (off + ((Int.toNat i) * 5)))) * 7)) + 2)) = (getInt c0 ((off0 + ((Int.toNat (getInt c (off + ((Int.toNat i) * 5)))) * 7)) + 2))))
               (cond (decide (age = age))
                (cond (decide (age = age))
                 (cond (decide (shear = shear))
                  (cond (decide (shear = shear))
                   (cond (decide ((getInt c (((off + ((Int.toNat i) * 5)) + 1) + 1)) = (getInt c (((off + ((Int.toNat i) * 5)) + 1) + 1))))
                    (cond (decide ((getInt c (((off + ((Int.toNat i) * 5)) + 1) + 1)) = (getInt c (((off + ((Int.toNat i) * 5)) + 1) + 1))))
                     (cond (and (decide ((Addr.mk 0 off0 Option.none) = (Addr.mk 0 off0 Option.none))) (and (decide (n = n)) true))
                      (cond (and (decide ((Addr.mk 0 off0 Option.none) = (Addr.mk 0 off0 Option.none))) (and (decide (n = n)) true))
                       (cond (decide ((getInt c (off + ((Int.toNat i) * 5))) = (getInt c (off + ((Int.toNat i) * 5)))))
                        (cond (decide ((getInt c (off + ((Int.toNat i) * 5))) = (getInt c (off + ((Int.toNat i) * 5)))))
                         (cond (and true (isInt .i64 c0 ((off0 + ((Int.toNat (getInt c (off + ((Int.toNat i) * 5)))) * 7)) + 2)))
                          (cond (decide ((getInt c0 ((off0 + ((Int.toNat (getInt c (off + ((Int.toNat i) * 5)))) * 7)) + 2)) = (getInt c0 ((off0 + ((Int.toNat (getInt c (off + ((Int.toNat i) * 5)))) * 7)) + 2))))
                           (cond (and true (isInt .i64 c0 ((off0 + ((Int.toNat (getInt c (off + ((Int.toNat i) * 5)))) * 7)) + 2)))
                            (cond (decide ((getInt c0 ((off0 + ((Int.toNat (getInt c (off + ((Int.toNat i) * 5)))) * 7)) + 2)) = (getInt c0 ((off0 + ((Int.toNat (getInt c (off + ((Int.toNat i) * 5)))) * 7)) + 2))))
                             (cond (decide (age = age))
                              (cond (decide (age = age))
                               (cond (decide (shear = shear))
                                (cond (decide (shear = shear))
                                 (some (Out.ret (Value.int .i64 (IntKind.wrap .i64 ((IntKind.wrap .i64 ((getInt c0 ((off0 + ((Int.toNat (getInt c (off + ((Int.toNat i) * 5)))) * 7)) + 2)) + (IntKind.wrap .i64 (age * (IntKind.wrap .i64 (Int.tdiv (IntKind.wrap .i64 ((IntKind.wrap .i64 ((max (IntKind.wrap .i64 ((getInt c ((off + ((Int.toNat i) * 5)) + 1)) - tick)) (IntKind.wrap .i64 (tick - (getInt c ((off + ((Int.toNat i) * 5)) + 1))))) + (600 : Int))) - (1 : Int))) (600 : Int))))))) + (IntKind.wrap .i64 (shear * (IntKind.wrap .i64 (Int.tdiv (IntKind.wrap .i64 ((IntKind.wrap .i64 ((max (IntKind.wrap .i64 ((getInt c (((off + ((Int.toNat i) * 5)) + 1) + 1)) - h)) (IntKind.wrap .i64 (h - (getInt c (((off + ((Int.toNat i) * 5)) + 1) + 1))))) + (100000 : Int))) - (1 : Int))) (100000 : Int)))))))) (Hp.mk [(Ob.cells c0 true), (Ob.cells c true), o2] 3 [])))
                                 (none))
                                (none))
                               (none))
                              (none))
                             (none))
                            (none))
                           (none))
                          (none))
                         (none))
                        (none))
                       (none))
                      (none))
                     (none))
                    (none))
                   (none))
                  (none))
                 (none))
                (none))
               (none))
              (none))
             (none))
            (none))
           (none))
          (none))
         (none))
        (none))
       (none))
      (none))
     (none))
    (none) := by kernel_rfl
noncomputable def ok79 (c0 : Array Value) (off0 n : Nat) (c : Array Value) (off n2 : Nat) (d : Option Addr) (n3 z3 : Nat) (age shear : Int) (o2 : Ob) (i : Int) : Bool :=
  dec (Vld c0 off0 n c off n2 age shear ∧ sc1 3 (.slice d n3 z3) = true ∧ grOb o2 ∧ 0 ≤ i ∧ i < n2)
noncomputable def p79 : Ans
  | .call 79 ⟨[.agg ⟨[.slice (some ⟨0, off0, none⟩) n 7, .slice (some ⟨1, off, none⟩) n2 5, .slice d n3 z3, .int .i64 age, .int .i64 shear]⟩, .int .i64 i, .int .i64 h, .int .i64 tick]⟩ ⟨.cells c0 true :: .cells c true :: o2 :: G, base, wr⟩ =>
    some (.br (ok79 c0 off0 n c off n2 d n3 z3 age shear o2 i) (.leaf (.ret (.int .i64 (d1W c0 off0 c off age shear h tick i.toNat)) ⟨.cells c0 true :: .cells c true :: o2 :: G, base, wr⟩)) .no)
  | _ => none
theorem known79 : Known Try.prog p79 := by
  intro t xx o hh ho
  unfold p79 at hh
  split at hh
  case h_2 => cases hh
  rename_i off0 n off n2 d n3 z3 age shear i h tick c0 c o2 G base wr
  simp only [Option.some.injEq] at hh
  subst hh
  simp only [AT.out] at ho
  obtain ⟨hok, ho⟩ := cond_some ho
  simp only [Option.some.injEq] at ho
  subst ho
  obtain ⟨hv, hd, ho2, hi0, hin⟩ := dec_iff.1 hok
  have hok2 : ∀ (l : Nat) (a : Addr) (z : Nat), a.block < 3 → okR0 3 (.slice (some a) l z) = true := fun l a z h => by simp [okR0, okA, h]
  have hdr : okR0 3 (.slice d n3 z3) = true := by
    cases d with
    | none => rfl
    | some y => simp only [sc1, sc0, decide_eq_true_eq] at hd; exact hok2 _ _ _ hd
  have hren : ren0 (fun i => if i = 0 then 0 else if i = 1 then 1 else 2) (.slice d n3 z3) = .slice d n3 z3 := by
    cases d with
    | none => rfl
    | some y =>
      obtain ⟨b, off, s⟩ := y
      simp only [sc1, sc0, decide_eq_true_eq] at hd
      simp only [ren0, renA]
      congr 3
      split
      · omega
      · split <;> omega
  have h2 : ObAt o2 2 (.cells c0 true :: .cells c true :: o2 :: G) := by
    rcases ho2 with rfl | ⟨c3, rfl, hg⟩
    · exact .inl rfl
    · exact .inr ⟨c3, rfl, hg, true, rfl⟩
  refine frame3 (args1 := ⟨[.agg ⟨[.slice (some ⟨0, off0, none⟩) n 7, .slice (some ⟨1, off, none⟩) n2 5, .slice d n3 z3, .int .i64 age, .int .i64 shear]⟩, .int .i64 i, .int .i64 h, .int .i64 tick]⟩) (o0 := .cells c0 true) (o1 := .cells c true) (o2 := o2) 0 1 2 ((Known.nothing _).fact noNG mixed (n := 60) ?_) rfl
    (.inr ⟨c0, rfl, hv.g0.1, true, rfl⟩) (.inr ⟨c, rfl, hv.g1.1, true, rfl⟩) h2 ?_ ?_
  · refine (tree79 ..).trans ?_
    obtain ⟨k, rfl⟩ := Int.eq_ofNat_of_zero_le hi0
    have hkn2 : k < n2 := by omega
    obtain ⟨s0, s1⟩ := hv.src k hkn2
    have hsn : (getInt c (off + k * 5)).toNat < n := by omega
    have rd5 : rdOk c [.int .i64, .int .i64, .int .i64, .int .i64, .int .i64] (off + k * 5) = true := hv.g1.2 k hkn2
    have rd7 : rdOk c0 [.str, .int .i64, .int .i64, .int .i64, .int .i64, .int .i64, .int .i64] (off0 + (getInt c (off + k * 5)).toNat * 7) = true := hv.g0.2 _ hsn
    have is2 : isInt .i64 c0 (off0 + (getInt c (off + k * 5)).toNat * 7 + 2) = true := by
      have := rd7
      simp only [rdOk, rdLeaf, Bool.and_eq_true] at this
      exact this.2.2.1
    simp only [Int.ofNat_eq_natCast, Int.toNat_natCast, hin, s0, s1, rd5, is2, decide_true, Bool.and_self, cond_true, Int.natCast_nonneg]
    rfl
  · simp only [List.map_toArray, List.map_cons, List.map_nil, ren1, hren]
    rfl
  · simp only [List.all_cons, List.all_nil, okR1, hdr]; rfl
end
end Go.Proofs.Ytohpmnfplglbdaa

