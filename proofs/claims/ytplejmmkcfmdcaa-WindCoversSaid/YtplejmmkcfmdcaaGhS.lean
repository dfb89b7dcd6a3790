/- Regions that leave their order open: every order that is drawn ends as the one reckoned. Conditions: none. -/
import Derived.Test.YtplejmmkcfmdcaaGhR
namespace Go.Gh
open Go.RowKit
noncomputable section

structure Plan (P : Program) (sf : Self) (os : Array Oper) (clo : List Nat) (recs : List Rec) (T0 : List Value) (h0 : Hp) (T1 : List Value) (h1 : Hp) : Prop where
  tr : Tr P sf os recs T0 h0 T1 h1
  pw : recs.Pairwise (fun a b => a.i ≠ b.i ∧ cl clo a.i b.i = false)
  pre : ∀ (pre : List Rec) (q : Rec) (post : List Rec), recs = pre ++ q :: post → ∀ k, cl clo q.i k = true → ∃ r ∈ pre, r.i = k
  all : ∀ i, i < os.size → ∃ r ∈ recs, r.i = i
  clos : ∀ i, i < os.size → ∀ k, cl clo i k = true ↔ ∃ d ∈ ((os[i]?).map depsOf).getD [], d = k ∨ cl clo d k = true
  lt : ∀ r ∈ recs, r.i < os.size
  pair : ∀ r ∈ recs, ∀ q ∈ recs, pairOk P os clo r q = true

theorem plan_of {P : Program} {self : Self} {os : Array Oper} {order clo : List Nat} {recs : List Rec} {T0 T1 : List Value} {h0 h1 : Hp}
    (hp : planOk os order clo = true) (hr : drun P self os order T0 h0 = some (recs, T1, h1)) (hc : dchk P os clo recs = true) : Plan P self os clo recs T0 h0 T1 h1 := by
  simp only [planOk, Bool.and_eq_true, List.all_eq_true, List.mem_range, beq_iff_eq, decide_eq_true_eq, List.contains_iff_mem] at hp
  obtain ⟨⟨⟨p1, p2⟩, p3⟩, p4⟩ := hp
  obtain ⟨t1, rfl⟩ := drun_tr _ _ _ _ _ _ hr
  obtain ⟨o1, o2, o3⟩ := orderOk_spec p2
  refine ⟨t1, ?_, ?_, ?_, ?_, ?_, ?_⟩
  · rw [List.pairwise_map] at o2; exact o2
  · intro pre q post e k hk
    rcases o3 (pre.map (·.i)) q.i (post.map (·.i)) (by rw [e]; simp) k hk with h | h
    · simp at h
    · obtain ⟨r, hr, e⟩ := List.mem_map.1 h
      exact ⟨r, hr, e⟩
  · intro i hi
    obtain ⟨r, hr, e⟩ := List.mem_map.1 (p1 i hi)
    exact ⟨r, hr, e⟩
  · intro i hi k
    unfold cl
    rw [p3 i hi, cloOf_bit]
    exact Iff.rfl
  · intro r hr
    exact p4 r.i (List.mem_map.2 ⟨r, hr, rfl⟩)
  · intro r hr q hq
    simp only [dchk, List.all_eq_true] at hc
    exact hc r hr q hq

def Good (clo : List Nat) (D : Nat → Bool) (q : Nat) : Prop := (∀ j k, D j = true → cl clo j k = true → D k = true) ∧ D q = false ∧ ∀ k, cl clo q k = true → D k = true

theorem Good.agree {clo : List Nat} {D D' : Nat → Bool} {q r : Nat} (h : Good clo D q) (h' : Good clo D' q) (hc : cl clo q r = true ∨ cl clo r q = true) : D r = D' r := by
  rcases hc with hc | hc
  · rw [h.2.2 r hc, h'.2.2 r hc]
  · have f : ∀ {D : Nat → Bool}, Good clo D q → D r = false := fun {D} h => by
      cases e : D r with
      | false => rfl
      | true => have := h.1 r q e hc; rw [h.2.1] at this; cases this
    rw [f h, f h']

section
variable {P : Program} {self : Self} {os : Array Oper} {clo : List Nat} {recs : List Rec} {T0 T1 : List Value} {h0 h1 : Hp}

def before (pre : List Rec) (i : Nat) : Bool := pre.any fun r => r.i == i
theorem before_iff {pre : List Rec} {i : Nat} : before pre i = true ↔ ∃ r ∈ pre, r.i = i := by simp [before]


theorem Plan.good {pre post : List Rec} {q : Rec} (p : Plan P self os clo recs T0 h0 T1 h1) (e : recs = pre ++ q :: post) : Good clo (before pre) q.i := by
  refine ⟨?_, ?_, ?_⟩
  · intro j k hj hk
    obtain ⟨r, hr, rfl⟩ := before_iff.1 hj
    obtain ⟨p1, p2, rfl⟩ := List.append_of_mem hr
    obtain ⟨s, hs, rfl⟩ := p.pre p1 r (p2 ++ q :: post) (by rw [e]; simp) k hk
    exact before_iff.2 ⟨s, by simp [hs], rfl⟩
  · have := p.pw
    rw [e, List.pairwise_append] at this
    cases hb : before pre q.i with
    | false => rfl
    | true =>
      obtain ⟨r, hr, he⟩ := before_iff.1 hb
      exact absurd he (this.2.2 r hr q (by simp)).1
  · intro k hk
    obtain ⟨s, hs, rfl⟩ := p.pre pre q post e k hk
    exact before_iff.2 ⟨s, hs, rfl⟩

theorem Plan.other {pre post : List Rec} {q : Rec} (p : Plan P self os clo recs T0 h0 T1 h1) (e : recs = pre ++ q :: post) : (∀ r ∈ pre, r.i ≠ q.i) ∧ (∀ r ∈ post, q.i ≠ r.i) ∧ ∀ r ∈ pre, ∀ s ∈ post, r.i ≠ s.i := by
  have := p.pw
  rw [e, List.pairwise_append, List.pairwise_cons] at this
  obtain ⟨_, ⟨h2, _⟩, h3⟩ := this
  exact ⟨fun r hr => (h3 r hr q (by simp)).1, fun r hr => (h2 r hr).1, fun r hr s hs => (h3 r hr s (by simp [hs])).1⟩

theorem Plan.atT {pre post : List Rec} {q : Rec} (p : Plan P self os clo recs T0 h0 T1 h1) (e : recs = pre ++ q :: post) : TD (before pre) recs T0 = q.T := by
  obtain ⟨o1, o2, o3⟩ := p.other e
  have ht := p.tr
  rw [e] at ht ⊢
  rw [ht.split.1, TD_append, TD_cons, (p.good e).2.1, TD_congr (D := before pre) (D' := fun _ => true) T0 fun r hr => before_iff.2 ⟨r, hr, rfl⟩]
  refine TD_none _ fun r hr => ?_
  cases hb : before pre r.i with
  | false => rfl
  | true =>
    obtain ⟨s, hs, he⟩ := before_iff.1 hb
    exact absurd he (o3 s hs r hr)

theorem Plan.atH {pre post : List Rec} {q : Rec} (p : Plan P self os clo recs T0 h0 T1 h1) (e : recs = pre ++ q :: post) : HD (before pre) recs h0 = q.hb := by
  obtain ⟨o1, o2, o3⟩ := p.other e
  have ht := p.tr
  rw [e] at ht ⊢
  rw [ht.split.2, HD_append, HD_cons, (p.good e).2.1, HD_congr (D := before pre) (D' := fun _ => true) h0 fun r hr _ => before_iff.2 ⟨r, hr, rfl⟩]
  refine HD_none _ fun r hr _ => ?_
  cases hb : before pre r.i with
  | false => rfl
  | true =>
    obtain ⟨s, hs, he⟩ := before_iff.1 hb
    exact absurd he (o3 s hs r hr)

theorem not_unord {i j : Nat} (h : (!unord clo i j) = true) : cl clo i j = true ∨ cl clo j i = true := by
  unfold unord at h
  cases h1 : cl clo i j with
  | true => exact .inl rfl
  | false =>
    cases h2 : cl clo j i with
    | true => exact .inr rfl
    | false => rw [h1, h2] at h; cases h

theorem Plan.look {D : Nat → Bool} {pre post : List Rec} {q : Rec} (p : Plan P self os clo recs T0 h0 T1 h1) (e : recs = pre ++ q :: post) (hD : Good clo D q.i) {t : Tmp} (ht : t ∈ q.o.looksAt os) : lget (TD D recs T0) t = lget q.T t := by
  rw [← p.atT e]
  refine TD_get rfl rfl fun r hr hd => ?_
  have hp := p.pair r hr q (by rw [e]; simp)
  simp only [pairOk, hd, Bool.or_eq_true, beq_iff_eq, Bool.and_eq_true] at hp
  rcases hp with hp | hp
  · rw [hp, hD.2.1, (p.good e).2.1]
  · refine hD.agree (p.good e) ?_
    rcases hp.1.2 with (h | h) | h
    · rw [show (looks os q.o).contains t = true from by rw [List.contains_iff_mem]; exact ht] at h; cases h
    · exact .inl h
    · exact .inr h

theorem Plan.eval {D : Nat → Bool} {pre post : List Rec} {q : Rec} (p : Plan P self os clo recs T0 h0 T1 h1) (e : recs = pre ++ q :: post) (hD : Good clo D q.i) : ∀ x ∈ q.o.op.operands, evalT (TD D recs T0) x = evalT q.T x := by
  intro x hx
  cases x with
  | tmp t => exact p.look e hD (List.mem_append_left _ (List.mem_filterMap.2 ⟨.tmp t, by simpa using hx, rfl⟩))
  | const v => rfl
  | global g => rfl
  | func f => rfl

theorem Plan.wanted {D : Nat → Bool} {pre post : List Rec} {q : Rec} (p : Plan P self os clo recs T0 h0 T1 h1) (e : recs = pre ++ q :: post) (hD : Good clo D q.i) : wantedT os (TD D recs T0) q.o = wantedT os q.T q.o := by
  unfold wantedT
  cases hg : q.o.guard with
  | none => rfl
  | some g =>
    obtain ⟨j, want⟩ := g
    simp only
    cases hd : (os[j]?).bind (·.dst) with
    | none => rfl
    | some d =>
      simp only
      rw [p.look e hD (t := d) (List.mem_append_right _ (by simp [hg, hd]))]

theorem Plan.nextT {D D' : Nat → Bool} {pre post : List Rec} {q : Rec} (p : Plan P self os clo recs T0 h0 T1 h1) (e : recs = pre ++ q :: post) (hD : D q.i = false) (h1' : D' q.i = true) (h2 : ∀ j, j ≠ q.i → D' j = D j) : TD D' recs T0 = put (TD D recs T0) q.o.dst q.v := by
  obtain ⟨o1, o2, o3⟩ := p.other e
  have hpair : ∀ r ∈ post, ∀ t, q.o.dst = some t → r.o.dst ≠ some t := fun r hr t ht => by
    have hp := p.pair q (by rw [e]; simp) r (by rw [e]; simp [hr])
    simp only [pairOk, ht, Bool.or_eq_true, beq_iff_eq, Bool.and_eq_true] at hp
    rcases hp with hp | hp
    · exact absurd hp (o2 r hr)
    · simpa using hp.1.1
  rw [e, TD_append, TD_append, TD_cons, TD_cons, hD, h1', TD_congr (D := D') (D' := D) T0 fun r hr => h2 _ (o1 r hr), TD_congr (D := D') (D' := D) _ fun r hr => h2 _ (Ne.symm (o2 r hr))]
  simp only [if_true, Bool.false_eq_true, if_false]
  exact TD_put hpair

theorem Plan.nextQuiet {D D' : Nat → Bool} {q : Rec} (p : Plan P self os clo recs T0 h0 T1 h1) (hq : q ∈ recs) (hl : q.loud = false) (h2 : ∀ j, j ≠ q.i → D' j = D j) : HD D' recs h0 = HD D recs h0 := by
  obtain ⟨pre, post, e⟩ := List.append_of_mem hq
  obtain ⟨o1, o2, o3⟩ := p.other e
  refine HD_congr _ fun r hr rl => h2 _ fun he => ?_
  rw [e] at hr
  rcases List.mem_append.1 hr with hr | hr
  · exact o1 r hr he
  · rcases List.mem_cons.1 hr with rfl | hr
    · rw [hl] at rl; cases rl
    · exact o2 r hr he.symm

theorem Plan.loudComp {q r : Rec} (p : Plan P self os clo recs T0 h0 T1 h1) (hq : q ∈ recs) (hr : r ∈ recs) (hlq : q.loud = true) (hlr : r.loud = true) : r.i = q.i ∨ cl clo q.i r.i = true ∨ cl clo r.i q.i = true := by
  have hp := p.pair r hr q hq
  simp only [pairOk, hlq, hlr, Bool.or_eq_true, beq_iff_eq, Bool.and_eq_true] at hp
  rcases hp with hp | hp
  · exact .inl hp
  · refine .inr ?_
    have := hp.2
    simp at this
    exact (not_unord (by simpa using this)).symm

theorem Plan.atLoud {D : Nat → Bool} {pre post : List Rec} {q : Rec} (p : Plan P self os clo recs T0 h0 T1 h1) (e : recs = pre ++ q :: post) (hD : Good clo D q.i) (hl : q.loud = true) : HD D recs h0 = q.hb := by
  have hq : q ∈ recs := by rw [e]; simp
  rw [← p.atH e]
  refine HD_congr _ fun r hr rl => ?_
  rcases p.loudComp hq hr hl rl with h | h
  · rw [h, hD.2.1, (p.good e).2.1]
  · exact hD.agree (p.good e) h

theorem Plan.nextLoud {D D' : Nat → Bool} {pre post : List Rec} {q : Rec} (p : Plan P self os clo recs T0 h0 T1 h1) (e : recs = pre ++ q :: post) (hD : Good clo D q.i) (hl : q.loud = true) (h1' : D' q.i = true) (h2 : ∀ j, j ≠ q.i → D' j = D j) : HD D' recs h0 = q.ha := by
  have hq : q ∈ recs := by rw [e]; simp
  obtain ⟨o1, o2, o3⟩ := p.other e
  have hpw := p.pw
  rw [e, List.pairwise_append, List.pairwise_cons] at hpw
  have hpost : ∀ r ∈ post, r.loud = true → D' r.i = false := fun r hr rl => by
    rw [h2 _ (Ne.symm (o2 r hr))]
    rcases p.loudComp hq (by rw [e]; simp [hr]) hl rl with h | h | h
    · exact absurd h.symm (o2 r hr)
    · rw [(hpw.2.1.1 r hr).2] at h; cases h
    · cases hc : D r.i with
      | false => rfl
      | true => have := hD.1 _ _ hc h; rw [hD.2.1] at this; cases this
  rw [e, HD_append, HD_cons, h1', hl]
  exact HD_none _ hpost

theorem Plan.read {D : Nat → Bool} {pre post : List Rec} {q : Rec} (p : Plan P self os clo recs T0 h0 T1 h1) (e : recs = pre ++ q :: post) (hD : Good clo D q.i) (hl : q.loud = false) (hw : wantedT os q.T q.o = true) (ha : aread P (evalT q.T) q.hb.bl q.o = some q.v) : aread P (evalT q.T) (HD D recs h0).bl q.o = some q.v := by
  cases hm : memOp q.o.op with
  | false => rw [aread_heap hm _ q.hb.bl]; exact ha
  | true =>
    have hq : q ∈ recs := by rw [e]; simp
    have hg := p.good e
    have hpw : recs.Pairwise (fun a b => a.loud = true → b.loud = true → (D b.i = true → D a.i = true) ∧ (before pre b.i = true → before pre a.i = true)) := by
      refine List.Pairwise.imp_of_mem ?_ p.pw
      intro a b ha hb hab al bl
      have hc : cl clo b.i a.i = true := by
        rcases p.loudComp ha hb al bl with h | h | h
        · exact absurd h.symm hab.1
        · rw [hab.2] at h; cases h
        · exact h
      exact ⟨fun h => hD.1 _ _ h hc, fun h => hg.1 _ _ h hc⟩
    rcases HD_two (D := D) (D' := before pre) p.tr hpw with h | ⟨r, hr, rl, hne, hh⟩
    · rw [h, p.atH e]; exact ha
    · have hp := p.pair r hr q hq
      simp only [pairOk, Bool.or_eq_true, beq_iff_eq, Bool.and_eq_true] at hp
      rcases hp with hp | hp
      · exact absurd (by rw [hp, hD.2.1, hg.2.1]) hne
      · have hu : unord clo r.i q.i = true := by
          cases hu : unord clo r.i q.i with
          | true => rfl
          | false => exact absurd (hD.agree hg (not_unord (by rw [hu]; rfl)).symm) hne
        have h2 := hp.2
        simp only [rl, hl, hm, hu, hw] at h2
        simp at h2
        rcases hh with hh | hh
        · rw [hh]; exact same_eq h2.2
        · rw [hh]; exact same_eq h2.1
end
end
end Go.Gh
