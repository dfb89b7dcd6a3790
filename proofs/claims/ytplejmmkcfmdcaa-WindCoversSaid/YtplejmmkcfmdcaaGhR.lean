/- Regions that leave their order open: the plan, and what one step of any order does. Conditions: none. -/
import Derived.Test.YtplejmmkcfmdcaaGhQ
namespace Go.Gh
open Go.RowKit
noncomputable section

/-! ### Bits -/
theorem bit_sub {a b k : Nat} (h : (a &&& b == a) = true) (hk : a.testBit k = true) : b.testBit k = true := by
  have e : a &&& b = a := by simpa using h
  have := congrArg (fun x => x.testBit k) e
  simp only [Nat.testBit_and, hk, Bool.true_and] at this
  exact this
theorem bit_add (m i k : Nat) : (m ||| 1 <<< i).testBit k = (m.testBit k || decide (i = k)) := by
  rw [Nat.testBit_or, Nat.one_shiftLeft, Nat.testBit_two_pow]

theorem orderOk_spec {clo : List Nat} : ∀ {l : List Nat} {seen : Nat}, orderOk clo l seen = true →
    (∀ i ∈ l, seen.testBit i = false) ∧ l.Pairwise (fun a b => a ≠ b ∧ cl clo a b = false) ∧
    ∀ (pre : List Nat) (a : Nat) (post : List Nat), l = pre ++ a :: post → ∀ k, cl clo a k = true → seen.testBit k = true ∨ k ∈ pre
  | [], _, _ => ⟨by simp, .nil, by intro pre a post h; simp at h⟩
  | i :: r, seen, h => by
    simp only [orderOk, Bool.and_eq_true, Bool.not_eq_true'] at h
    obtain ⟨⟨h1, h2⟩, h3⟩ := h
    obtain ⟨a1, a2, a3⟩ := orderOk_spec h3
    have hb : ∀ b ∈ r, seen.testBit b = false ∧ i ≠ b := fun b hb => by
      have := a1 b hb
      rw [bit_add] at this
      simpa using this
    refine ⟨?_, ?_, ?_⟩
    · intro j hj
      rcases List.mem_cons.1 hj with rfl | hj
      · exact h2
      · exact (hb j hj).1
    · refine .cons (fun b hbm => ⟨(hb b hbm).2, ?_⟩) a2
      cases hc : cl clo i b with
      | false => rfl
      | true =>
        have := bit_sub h1 hc
        rw [(hb b hbm).1] at this; cases this
    · intro pre a post he k hk
      cases pre with
      | nil =>
        simp only [List.nil_append, List.cons.injEq] at he
        obtain ⟨rfl, rfl⟩ := he
        exact .inl (bit_sub h1 hk)
      | cons p pre =>
        simp only [List.cons_append, List.cons.injEq] at he
        obtain ⟨rfl, rfl⟩ := he
        rcases a3 pre a post rfl k hk with h | h
        · rw [bit_add] at h
          simp only [Bool.or_eq_true, decide_eq_true_eq] at h
          rcases h with h | h
          · exact .inl h
          · exact .inr (by simp [h])
        · exact .inr (by simp [h])

theorem fold_bit {clo : List Nat} : ∀ (ds : List Nat) (m k : Nat), (ds.foldl (fun m j => m ||| (1 <<< j) ||| clo.getD j 0) m).testBit k = (m.testBit k || ds.any fun d => decide (d = k) || cl clo d k)
  | [], m, k => by simp
  | d :: ds, m, k => by
    rw [List.foldl_cons, fold_bit ds, Nat.testBit_or, bit_add, List.any_cons]
    simp only [cl, Bool.or_assoc]
theorem cloOf_bit {clo ds : List Nat} {k : Nat} : (cloOf clo ds).testBit k = true ↔ ∃ d ∈ ds, d = k ∨ cl clo d k = true := by
  unfold cloOf
  rw [fold_bit]
  simp

/-! ### The run reckoned -/
def RecOk (P : Program) (self : Self) (os : Array Oper) (r : Rec) : Prop :=
  (wantedT os r.T r.o = false ∧ r.v = undef ∧ r.ha = r.hb ∧ r.loud = false) ∨
  (wantedT os r.T r.o = true ∧ aread P (evalT r.T) r.hb.bl r.o = some r.v ∧ r.ha = r.hb ∧ r.loud = false) ∨
  (wantedT os r.T r.o = true ∧ aread P (evalT r.T) r.hb.bl r.o = none ∧ dloud P self (evalT r.T) r.hb r.o = some (r.v, r.ha) ∧ r.loud = true)

theorem RecOk.quiet {P : Program} {self : Self} {os : Array Oper} {r : Rec} (h : RecOk P self os r) (hl : r.loud = false) : r.ha = r.hb := by
  rcases h with ⟨_, _, h, _⟩ | ⟨_, _, h, _⟩ | ⟨_, _, _, h⟩
  · exact h
  · exact h
  · rw [hl] at h; cases h

inductive Tr (P : Program) (self : Self) (os : Array Oper) : List Rec → List Value → Hp → List Value → Hp → Prop
  | nil (T : List Value) (h : Hp) : Tr P self os [] T h T h
  | cons {r : Rec} {l : List Rec} {T' : List Value} {h' : Hp} (ho : os[r.i]? = some r.o) (hr : RecOk P self os r) (ht : Tr P self os l (put r.T r.o.dst r.v) r.ha T' h') : Tr P self os (r :: l) r.T r.hb T' h'

section
variable {P : Program} {self : Self} {os : Array Oper}

theorem consR_some {r : Rec} {y : Option (List Rec × List Value × Hp)} {recs : List Rec} {T : List Value} {h : Hp} (e : consR r y = some (recs, T, h)) : ∃ l, y = some (l, T, h) ∧ recs = r :: l := by
  cases y with
  | none => cases e
  | some y =>
    obtain ⟨l, T1, h1⟩ := y
    simp only [consR, Option.some.injEq, Prod.mk.injEq] at e
    obtain ⟨rfl, rfl, rfl⟩ := e
    exact ⟨l, rfl, rfl⟩

theorem drun_tr : ∀ (l : List Nat) (T : List Value) (h : Hp) (recs : List Rec) (T' : List Value) (h' : Hp), drun P self os l T h = some (recs, T', h') → Tr P self os recs T h T' h' ∧ recs.map (·.i) = l
  | [], T, h, recs, T', h', e => by
    simp only [drun, Option.some.injEq, Prod.mk.injEq] at e
    obtain ⟨rfl, rfl, rfl⟩ := e
    exact ⟨.nil T h, rfl⟩
  | i :: r, T, h, recs, T', h', e => by
    simp only [drun, putK_eq, forceH_eq, forceV_eq] at e
    split at e
    · cases e
    rename_i o ho
    split at e
    · rename_i hw
      split at e
      · rename_i v hv
        obtain ⟨l, e2, rfl⟩ := consR_some e
        obtain ⟨h1, h2⟩ := drun_tr r _ _ _ _ _ e2
        exact ⟨.cons (r := ⟨i, o, T, v, h, h, false⟩) ho (.inr (.inl ⟨hw, hv, rfl, rfl⟩)) h1, by simp [h2]⟩
      · rename_i hv
        split at e
        · rename_i v h1 hv1
          obtain ⟨l, e2, rfl⟩ := consR_some e
          obtain ⟨h1', h2⟩ := drun_tr r _ _ _ _ _ e2
          exact ⟨.cons (r := ⟨i, o, T, v, h, h1, true⟩) ho (.inr (.inr ⟨hw, hv, hv1, rfl⟩)) h1', by simp [h2]⟩
        · cases e
    · rename_i hw
      obtain ⟨l, e2, rfl⟩ := consR_some e
      obtain ⟨h1, h2⟩ := drun_tr r _ _ _ _ _ e2
      exact ⟨.cons (r := ⟨i, o, T, undef, h, h, false⟩) ho (.inl ⟨by simpa using hw, rfl, rfl, rfl⟩) h1, by simp [h2]⟩

theorem dloud_nx {ρ : Operand → Value} {h h' : Hp} {o : Oper} {v : Value} (hd : dloud P self ρ h o = some (v, h')) :
    aloud P ρ h o = some (.val v h') ∨ (∃ f args, aloud P ρ h o = some (.enter f args) ∧ self (.call f args h) = some (.ret v h')) ∨
    ∃ l args, aloud P ρ h o = some (.yield l args) ∧ self (.round l args h) = some (.ret v h') := by
  unfold dloud at hd
  split at hd
  · rename_i v1 h1 e
    simp only [Option.some.injEq, Prod.mk.injEq] at hd
    obtain ⟨rfl, rfl⟩ := hd
    exact .inl e
  · rename_i f args e
    split at hd
    · rename_i v1 h1 e1
      simp only [Option.some.injEq, Prod.mk.injEq] at hd
      obtain ⟨rfl, rfl⟩ := hd
      exact .inr (.inl ⟨f, args, e, e1⟩)
    · cases hd
  · rename_i l args e
    split at hd
    · rename_i v1 h1 e1
      simp only [Option.some.injEq, Prod.mk.injEq] at hd
      obtain ⟨rfl, rfl⟩ := hd
      exact .inr (.inr ⟨l, args, e, e1⟩)
    · cases hd
  · cases hd

theorem RecOk.pres (hs : SelfOk P self) {r : Rec} (h : RecOk P self os r) (hb : r.hb.base ≤ r.hb.bl.length) : Pres r.hb r.ha := by
  rcases h with ⟨_, _, h, _⟩ | ⟨_, _, h, _⟩ | ⟨_, hn, h, _⟩
  · rw [h]; exact Pres.refl _
  · rw [h]; exact Pres.refl _
  · rcases dloud_nx h with h | ⟨f, args, _, h⟩ | ⟨l, args, _, h⟩
    · exact runOps_sound.aop_pres hb (by unfold aop; rw [hn]; exact h)
    · exact (hs _ _ h hb).1
    · exact (hs _ _ h hb).1

theorem Tr.pres (hs : SelfOk P self) {l : List Rec} {T T' : List Value} {h h' : Hp} (ht : Tr P self os l T h T' h') : h.base ≤ h.bl.length → Pres h h' ∧ ∀ r ∈ l, r.hb.base ≤ r.hb.bl.length := by
  induction ht with
  | nil => intro _; exact ⟨Pres.refl _, by simp⟩
  | cons ho hr ht ih =>
    intro hb
    have hp := hr.pres hs hb
    obtain ⟨h1, h2⟩ := ih (by rw [hp.base]; exact Nat.le_trans hb hp.len)
    refine ⟨hp.trans h1, ?_⟩
    intro q hq
    rcases List.mem_cons.1 hq with rfl | hq
    · exact hb
    · exact h2 q hq

theorem Tr.recs {l : List Rec} {T T' : List Value} {h h' : Hp} (ht : Tr P self os l T h T' h') : ∀ r ∈ l, os[r.i]? = some r.o ∧ RecOk P self os r := by
  induction ht with
  | nil => simp
  | cons ho hr ht ih =>
    intro q hq
    rcases List.mem_cons.1 hq with rfl | hq
    · exact ⟨ho, hr⟩
    · exact ih q hq

theorem Tr.split {pre : List Rec} : ∀ {q : Rec} {post : List Rec} {T T' : List Value} {h h' : Hp}, Tr P self os (pre ++ q :: post) T h T' h' → q.T = TD (fun _ => true) pre T ∧ q.hb = HD (fun _ => true) pre h := by
  induction pre with
  | nil => intro q post T T' h h' ht; cases ht; exact ⟨rfl, rfl⟩
  | cons r pre ih =>
    intro q post T T' h h' ht
    cases ht with
    | cons ho hr ht =>
      obtain ⟨h1, h2⟩ := ih ht
      refine ⟨h1, ?_⟩
      rw [h2, HD_cons]
      cases hl : r.loud with
      | true => simp
      | false => simp [hr.quiet hl]

theorem Tr.last {l : List Rec} {T T' : List Value} {h h' : Hp} (ht : Tr P self os l T h T' h') : T' = TD (fun _ => true) l T ∧ h' = HD (fun _ => true) l h := by
  induction ht with
  | nil => exact ⟨rfl, rfl⟩
  | @cons r l T' h' ho hr ht ih =>
    refine ⟨ih.1, ?_⟩
    rw [ih.2, HD_cons]
    cases hl : r.loud with
    | true => simp
    | false => simp [hr.quiet hl]

theorem TD_none {D : Nat → Bool} : ∀ {l : List Rec} (T : List Value), (∀ r ∈ l, D r.i = false) → TD D l T = T
  | [], _, _ => rfl
  | r :: l, T, h => by
    rw [TD_cons, h r (by simp)]
    exact TD_none _ fun r hr => h r (by simp [hr])
theorem HD_none {D : Nat → Bool} : ∀ {l : List Rec} (h0 : Hp), (∀ r ∈ l, r.loud = true → D r.i = false) → HD D l h0 = h0
  | [], _, _ => rfl
  | r :: l, h0, h => by
    rw [HD_cons]
    have e : (D r.i && r.loud) = false := by
      cases hl : r.loud with
      | false => simp
      | true => rw [h r (by simp) hl]; rfl
    rw [e]
    exact HD_none _ fun r hr => h r (by simp [hr])
theorem HD_last {D : Nat → Bool} : ∀ (l : List Rec) (h : Hp), HD D l h = h ∨ ∃ r ∈ l, r.loud = true ∧ D r.i = true ∧ HD D l h = r.ha
  | [], _ => .inl rfl
  | r :: l, h => by
    rw [HD_cons]
    rcases HD_last l (if D r.i && r.loud then r.ha else h) with e | ⟨q, h1, h2, h3, h4⟩
    · rw [e]
      by_cases hc : (D r.i && r.loud) = true
      · rw [if_pos hc]
        simp only [Bool.and_eq_true] at hc
        exact .inr ⟨r, by simp, hc.2, hc.1, rfl⟩
      · rw [if_neg hc]; exact .inl rfl
    · exact .inr ⟨q, by simp [h1], h2, h3, h4⟩

theorem HD_two {D D' : Nat → Bool} {l : List Rec} {T T' : List Value} {h h' : Hp} (ht : Tr P self os l T h T' h') :
    l.Pairwise (fun a b => a.loud = true → b.loud = true → (D b.i = true → D a.i = true) ∧ (D' b.i = true → D' a.i = true)) →
    HD D l h = HD D' l h ∨ ∃ r ∈ l, r.loud = true ∧ D r.i ≠ D' r.i ∧ (HD D l h = r.ha ∨ HD D l h = r.hb) := by
  induction ht with
  | nil => intro _; exact .inl rfl
  | @cons r l T' h' ho hr ht ih =>
    intro hp
    rw [List.pairwise_cons] at hp
    obtain ⟨h1, h2⟩ := hp
    rw [HD_cons, HD_cons]
    have lift : ∀ X Y : Hp, (X = Y ∨ ∃ q ∈ l, q.loud = true ∧ D q.i ≠ D' q.i ∧ (X = q.ha ∨ X = q.hb)) → (X = Y ∨ ∃ q ∈ r :: l, q.loud = true ∧ D q.i ≠ D' q.i ∧ (X = q.ha ∨ X = q.hb)) := fun X Y hh => by
      rcases hh with hh | ⟨q, q1, q2⟩
      · exact .inl hh
      · exact .inr ⟨q, by simp [q1], q2⟩
    cases hl : r.loud with
    | false =>
      rw [hr.quiet hl] at ih
      simpa [hl] using lift _ _ (ih h2)
    | true =>
      have n1 : D r.i = false → ∀ q ∈ l, q.loud = true → D q.i = false := fun hd q hq ql => by
        cases hc : D q.i with
        | false => rfl
        | true => rw [((h1 q hq hl ql).1 hc)] at hd; cases hd
      have n2 : D' r.i = false → ∀ q ∈ l, q.loud = true → D' q.i = false := fun hd q hq ql => by
        cases hc : D' q.i with
        | false => rfl
        | true => rw [((h1 q hq hl ql).2 hc)] at hd; cases hd
      cases hd : D r.i with
      | false =>
        cases hd' : D' r.i with
        | false =>
          left
          simp only [Bool.false_and, Bool.false_eq_true, if_false]
          rw [HD_none _ (n1 hd), HD_none _ (n2 hd')]
        | true =>
          right
          refine ⟨r, by simp, hl, by rw [hd, hd']; simp, .inr ?_⟩
          simp only [Bool.false_and, Bool.false_eq_true, if_false]
          rw [HD_none _ (n1 hd)]
      | true =>
        simp only [Bool.and_self, if_true]
        cases hd' : D' r.i with
        | true =>
          simp only [Bool.and_self, if_true]
          exact lift _ _ (ih h2)
        | false =>
          right
          rcases HD_last (D := D) l r.ha with e | ⟨q, q1, q2, q3, q4⟩
          · exact ⟨r, by simp, hl, by rw [hd, hd']; simp, .inl e⟩
          · exact ⟨q, by simp [q1], q2, by rw [q3, n2 hd' q q1 q2]; simp, .inl q4⟩
end
end
end Go.Gh
