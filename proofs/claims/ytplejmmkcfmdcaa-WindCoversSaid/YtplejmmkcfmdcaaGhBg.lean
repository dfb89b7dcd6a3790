/- Regions, in order and with their order left open, what comes behind them handed in. Conditions: none. -/
import Derived.Test.YtplejmmkcfmdcaaGhBf
namespace Go.Gh
open Go.RowKit
noncomputable section

def guardC (os : Array Oper) (o : Oper) (t : List Value) (yes no : List Value → Option Out) : Option Out :=
  match o.guard with
  | none => yes t
  | some (j, want) =>
    match (os[j]?).bind (·.dst) with
    | some d => match lget t d with
      | .bool b => (match want with
        | true => cond b (litK t d true yes) (litK t d false no)
        | false => cond b (litK t d true no) (litK t d false yes))
      | _ => no t
    | none => no t
theorem guardC_ok {os : Array Oper} {o : Oper} {t : List Value} {yes no : List Value → Option Out} {r : Out} (h : guardC os o t yes no = some r) :
    (wantedT os t o = true ∧ yes t = some r) ∨ (wantedT os t o = false ∧ no t = some r) := by
  unfold guardC at h
  unfold wantedT
  split at h
  · rename_i hg; rw [hg]; exact .inl ⟨rfl, h⟩
  · rename_i j want hg
    rw [hg]
    simp only
    split at h
    · rename_i d hd
      rw [hd]
      simp only
      split at h
      · rename_i b hl
        rw [hl]
        simp only
        cases b with
        | true =>
          cases want with
          | true => simp only [cond_true] at h; rw [litK_eq hl] at h; exact .inl ⟨rfl, h⟩
          | false => simp only [cond_true] at h; rw [litK_eq hl] at h; exact .inr ⟨rfl, h⟩
        | false =>
          cases want with
          | true => simp only [cond_false] at h; rw [litK_eq hl] at h; exact .inr ⟨rfl, h⟩
          | false => simp only [cond_false] at h; rw [litK_eq hl] at h; exact .inl ⟨rfl, h⟩
      · rename_i hne
        refine .inr ⟨?_, h⟩
        generalize hv : lget t d = v at hne ⊢
        cases v <;> first | rfl | exact (hne _ rfl).elim
    · rename_i hd
      rw [hd]
      exact .inr ⟨rfl, h⟩

section
variable {P : Program} {self : SelfC} {sd : Self}

def runOpsC (P : Program) (self : SelfC) (rd : Option Nat) (os : Array Oper) : List Nat → St → (Ex → St → Option Out) → Option Out
  | [], s, k => k .normal s
  | i :: r, s, k =>
    match os[i]? with
    | none => runOpsC P self rd os r s k
    | some o =>
      guardC os o s.t
        (fun t => opC P (evalT t) s.h o {
          val := fun v h => setK' t o.dst v fun t => runOpsC P self rd os r { t := t, d := s.d, h := h } k
          enter := fun f args => headsK args fun args => self (.call f ⟨args⟩ s.h) fun
            | .ret v h => setK' t o.dst v fun t => runOpsC P self rd os r { t := t, d := s.d, h := h } k
            | .pan v h => k (.panic v) { t := t, d := s.d, h := h }
            | _ => none
          yield := fun l args => headsK args fun args => self (.round l ⟨args⟩ s.h) fun
            | .ret v h => setK' t o.dst v fun t => runOpsC P self rd os r { t := t, d := s.d, h := h } k
            | _ => none
          defer := fun d => if rd.isNone then setK' t o.dst undef fun t => runOpsC P self rd os r { t := t, d := d :: s.d, h := s.h } k else none
          panic := fun v => k (.panic v) { t := t, d := s.d, h := s.h } })
        (fun t => setK' t o.dst undef fun t => runOpsC P self rd os r { t := t, d := s.d, h := s.h } k)

theorem runOpsC_ok (hs : CpsOk self sd) {rd : Option Nat} {os : Array Oper} : ∀ {l : List Nat} {s : St} {k : Ex → St → Option Out} {r : Out}, runOpsC P self rd os l s k = some r →
    ∃ e s', runOps P sd rd os l s = some (.ex e s') ∧ k e s' = some r
  | [], s, k, r, h => ⟨_, _, rfl, h⟩
  | i :: l, s, k, r, h => by
    simp only [runOpsC] at h
    simp only [runOps]
    split at h
    · rename_i hi
      rw [hi]
      exact runOpsC_ok hs h
    · rename_i o hi
      rw [hi]
      simp only [putK_eq, forceH_eq]
      rcases guardC_ok h with ⟨hw, h⟩ | ⟨hw, h⟩
      · rw [if_pos hw]
        obtain ⟨nx, h1, h2⟩ := opC_ok h
        rw [h1]
        cases nx with
        | val v hp =>
          simp only [Ends.on, setK'_eq] at h2
          exact runOpsC_ok hs h2
        | enter f args =>
          simp only [Ends.on, headsK_eq] at h2
          obtain ⟨o', h3, h4⟩ := hs _ _ _ h2
          simp only
          rw [show (⟨args.toList⟩ : Array Value) = args from rfl] at h3
          rw [h3]
          cases o' with
          | ret v hp =>
            simp only [setK'_eq] at h4
            exact runOpsC_ok hs h4
          | pan v hp => exact ⟨_, _, rfl, h4⟩
          | ex _ _ => cases h4
          | dret _ _ => cases h4
        | yield l' args =>
          simp only [Ends.on, headsK_eq] at h2
          obtain ⟨o', h3, h4⟩ := hs _ _ _ h2
          simp only
          rw [show (⟨args.toList⟩ : Array Value) = args from rfl] at h3
          rw [h3]
          cases o' with
          | ret v hp =>
            simp only [setK'_eq] at h4
            exact runOpsC_ok hs h4
          | pan v hp => cases h4
          | ex _ _ => cases h4
          | dret _ _ => cases h4
        | defer d =>
          simp only [Ends.on] at h2
          split at h2
          · rename_i hrd
            simp only
            rw [if_pos hrd]
            simp only [setK'_eq] at h2
            exact runOpsC_ok hs h2
          · cases h2
        | panic v => exact ⟨_, _, rfl, h2⟩
        | recover => cases h2
      · rw [if_neg (by rw [hw]; intro h; cases h)]
        simp only [setK'_eq] at h
        exact runOpsC_ok hs h
end
end
end Go.Gh
