/- A call whose arguments are read from the world. Conditions: none. -/
import Derived.Test.YtplejmmkcfmdcaaGhCe
import Derived.Below
namespace Go.Gh
open Go.RowKit
noncomputable section

def phiOf (l : List (Ob × Option (Nat × Nat × Nat))) : Phi := fun i => (l[i]?).bind (·.2)
theorem inv_args {w : World} {l : List (Ob × Option (Nat × Nat × Nat))} (h : ∀ p ∈ l, (p.1.live = true → ∃ B bs tot, p.2 = some (B, bs, tot) ∧ ∀ φ : Phi, ObR φ w p.1 B bs tot) ∧ p.1.rw = false) :
    Inv (· < w.heap.size) w (phiOf l) (l.map (·.1)) w := by
  have hget : ∀ {b : Nat} {ob : Ob}, (l.map (·.1))[b]? = some ob → ∃ p, l[b]? = some p ∧ p.1 = ob ∧ p ∈ l := by
    intro b ob hb
    rw [List.getElem?_map, Option.map_eq_some_iff] at hb
    obtain ⟨p, h1, h2⟩ := hb
    exact ⟨p, h1, h2, List.mem_of_getElem? h1⟩
  refine ⟨?_, ?_, ?_, fun _ _ => rfl, fun _ h => h, Nat.le_refl _, rfl, rfl, rfl, ?_⟩
  · intro b ob hb hl
    obtain ⟨p, h1, rfl, hm⟩ := hget hb
    obtain ⟨B, bs, tot, h2, h3⟩ := (h p hm).1 hl
    exact ⟨B, bs, tot, by unfold phiOf; rw [h1]; exact h2, h3 _⟩
  · intro b b' ob ob' x y _ hb _ hrw
    obtain ⟨p, _, rfl, hm⟩ := hget hb
    rw [(h p hm).2] at hrw; cases hrw
  · intro b ob x hb hrw
    obtain ⟨p, _, rfl, hm⟩ := hget hb
    rw [(h p hm).2] at hrw; cases hrw
  · intro b hb
    unfold phiOf
    rw [List.getElem?_eq_none (by simpa using hb)]; rfl

theorem calls_of_fact {P : Program} {w : World} {l : List (Ob × Option (Nat × Nat × Nat))} {f : FuncId} {args args' : Array Value} {base : Nat} {wr : List Nat} {v : Value} {h' : Hp}
    (hf : Fact P (.call f args ⟨l.map (·.1), base, wr⟩) (.ret v h')) (hb : base ≤ (l.map (·.1)).length) (hg : gr v = true)
    (h : ∀ p ∈ l, (p.1.live = true → ∃ B bs tot, p.2 = some (B, bs, tot) ∧ ∀ φ : Phi, ObR φ w p.1 B bs tot) ∧ p.1.rw = false) (hA : VRs (phiOf l) args args') :
    Calls P f args' w fun e w' => e = .returned v ∧ Below w.heap.size w w' := by
  obtain ⟨_, hh⟩ := hf.1 hb
  refine callsIn_wide.1 ((hh (· < w.heap.size) w (phiOf l) w args' 0 (inv_args h) hA).mono ?_)
  intro e w' he
  cases e with
  | returned v' =>
    obtain ⟨φ', _, hv, hI⟩ := he
    exact ⟨by rw [gr_eq hg hv], hI.below⟩
  | panicked ch => exact he.elim
  | outgrown => exact he.elim
end
end Go.Gh
