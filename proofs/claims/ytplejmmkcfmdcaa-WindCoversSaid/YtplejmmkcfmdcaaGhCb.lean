/- What a call gives over the few blocks that it is told of, it gives over every heap that has them. Conditions: none. -/
import Derived.Test.YtplejmmkcfmdcaaGhCa
namespace Go.Gh
open Go.RowKit
noncomputable section

def renA (ρ : Nat → Nat) : Option Addr → Option Addr
  | some ⟨b, o, s⟩ => some ⟨ρ b, o, s⟩
  | none => none
def ren0 (ρ : Nat → Nat) : Value → Value
  | .slice a l c => .slice (renA ρ a) l c
  | .pointer a => .pointer (renA ρ a)
  | v => v
def ren1 (ρ : Nat → Nat) : Value → Value
  | .agg cs => .agg (cs.map (ren0 ρ))
  | v => ren0 ρ v
def okA (n : Nat) : Option Addr → Bool
  | some ⟨b, _, _⟩ => Nat.blt b n
  | none => true
def okR0 (n : Nat) : Value → Bool
  | .slice a _ _ => okA n a
  | .pointer a => okA n a
  | v => g0 v
def okR1 (n : Nat) : Value → Bool
  | .agg cs => cs.toList.all (okR0 n)
  | v => okR0 n v

def subPhi (φ : Phi) (ρ : Nat → Nat) (n : Nat) : Phi := fun i => if i < n then φ (ρ i) else none

theorem ren0_vr {φ : Phi} {ρ : Nat → Nat} {n : Nat} {v v' : Value} (hok : okR0 n v = true) (h : VR φ (ren0 ρ v) v') : VR (subPhi φ ρ n) v v' := by
  have hsub : ∀ {b : Nat} {x : Nat × Nat × Nat}, Nat.blt b n = true → φ (ρ b) = some x → subPhi φ ρ n b = some x := fun hb hx => by
    rw [Nat.blt_eq] at hb; unfold subPhi; rw [if_pos hb]; exact hx
  unfold okR0 at hok
  split at hok
  · rename_i a l c
    unfold ren0 renA at h
    cases a with
    | none => cases h; exact .sliceN
    | some a =>
      obtain ⟨b, o, s⟩ := a
      cases h with
      | sliceZ hp a' c => exact .sliceZ (a := ⟨b, o, s⟩) (hsub hok hp) a' c
      | slice hp hl hc => exact .slice (hsub hok hp) hl hc
  · rename_i a
    unfold ren0 renA at h
    cases a with
    | none => cases h; exact .ptrN
    | some a =>
      obtain ⟨b, o, s⟩ := a
      cases h with
      | ptr hp => exact .ptr (hsub hok hp)
  · rename_i h1 h2
    have hv : ren0 ρ v = v := by
      unfold ren0
      split
      · exact (h1 _ _ _ rfl).elim
      · exact (h2 _ rfl).elim
      · rfl
    rw [hv] at h
    have hg : gA v = true := by
      unfold gA
      split
      · cases hok
      · exact hok
    rw [gA_eq hg h]; exact gA_refl hg

theorem ren1_vr {φ : Phi} {ρ : Nat → Nat} {n : Nat} {v v' : Value} (hok : okR1 n v = true) (h : VR φ (ren1 ρ v) v') : VR (subPhi φ ρ n) v v' := by
  unfold okR1 at hok
  split at hok
  · rename_i cs
    unfold ren1 at h
    obtain ⟨ys, rfl, hs⟩ := h.agg_inv
    refine VRs.agg fun i => ?_
    have := hs i
    rw [Array.getElem?_map] at this
    cases hc : cs[i]? with
    | none =>
      rw [hc] at this
      generalize ys[i]? = y at this
      cases this; exact .none
    | some c =>
      rw [hc] at this
      generalize ys[i]? = y at this
      cases this with
      | some hv =>
        refine .some (ren0_vr ?_ hv)
        rw [List.all_eq_true] at hok
        exact hok c (by rw [Array.mem_toList_iff]; exact Array.mem_of_getElem? hc)
  · rename_i h1
    have : ren1 ρ v = ren0 ρ v := by
      unfold ren1
      split
      · exact (h1 _ rfl).elim
      · rfl
    rw [this] at h
    exact ren0_vr hok h

section
variable {P : Program}
theorem Fact.frame {f : FuncId} {args args1 : Array Value} {H1 : List Ob} {base1 : Nat} {v : Value} {h : Hp} (ρ : Nat → Nat) (hf : Fact P (.call f args1 ⟨H1, base1, []⟩) (.ret v ⟨H1, base1, []⟩)) (hb1 : base1 ≤ H1.length) (hv : gr v = true)
    (hH : ∀ (i : Nat) (ob : Ob), H1[i]? = some ob → ob = .dead ∨ ∃ c, ob = .cells c true ∧ c.toList.all gA = true ∧ ∃ ro, h.bl[ρ i]? = some (.cells c ro))
    (ha : args = args1.map (ren1 ρ)) (hok : args1.toList.all (okR1 H1.length) = true) : Fact P (.call f args h) (.ret v h) := by
  refine ⟨fun hb => ⟨Pres.refl _, ?_⟩, trivial⟩
  intro K w0 φ w args' n hI hA
  obtain ⟨_, hh⟩ := hf.1 hb1
  have hI1 : Inv (· < w.heap.size) w (subPhi φ ρ H1.length) H1 w := by
    refine ⟨?_, ?_, ?_, fun _ _ => rfl, fun _ h => h, Nat.le_refl _, rfl, rfl, rfl, ?_⟩
    · intro b ob hb' hl
      have hlt : b < H1.length := (List.getElem?_eq_some_iff.1 hb').1
      rcases hH b ob hb' with rfl | ⟨c, rfl, hg, ro, hc⟩
      · cases hl
      · obtain ⟨B, base, tot, h1, C, el, fr, h2, h3, _⟩ := hI.obs _ _ hc rfl
        refine ⟨B, base, tot, by unfold subPhi; rw [if_pos hlt]; exact h1, C, el, fr, h2, fun i x hx => ?_, fun h => by cases h⟩
        obtain ⟨v', h4, h5⟩ := h3 i x hx
        have hgx : gA x = true := by
          rw [List.all_eq_true] at hg
          exact hg x (by rw [Array.mem_toList_iff]; exact Array.mem_of_getElem? hx)
        exact ⟨v', h4, by rw [gA_eq hgx h5]; exact gA_refl hgx⟩
    · intro b b' ob ob' x y hne hb' _ hrw
      rcases hH b ob hb' with rfl | ⟨c, rfl, _⟩
      · cases hrw
      · cases hrw
    · intro b ob x hb' hrw
      rcases hH b ob hb' with rfl | ⟨c, rfl, _⟩
      · cases hrw
      · cases hrw
    · intro b hb'
      unfold subPhi; rw [if_neg (by omega)]
  have hA1 : VRs (subPhi φ ρ H1.length) args1 args' := by
    intro i
    have := hA i
    rw [ha, Array.getElem?_map] at this
    cases hc : args1[i]? with
    | none =>
      rw [hc] at this
      generalize args'[i]? = y at this
      cases this; exact .none
    | some c =>
      rw [hc] at this
      generalize args'[i]? = y at this
      cases this with
      | some hv =>
        refine .some (ren1_vr ?_ hv)
        rw [List.all_eq_true] at hok
        exact hok c (by rw [Array.mem_toList_iff]; exact Array.mem_of_getElem? hc)
  refine (hh (· < w.heap.size) w _ w args' n hI1 hA1).mono ?_
  intro e w' he
  cases e with
  | returned v' =>
    obtain ⟨φ', _, hv', hI'⟩ := he
    refine ⟨φ, le_refl _, by rw [gr_eq hv hv']; exact gr_refl hv, ?_⟩
    have hsame : ∀ k, k < w.heap.size → w'.heap[k]? = w.heap[k]? := fun k hk => hI'.keep k hk
    refine ⟨?_, hI.sep, hI.prot, fun k hk => ?_, hI.klt, Nat.le_trans hI.size hI'.size, hI'.os.trans hI.os, hI'.tape.trans hI.tape, hI'.output.trans hI.output, hI.top⟩
    · intro b ob hb' hl
      obtain ⟨B, base, tot, h1, h2⟩ := hI.obs b ob hb' hl
      exact ⟨B, base, tot, h1, h2.keep (le_refl _) (hsame B (h2.lt hl))⟩
    · have := hI.klt k hk
      have := hI.size
      rw [hsame k (by omega)]; exact hI.keep k hk
  | panicked ch => exact he.elim
  | outgrown => exact he.elim
end
end
end Go.Gh
