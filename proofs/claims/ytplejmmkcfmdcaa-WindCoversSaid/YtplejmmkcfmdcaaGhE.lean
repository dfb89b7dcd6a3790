/- Operations that make or turn memory: over the small heap and in the world. Conditions: none. -/
import Derived.Test.YtplejmmkcfmdcaaGhD
namespace Go.Gh
open Go.RowKit

structure Hp where
  bl : List Ob
  base : Nat
  wr : List Nat
  deriving Inhabited

def Hp.push (h : Hp) (ob : Ob) : Hp := { h with bl := h.bl ++ [ob] }
def Hp.put (h : Hp) (b : Nat) (ob : Ob) : Hp := { h with bl := h.bl.set b ob, wr := if b < h.base then b :: h.wr else h.wr }

section
variable {P : Program} {K : Nat → Prop} {w0 w : World} {φ : Phi} {H : List Ob}

/-! ### New rows of cells -/
theorem Inv.cells (h : Inv K w0 φ H w) {c C : Array Value} {el : TypeId} (tot : Nat) (hc : ∀ (i : Nat) (v : Value), c[i]? = some v → ∃ v', C[i]? = some v' ∧ VR φ v v') (h1 : c.size ≤ tot) (h2 : tot ≤ C.size) :
    Inv K w0 (up φ H.length (w.heap.size, 0, tot)) (H ++ [.cells c false]) (w.alloc (.cells C el)) := by
  refine h.alloc _ _ tot ?_
  have hle := le_up (x := (w.heap.size, 0, tot)) (h.top _ (Nat.le_refl _))
  refine ⟨C, el, (0, 0), World.alloc_heap_new w _, fun i v hv => ?_, fun _ => ⟨h1, by omega, fun i _ => by simp⟩⟩
  obtain ⟨v', hv', r⟩ := hc i v hv
  exact ⟨v', by rw [Nat.zero_add]; exact hv', r.mono hle⟩

theorem vrs_some {xs ys : Array Value} (h : VRs φ xs ys) {i : Nat} {v : Value} (hv : xs[i]? = some v) : ∃ v', ys[i]? = some v' ∧ VR φ v v' := by
  have := h i
  rw [hv] at this
  generalize ys[i]? = y at this
  cases this with
  | some h => exact ⟨_, rfl, h⟩

theorem Inv.row (h : Inv K w0 φ H w) {c C : Array Value} {el : TypeId} (hc : VRs φ c C) :
    Inv K w0 (up φ H.length (w.heap.size, 0, c.size)) (H ++ [.cells c false]) (w.alloc (.cells C el)) :=
  h.cells c.size (fun _ _ hv => vrs_some hc hv) (Nat.le_refl _) (by rw [hc.size]; exact Nat.le_refl _)

theorem Inv.le_new (h : Inv K w0 φ H w) (x : Nat × Nat × Nat) : le φ (up φ H.length x) := le_up (h.top _ (Nat.le_refl _))

/-- What a loud operation owes: its value, the places from there on, the heap. -/
def Loud (P : Program) (K : Nat → Prop) (w0 : World) (φ : Phi) (w : World) (s : Sem Value) (v : Value) (H' : List Ob) : Prop :=
  ∃ φ' v' w', s.run P w = .ok v' w' ∧ le φ φ' ∧ VR φ' v v' ∧ Inv K w0 φ' H' w'

def lAlloc (P : Program) (h : Hp) (t : TypeId) : Option (Value × Hp) :=
  match zeroB P t with
  | some z => some (.pointer (some ⟨h.bl.length, 0, none⟩), h.push (.cells z.cells false))
  | none => none

theorem alloc_sound (hI : Inv K w0 φ H w) {v v' : Value} (t : TypeId) (hv : VR φ v v') (hn : notT v = true) :
    Loud P K w0 φ w (do pure (.pointer (some (← newVar t v')))) (.pointer (some ⟨H.length, 0, none⟩)) (H ++ [.cells v.cells false]) :=
  ⟨up φ H.length (w.heap.size, 0, v.cells.size), .pointer (some ⟨w.heap.size, 0, none⟩), w.alloc (.cells v'.cells t), rfl, hI.le_new _, .ptr (up_same _ _ _), hI.row (hv.cells hn)⟩

theorem lAlloc_sound {h h' : Hp} (hI : Inv K w0 φ h.bl w) {t : TypeId} {v : Value} (hl : lAlloc P h t = some (v, h')) : Loud P K w0 φ w (Instr.alloc t true (.tuple #[])) v h'.bl := by
  unfold lAlloc at hl
  split at hl
  · rename_i z hz
    simp only [Option.some.injEq, Prod.mk.injEq] at hl
    obtain ⟨rfl, rfl⟩ := hl
    obtain ⟨hz1, hz2⟩ := run_zero hz w
    obtain ⟨φ', v', w', hr, r⟩ := alloc_sound (P := P) hI t (gA_refl (φ := φ) hz2) (gA_notT hz2)
    refine ⟨φ', v', w', ?_, r⟩
    simp only [Instr.alloc, Sem.run_bind, hz1, Result.andThen_ok]
    simpa only [Sem.run_bind] using hr
  · cases hl

def lBox (h : Hp) (v : Value) : Value × Hp := (.pointer (some ⟨h.bl.length, 0, none⟩), h.push (.cells v.cells false))

/-! ### Stores -/
theorem run_storeCells {B n : Nat} {el : TypeId} {fr : Nat × Nat} : ∀ (vs : List Value) (i : Nat) (w : World) (C : Array Value), w.heap[B]? = some (.cells C el fr) → n + i + vs.length ≤ C.size →
    (∀ j, n + i ≤ j → j < n + i + vs.length → ¬ (fr.1 ≤ j ∧ j < fr.2)) → (∀ v ∈ vs, v.oneCell' = true) →
    ∃ w' C', (storeCells ⟨B, n, none⟩ vs i).run P w = .ok () w' ∧ w'.heap[B]? = some (.cells C' el fr) ∧ C'.size = C.size ∧
      (∀ j, C'[j]? = if n + i ≤ j ∧ j < n + i + vs.length then vs[j - (n + i)]? else C[j]?) ∧ (∀ k, k ≠ B → w'.heap[k]? = w.heap[k]?) ∧ w'.heap.size = w.heap.size ∧ w'.os = w.os ∧ w'.tape = w.tape ∧ w'.output = w.output
  | [], i, w, C, h, _, _, _ => ⟨w, C, rfl, h, rfl, fun j => by rw [if_neg (by simp)], fun _ _ => rfl, rfl, rfl, rfl, rfl⟩
  | v :: vs, i, w, C, h, hle, hfr, h1 => by
    simp only [List.length_cons] at hle hfr
    have hcell : w.cell? ⟨B, n + i, none⟩ = some C[n + i] := by rw [cell_at h, Array.getElem?_eq_getElem (by omega)]
    have hfz : w.frozen? ⟨B, n + i, none⟩ = false := by
      simp only [World.frozen?, h, Bool.and_eq_false_iff, decide_eq_false_iff_not]
      have := hfr (n + i) (Nat.le_refl _) (by omega)
      omega
    have hs : (store ⟨B, n + i, none⟩ v).run P w = .ok () (w.setCell ⟨B, n + i, none⟩ v) := by
      rw [run_store P w _ _ _ (h1 v (by simp)), hcell, hfz]; rfl
    have hB : (w.setCell ⟨B, n + i, none⟩ v).heap[B]? = some (.cells (C.setIfInBounds (n + i) v) el fr) := by
      simp [World.setCell, Array.getElem?_modify, h]
    have hO : ∀ k, k ≠ B → (w.setCell ⟨B, n + i, none⟩ v).heap[k]? = w.heap[k]? := fun k hk => by
      simp only [World.setCell, Array.getElem?_modify]; rw [if_neg (Ne.symm hk)]
    obtain ⟨w', C', r1, r2, r3, r4, r5, r6, r7, r8, r9⟩ := run_storeCells (n := n) vs (i + 1) _ _ hB (by rw [Array.size_setIfInBounds]; omega) (fun j h2 h3 => hfr j (by omega) (by omega)) (fun u hu => h1 u (by simp [hu]))
    refine ⟨w', C', ?_, r2, by rw [r3, Array.size_setIfInBounds], ?_, fun k hk => (r5 k hk).trans (hO k hk), by rw [r6]; simp [World.setCell], r7, r8, r9⟩
    · simp only [storeCells, Sem.run_bind, add_none, hs, Result.andThen_ok, r1]
    · intro j
      rw [r4 j]
      by_cases e : j = n + i
      · subst e
        rw [if_neg (by omega), if_pos (by simp), Array.getElem?_setIfInBounds, if_pos rfl, if_pos (by omega)]
        simp
      · by_cases hin : n + (i + 1) ≤ j ∧ j < n + (i + 1) + vs.length
        · rw [if_pos hin, if_pos (by simp; omega), show j - (n + i) = (j - (n + (i + 1))) + 1 by omega, List.getElem?_cons_succ]
        · rw [if_neg hin, if_neg (by simp; omega), Array.getElem?_setIfInBounds, if_neg (Ne.symm e)]

def wcells (c : Array Value) (off : Nat) : List Value → Array Value
  | [] => c
  | v :: r => wcells (c.setIfInBounds off v) (off + 1) r

theorem wcells_size : ∀ (vs : List Value) (c : Array Value) (off : Nat), (wcells c off vs).size = c.size
  | [], _, _ => rfl
  | v :: r, c, off => by simp only [wcells]; rw [wcells_size r, Array.size_setIfInBounds]

theorem wcells_get : ∀ (vs : List Value) (c : Array Value) (off j : Nat), off + vs.length ≤ c.size → (wcells c off vs)[j]? = if off ≤ j ∧ j < off + vs.length then vs[j - off]? else c[j]?
  | [], c, off, j, _ => by rw [if_neg (by simp)]; rfl
  | v :: r, c, off, j, h => by
    simp only [List.length_cons] at h
    simp only [wcells]
    rw [wcells_get r _ (off + 1) j (by rw [Array.size_setIfInBounds]; omega)]
    by_cases e : j = off
    · subst e
      rw [if_neg (by omega), if_pos (by simp), Array.getElem?_setIfInBounds, if_pos rfl, if_pos (by omega)]
      simp
    · by_cases hin : off + 1 ≤ j ∧ j < off + 1 + r.length
      · rw [if_pos hin, if_pos (by simp; omega), show j - off = (j - (off + 1)) + 1 by omega, List.getElem?_cons_succ]
      · rw [if_neg hin, if_neg (by simp; omega), Array.getElem?_setIfInBounds, if_neg (Ne.symm e)]

theorem oneCell_vr {v v' : Value} (h : VR φ v v') (h1 : v.oneCell' = true) : v'.oneCell' = true := by cases h <;> first | rfl | cases h1

theorem vrl_get {l l' : List Value} (h : VRl φ l l') : ∀ i : Nat, OR (VR φ) l[i]? l'[i]? := by
  induction h with
  | nil => intro i; simp; exact .none
  | cons hv _ ih =>
    intro i
    cases i with
    | zero => exact .some hv
    | succ i => simpa using ih i
theorem vrl_len {l l' : List Value} (h : VRl φ l l') : l.length = l'.length := by
  induction h with
  | nil => rfl
  | cons _ _ ih => simp [ih]
theorem vrl_one {l l' : List Value} (h : VRl φ l l') (h1 : l.all (·.oneCell') = true) : ∀ v ∈ l', v.oneCell' = true := by
  induction h with
  | nil => intro v hv; cases hv
  | cons hv _ ih =>
    simp only [List.all_cons, Bool.and_eq_true] at h1
    intro v hm
    rcases List.mem_cons.1 hm with rfl | hm
    · exact oneCell_vr hv h1.1
    · exact ih h1.2 v hm

/-- A row of values is stored into a block of one's own. -/
theorem write_sound (hI : Inv K w0 φ H w) {b off B base tot : Nat} {c : Array Value} (hb : H[b]? = some (.cells c false)) (hφ : φ b = some (B, base, tot)) {vs vs' : List Value} (hv : VRl φ vs vs') (h1 : vs.all (·.oneCell') = true)
    (hle : off + vs.length ≤ c.size) : ∃ w', (storeCells ⟨B, base + off, none⟩ vs').run P w = .ok () w' ∧ Inv K w0 φ (H.set b (.cells (wcells c off vs) false)) w' := by
  obtain ⟨B', base', tot', q1, C, el, fr, q2, q3, q4⟩ := hI.obs b _ hb rfl
  rw [hφ] at q1; cases q1
  obtain ⟨q4, q5, q6⟩ := q4 rfl
  have hlen := vrl_len hv
  obtain ⟨w', C', r1, r2, r3, r4, r5, r6, r7, r8, r9⟩ := run_storeCells (P := P) (n := base + off) vs' 0 w C q2 (by omega) (fun j h2 h3 => by have := q6 (j - base) (by omega); rwa [show base + (j - base) = j by omega] at this) (vrl_one hv h1)
  refine ⟨w', r1, hI.write hb rfl hφ r5 r6 r7 r8 r9 ⟨C', el, fr, r2, ?_, fun _ => ⟨by rw [wcells_size]; exact q4, by omega, q6⟩⟩⟩
  intro i v hiv
  rw [wcells_get vs c off i hle] at hiv
  rw [r4 (base + i)]
  split at hiv
  · rename_i hin
    rw [if_pos (by omega), show base + i - (base + off + 0) = i - off by omega]
    have := vrl_get hv (i - off)
    rw [hiv] at this
    generalize vs'[i - off]? = y at this
    cases this with
    | some r => exact ⟨_, rfl, r⟩
  · rename_i hin
    rw [if_neg (by omega)]
    exact q3 i v hiv

def lStore (P : Program) (h : Hp) (t : TypeId) (x v : Value) : Option Hp :=
  match x with
  | .pointer (some ⟨b, off, none⟩) =>
    match h.bl[b]?, sizeB P t with
    | some (.cells c false), some n =>
      if notT v = true ∧ v.cells.size = n ∧ off + n ≤ c.size ∧ v.cells.toList.all (·.oneCell') = true then some (h.put b (.cells (wcells c off v.cells.toList) false)) else none
    | _, _ => none
  | _ => none

theorem lStore_sound {h h' : Hp} (hI : Inv K w0 φ h.bl w) {t : TypeId} {x x' v v' : Value} (hl : lStore P h t x v = some h') (hx : VR φ x x') (hv : VR φ v v') :
    ∃ w', (Instr.storeAt t x' v').run P w = .ok () w' ∧ Inv K w0 φ h'.bl w' := by
  unfold lStore at hl
  split at hl
  · rename_i b off
    split at hl
    · rename_i c n hc hn
      split at hl
      · rename_i hcond
        obtain ⟨e0, e1, e2, e3⟩ := hcond
        simp only [Option.some.injEq] at hl
        subst hl
        cases hx with
        | @ptr _ _ B base tot hφ =>
          obtain ⟨w', r1, r2⟩ := write_sound (P := P) (off := off) hI hc hφ (hv.cells e0).toList e3 (by rw [Array.length_toList]; omega)
          refine ⟨w', ?_, r2⟩
          have hs := (hv.cells e0).size
          simp only [Instr.storeAt, Instr.sureAddr, storeVar, Sem.run_bind, Sem.run_pure, Result.andThen_ok, run_size hn]
          rw [if_neg (by omega)]
          exact r1
      · cases hl
    · cases hl
  · cases hl
end
end Go.Gh
