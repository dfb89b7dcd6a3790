/- Operations that write nothing, over the small heap: what they give carries over to the world. Conditions: none. -/
import Derived.Test.YtplejmmkcfmdcaaGhA
namespace Go.Gh
open Go.RowKit

/-! ### Runs that touch no memory -/
def pureRun (P : Program) {α : Type} : Sem α → Option α
  | .pure a => some a
  | .program k => pureRun P (k P)
  | _ => none

theorem pureRun_run {P : Program} {α : Type} {s : Sem α} {a : α} (h : pureRun P s = some a) (w : World) : s.run P w = .ok a w := by
  induction s with
  | pure b => simp only [pureRun, Option.some.injEq] at h; subst h; rfl
  | program k ih => simp only [pureRun] at h; simp only [Sem.run]; exact ih _ h
  | _ => simp [pureRun] at h

def pureVal (P : Program) (s : Sem Next) : Option Value :=
  match pureRun P s with
  | some (.value v) => if gr v then some v else none
  | _ => none

theorem pureVal_sound {P : Program} {s : Sem Next} {v : Value} (h : pureVal P s = some v) (φ : Phi) (w : World) : s.run P w = .ok (.value v) w ∧ VR φ v v := by
  unfold pureVal at h
  split at h
  · rename_i u hu
    split at h
    · rename_i hg
      simp only [Option.some.injEq] at h
      subst h
      exact ⟨pureRun_run hu w, gr_refl hg⟩
    · cases h
  · cases h

/-! ### Operands -/
def okO : Operand → Bool
  | .const v => gr v
  | .global _ => false
  | _ => true

def Evs (φ : Phi) (ρ ρ' : Operand → Value) : Prop := ∀ x, okO x = true → VR φ (ρ x) (ρ' x)

theorem evs_act {φ : Phi} {a a' : Act} (h : VRs φ a.tmps a'.tmps) : Evs φ a.eval a'.eval := by
  intro x hx
  cases x with
  | tmp t => exact h.getD t
  | const v => exact gr_refl hx
  | global g => cases hx
  | func f => exact .fn rfl rfl (fun i hi => absurd hi (Nat.not_lt_zero _)) rfl (fun i hi => absurd hi (Nat.not_lt_zero _))

/-! ### Reading memory -/
theorem add_none (B n j : Nat) : (⟨B, n, none⟩ : Addr).add j = ⟨B, n + j, none⟩ := by
  unfold Addr.add
  split
  · subst_vars; rfl
  · rfl

theorem cell_at {w : World} {B : Nat} {C : Array Value} {el : TypeId} {fr : Nat × Nat} (h : w.heap[B]? = some (.cells C el fr)) (n : Nat) : w.cell? ⟨B, n, none⟩ = C[n]? := by
  simp [World.cell?, h]

def isAggB (P : Program) (t : TypeId) : Option Bool :=
  match P.underlying t with
  | some (.struct _) | some (.array _ _) => some true
  | some _ => some false
  | none => none

theorem run_isAgg {P : Program} {t : TypeId} {b : Bool} (h : isAggB P t = some b) (w : World) : (isAgg t).run P w = .ok b w := by
  unfold isAggB at h
  cases hu : P.underlying t with
  | none => rw [hu] at h; cases h
  | some d =>
    rw [hu] at h
    simp only [isAgg, Sem.run_bind, run_underlying hu, Result.andThen_ok]
    cases d <;> simp_all

def sizeB (P : Program) (t : TypeId) : Option Nat := (P.info? t).map (·.size)
theorem run_size {P : Program} {t : TypeId} {n : Nat} (h : sizeB P t = some n) (w : World) : (sizeOf t).run P w = .ok n w := by
  unfold sizeB at h
  cases hi : P.info? t with
  | none => rw [hi] at h; cases h
  | some i => rw [hi] at h; simp at h; subst h; simp [sizeOf, typeInfo, hi]

def rLoad (P : Program) (H : List Ob) (t : TypeId) : Value → Option Value
  | .pointer (some ⟨b, off, none⟩) =>
    match H[b]? with
    | some (.cells c _) =>
      match isAggB P t with
      | some true =>
        match sizeB P t with
        | some n => if off + n ≤ c.size then some (.agg (c.extract off (off + n))) else none
        | none => none
      | some false => c[off]?
      | none => none
    | _ => none
  | _ => none

section
variable {P : Program} {K : Nat → Prop} {w0 w : World} {φ : Phi} {H : List Ob}

theorem rLoad_sound (hI : Inv K w0 φ H w) {t : TypeId} {x x' v : Value} (h : rLoad P H t x = some v) (hx : VR φ x x') : ∃ v', (Instr.loadAt t x').run P w = .ok v' w ∧ VR φ v v' := by
  unfold rLoad at h
  split at h
  · rename_i b off
    cases hx with
    | @ptr _ _ B base tot hφ =>
      split at h
      · rename_i c ro hc
        obtain ⟨B', base', tot', h1, C, el, fr, h2, h3, _⟩ := hI.obs b _ hc rfl
        rw [hφ] at h1; cases h1
        split at h
        · rename_i ha
          split at h
          · rename_i n hn
            split at h
            · rename_i hle
              simp only [Option.some.injEq] at h
              subst h
              have hcell : ∀ j, j < n → w.cell? ((⟨B, base + off, none⟩ : Addr).add j) = some (C.getD (base + off + j) undef) := by
                intro j hj
                rw [add_none, cell_at h2]
                obtain ⟨v', hv', _⟩ := h3 (off + j) c[off + j] (Array.getElem?_eq_getElem (by omega))
                rw [← Nat.add_assoc] at hv'
                rw [Array.getD_eq_getD_getElem?, hv']; rfl
              refine ⟨.agg ((List.range n).map fun j => C.getD (base + off + j) undef).toArray, ?_, VRs.agg ?_⟩
              · simp only [Instr.loadAt, Instr.sureAddr, loadVar, Sem.run_bind, Sem.run_pure, Result.andThen_ok, run_isAgg ha, if_true, run_size hn, run_loadCells w _ n _ hcell]
              · intro i
                have e : ∀ l : List Value, l.toArray[i]? = l[i]? := fun l => by simp
                rw [Array.getElem?_extract, e, List.getElem?_map]
                by_cases hi : i < n
                · rw [List.getElem?_range hi, if_pos (by omega), Array.getElem?_eq_getElem (show off + i < c.size by omega)]
                  obtain ⟨v', hv', r⟩ := h3 (off + i) c[off + i] (Array.getElem?_eq_getElem (by omega))
                  rw [← Nat.add_assoc] at hv'
                  refine .some ?_
                  show VR φ _ (C.getD (base + off + i) undef)
                  rw [Array.getD_eq_getD_getElem?, hv']
                  exact r
                · rw [List.getElem?_eq_none (by simp; omega), if_neg (by omega)]; exact .none
            · cases h
          · cases h
        · rename_i ha
          obtain ⟨v', hv', r⟩ := h3 off v h
          refine ⟨v', ?_, r⟩
          simp only [Instr.loadAt, Instr.sureAddr, loadVar, Sem.run_bind, Sem.run_pure, Result.andThen_ok, run_isAgg ha, Bool.false_eq_true, if_false, run_load, cell_at h2, hv']
        · cases h
      · cases h
  · cases h

/-! ### Places -/
def rFieldAddr (P : Program) (s : TypeId) (f : Nat) : Value → Option Value
  | .pointer (some ⟨b, off, none⟩) =>
    match P.underlying s with
    | some (.struct fs) =>
      match fs[f]? with
      | some fd => match sizeB P fd.type with
        | some (_ + 1) => some (.pointer (some ⟨b, off + fd.offset, none⟩))
        | _ => none
      | none => none
    | _ => none
  | _ => none

theorem rFieldAddr_sound {s : TypeId} {f : Nat} {x x' v : Value} (h : rFieldAddr P s f x = some v) (hx : VR φ x x') : ∃ v', (Instr.fieldAt s x' f).run P w = .ok v' w ∧ VR φ v v' := by
  unfold rFieldAddr at h
  split at h
  · rename_i b off
    cases hx with
    | @ptr _ _ B base tot hφ =>
      split at h
      · rename_i fs hu
        split at h
        · rename_i fd hf
          split at h
          · rename_i n hn
            simp only [Option.some.injEq] at h
            subst h
            refine ⟨.pointer (some ⟨B, base + off + fd.offset, none⟩), ?_, ?_⟩
            · simp only [Instr.fieldAt, Sem.run_bind, run_underlying hu, Result.andThen_ok, hf, Instr.sureAddr, fieldPlace, Sem.run_pure, run_size hn, Nat.add_one_ne_zero, if_false, add_none]
            · rw [Nat.add_assoc]; exact .ptr hφ
          · cases h
        · cases h
      · cases h
  · cases h

def rIndexAddr (P : Program) (t : TypeId) : Value → Value → Option Value
  | .slice (some ⟨b, off, none⟩) len _, .int _ i =>
    match P.underlying t with
    | some (.slice e) => match sizeB P e with
      | some n => if 0 ≤ i ∧ i < len then some (.pointer (some ⟨b, off + i.toNat * n, none⟩)) else none
      | none => none
    | _ => none
  | .pointer (some ⟨b, off, none⟩), .int _ i =>
    match P.underlying t with
    | some (.array len e) => match sizeB P e with
      | some n => if 0 ≤ i ∧ i < len then some (.pointer (some ⟨b, off + i.toNat * n, none⟩)) else none
      | none => none
    | _ => none
  | _, _ => none

theorem rIndexAddr_sound {t : TypeId} {x x' y y' v : Value} (h : rIndexAddr P t x y = some v) (hx : VR φ x x') (hy : VR φ y y') : ∃ v', (Instr.indexAt t x' y').run P w = .ok v' w ∧ VR φ v v' := by
  unfold rIndexAddr at h
  split at h
  · rename_i b off len cap k i
    cases hy
    split at h
    · rename_i e hu
      split at h
      · rename_i n hn
        split at h
        · rename_i hi
          simp only [Option.some.injEq] at h
          subst h
          cases hx with
          | sliceZ => omega
          | @slice _ _ _ _ cap' B base tot hφ hl hl' =>
            refine ⟨.pointer (some ⟨B, base + off + i.toNat * n, none⟩), ?_, ?_⟩
            · simp only [Instr.indexAt, asIntOf, Sem.run_bind, Sem.run_pure, run_underlying hu, Result.andThen_ok, hi, and_self, if_true, run_size hn, add_none]
            · rw [Nat.add_assoc]; exact .ptr hφ
        · cases h
      · cases h
    · cases h
  · rename_i b off k i
    cases hy
    split at h
    · rename_i len e hu
      split at h
      · rename_i n hn
        split at h
        · rename_i hi
          simp only [Option.some.injEq] at h
          subst h
          cases hx with
          | @ptr _ _ B base tot hφ =>
            refine ⟨.pointer (some ⟨B, base + off + i.toNat * n, none⟩), ?_, ?_⟩
            · simp only [Instr.indexAt, asIntOf, Instr.sureAddr, Sem.run_bind, Sem.run_pure, run_underlying hu, Result.andThen_ok, hi, and_self, if_true, run_size hn, add_none]
            · rw [Nat.add_assoc]; exact .ptr hφ
        · cases h
      · cases h
    · cases h
  · cases h

/-! ### Parts of values -/
def rPart (P : Program) (t : TypeId) (cs : Array Value) (off : Nat) : Option Value :=
  match isAggB P t with
  | some true => match sizeB P t with
    | some n => some (.agg (cs.extract off (off + n)))
    | none => none
  | some false => cs[off]?
  | none => none

theorem rPart_sound {t : TypeId} {cs cs' : Array Value} {off : Nat} {v : Value} (h : rPart P t cs off = some v) (hc : VRs φ cs cs') : ∃ v', (part t cs' off).run P w = .ok v' w ∧ VR φ v v' := by
  unfold rPart at h
  split at h
  · rename_i ha
    split at h
    · rename_i n hn
      simp only [Option.some.injEq] at h
      subst h
      exact ⟨.agg (cs'.extract off (off + n)), by simp only [part, Sem.run_bind, run_isAgg ha, Result.andThen_ok, if_true, run_size hn, Sem.run_pure], (hc.extract _ _).agg⟩
    · cases h
  · rename_i ha
    have := hc off
    rw [h] at this
    cases hc' : cs'[off]? with
    | none => rw [hc'] at this; cases this
    | some v' =>
      rw [hc'] at this
      cases this with
      | some r => exact ⟨v', by simp only [part, Sem.run_bind, run_isAgg ha, Result.andThen_ok, Bool.false_eq_true, if_false, hc', Sem.run_pure], r⟩
  · cases h

def rField (P : Program) (t : TypeId) (f : Nat) : Value → Option Value
  | .agg cs =>
    match P.underlying t with
    | some (.struct fs) => match fs[f]? with
      | some fd => rPart P fd.type cs fd.offset
      | none => none
    | _ => none
  | _ => none

theorem rField_sound {t : TypeId} {f : Nat} {x x' v : Value} (h : rField P t f x = some v) (hx : VR φ x x') : ∃ v', (Instr.field t x' f).run P w = .ok v' w ∧ VR φ v v' := by
  unfold rField at h
  split at h
  · obtain ⟨cs', rfl, hc⟩ := hx.agg_inv
    split at h
    · rename_i fs hu
      split at h
      · rename_i fd hf
        obtain ⟨v', hr, hv⟩ := rPart_sound (w := w) h hc
        exact ⟨v', by simp only [Instr.field, Sem.run_bind, run_underlying hu, Result.andThen_ok, hf, asAgg, Sem.run_pure, hr], hv⟩
      · cases h
    · cases h
  · cases h

def rExtract (i : Nat) : Value → Option Value
  | .tuple vs => vs[i]?
  | _ => none

theorem rExtract_sound {i : Nat} {x x' v : Value} (h : rExtract i x = some v) (hx : VR φ x x') : ∃ v', (Instr.extract x' i).run P w = .ok v' w ∧ VR φ v v' := by
  unfold rExtract at h
  split at h
  · obtain ⟨cs', rfl, hc⟩ := hx.tuple_inv (by rename_i vs; obtain ⟨l⟩ := vs; cases l with | nil => simp at h | cons _ _ => rfl)
    have := hc i
    rw [h] at this
    cases hc' : cs'[i]? with
    | none => rw [hc'] at this; cases this
    | some v' =>
      rw [hc'] at this
      cases this with
      | some r => exact ⟨v', by simp only [Instr.extract, hc', Sem.run_pure], r⟩
  · cases h

/-! ### Values built out of parts -/
inductive VRl (φ : Phi) : List Value → List Value → Prop
  | nil : VRl φ [] []
  | cons {v v' : Value} {l l' : List Value} (h : VR φ v v') (r : VRl φ l l') : VRl φ (v :: l) (v' :: l')

theorem vrl_of : ∀ {xs ys : List Value}, (∀ i : Nat, OR (VR φ) xs[i]? ys[i]?) → VRl φ xs ys
  | [], [], _ => .nil
  | [], _ :: _, h => by have := h 0; cases this
  | _ :: _, [], h => by have := h 0; cases this
  | x :: xs, y :: ys, h => by
    refine .cons ?_ (vrl_of fun i => by simpa using h (i + 1))
    have := h 0
    simp at this
    cases this with
    | some h => exact h

theorem VRs.toList {xs ys : Array Value} (h : VRs φ xs ys) : VRl φ xs.toList ys.toList := vrl_of fun i => by simpa using h i

theorem fillOne {l l' : List Value} (hl : VRl φ l l') : ∀ (k off : Nat) {cs cs' : Array Value}, VRs φ cs cs' →
    VRs φ ((l.zipIdx k).foldl (fun cs (c, j) => cs.setIfInBounds (off + j) c) cs) ((l'.zipIdx k).foldl (fun cs (c, j) => cs.setIfInBounds (off + j) c) cs') := by
  induction hl with
  | nil => intro k off cs cs' h; exact h
  | cons hv _ ih =>
    intro k off cs cs' h
    simp only [List.zipIdx_cons, List.foldl_cons]
    exact ih (k + 1) off (h.set hv _)

inductive Parts (φ : Phi) : List (Nat × Value) → List (Nat × Value) → Prop
  | nil : Parts φ [] []
  | cons {i : Nat} {v v' : Value} {l l' : List (Nat × Value)} (h : VR φ v v') (hn : notT v = true) (r : Parts φ l l') : Parts φ ((i, v) :: l) ((i, v') :: l')

theorem fill_sound (place : Nat → Option (Nat × Nat)) {l l' : List (Nat × Value)} (hl : Parts φ l l') : ∀ {cs cs' r : Array Value}, VRs φ cs cs' → Instr.fill place cs l = some r →
    ∃ r', Instr.fill place cs' l' = some r' ∧ VRs φ r r' := by
  induction hl with
  | nil => intro cs cs' r hc h; simp only [Instr.fill, Option.some.injEq] at h ⊢; subst h; exact ⟨cs', rfl, hc⟩
  | @cons i v v' l l' hv hnt _ ih =>
    intro cs cs' r hc h
    simp only [Instr.fill] at h ⊢
    cases hp : place i with
    | none => rw [hp] at h; cases h
    | some os =>
      obtain ⟨off, size⟩ := os
      rw [hp] at h
      simp only at h ⊢
      have hs := (hv.cells hnt).size
      rw [← hs, ← hc.size]
      split at h
      · cases h
      · rename_i hn
        rw [if_neg hn]
        refine ih ?_ h
        rw [← Array.foldl_toList, ← Array.foldl_toList, Array.toList_zipIdx, Array.toList_zipIdx]
        exact fillOne (hv.cells hnt).toList 0 off hc

theorem parts_of {ρ ρ' : Operand → Value} (hρ : Evs φ ρ ρ') : ∀ {l : List (Nat × Operand)}, (l.all fun x => okO x.2 && notT (ρ x.2)) = true → Parts φ (l.map fun (i, x) => (i, ρ x)) (l.map fun (i, x) => (i, ρ' x))
  | [], _ => .nil
  | (i, x) :: l, h => by
    simp only [List.all_cons, Bool.and_eq_true] at h
    exact .cons (hρ x h.1.1) h.1.2 (parts_of hρ h.2)

def zeroB (P : Program) (t : TypeId) : Option Value :=
  match (P.info? t).bind (·.zero) with
  | some z => if gA z then some z else none
  | none => none
theorem run_zero {t : TypeId} {z : Value} (h : zeroB P t = some z) (w : World) : (zeroValue t).run P w = .ok z w ∧ gA z = true := by
  unfold zeroB at h
  cases hi : P.info? t with
  | none => rw [hi] at h; cases h
  | some i =>
    rw [hi] at h
    simp only [Option.bind_some] at h
    split at h
    · rename_i z' hz
      split at h
      · rename_i hg
        simp only [Option.some.injEq] at h
        subst h
        exact ⟨by simp [zeroValue, typeInfo, hi, hz], hg⟩
      · cases h
    · cases h

def rBuild (P : Program) (t : TypeId) (parts : List (Nat × Value)) : Option Value :=
  match zeroB P t, P.underlying t with
  | some z, some (.struct fs) =>
    match pureRun P (fs.mapM (fun f => do pure (f.offset, ← sizeOf f.type) : Field → Sem (Nat × Nat))) with
    | some places => (Instr.fill (places[·]?) z.cells parts).map .agg
    | none => none
  | some z, some (.array _ e) =>
    match sizeB P e with
    | some n => (Instr.fill (fun i => some (i * n, n)) z.cells parts).map .agg
    | none => none
  | _, _ => none

theorem rBuild_sound {t : TypeId} {parts parts' : Array (Nat × Value)} {v : Value} (h : rBuild P t parts.toList = some v) (hp : Parts φ parts.toList parts'.toList) :
    ∃ v', (Instr.build t parts').run P w = .ok v' w ∧ VR φ v v' := by
  unfold rBuild at h
  split at h
  · rename_i z fs hz hu
    split at h
    · rename_i places hpl
      rw [Option.map_eq_some_iff] at h
      obtain ⟨r, hr, rfl⟩ := h
      obtain ⟨hz1, hz2⟩ := run_zero hz w
      obtain ⟨r', hr', hv⟩ := fill_sound _ hp (VR.cells (gA_refl (φ := φ) hz2) (gA_notT hz2)) hr
      refine ⟨.agg r', ?_, hv.agg⟩
      simp only [Instr.build, Sem.run_bind, hz1, Result.andThen_ok, run_underlying hu, pureRun_run hpl, hr', Sem.run_pure]
    · cases h
  · rename_i z n e hz hu
    split at h
    · rename_i n hn
      rw [Option.map_eq_some_iff] at h
      obtain ⟨r, hr, rfl⟩ := h
      obtain ⟨hz1, hz2⟩ := run_zero hz w
      obtain ⟨r', hr', hv⟩ := fill_sound _ hp (VR.cells (gA_refl (φ := φ) hz2) (gA_notT hz2)) hr
      refine ⟨.agg r', ?_, hv.agg⟩
      simp only [Instr.build, Sem.run_bind, hz1, Result.andThen_ok, run_underlying hu, run_size hn, hr', Sem.run_pure]
    · cases h
  · cases h
end
end Go.Gh
