/- Arguments that are read: flat values and slices of them, as blocks of the small heap. Conditions: none. -/
import Derived.Test.YtplejmmkcfmdcaaGhCd
import Derived.Deep.Slices
namespace Go.Gh
open Go.RowKit
noncomputable section

def okLeaf : Leaf → Value → Prop
  | .int q, v => ∃ n, v = .int q n ∧ (Lit.int q n).wf = true
  | .bool, v => ∃ b, v = .bool b
  | .str, v => ∃ s, v = .string s ∧ s.size ≤ maxLen
  | .any, _ => False

def offsOk (P : Program) (d : Nat) : Nat → List Field → Bool
  | _, [] => true
  | o, f :: r => ((f.offset == o) && (P.cellsOf f.type == (leaves P d f.type).length)) && offsOk P d (o + (leaves P d f.type).length) r
def flatT (P : Program) : Nat → TypeId → Bool
  | 0, _ => false
  | d + 1, t =>
    match P.underlying t with
    | some .bool | some (.int _) | some .string => true
    | some (.struct fs) => ((P.cellsOf t == (leaves P (d + 1) t).length) && offsOk P d 0 fs.toList) && fs.toList.all fun f => flatT P d f.type
    | _ => false

inductive All2 {α β : Type} (R : α → β → Prop) : List α → List β → Prop
  | nil : All2 R [] []
  | cons {a : α} {b : β} {l : List α} {m : List β} (h : R a b) (r : All2 R l m) : All2 R (a :: l) (b :: m)
theorem All2.append {α β : Type} {R : α → β → Prop} {l l' : List α} {m m' : List β} (h : All2 R l m) (h' : All2 R l' m') : All2 R (l ++ l') (m ++ m') := by
  induction h with
  | nil => exact h'
  | cons h _ ih => exact .cons h ih
theorem All2.len {α β : Type} {R : α → β → Prop} {l : List α} {m : List β} (h : All2 R l m) : m.length = l.length := by
  induction h with
  | nil => rfl
  | cons _ _ ih => simp [ih]
theorem All2.get {α β : Type} {R : α → β → Prop} {l : List α} {m : List β} (h : All2 R l m) : ∀ {j : Nat} {a : α}, l[j]? = some a → ∃ b, m[j]? = some b ∧ R a b := by
  induction h with
  | nil => intro j a h; simp at h
  | cons h _ ih =>
    intro j a hj
    cases j with
    | zero => simp only [List.getElem?_cons_zero, Option.some.injEq] at hj; subst hj; exact ⟨_, rfl, h⟩
    | succ j => simp only [List.getElem?_cons_succ] at hj ⊢; exact ih hj

section
variable {H : Type} {enc : TypeId × Value → H} {P : Program} {w : World} {base : Nat} {spare : Nat → Bool} {held : Bool}

theorem fields_all2 {d : Nat} {cs : List Value} : ∀ {fs : List Field} {o : Nat}, offsOk P d o fs = true → (∀ f ∈ fs, All2 okLeaf (leaves P d f.type) ((cs.drop f.offset).take (P.cellsOf f.type))) →
    All2 okLeaf (fs.flatMap fun f => leaves P d f.type) ((cs.drop o).take (fs.flatMap fun f => leaves P d f.type).length)
  | [], o, _, _ => by simp; exact .nil
  | f :: r, o, h, hf => by
    simp only [offsOk, Bool.and_eq_true, beq_iff_eq] at h
    obtain ⟨⟨h1, h2⟩, h3⟩ := h
    have h4 := hf f (List.mem_cons_self ..)
    rw [h1, h2] at h4
    have h5 := fields_all2 h3 fun g hg => hf g (List.mem_cons_of_mem _ hg)
    simp only [List.flatMap_cons, List.length_append]
    rw [List.take_add, List.drop_drop]
    exact h4.append h5

theorem mapM_all {α β : Type} {f : α → Option β} : ∀ {l : List α} {r : List β}, l.mapM f = some r → ∀ a ∈ l, ∃ b, f a = some b
  | [], _, _, a, ha => by simp at ha
  | x :: l, r, h, a, ha => by
    rw [List.mapM_cons] at h
    cases hx : f x with
    | none => rw [hx] at h; cases h
    | some y =>
      rw [hx] at h
      cases hl : l.mapM f with
      | none => rw [hl] at h; cases h
      | some ys =>
        rcases List.mem_cons.1 ha with rfl | ha
        · exact ⟨y, hx⟩
        · exact mapM_all hl a ha

theorem flat_trod : ∀ {d : Nat} {t : TypeId} {fuel : Nat} {cs : List Value} {x : DataW H × List MemPlace}, flatT P d t = true → DataW.trod enc P w base spare held fuel t cs = some x → All2 okLeaf (leaves P d t) cs
  | 0, _, _, _, _, h, _ => by cases h
  | d + 1, t, 0, cs, x, _, h => by simp [DataW.trod] at h
  | d + 1, t, fuel + 1, cs, x, hf, h => by
    unfold flatT at hf
    split at hf
    · rename_i hu
      rw [leaves, hu, show leafOf P t = .bool by unfold leafOf; rw [hu]]
      unfold DataW.trod at h
      rw [hu] at h
      simp only at h ⊢
      split at h <;> first | (cases h; done) | skip
      all_goals first | (rename_i he; cases he; done) | skip
      exact .cons ⟨_, rfl⟩ .nil
    · rename_i q hu
      rw [leaves, hu, show leafOf P t = .int q by unfold leafOf; rw [hu]]
      unfold DataW.trod at h
      rw [hu] at h
      simp only at h ⊢
      split at h <;> first | (cases h; done) | skip
      all_goals first | (rename_i he; cases he; done) | skip
      rename_i k k' n he
      cases he
      split at h
      · rename_i hc
        obtain ⟨rfl, hw⟩ := hc
        exact .cons ⟨_, rfl, hw⟩ .nil
      · cases h
    · rename_i hu
      rw [leaves, hu, show leafOf P t = .str by unfold leafOf; rw [hu]]
      unfold DataW.trod at h
      rw [hu] at h
      simp only at h ⊢
      split at h <;> first | (cases h; done) | skip
      all_goals first | (rename_i he; cases he; done) | skip
      split at h
      · rename_i hc; exact .cons ⟨_, rfl, hc⟩ .nil
      · cases h
    · rename_i fs hu
      simp only [Bool.and_eq_true, beq_iff_eq, List.all_eq_true] at hf
      obtain ⟨⟨h1, h2⟩, h3⟩ := hf
      have hlv : leaves P (d + 1) t = fs.toList.flatMap fun f => leaves P d f.type := by rw [leaves, hu]
      rw [hlv] at h1 ⊢
      unfold DataW.trod at h
      rw [hu] at h
      simp only at h
      split at h
      · rename_i hl
        rw [Option.map_eq_some_iff] at h
        obtain ⟨ys, hy, _⟩ := h
        have h4 := mapM_all hy
        have := fields_all2 (cs := cs) h2 fun f hm => by
          obtain ⟨y, h5⟩ := h4 f hm
          exact flat_trod (h3 f hm) h5
        rw [List.drop_zero, ← h1, ← hl, List.take_length] at this
        exact this
      · cases h
    · cases hf

/-! ### A slice of flat values -/
theorem okLeaf_g0 {l : Leaf} {v : Value} (h : okLeaf l v) : g0 v = true := by
  cases l with
  | int q => obtain ⟨n, rfl, _⟩ := h; rfl
  | bool => obtain ⟨b, rfl⟩ := h; rfl
  | str => obtain ⟨s, rfl, _⟩ := h; rfl
  | any => exact h.elim
theorem okLeaf_rd {l : Leaf} {c : Array Value} {i : Nat} {v : Value} (hc : c[i]? = some v) (h : okLeaf l v) : (rdLeaf c l i).1 = true := by
  have hl : lget c.toList i = v := by rw [lget_eq, Array.toArray_toList, Array.getD_eq_getD_getElem?, hc]; rfl
  cases l with
  | int q => obtain ⟨n, rfl, _⟩ := h; simp [rdLeaf, isInt, hl]
  | bool => obtain ⟨b, rfl⟩ := h; simp [rdLeaf, isBool, hl]
  | str => obtain ⟨s, rfl, _⟩ := h; simp [rdLeaf, isStr, hl]
  | any => exact h.elim
theorem rdOk_of {c : Array Value} : ∀ {L : List Leaf} {x : Nat}, (∀ (j : Nat) (l : Leaf), L[j]? = some l → ∃ v, c[x + j]? = some v ∧ okLeaf l v) → rdOk c L x = true
  | [], _, _ => rfl
  | l :: L, x, h => by
    obtain ⟨v, h1, h2⟩ := h 0 l rfl
    simp only [rdOk, Bool.and_eq_true]
    refine ⟨okLeaf_rd h1 h2, rdOk_of fun j l' hj => ?_⟩
    obtain ⟨v', h3, h4⟩ := h (j + 1) l' (by simpa using hj)
    exact ⟨v', by rw [show x + 1 + j = x + (j + 1) by omega]; exact h3, h4⟩

/-- Some rows of leaves, one behind the other, and nothing but leaves. -/
def GoodL (L : List Leaf) (c : Array Value) (off n : Nat) : Prop := c.toList.all g0 = true ∧ ∀ k, k < n → rdOk c L (off + k * L.length) = true

/-- What stands for an argument that is a slice of flat values. -/
structure SArg (w : World) (L : List Leaf) (b : Nat) (v : Value) (a : Option Addr) (n sz : Nat) (ob : Ob) (x : Option (Nat × Nat × Nat)) : Prop where
  adr : ∀ y, a = some y → y.block = b
  vr : ∀ φ : Phi, (∀ y, x = some y → φ b = some y) → VR φ (.slice a n sz) v
  live : ob.live = true → ∃ B bs tot, x = some (B, bs, tot) ∧ ∀ φ : Phi, ObR φ w ob B bs tot
  ro : ob.rw = false
  good : n = 0 ∨ (a = some ⟨b, 0, none⟩ ∧ sz = L.length ∧ ∃ c, ob = .cells c true ∧ GoodL L c 0 n)
  few : n ≤ maxLen

theorem cell_some {a : Addr} {v : Value} (h : w.cell? a = some v) : a.spot = none ∧ ∃ C el fr, w.heap[a.block]? = some (.cells C el fr) ∧ C[a.off]? = some v := by
  unfold World.cell? at h
  split at h
  · rename_i C el fr hh
    split at h
    · cases h
    · rename_i hs
      exact ⟨by simpa using hs, C, el, fr, hh, h⟩
  · cases h

theorem add_at (B off k : Nat) : (⟨B, off, none⟩ : Addr).add k = ⟨B, off + k, none⟩ := by
  unfold Addr.add
  split <;> simp_all
theorem sArg {t e : TypeId} {fuel : Nat} {v : Value} {x : DataW H × List MemPlace} (ht : P.underlying t = some (.slice e)) (hf : flatT P 20 e = true) (hsz : P.cellsOf e = (leaves P 20 e).length) (hpos : 0 < (leaves P 20 e).length)
    (h : DataW.trod enc P w base (fun _ => true) held fuel t [v] = some x) (b : Nat) : ∃ a n sz ob y, SArg w (leaves P 20 e) b v a n sz ob y := by
  rcases Go.Deep.open_slice ht h with ⟨hcs, _⟩ | ⟨a, len, cap, m, k, D, Pl, hcs, hb, hl, hm, hmm, _, hx⟩
  · simp only [List.cons.injEq, and_true] at hcs
    subst hcs
    exact ⟨none, 0, 0, .dead, none, fun y h => (nomatch h), fun φ _ => .sliceN, fun h => (nomatch h), rfl, .inl rfl, Nat.zero_le _⟩
  · simp only [List.cons.injEq, and_true] at hcs
    subst hcs
    simp only [if_true] at hmm
    subst hmm
    by_cases hc0 : m = 0
    · subst hc0
      obtain rfl : len = 0 := by omega
      refine ⟨some ⟨b, 0, none⟩, 0, (leaves P 20 e).length, .dead, some (0, 0, 0), fun y h => by cases h; rfl, fun φ hφ => ?_, fun h => (nomatch h), rfl, .inl rfl, Nat.zero_le _⟩
      exact VR.sliceZ (a := ⟨b, 0, none⟩) (hφ _ rfl) a _
    · have hcell : ∀ i, i < m → ∀ j l, (leaves P 20 e)[j]? = some l → ∃ v, w.cell? ((a.add (i * P.cellsOf e)).add j) = some v ∧ okLeaf l v := by
        intro i hi j l hj
        obtain ⟨cs', h1, h2⟩ := hx i hi
        obtain ⟨_, h3, h4⟩ := World.cells?_some h1
        obtain ⟨v, h5, h6⟩ := (flat_trod hf h2).get hj
        refine ⟨v, ?_, h6⟩
        rw [h4 j (by rw [hsz]; exact (List.getElem?_eq_some_iff.1 hj).1)]
        exact h5
      obtain ⟨l0, hl0⟩ : ∃ l, (leaves P 20 e)[0]? = some l := ⟨_, List.getElem?_eq_getElem hpos⟩
      obtain ⟨v0, h1, _⟩ := hcell 0 (by omega) 0 l0 hl0
      obtain ⟨hs, C, el, fr, hh, _⟩ := cell_some h1
      obtain ⟨B, off, spot⟩ := a
      simp only [Nat.zero_mul, Addr.add, if_true] at hs hh
      subst hs
      have hC : ∀ i, i < m → ∀ j l, (leaves P 20 e)[j]? = some l → ∃ v, C[off + i * (leaves P 20 e).length + j]? = some v ∧ okLeaf l v := by
        intro i hi j l hj
        obtain ⟨v, h2, h3⟩ := hcell i hi j l hj
        obtain ⟨_, C', el', fr', hh', h4⟩ := cell_some h2
        simp only [add_at] at hh' h4
        rw [hh] at hh'
        cases hh'
        rw [hsz] at h4
        exact ⟨v, h4, h3⟩
      generalize hLe : leaves P 20 e = L at *
      have hcget : ∀ k, k < len * L.length → (C.extract off (off + len * L.length))[k]? = C[off + k]? := by
        intro k hk
        rw [Array.getElem?_extract, if_pos ?_]
        have hd : k / L.length < len := Nat.div_lt_of_lt_mul (by rw [Nat.mul_comm]; exact hk)
        have hmod := Nat.mod_lt k hpos
        obtain ⟨l, hl'⟩ : ∃ l, L[k % L.length]? = some l := ⟨_, List.getElem?_eq_getElem hmod⟩
        obtain ⟨v, h2, _⟩ := hC (k / L.length) (by omega) (k % L.length) l hl'
        have := (Array.getElem?_eq_some_iff.1 h2).1
        have h6 := Nat.div_add_mod k L.length
        rw [Nat.mul_comm] at h6
        omega
      refine ⟨some ⟨b, 0, none⟩, len, L.length, .cells (C.extract off (off + len * L.length)) true, some (B, off, m * L.length), fun y h => by cases h; rfl, fun φ hφ => ?_, fun _ => ⟨B, off, m * L.length, rfl, fun φ => ?_⟩, rfl, .inr ⟨rfl, rfl, _, rfl, ?_, ?_⟩, Nat.le_trans hl hm⟩
      · exact VR.slice (off := 0) (hφ _ rfl) hl (by omega)
      · refine ⟨C, el, fr, hh, fun i v hv => ?_, fun h => (nomatch h)⟩
        have hi : i < len * L.length := by
          have := (Array.getElem?_eq_some_iff.1 hv).1
          simp only [Array.size_extract] at this
          omega
        rw [hcget i hi] at hv
        have hd : i / L.length < len := Nat.div_lt_of_lt_mul (by rw [Nat.mul_comm]; exact hi)
        have hmod := Nat.mod_lt i hpos
        obtain ⟨l, hl'⟩ : ∃ l, L[i % L.length]? = some l := ⟨_, List.getElem?_eq_getElem hmod⟩
        obtain ⟨v', h2, h3⟩ := hC (i / L.length) (by omega) (i % L.length) l hl'
        have h6 := Nat.div_add_mod i L.length
        rw [Nat.mul_comm] at h6
        rw [show off + i / L.length * L.length + i % L.length = off + i by omega, hv] at h2
        cases h2
        exact ⟨v, hv, g0_refl (okLeaf_g0 h3)⟩
      · rw [List.all_eq_true]
        intro u hu
        rw [Array.mem_toList_iff, Array.mem_iff_getElem?] at hu
        obtain ⟨i, hu⟩ := hu
        have hi : i < len * L.length := by
          have := (Array.getElem?_eq_some_iff.1 hu).1
          simp only [Array.size_extract] at this
          omega
        rw [hcget i hi] at hu
        have hd : i / L.length < len := Nat.div_lt_of_lt_mul (by rw [Nat.mul_comm]; exact hi)
        have hmod := Nat.mod_lt i hpos
        obtain ⟨l, hl'⟩ : ∃ l, L[i % L.length]? = some l := ⟨_, List.getElem?_eq_getElem hmod⟩
        obtain ⟨v', h2, h3⟩ := hC (i / L.length) (by omega) (i % L.length) l hl'
        have h6 := Nat.div_add_mod i L.length
        rw [Nat.mul_comm] at h6
        rw [show off + i / L.length * L.length + i % L.length = off + i by omega, hu] at h2
        cases h2
        exact okLeaf_g0 h3
      · intro k hk
        refine rdOk_of fun j l hj => ?_
        have hjl := (List.getElem?_eq_some_iff.1 hj).1
        obtain ⟨v', h2, h3⟩ := hC k (by omega) j l hj
        refine ⟨v', ?_, h3⟩
        rw [Nat.zero_add, hcget (k * L.length + j) ?_, ← Nat.add_assoc]
        · exact h2
        · have : (k + 1) * L.length ≤ len * L.length := Nat.mul_le_mul_right _ hk
          rw [Nat.add_mul, Nat.one_mul] at this
          omega
end
end
end Go.Gh
