/- What a piece of code does over some blocks, it does over more of them, whatever stands in slots that it does not look at; and what it leaves behind in slots and blocks may be forgotten. Conditions: none. -/
import Derived.Test.YtplejmmkcfmdcaaGhCb
namespace Go.Gh
open Go.RowKit
noncomputable section

/-- What is kept of a value that nobody will look at: a bool alone. -/
def lo (v : Value) : Value := match v with | .bool b => .bool b | _ => undef
theorem cl_vr {φ ψ : Phi} {v v' : Value} (h : VR φ v v') : VR ψ (lo v) v' := by
  cases h with
  | bool b => exact .bool b
  | top _ hb => exact .top _ hb
  | _ => exact .top _ rfl
theorem vr_undef {φ ψ : Phi} {v v' : Value} (h : VR φ v v') (hn : notB v = true) : VR ψ undef v' := by
  cases h with
  | bool b => cases hn
  | top _ hb => exact .top _ hb
  | _ => exact .top _ rfl

/-- One slot, told less of. -/
def SlotR (n : Nat) (v v0 : Value) : Prop := v0 = lo v ∨ (v0 = undef ∧ notB v = true) ∨ (v0 = v ∧ scT n v = true)
theorem SlotR.vr {φ : Phi} {n : Nat} {v v0 v' : Value} (hs : SlotR n v v0) (h : VR φ v v') : VR (cut φ n) v0 v' := by
  rcases hs with rfl | ⟨rfl, hb⟩ | ⟨rfl, hsc⟩
  · exact cl_vr h
  · exact vr_undef h hb
  · exact scT_cut hsc h
inductive SlotRs (n : Nat) : List Value → List Value → Prop
  | nil : SlotRs n [] []
  | cons {v v0 : Value} {l l0 : List Value} (h : SlotR n v v0) (r : SlotRs n l l0) : SlotRs n (v :: l) (v0 :: l0)
theorem SlotRs.get {n : Nat} {l l0 : List Value} (h : SlotRs n l l0) : ∀ i : Nat, OR (SlotR n) l[i]? l0[i]? := by
  induction h with
  | nil => intro i; simp; exact .none
  | cons h _ ih =>
    intro i
    cases i with
    | zero => simp only [List.getElem?_cons_zero]; exact .some h
    | succ i => simp only [List.getElem?_cons_succ]; exact ih i
theorem SlotRs.vrs {φ : Phi} {n : Nat} {l l0 : List Value} {tm : Array Value} (hs : SlotRs n l l0) (h : VRs φ l.toArray tm) : VRs (cut φ n) l0.toArray tm := by
  intro i
  have h1 := hs.get i
  have h2 := h i
  rw [List.getElem?_toArray] at h2 ⊢
  generalize l[i]? = x at h1 h2
  generalize l0[i]? = y at h1 ⊢
  generalize tm[i]? = z at h2 ⊢
  cases h1 with
  | none => cases h2; exact .none
  | some h1 => cases h2 with | some h2 => exact .some (h1.vr h2)

def noPanic : Ex → Bool
  | .panic _ => false
  | _ => true
theorem ExR.any {φ ψ : Phi} {e : Ex} {x : Exit} (h : ExR φ e x) (hn : noPanic e = true) : ExR ψ e x := by
  cases h with
  | normal => exact .normal
  | exit id => exact .exit id
  | goto l => exact .goto l
  | ret => exact .ret
  | panic h => cases hn

/-- The blocks behind: each of the kind that it was, and shut among themselves. -/
def obKept (n : Nat) (ob ob' : Ob) : Bool := (!ob'.live || ob.live) && (!ob'.rw || ob.rw) && obSc n ob'
inductive ObsKept (n : Nat) : List Ob → List Ob → Prop
  | nil : ObsKept n [] []
  | cons {o o' : Ob} {l l' : List Ob} (h : obKept n o o' = true) (r : ObsKept n l l') : ObsKept n (o :: l) (o' :: l')
theorem ObsKept.len {n : Nat} {l l' : List Ob} (h : ObsKept n l l') : l'.length = l.length := by
  induction h with
  | nil => rfl
  | cons _ _ ih => simp [ih]
theorem ObsKept.get {n : Nat} {l l' : List Ob} (h : ObsKept n l l') : ∀ {b : Nat} {ob' : Ob}, l'[b]? = some ob' → ∃ ob, l[b]? = some ob ∧ (ob'.live = true → ob.live = true) ∧ (ob'.rw = true → ob.rw = true) ∧ obSc n ob' = true := by
  induction h with
  | nil => intro b ob' h; simp at h
  | @cons o o' l l' h _ ih =>
    intro b ob' hb
    cases b with
    | zero =>
      simp only [List.getElem?_cons_zero, Option.some.injEq] at hb
      subst hb
      simp only [obKept, Bool.and_eq_true, Bool.or_eq_true, Bool.not_eq_true'] at h
      refine ⟨o, rfl, fun hl => ?_, fun hr => ?_, h.2⟩
      · rcases h.1.1 with h1 | h1
        · rw [hl] at h1; cases h1
        · exact h1
      · rcases h.1.2 with h1 | h1
        · rw [hr] at h1; cases h1
        · exact h1
    | succ b =>
      simp only [List.getElem?_cons_succ] at hb ⊢
      exact ih hb

section
variable {P : Program} {K : Nat → Prop} {w0 w w' : World} {φ φ' : Phi} {H0 G H1 X : List Ob}

/-- Blocks that may be written, by their place in the world. -/
def RwAt (φ : Phi) (H : List Ob) (k : Nat) : Prop := ∃ (b : Nat) (ob : Ob) (x : Nat × Nat × Nat), H[b]? = some ob ∧ ob.rw = true ∧ φ b = some x ∧ x.1 = k

theorem get_left {b : Nat} {ob : Ob} (h : H0[b]? = some ob) : (H0 ++ G)[b]? = some ob := by
  rw [List.getElem?_append_left (List.getElem?_eq_some_iff.1 h).1]; exact h

theorem Inv.narrow (hI : Inv K w0 φ (H0 ++ G) w) (hsc : ∀ (b : Nat) (ob : Ob), H0[b]? = some ob → obSc H0.length ob = true) :
    Inv (fun k => k < w.heap.size ∧ ¬ RwAt φ H0 k) w (cut φ H0.length) H0 w := by
  refine ⟨?_, ?_, ?_, fun _ _ => rfl, fun _ h => h.1, Nat.le_refl _, rfl, rfl, rfl, fun b hb => cut_ge hb⟩
  · intro b ob hb hl
    obtain ⟨B, base, tot, h1, h2⟩ := hI.obs b ob (get_left hb) hl
    exact ⟨B, base, tot, (cut_lt (List.getElem?_eq_some_iff.1 hb).1).trans h1, obSc_cut (hsc b ob hb) h2⟩
  · intro b b' ob ob' x y hne hb hb' hrw hl hx hy
    rw [cut_lt (List.getElem?_eq_some_iff.1 hb).1] at hx
    rw [cut_lt (List.getElem?_eq_some_iff.1 hb').1] at hy
    exact hI.sep b b' ob ob' x y hne (get_left hb) (get_left hb') hrw hl hx hy
  · intro b ob x hb hrw hx hk
    rw [cut_lt (List.getElem?_eq_some_iff.1 hb).1] at hx
    exact hk.2 ⟨b, ob, x, hb, hrw, hx, rfl⟩

theorem Inv.widen (hI : Inv K w0 φ (H0 ++ G) w) (hF : Inv (fun k => k < w.heap.size ∧ ¬ RwAt φ H0 k) w φ' (H1 ++ X) w') (hle : le (cut φ H0.length) φ') (hk : ObsKept H0.length H0 H1) :
    ∃ φ'', le φ φ'' ∧ le (cut φ' H0.length) φ'' ∧ Inv K w0 φ'' (H1 ++ G) w' := by
  have hlen := hk.len
  refine ⟨fun b => if b < H0.length then φ' b else φ b, ?_, ?_, ?_⟩
  · intro b x hx
    show (if b < H0.length then φ' b else φ b) = some x
    split
    · rename_i hlt; exact hle b x ((cut_lt hlt).trans hx)
    · exact hx
  · intro b x hx
    show (if b < H0.length then φ' b else φ b) = some x
    split
    · rename_i hlt; rwa [cut_lt hlt] at hx
    · rename_i hge; rw [cut_ge (by omega)] at hx; cases hx
  have hφlt : ∀ {b : Nat}, b < H0.length → (if b < H0.length then φ' b else φ b) = φ' b := fun h => if_pos h
  have hφge : ∀ {b : Nat}, ¬ b < H0.length → (if b < H0.length then φ' b else φ b) = φ b := fun h => if_neg h
  have hleφ : le φ (fun b => if b < H0.length then φ' b else φ b) := by
    intro b x hx
    show (if b < H0.length then φ' b else φ b) = some x
    split
    · rename_i hlt; exact hle b x ((cut_lt hlt).trans hx)
    · exact hx
  have hlec : le (cut φ' H0.length) (fun b => if b < H0.length then φ' b else φ b) := by
    intro b x hx
    show (if b < H0.length then φ' b else φ b) = some x
    split
    · rename_i hlt; rwa [cut_lt hlt] at hx
    · rename_i hge; rw [cut_ge (by omega)] at hx; cases hx
  have hcase : ∀ {b : Nat} {ob : Ob}, (H1 ++ G)[b]? = some ob → (b < H0.length ∧ H1[b]? = some ob) ∨ (¬ b < H0.length ∧ (H0 ++ G)[b]? = some ob) := by
    intro b ob hb
    by_cases hlt : b < H0.length
    · rw [List.getElem?_append_left (by omega)] at hb; exact .inl ⟨hlt, hb⟩
    · rw [List.getElem?_append_right (by omega)] at hb
      refine .inr ⟨hlt, ?_⟩
      rw [List.getElem?_append_right (by omega), ← hlen]; exact hb
  have hold : ∀ k, k < w.heap.size → ¬ RwAt φ H0 k → w'.heap[k]? = w.heap[k]? := fun k h1 h2 => hF.keep k ⟨h1, h2⟩
  -- blocks that were there among the first: where they lie
  have hwas : ∀ {b : Nat} {ob : Ob} {x : Nat × Nat × Nat}, H1[b]? = some ob → ob.live = true → φ' b = some x → φ b = some x := by
    intro b ob x hb hl hx
    obtain ⟨ob0, h0, hl0, _, _⟩ := hk.get hb
    obtain ⟨B, base, tot, h1, _⟩ := hI.obs b ob0 (get_left h0) (hl0 hl)
    have := hle b _ ((cut_lt (List.getElem?_eq_some_iff.1 h0).1).trans h1)
    rw [hx] at this
    rw [h1, this]
  refine ⟨?_, ?_, ?_, ?_, hI.klt, Nat.le_trans hI.size hF.size, hF.os.trans hI.os, hF.tape.trans hI.tape, hF.output.trans hI.output, ?_⟩
  · intro b ob hb hl
    rcases hcase hb with ⟨hlt, h1⟩ | ⟨hge, h1⟩
    · obtain ⟨B, base, tot, h2, h3⟩ := hF.obs b ob (get_left h1) hl
      obtain ⟨_, _, _, _, hsc⟩ := hk.get h1
      exact ⟨B, base, tot, (hφlt hlt).trans h2, (obSc_cut hsc h3).keep hlec rfl⟩
    · obtain ⟨B, base, tot, h2, h3⟩ := hI.obs b ob h1 hl
      refine ⟨B, base, tot, (hφge hge).trans h2, h3.keep hleφ (hold B (h3.lt hl) ?_)⟩
      rintro ⟨b0, ob0, x, h4, h5, h6, h7⟩
      have hb0 := (List.getElem?_eq_some_iff.1 h4).1
      exact hI.sep b0 b ob0 ob x _ (by omega) (get_left h4) h1 h5 hl h6 h2 h7
  · intro b b' ob ob' x y hne hb hb' hrw hl hx hy
    rcases hcase hb with ⟨hlt, h1⟩ | ⟨hge, h1⟩
    · simp only [hφlt hlt] at hx
      obtain ⟨ob0, h0, _, hrw0, _⟩ := hk.get h1
      have hx0 := hwas h1 (Ob.live_of_rw hrw) hx
      rcases hcase hb' with ⟨hlt', h2⟩ | ⟨hge', h2⟩
      · simp only [hφlt hlt'] at hy
        exact hF.sep b b' ob ob' x y hne (get_left h1) (get_left h2) hrw hl hx hy
      · simp only [hφge hge'] at hy
        exact hI.sep b b' ob0 ob' x y hne (get_left h0) h2 (hrw0 hrw) hl hx0 hy
    · simp only [hφge hge] at hx
      rcases hcase hb' with ⟨hlt', h2⟩ | ⟨hge', h2⟩
      · simp only [hφlt hlt'] at hy
        obtain ⟨ob0, h0, hl0, _, _⟩ := hk.get h2
        exact hI.sep b b' ob ob0 x y hne h1 (get_left h0) hrw (hl0 hl) hx (hwas h2 hl hy)
      · simp only [hφge hge'] at hy
        exact hI.sep b b' ob ob' x y hne h1 h2 hrw hl hx hy
  · intro b ob x hb hrw hx
    rcases hcase hb with ⟨hlt, h1⟩ | ⟨hge, h1⟩
    · simp only [hφlt hlt] at hx
      obtain ⟨ob0, h0, _, hrw0, _⟩ := hk.get h1
      exact hI.prot b ob0 x (get_left h0) (hrw0 hrw) (hwas h1 (Ob.live_of_rw hrw) hx)
    · simp only [hφge hge] at hx
      exact hI.prot b ob x h1 hrw hx
  · intro k hkk
    have h1 := hI.klt k hkk
    have h2 := hI.size
    rw [hold k (by omega) ?_]
    · exact hI.keep k hkk
    · rintro ⟨b0, ob0, x, h4, h5, h6, h7⟩
      exact hI.prot b0 ob0 x (get_left h4) h5 h6 (h7 ▸ hkk)
  · intro b hb
    simp only [List.length_append] at hb
    have hge : ¬ b < H0.length := by omega
    simp only [hφge hge]
    exact hI.top b (by simp only [List.length_append]; omega)

/-- What is left of a task's answer. -/
theorem Fact.forget {c : Code} {t t0 L T : List Value} {base base1 : Nat} {wr wr1 : List Nat} {e : Ex}
    (hf : Fact P (.code none c ⟨t0, [], ⟨H0, base, wr⟩⟩) (.ex e ⟨L, [], ⟨H1 ++ X, base1, wr1⟩⟩)) (hb : base ≤ H0.length) (hk : ObsKept H0.length H0 H1) (hsc : (H0.all (obSc H0.length)) = true)
    (ht : SlotRs H0.length t t0) (hT : SlotRs H0.length L T) (he : noPanic e = true) :
    Fact P (.code none c ⟨t, [], ⟨H0 ++ G, base, wr⟩⟩) (.ex e ⟨T, [], ⟨H1 ++ G, base, wr1⟩⟩) := by
  have hlen := hk.len
  obtain ⟨hp, hh⟩ := hf.1 hb
  have hsc' : ∀ (b : Nat) (ob : Ob), H0[b]? = some ob → obSc H0.length ob = true := fun b ob hb => by
    rw [List.all_eq_true] at hsc; exact hsc ob (List.mem_of_getElem? hb)
  have key : ∀ {K : Nat → Prop} {w0 w : World} {φ : Phi} {x : Exit} {a' : Act} {w' : World}, Inv K w0 φ (H0 ++ G) w → CodeR (fun k => k < w.heap.size ∧ ¬ RwAt φ H0 k) w (cut φ H0.length) e ⟨L, [], ⟨H1 ++ X, base1, wr1⟩⟩ x a' w' →
      CodeR K w0 φ e ⟨T, [], ⟨H1 ++ G, base, wr1⟩⟩ x a' w' := by
    rintro K w0 w φ x a' w' hI ⟨φ', hle, hx, ht', hd', hI'⟩
    obtain ⟨φ'', h1, h2, h3⟩ := hI.widen hI' hle hk
    refine ⟨φ'', h1, hx.any he, fun i => (hT.vrs ht' i).mono fun _ _ h => h.mono h2, ?_, h3⟩
    have hd0 : a'.defers = [] := by
      have : DRs φ' [] a'.defers := hd'
      generalize a'.defers = l at this
      cases this; rfl
    rw [hd0]; exact .nil
  have dnil : ∀ {φ ψ : Phi} {l : List Deferred}, DRs φ [] l → DRs ψ [] l := fun h => by cases h; exact .nil
  refine ⟨fun hb' => ⟨⟨rfl, ?_, ?_, ?_⟩, ?_⟩, ?_⟩
  · show (H0 ++ G).length ≤ (H1 ++ G).length
    simp [hlen]
  · intro b hlt hn
    obtain ⟨h1, h2⟩ := hp.same b hlt hn
    refine ⟨h1, ?_⟩
    have hlt' : b < H0.length := Nat.lt_of_lt_of_le hlt hb
    simp only at h2 ⊢
    rw [List.getElem?_append_left (by omega)] at h2 ⊢
    rw [List.getElem?_append_left hlt']; exact h2
  · intro b ob hx hl hr
    simp only at hx ⊢
    by_cases hlt : b < H0.length
    · rw [List.getElem?_append_left (by omega)] at hx
      exact get_left (hp.ro b ob (get_left hx) hl hr)
    · rw [List.getElem?_append_right (by omega)] at hx
      rw [List.getElem?_append_right (by omega), ← hlen]; exact hx
  · intro K w0 φ w a F n hI hta hd hF
    exact wpIn_mono (hh _ w (cut φ H0.length) w a F n (hI.narrow hsc') (ht.vrs hta) (dnil hd) hF) fun x a' w' h => key hI h
  · cases c with
    | loop c =>
      intro hb' K w0 φ w a F n hI hta hd hF
      have hl := hf.2 hb
      exact wpLoopIn_mono (hl _ w (cut φ H0.length) w a F n (hI.narrow hsc') (ht.vrs hta) (dnil hd) hF) fun x a' w' h => key hI h
    | _ => trivial
end
end
end Go.Gh
