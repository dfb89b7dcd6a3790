/- Part 5 of the texts below the claim. Conditions: none. -/
import Derived.Test.YtohpmnfplglbdaaMg4
import Derived.Test.YtohpmnfplglbdaaMg3
import Derived.Test.YtohpmnfplglbdaaProg
import Derived.WalkKit
/- What a piece of code does over some blocks, it does over more of them, whatever stands in slots that it does not look at; and what it leaves behind in slots and blocks may be forgotten. Conditions: none. -/
namespace Go.Gh
open Go.RowKit
noncomputable section

/-- What is kept of a value that nobody will look at: a bool alone. -/
def lo (v : Value) : Value := match v with | .bool b => .bool b | _ => undef
theorem cl_vr {φ ψ : Phi} {v v' : Value} (h : VR φ v v') : VR ψ (lo v) v' := by
  cases h with
  | bool b => exact .bool b
  | top _ hb => exact .top _ hb
  | _ => exact .top _ rfl
theorem vr_undef {φ ψ : Phi} {v v' : Value} (h : VR φ v v') (hn : notB v = true) : VR ψ undef v' := by
  cases h with
  | bool b => cases hn
  | top _ hb => exact .top _ hb
  | _ => exact .top _ rfl

/-- One slot, told less of. -/
def SlotR (n : Nat) (v v0 : Value) : Prop := v0 = lo v ∨ (v0 = undef ∧ notB v = true) ∨ (v0 = v ∧ scT n v = true)
theorem SlotR.vr {φ : Phi} {n : Nat} {v v0 v' : Value} (hs : SlotR n v v0) (h : VR φ v v') : VR (cut φ n) v0 v' := by
  rcases hs with rfl | ⟨rfl, hb⟩ | ⟨rfl, hsc⟩
  · exact cl_vr h
  · exact vr_undef h hb
  · exact scT_cut hsc h
inductive SlotRs (n : Nat) : List Value → List Value → Prop
  | nil : SlotRs n [] []
  | cons {v v0 : Value} {l l0 : List Value} (h : SlotR n v v0) (r : SlotRs n l l0) : SlotRs n (v :: l) (v0 :: l0)
theorem SlotRs.get {n : Nat} {l l0 : List Value} (h : SlotRs n l l0) : ∀ i : Nat, OR (SlotR n) l[i]? l0[i]? := by
  induction h with
  | nil => intro i; simp; exact .none
  | cons h _ ih =>
    intro i
    cases i with
    | zero => simp only [List.getElem?_cons_zero]; exact .some h
    | succ i => simp only [List.getElem?_cons_succ]; exact ih i
theorem SlotRs.vrs {φ : Phi} {n : Nat} {l l0 : List Value} {tm : Array Value} (hs : SlotRs n l l0) (h : VRs φ l.toArray tm) : VRs (cut φ n) l0.toArray tm := by
  intro i
  have h1 := hs.get i
  have h2 := h i
  rw [List.getElem?_toArray] at h2 ⊢
  generalize l[i]? = x at h1 h2
  generalize l0[i]? = y at h1 ⊢
  generalize tm[i]? = z at h2 ⊢
  cases h1 with
  | none => cases h2; exact .none
  | some h1 => cases h2 with | some h2 => exact .some (h1.vr h2)

def noPanic : Ex → Bool
  | .panic _ => false
  | _ => true
theorem ExR.any {φ ψ : Phi} {e : Ex} {x : Exit} (h : ExR φ e x) (hn : noPanic e = true) : ExR ψ e x := by
  cases h with
  | normal => exact .normal
  | exit id => exact .exit id
  | goto l => exact .goto l
  | ret => exact .ret
  | panic h => cases hn

/-- The blocks behind: each of the kind that it was, and shut among themselves. -/
def obKept (n : Nat) (ob ob' : Ob) : Bool := (!ob'.live || ob.live) && (!ob'.rw || ob.rw) && obSc n ob'
inductive ObsKept (n : Nat) : List Ob → List Ob → Prop
  | nil : ObsKept n [] []
  | cons {o o' : Ob} {l l' : List Ob} (h : obKept n o o' = true) (r : ObsKept n l l') : ObsKept n (o :: l) (o' :: l')
theorem ObsKept.len {n : Nat} {l l' : List Ob} (h : ObsKept n l l') : l'.length = l.length := by
  induction h with
  | nil => rfl
  | cons _ _ ih => simp [ih]
theorem ObsKept.get {n : Nat} {l l' : List Ob} (h : ObsKept n l l') : ∀ {b : Nat} {ob' : Ob}, l'[b]? = some ob' → ∃ ob, l[b]? = some ob ∧ (ob'.live = true → ob.live = true) ∧ (ob'.rw = true → ob.rw = true) ∧ obSc n ob' = true := by
  induction h with
  | nil => intro b ob' h; simp at h
  | @cons o o' l l' h _ ih =>
    intro b ob' hb
    cases b with
    | zero =>
      simp only [List.getElem?_cons_zero, Option.some.injEq] at hb
      subst hb
      simp only [obKept, Bool.and_eq_true, Bool.or_eq_true, Bool.not_eq_true'] at h
      refine ⟨o, rfl, fun hl => ?_, fun hr => ?_, h.2⟩
      · rcases h.1.1 with h1 | h1
        · rw [hl] at h1; cases h1
        · exact h1
      · rcases h.1.2 with h1 | h1
        · rw [hr] at h1; cases h1
        · exact h1
    | succ b =>
      simp only [List.getElem?_cons_succ] at hb ⊢
      exact ih hb

section
variable {P : Program} {K : Nat → Prop} {w0 w w' : World} {φ φ' : Phi} {H0 G H1 X : List Ob}

/-- Blocks that may be written, by their place in the world. -/
def RwAt (φ : Phi) (H : List Ob) (k : Nat) : Prop := ∃ (b : Nat) (ob : Ob) (x : Nat × Nat × Nat), H[b]? = some ob ∧ ob.rw = true ∧ φ b = some x ∧ x.1 = k

theorem get_left {b : Nat} {ob : Ob} (h : H0[b]? = some ob) : (H0 ++ G)[b]? = some ob := by
  rw [List.getElem?_append_left (List.getElem?_eq_some_iff.1 h).1]; exact h

theorem Inv.narrow (hI : Inv K w0 φ (H0 ++ G) w) (hsc : ∀ (b : Nat) (ob : Ob), H0[b]? = some ob → obSc H0.length ob = true) :
    Inv (fun k => k < w.heap.size ∧ ¬ RwAt φ H0 k) w (cut φ H0.length) H0 w := by
  refine ⟨?_, ?_, ?_, fun _ _ => rfl, fun _ h => h.1, Nat.le_refl _, rfl, rfl, rfl, fun b hb => cut_ge hb⟩
  · intro b ob hb hl
    obtain ⟨B, base, tot, h1, h2⟩ := hI.obs b ob (get_left hb) hl
    exact ⟨B, base, tot, (cut_lt (List.getElem?_eq_some_iff.1 hb).1).trans h1, obSc_cut (hsc b ob hb) h2⟩
  · intro b b' ob ob' x y hne hb hb' hrw hl hx hy
    rw [cut_lt (List.getElem?_eq_some_iff.1 hb).1] at hx
    rw [cut_lt (List.getElem?_eq_some_iff.1 hb').1] at hy
    exact hI.sep b b' ob ob' x y hne (get_left hb) (get_left hb') hrw hl hx hy
  · intro b ob x hb hrw hx hk
    rw [cut_lt (List.getElem?_eq_some_iff.1 hb).1] at hx
    exact hk.2 ⟨b, ob, x, hb, hrw, hx, rfl⟩

theorem Inv.widen (hI : Inv K w0 φ (H0 ++ G) w) (hF : Inv (fun k => k < w.heap.size ∧ ¬ RwAt φ H0 k) w φ' (H1 ++ X) w') (hle : le (cut φ H0.length) φ') (hk : ObsKept H0.length H0 H1) :
    ∃ φ'', le φ φ'' ∧ le (cut φ' H0.length) φ'' ∧ Inv K w0 φ'' (H1 ++ G) w' := by
  have hlen := hk.len
  refine ⟨fun b => if b < H0.length then φ' b else φ b, ?_, ?_, ?_⟩
  · intro b x hx
    show (if b < H0.length then φ' b else φ b) = some x
    split
    · rename_i hlt; exact hle b x ((cut_lt hlt).trans hx)
    · exact hx
  · intro b x hx
    show (if b < H0.length then φ' b else φ b) = some x
    split
    · rename_i hlt; rwa [cut_lt hlt] at hx
    · rename_i hge; rw [cut_ge (by omega)] at hx; cases hx
  have hφlt : ∀ {b : Nat}, b < H0.length → (if b < H0.length then φ' b else φ b) = φ' b := fun h => if_pos h
  have hφge : ∀ {b : Nat}, ¬ b < H0.length → (if b < H0.length then φ' b else φ b) = φ b := fun h => if_neg h
  have hleφ : le φ (fun b => if b < H0.length then φ' b else φ b) := by
    intro b x hx
    show (if b < H0.length then φ' b else φ b) = some x
    split
    · rename_i hlt; exact hle b x ((cut_lt hlt).trans hx)
    · exact hx
  have hlec : le (cut φ' H0.length) (fun b => if b < H0.length then φ' b else φ b) := by
    intro b x hx
    show (if b < H0.length then φ' b else φ b) = some x
    split
    · rename_i hlt; rwa [cut_lt hlt] at hx
    · rename_i hge; rw [cut_ge (by omega)] at hx; cases hx
  have hcase : ∀ {b : Nat} {ob : Ob}, (H1 ++ G)[b]? = some ob → (b < H0.length ∧ H1[b]? = some ob) ∨ (¬ b < H0.length ∧ (H0 ++ G)[b]? = some ob) := by
    intro b ob hb
    by_cases hlt : b < H0.length
    · rw [List.getElem?_append_left (by omega)] at hb; exact .inl ⟨hlt, hb⟩
    · rw [List.getElem?_append_right (by omega)] at hb
      refine .inr ⟨hlt, ?_⟩
      rw [List.getElem?_append_right (by omega), ← hlen]; exact hb
  have hold : ∀ k, k < w.heap.size → ¬ RwAt φ H0 k → w'.heap[k]? = w.heap[k]? := fun k h1 h2 => hF.keep k ⟨h1, h2⟩
  -- blocks that were there among the first: where they lie
  have hwas : ∀ {b : Nat} {ob : Ob} {x : Nat × Nat × Nat}, H1[b]? = some ob → ob.live = true → φ' b = some x → φ b = some x := by
    intro b ob x hb hl hx
    obtain ⟨ob0, h0, hl0, _, _⟩ := hk.get hb
    obtain ⟨B, base, tot, h1, _⟩ := hI.obs b ob0 (get_left h0) (hl0 hl)
    have := hle b _ ((cut_lt (List.getElem?_eq_some_iff.1 h0).1).trans h1)
    rw [hx] at this
    rw [h1, this]
  refine ⟨?_, ?_, ?_, ?_, hI.klt, Nat.le_trans hI.size hF.size, hF.os.trans hI.os, hF.tape.trans hI.tape, hF.output.trans hI.output, ?_⟩
  · intro b ob hb hl
    rcases hcase hb with ⟨hlt, h1⟩ | ⟨hge, h1⟩
    · obtain ⟨B, base, tot, h2, h3⟩ := hF.obs b ob (get_left h1) hl
      obtain ⟨_, _, _, _, hsc⟩ := hk.get h1
      exact ⟨B, base, tot, (hφlt hlt).trans h2, (obSc_cut hsc h3).keep hlec rfl⟩
    · obtain ⟨B, base, tot, h2, h3⟩ := hI.obs b ob h1 hl
      refine ⟨B, base, tot, (hφge hge).trans h2, h3.keep hleφ (hold B (h3.lt hl) ?_)⟩
      rintro ⟨b0, ob0, x, h4, h5, h6, h7⟩
      have hb0 := (List.getElem?_eq_some_iff.1 h4).1
      exact hI.sep b0 b ob0 ob x _ (by omega) (get_left h4) h1 h5 hl h6 h2 h7
  · intro b b' ob ob' x y hne hb hb' hrw hl hx hy
    rcases hcase hb with ⟨hlt, h1⟩ | ⟨hge, h1⟩
    · simp only [hφlt hlt] at hx
      obtain ⟨ob0, h0, _, hrw0, _⟩ := hk.get h1
      have hx0 := hwas h1 (Ob.live_of_rw hrw) hx
      rcases hcase hb' with ⟨hlt', h2⟩ | ⟨hge', h2⟩
      · simp only [hφlt hlt'] at hy
        exact hF.sep b b' ob ob' x y hne (get_left h1) (get_left h2) hrw hl hx hy
      · simp only [hφge hge'] at hy
        exact hI.sep b b' ob0 ob' x y hne (get_left h0) h2 (hrw0 hrw) hl hx0 hy
    · simp only [hφge hge] at hx
      rcases hcase hb' with ⟨hlt', h2⟩ | ⟨hge', h2⟩
      · simp only [hφlt hlt'] at hy
        obtain ⟨ob0, h0, hl0, _, _⟩ := hk.get h2
        exact hI.sep b b' ob ob0 x y hne h1 (get_left h0) hrw (hl0 hl) hx (hwas h2 hl hy)
      · simp only [hφge hge'] at hy
        exact hI.sep b b' ob ob' x y hne h1 h2 hrw hl hx hy
  · intro b ob x hb hrw hx
    rcases hcase hb with ⟨hlt, h1⟩ | ⟨hge, h1⟩
    · simp only [hφlt hlt] at hx
      obtain ⟨ob0, h0, _, hrw0, _⟩ := hk.get h1
      exact hI.prot b ob0 x (get_left h0) (hrw0 hrw) (hwas h1 (Ob.live_of_rw hrw) hx)
    · simp only [hφge hge] at hx
      exact hI.prot b ob x h1 hrw hx
  · intro k hkk
    have h1 := hI.klt k hkk
    have h2 := hI.size
    rw [hold k (by omega) ?_]
    · exact hI.keep k hkk
    · rintro ⟨b0, ob0, x, h4, h5, h6, h7⟩
      exact hI.prot b0 ob0 x (get_left h4) h5 h6 (h7 ▸ hkk)
  · intro b hb
    simp only [List.length_append] at hb
    have hge : ¬ b < H0.length := by omega
    simp only [hφge hge]
    exact hI.top b (by simp only [List.length_append]; omega)

/-- What is left of a task's answer. -/
theorem Fact.forget {c : Code} {t t0 L T : List Value} {base base1 : Nat} {wr wr1 : List Nat} {e : Ex}
    (hf : Fact P (.code none c ⟨t0, [], ⟨H0, base, wr⟩⟩) (.ex e ⟨L, [], ⟨H1 ++ X, base1, wr1⟩⟩)) (hb : base ≤ H0.length) (hk : ObsKept H0.length H0 H1) (hsc : (H0.all (obSc H0.length)) = true)
    (ht : SlotRs H0.length t t0) (hT : SlotRs H0.length L T) (he : noPanic e = true) :
    Fact P (.code none c ⟨t, [], ⟨H0 ++ G, base, wr⟩⟩) (.ex e ⟨T, [], ⟨H1 ++ G, base, wr1⟩⟩) := by
  have hlen := hk.len
  obtain ⟨hp, hh⟩ := hf.1 hb
  have hsc' : ∀ (b : Nat) (ob : Ob), H0[b]? = some ob → obSc H0.length ob = true := fun b ob hb => by
    rw [List.all_eq_true] at hsc; exact hsc ob (List.mem_of_getElem? hb)
  have key : ∀ {K : Nat → Prop} {w0 w : World} {φ : Phi} {x : Exit} {a' : Act} {w' : World}, Inv K w0 φ (H0 ++ G) w → CodeR (fun k => k < w.heap.size ∧ ¬ RwAt φ H0 k) w (cut φ H0.length) e ⟨L, [], ⟨H1 ++ X, base1, wr1⟩⟩ x a' w' →
      CodeR K w0 φ e ⟨T, [], ⟨H1 ++ G, base, wr1⟩⟩ x a' w' := by
    rintro K w0 w φ x a' w' hI ⟨φ', hle, hx, ht', hd', hI'⟩
    obtain ⟨φ'', h1, h2, h3⟩ := hI.widen hI' hle hk
    refine ⟨φ'', h1, hx.any he, fun i => (hT.vrs ht' i).mono fun _ _ h => h.mono h2, ?_, h3⟩
    have hd0 : a'.defers = [] := by
      have : DRs φ' [] a'.defers := hd'
      generalize a'.defers = l at this
      cases this; rfl
    rw [hd0]; exact .nil
  have dnil : ∀ {φ ψ : Phi} {l : List Deferred}, DRs φ [] l → DRs ψ [] l := fun h => by cases h; exact .nil
  refine ⟨fun hb' => ⟨⟨rfl, ?_, ?_, ?_⟩, ?_⟩, ?_⟩
  · show (H0 ++ G).length ≤ (H1 ++ G).length
    simp [hlen]
  · intro b hlt hn
    obtain ⟨h1, h2⟩ := hp.same b hlt hn
    refine ⟨h1, ?_⟩
    have hlt' : b < H0.length := Nat.lt_of_lt_of_le hlt hb
    simp only at h2 ⊢
    rw [List.getElem?_append_left (by omega)] at h2 ⊢
    rw [List.getElem?_append_left hlt']; exact h2
  · intro b ob hx hl hr
    simp only at hx ⊢
    by_cases hlt : b < H0.length
    · rw [List.getElem?_append_left (by omega)] at hx
      exact get_left (hp.ro b ob (get_left hx) hl hr)
    · rw [List.getElem?_append_right (by omega)] at hx
      rw [List.getElem?_append_right (by omega), ← hlen]; exact hx
  · intro K w0 φ w a F n hI hta hd hF
    exact wpIn_mono (hh _ w (cut φ H0.length) w a F n (hI.narrow hsc') (ht.vrs hta) (dnil hd) hF) fun x a' w' h => key hI h
  · cases c with
    | loop c =>
      intro hb' K w0 φ w a F n hI hta hd hF
      have hl := hf.2 hb
      exact wpLoopIn_mono (hl _ w (cut φ H0.length) w a F n (hI.narrow hsc') (ht.vrs hta) (dnil hd) hF) fun x a' w' h => key hI h
    | _ => trivial
end
end
end Go.Gh

/- Loads made quick. Conditions: none. -/
namespace Go.Gh
open Go.RowKit
noncomputable section

def nth {α : Type} (l : List α) : Nat → Option α := List.rec (motive := fun _ => Nat → Option α) (fun _ => none) (fun v _ ih n => Nat.rec (motive := fun _ => Option α) (some v) (fun m _ => ih m) n) l
theorem nth_eq {α : Type} : ∀ (l : List α) (n : Nat), nth l n = l[n]?
  | [], _ => rfl
  | _ :: _, 0 => rfl
  | _ :: r, n + 1 => (nth_eq r n).trans (by simp)
def dropR {α : Type} (l : List α) : Nat → List α := List.rec (motive := fun _ => Nat → List α) (fun _ => []) (fun v r ih n => Nat.rec (motive := fun _ => List α) (v :: r) (fun m _ => ih m) n) l
theorem dropR_eq {α : Type} : ∀ (l : List α) (n : Nat), dropR l n = l.drop n
  | [], n => by simp [dropR]
  | _ :: _, 0 => rfl
  | _ :: r, n + 1 => (dropR_eq r n).trans (by simp)
def takeK {β : Type} (n : Nat) : List Value → (List Value → β) → β → β :=
  Nat.rec (motive := fun _ => List Value → (List Value → β) → β → β) (fun _ k _ => k [])
    (fun _ ih l k e => List.rec (motive := fun _ => β) e (fun v r _ => ih r (fun t => k (v :: t)) e) l) n
theorem takeK_eq {β : Type} : ∀ (n : Nat) (l : List Value) (k : List Value → β) (e : β), takeK n l k e = if n ≤ l.length then k (l.take n) else e
  | 0, l, k, e => by rw [if_pos (Nat.zero_le _)]; rfl
  | n + 1, [], k, e => by rw [if_neg (by simp)]; rfl
  | n + 1, v :: r, k, e => by
    show takeK n r (fun t => k (v :: t)) e = _
    rw [takeK_eq n r]
    simp only [List.length_cons, Nat.add_le_add_iff_right, List.take_succ_cons]

def loadK {β : Type} (P : Program) (H : List Ob) (t : TypeId) (v : Value) (k : Value → β) (k1 : Value → β) (e : β) : β :=
  match v with
  | .pointer (some ⟨b, off, none⟩) =>
    match nth H b with
    | some (.cells ⟨c⟩ _) =>
      match isAggB P t with
      | some true => (match sizeB P t with | some (n + 1) => takeK (n + 1) (dropR c off) (fun l => k (.agg ⟨l⟩)) e | _ => e)
      | some false => (match nth c off with | some v => k1 v | none => e)
      | none => e
    | _ => e
  | _ => e
theorem loadK_ok {β : Type} {P : Program} {H : List Ob} {t : TypeId} {v : Value} {k : Value → β} {e : β} : (∃ u, rLoad P H t v = some u ∧ loadK P H t v k k e = k u) ∨ loadK P H t v k k e = e := by
  unfold loadK
  split
  · rename_i b off
    rw [nth_eq]
    split
    · rename_i c ro hb
      split
      · rename_i ha
        split
        · rename_i n hs
          rw [takeK_eq, dropR_eq]
          by_cases hn : n + 1 ≤ (c.drop off).length
          · rw [if_pos hn]
            refine .inl ⟨_, ?_, rfl⟩
            rw [List.length_drop] at hn
            simp only [rLoad, hb, ha, hs]
            rw [if_pos (by simp; omega)]
            congr 2
            apply Array.ext'
            simp [List.take_drop]
          · rw [if_neg hn]; exact .inr rfl
        · exact .inr rfl
      · rename_i ha
        rw [nth_eq]
        split
        · rename_i u hu
          refine .inl ⟨u, ?_, rfl⟩
          simp only [rLoad, hb, ha]
          simpa using hu
        · exact .inr rfl
      · exact .inr rfl
    · exact .inr rfl
  · exact .inr rfl

/-! ### Stores -/
def setK {α β : Type} (l : List α) : Nat → α → (List α → β) → β :=
  List.rec (motive := fun _ => Nat → α → (List α → β) → β) (fun _ _ k => k [])
    (fun x r ih n v k => Nat.rec (motive := fun _ => β) (k (v :: r)) (fun m _ => ih m v fun r' => k (x :: r')) n) l
theorem setK_eq {α β : Type} : ∀ (l : List α) (n : Nat) (v : α) (k : List α → β), setK l n v k = k (l.set n v)
  | [], _, _, _ => rfl
  | _ :: _, 0, _, _ => rfl
  | x :: r, n + 1, v, k => (setK_eq r n v fun r' => k (x :: r')).trans (by simp)

theorem wcells_succ : ∀ (vs : List Value) (x : Value) (r : List Value) (off : Nat), (wcells ⟨x :: r⟩ (off + 1) vs).toList = x :: (wcells ⟨r⟩ off vs).toList
  | [], x, r, off => rfl
  | v :: vs, x, r, off => by
    simp only [wcells]
    have e1 : (⟨x :: r⟩ : Array Value).setIfInBounds (off + 1) v = ⟨x :: r.set off v⟩ := by
      apply Array.ext'; simp
    have e2 : (⟨r⟩ : Array Value).setIfInBounds off v = ⟨r.set off v⟩ := by
      apply Array.ext'; simp
    rw [e1, e2]
    exact wcells_succ vs x (r.set off v) (off + 1)

def wrK {β : Type} (c : List Value) : Nat → List Value → (List Value → β) → β → β :=
  List.rec (motive := fun _ => Nat → List Value → (List Value → β) → β → β) (fun _ vs k e => List.rec (motive := fun _ => β) (k []) (fun _ _ _ => e) vs)
    (fun x r ih off vs k e => Nat.rec (motive := fun _ => β) (List.rec (motive := fun _ => β) (k (x :: r)) (fun v vs' _ => ih 0 vs' (fun t => k (v :: t)) e) vs)
      (fun m _ => ih m vs (fun t => k (x :: t)) e) off) c
theorem wrK_ok {β : Type} : ∀ (c : List Value) (off : Nat) (vs : List Value) (k : List Value → β) (e : β), off + vs.length ≤ c.length → wrK c off vs k e = k (wcells ⟨c⟩ off vs).toList
  | [], off, [], k, e, _ => rfl
  | [], off, v :: vs, k, e, h => by simp at h
  | x :: r, 0, [], k, e, _ => rfl
  | x :: r, 0, v :: vs, k, e, h => by
    show wrK r 0 vs (fun t => k (v :: t)) e = _
    rw [wrK_ok r 0 vs _ e (by simp at h ⊢; omega)]
    simp only [wcells]
    have e1 : (⟨x :: r⟩ : Array Value).setIfInBounds 0 v = ⟨v :: r⟩ := by
      apply Array.ext'; simp
    rw [e1, wcells_succ]
  | x :: r, off + 1, vs, k, e, h => by
    show wrK r off vs (fun t => k (x :: t)) e = _
    rw [wrK_ok r off vs _ e (by simp at h ⊢; omega), wcells_succ]
theorem wrK_else {β : Type} : ∀ (c : List Value) (off : Nat) (vs : List Value) (k : List Value → β) (e : β), vs ≠ [] → ¬ off + vs.length ≤ c.length → wrK c off vs k e = e
  | [], off, [], k, e, hv, _ => absurd rfl hv
  | [], off, v :: vs, k, e, _, h => rfl
  | x :: r, 0, [], k, e, hv, _ => absurd rfl hv
  | x :: r, 0, [v], k, e, _, h => by simp at h
  | x :: r, 0, v :: u :: vs, k, e, _, h => by
    show wrK r 0 (u :: vs) (fun t => k (v :: t)) e = _
    exact wrK_else r 0 (u :: vs) _ e (by simp) (by simp at h ⊢; omega)
  | x :: r, off + 1, vs, k, e, hv, h => by
    show wrK r off vs (fun t => k (x :: t)) e = _
    exact wrK_else r off vs _ e hv (by simp at h ⊢; omega)

def lenIs (l : List Value) : Nat → Bool := List.rec (motive := fun _ => Nat → Bool) (fun n => Nat.beq n 0) (fun _ _ ih n => Nat.rec (motive := fun _ => Bool) false (fun m _ => ih m) n) l
theorem lenIs_eq : ∀ (l : List Value) (n : Nat), lenIs l n = true → l.length = n
  | [], n, h => (Nat.eq_of_beq_eq_true h).symm
  | _ :: _, 0, h => by cases h
  | _ :: r, n + 1, h => by rw [List.length_cons, lenIs_eq r n h]
def cellsL (v : Value) : List Value := match v with | .agg ⟨l⟩ => l | v => [v]
theorem cellsL_eq (v : Value) : cellsL v = v.cells.toList := by cases v <;> rfl

def storeK {β : Type} (P : Program) (h : Hp) (t : TypeId) (x v : Value) (k : Hp → β) (e : β) : β :=
  match x with
  | .pointer (some ⟨b, off, none⟩) =>
    match nth h.bl b with
    | some (.cells ⟨c⟩ false) =>
      (match sizeB P t with
      | some (n + 1) => Bool.rec (motive := fun _ => β) e (wrK c off (cellsL v) (fun c' => setK h.bl b (.cells ⟨c'⟩ false) fun bl => Bool.rec (motive := fun _ => β) (k ⟨bl, h.base, h.wr⟩) (k ⟨bl, h.base, b :: h.wr⟩) (Nat.blt b h.base)) e)
          (notT v && (lenIs (cellsL v) (n + 1) && (cellsL v).all (·.oneCell')))
      | _ => e)
    | _ => e
  | _ => e
theorem storeK_ok {β : Type} {P : Program} {h : Hp} {t : TypeId} {x v : Value} {k : Hp → β} {e : β} : (∃ h', lStore P h t x v = some h' ∧ storeK P h t x v k e = k h') ∨ storeK P h t x v k e = e := by
  unfold storeK
  split
  · rename_i b off
    rw [nth_eq]
    split
    · rename_i c hb
      split
      · rename_i n hs
        cases hc : (notT v && (lenIs (cellsL v) (n + 1) && (cellsL v).all (·.oneCell'))) with
        | false => exact .inr rfl
        | true =>
          simp only [Bool.and_eq_true] at hc
          have hlen := lenIs_eq _ _ hc.2.1
          show (∃ h', _ ∧ wrK c off (cellsL v) _ e = k h') ∨ wrK c off (cellsL v) _ e = e
          by_cases hle : off + (cellsL v).length ≤ c.length
          · left
            rw [wrK_ok _ _ _ _ _ hle, setK_eq]
            refine ⟨h.put b (.cells (wcells ⟨c⟩ off v.cells.toList) false), ?_, ?_⟩
            · have h1 : v.cells.size = n + 1 := by rw [← Array.length_toList, ← cellsL_eq]; exact hlen
              have h2 : v.cells.toList.all (·.oneCell') = true := by rw [← cellsL_eq]; exact hc.2.2
              simp only [lStore, hb, hs]
              rw [if_pos ⟨hc.1, h1, by rw [hlen] at hle; simpa using hle, h2⟩]
            · rw [cellsL_eq]
              simp only [Hp.put]
              cases hbb : Nat.blt b h.base with
              | true => rw [if_pos (by simpa [Nat.blt_eq] using hbb)]
              | false => rw [if_neg (by intro hlt; rw [← Nat.blt_eq] at hlt; rw [hlt] at hbb; cases hbb)]
          · exact .inr (wrK_else _ _ _ _ _ (by intro he; rw [he] at hlen; cases hlen) hle)
      · exact .inr rfl
    · exact .inr rfl
  · exact .inr rfl
end
end Go.Gh

/- Frames of which some slots are told; the loops of a function, by their number. Conditions: none. -/
namespace Go.Gh
open Go.RowKit
noncomputable section

def sets (t : List Value) : List (Nat × Value) → List Value
  | [] => t
  | (k, v) :: r => sets (lset t k v) r

theorem slotRs_lo (n : Nat) : ∀ L : List Value, SlotRs n L (L.map lo)
  | [] => .nil
  | _ :: L => .cons (.inl rfl) (slotRs_lo n L)
theorem slotRs_set {n : Nat} {v : Value} (hv : scT n v = true) : ∀ {L T : List Value}, SlotRs n L T → ∀ k, L[k]? = some v → SlotRs n L (lset T k v)
  | _, _, .nil, k, h => by simp at h
  | _, _, .cons (l := L) (l0 := T) h r, 0, hk => by
    simp only [List.getElem?_cons_zero, Option.some.injEq] at hk
    subst hk
    exact .cons (.inr (.inr ⟨rfl, hv⟩)) r
  | _, _, .cons (l := L) (l0 := T) h r, k + 1, hk => by
    simp only [List.getElem?_cons_succ] at hk
    exact .cons h (slotRs_set hv r k hk)
theorem slotRs_sets {n : Nat} {L : List Value} {known : List (Nat × Value)} : ∀ {T : List Value}, SlotRs n L T → (∀ kv ∈ known, L[kv.1]? = some kv.2 ∧ scT n kv.2 = true) → SlotRs n L (sets T known) := by
  induction known with
  | nil => intro T h _; exact h
  | cons kv r ih =>
    intro T h hk
    have h1 := hk kv (List.mem_cons_self ..)
    exact ih (slotRs_set h1.2 h kv.1 h1.1) fun kv hm => hk kv (List.mem_cons_of_mem _ hm)

theorem junkFrom_eq (j : List Value) : ∀ (m i : Nat), i + m = j.length → junkFrom j m i = j.drop i
  | 0, i, h => by simp only [junkFrom]; rw [List.drop_eq_nil_of_le (by omega)]
  | m + 1, i, h => by
    simp only [junkFrom]
    rw [junkFrom_eq j m (i + 1) (by omega), lget_eq, Array.getD_eq_getD_getElem?, List.getElem?_toArray, List.getElem?_eq_getElem (by omega)]
    simp only [Option.getD_some]
    exact (List.drop_eq_getElem_cons (by omega)).symm
theorem junkF_eq {n : Nat} {j : List Value} (h : j.length = n) : junkF n j = j := by
  unfold junkF
  rw [junkFrom_eq j n 0 (by omega)]; rfl

theorem slotRs_known {n m : Nat} {L : List Value} {known : List (Nat × Value)} (hl : L.length = m) (hk : ∀ kv ∈ known, L[kv.1]? = some kv.2 ∧ scT n kv.2 = true) : SlotRs n L (sets (junkF m (L.map lo)) known) := by
  rw [junkF_eq (by simpa using hl)]
  exact slotRs_sets (slotRs_lo n L) hk
theorem slotRs_head {n : Nat} {L : List Value} {known : List (Nat × Value)} (hk : ∀ kv ∈ known, L[kv.1]? = some kv.2 ∧ scT n kv.2 = true) : SlotRs n L (sets (L.map lo) known) :=
  slotRs_sets (slotRs_lo n L) hk

/-! ### Loops by their number -/
def loopsIn : Code → List Code
  | .seq a b => loopsIn a ++ loopsIn b
  | .cond _ a b => loopsIn a ++ loopsIn b
  | .block _ c => loopsIn c
  | .loop c => c :: loopsIn c
  | .rangeFunc _ _ a b => loopsIn a ++ loopsIn b
  | _ => []
def theLoop (P : Program) (f k : Nat) : Code :=
  match P.funcs[f]? with
  | some fn => (match fn.body with
    | some c => (match (loopsIn c)[k]? with | some c => c | none => .skip)
    | none => .skip)
  | none => .skip

/-- The number of the first region. -/
def firstReg : Code → Nat
  | .seq a _ => firstReg a
  | .block _ c => firstReg c
  | .loop c => firstReg c
  | .region id _ _ => id
  | _ => 9999
/-- The answer of a loop: how it ends, and what is told of its frame. -/
def loopEnd (n : Nat) (e : Ex) (known : List (Nat × Value)) (h : Hp) (j : List Value) : AT := .leaf (.ex e { t := sets (junkF n j) known, d := [], h := h })

/-- What is looked at behind a piece of code: some slots, the first blocks. -/
def sumK (n0 N : Nat) (pick : Ex → List Nat) : Kn
  | .ex e s => (match s.d with
    | [] => (match lenIs s.t N with
      | true => some (.ex e { t := (pick e).map (lget s.t), d := [], h := { bl := s.h.bl.take n0, base := N, wr := s.h.wr } })
      | false => none)
    | _ => none)
  | _ => none

def notU (v : Value) : Bool := match v with | .tuple _ => false | _ => true
theorem getElem_of_lget {L : List Value} {k : Nat} {v : Value} (h : lget L k = v) (hn : notU v = true) : L[k]? = some v := by
  rw [lget_eq, Array.getD_eq_getD_getElem?, List.getElem?_toArray] at h
  cases hc : L[k]? with
  | none => rw [hc] at h; subst h; cases hn
  | some u => rw [hc] at h; simp at h; rw [h]

theorem ex_guard {Q : Out → Prop} {b : Bool} {g : List Value → AT} (h : b = true → ∃ j, ∀ o, (g j).out = some o → Q o) : ∃ j, ∀ o, (AT.br b (g j) .no).out = some o → Q o := by
  cases b with
  | true => exact h rfl
  | false => exact ⟨[], fun o ho => by cases ho⟩

theorem wrap64_id {x : Int} (h1 : -9223372036854775808 ≤ x) (h2 : x < 9223372036854775808) : IntKind.i64.wrap x = x := by
  unfold IntKind.wrap
  simp [IntKind.bits, IntKind.signed]
  split <;> omega
theorem sc1_g0 {n : Nat} {v : Value} (h : g0 v = true) : sc1 n v = true := by
  cases v with
  | pointer a => cases a with | none => rfl | some a => simp [g0] at h
  | slice a l c => cases a with | none => exact h | some a => simp [g0] at h
  | map a => cases a with | none => rfl | some a => simp [g0] at h
  | func f a b => simp [g0] at h
  | _ => first | rfl | (simp [g0] at h)
theorem obSc_g0 {n : Nat} {c : Array Value} {r : Bool} (h : c.toList.all g0 = true) : obSc n (.cells c r) = true := by
  rw [List.all_eq_true] at h
  simp only [obSc, List.all_eq_true]
  exact fun x hx => sc1_g0 (h x hx)

theorem zip_same {α : Type} {x y : α} : ∀ {l : List α}, (x, y) ∈ l.zip l → x = y
  | [], h => by simp at h
  | z :: r, h => by
    simp only [List.zip_cons_cons, List.mem_cons] at h
    rcases h with h | h
    · cases h; rfl
    · exact zip_same h

section
variable {P : Program} (hN : NoNG P) (hm : P.follows .mixedOrders = true)
include hN hm
theorem Known.stepK {a : Ans} (hk : Known P a) {n : Nat} {t : Task} {k : Kn} {r : Out} (h : evS P a n t k = some r) : ∃ o, k o = some r ∧ Fact P t o := by
  obtain ⟨o', h1, h2⟩ := stepC_ok (evC_ok (P := P) a.oc n) t k r h
  have hd : DrawnOk P drawn := fun self hs rd id os s o h => drawn_ok hN hm self hs rd id os s o h
  have hh := iterO_ok (drawn := drawn) hN hd hk.selfOk hk.loopOk n
  refine ⟨o', h2, step_ok hN hd hh.1 hh.2 t _ h1, ?_⟩
  unfold LoopFact
  split
  · obtain ⟨e1, s1, he, h3⟩ := loop_sound (drawn := drawn) hh.1 hh.2 h1
    cases he
    exact fun hb => (h3 hb).2
  · trivial

theorem Known.loopLeaf {a : Ans} (hkn : Known P a) {n N0 N : Nat} {c : Code} {t : List Value} {live : List (Nat × Value)} {H0 H1 G : List Ob} {base : Nat} {wr wr1 : List Nat} {pick : Ex → List Nat} {e : Ex} {vs : List Value}
    (hev : evS P a n (.code none (.loop c) ⟨sets (junkF N0 (t.map lo)) live, [], ⟨H0, base, wr⟩⟩) (sumK H0.length N pick) = some (.ex e ⟨vs, [], ⟨H1, N, wr1⟩⟩))
    (hl : t.length = N0) (hlive : ∀ kv ∈ live, lget t kv.1 = kv.2 ∧ notU kv.2 = true ∧ scT H0.length kv.2 = true) (hb : base ≤ H0.length) (hsc : H0.all (obSc H0.length) = true) (hk : ObsKept H0.length H0 H1) (he : noPanic e = true)
    (hvs : vs.all (fun v => notU v && scT H0.length v) = true) :
    ∃ j, ∀ o, (loopEnd N e ((pick e).zip vs) ⟨H1 ++ G, base, wr1⟩ j).out = some o → Fact P (.code none (.loop c) ⟨t, [], ⟨H0 ++ G, base, wr⟩⟩) o := by
  obtain ⟨o1, h1, hf⟩ := hkn.stepK hN hm hev
  unfold sumK at h1
  split at h1
  · rename_i e' s
    split at h1
    · rename_i hd
      split at h1
      case h_2 => cases h1
      rename_i hlen
      simp only [Option.some.injEq, Out.ex.injEq, St.mk.injEq, Hp.mk.injEq] at h1
      obtain ⟨rfl, h2, _, h3, _, h5⟩ := h1
      have h4 := lenIs_eq _ _ hlen
      obtain ⟨L, d, bl, base1, wr2⟩ := s
      simp only at hd h2 h3 h4 h5
      subst hd h5
      refine ⟨L.map lo, fun o ho => ?_⟩
      simp only [loopEnd, AT.out, Option.some.injEq] at ho
      subst ho
      have hbl : bl = H1 ++ bl.drop H0.length := by rw [← h3, List.take_append_drop]
      rw [hbl] at hf
      refine hf.forget hb hk hsc (slotRs_known hl fun kv hm => ?_) (slotRs_known h4 fun kv hm => ?_) he
      · obtain ⟨k1, k2, k3⟩ := hlive kv hm
        exact ⟨getElem_of_lget k1 k2, k3⟩
      · subst h2
        rw [List.zip_map_right] at hm
        obtain ⟨⟨x, y⟩, hxy, rfl⟩ := List.mem_map.1 hm
        have := zip_same hxy
        subst this
        simp only [Prod.map, id]
        have hmem : lget L x ∈ (pick e').map (lget L) := List.mem_map.2 ⟨x, (List.of_mem_zip hxy).1, rfl⟩
        rw [List.all_eq_true] at hvs
        have := hvs _ hmem
        rw [Bool.and_eq_true] at this
        exact ⟨getElem_of_lget rfl this.1, this.2⟩
    · cases h1
  · cases h1
end
end
end Go.Gh

/- What the given bands are checked for: one number an error. Conditions: none. -/
namespace Go.Proofs.Ytohpmnfplglbdaa
open Go.Gh Go.RowKit
noncomputable section

abbrev L6 : List Leaf := [.int .i64, .int .i64, .int .i64, .int .i64, .int .i64, .int .i64]
def Good (c : Array Value) (off n : Nat) : Prop := c.toList.all g0 = true ∧ ∀ k, k < n → rdOk c L6 (off + k * 6) = true

def wnd (n : Int) : Bool := decide (-20000 ≤ n) && decide (n ≤ 20000)
def wsp (a b : Int) : Bool := decide (a ≤ b) && (wnd a && wnd b)
/-- The error of the band at a place, which has to begin at a height. -/
def ckB (c : Array Value) (x : Nat) (fr : Int) : Int :=
  if getInt c x ≠ fr then 2
  else if getInt c (x + 1) ≤ getInt c x ∨ 100000000 < getInt c (x + 1) ∨ wsp (getInt c (x + 2)) (getInt c (x + 3)) = false ∨ wsp (getInt c (x + 4)) (getInt c (x + 5)) = false then 7 else 0
/-- The first band with an error, of some that are left, and the error. -/
def cb (c : Array Value) (off : Nat) : Nat → Nat → Int → Option (Int × Int)
  | 0, _, _ => none
  | m + 1, i, fr => if ckB c (off + i * 6) fr = 0 then cb c off m (i + 1) (getInt c (off + i * 6 + 1)) else some (i, ckB c (off + i * 6) fr)

def cbB (c : Array Value) (off : Nat) (m i : Nat) (fr : Int) : Bool := (cb c off m i fr).isSome
def cbI (c : Array Value) (off : Nat) (m i : Nat) (fr : Int) : Int := ((cb c off m i fr).getD (0, 0)).1
def cbE (c : Array Value) (off : Nat) (m i : Nat) (fr : Int) : Int := ((cb c off m i fr).getD (0, 0)).2

/-! ### wind.CheckBands: its loop -/
def ok25 (off : Nat) (c : Array Value) (n : Nat) (i m : Int) : Bool := dec (Good c off n ∧ 0 ≤ i ∧ n ≤ 20 ∧ m = n)
def sh25 : Shape
  | .code none (.loop code) ⟨t, [], ⟨.cells c true :: G, 1, []⟩⟩ =>
    match lget t 16, lget t 17, lget t 18, lget t 4 with
    | .slice (some ⟨0, off, none⟩) n 6, .int .i64 m, .int .i64 i, .int .i64 fr => some fun j =>
      .br (eqCode code (theLoop Try.prog 25 0)) (.br (Nat.beq t.length 33) (.br (ok25 off c n i m)
        (.br (cbB c off (n - i.toNat) i.toNat fr)
          (loopEnd 33 .ret [(2, .int .i64 (cbI c off (n - i.toNat) i.toNat fr)), (3, .int .i64 (cbE c off (n - i.toNat) i.toNat fr))] ⟨.cells c true :: G, 1, []⟩ j)
          (loopEnd 33 (.exit 0) [] ⟨.cells c true :: G, 1, []⟩ j)) .no) .no) .no
    | _, _, _, _ => none
  | _ => none
def mes25 : Task → Nat
  | .code _ _ s => match lget s.t 17, lget s.t 18 with
    | .int _ n, .int _ i => Nat.sub n.toNat i.toNat
    | _, _ => 0
  | _ => 0
/-! ### hangfireref01.CheckBands: its loop -/
def frOfI (c : Array Value) (off : Nat) (i : Nat) : Int := if i = 0 then 0 else getInt c (off + (i - 1) * 6 + 1)
def ok26 (off : Nat) (c : Array Value) (n : Nat) (i : Int) : Bool := dec (Good c off n ∧ 0 ≤ i ∧ n ≤ 20)
def sh26 : Shape
  | .code none (.loop code) ⟨t, [], ⟨.cells c true :: G, 1, []⟩⟩ =>
    match lget t 0, lget t 4 with
    | .slice (some ⟨0, off, none⟩) n 6, .int .i64 i => some fun j =>
      .br (eqCode code (theLoop Try.prog 26 0)) (.br (Nat.beq t.length 70) (.br (ok26 off c n i)
        (.br (cbB c off (n - i.toNat) i.toNat (frOfI c off i.toNat))
          (loopEnd 70 .ret [(2, .int .i64 (cbI c off (n - i.toNat) i.toNat (frOfI c off i.toNat))), (3, .int .i64 (cbE c off (n - i.toNat) i.toNat (frOfI c off i.toNat)))] ⟨.cells c true :: G, 1, []⟩ j)
          (loopEnd 70 (.exit 0) [] ⟨.cells c true :: G, 1, []⟩ j)) .no) .no) .no
    | _, _ => none
  | _ => none
def mes26 : Task → Nat
  | .code _ _ s => match lget s.t 0, lget s.t 4 with
    | .slice _ n _, .int _ i => Nat.sub n i.toNat
    | _, _ => 0
  | _ => 0

/-! ### The first place at which something is so -/
def fst (p : Nat → Bool) : Nat → Nat → Option Nat
  | 0, _ => none
  | m + 1, i => if p i then some i else fst p m (i + 1)
def ovP (c : Array Value) (off : Nat) (h : Int) (k : Nat) : Bool := decide (h < getInt c (off + k * 6 + 1))
def owP (c : Array Value) (off : Nat) (h : Int) (k : Nat) : Bool := decide (getInt c (off + k * 6) ≤ h) && decide (h < getInt c (off + k * 6 + 1))
def ovB (c : Array Value) (off : Nat) (h : Int) (m i : Nat) : Bool := (fst (ovP c off h) m i).isSome
def ovI (c : Array Value) (off : Nat) (h : Int) (m i : Nat) : Nat := (fst (ovP c off h) m i).getD 0
def owB (c : Array Value) (off : Nat) (h : Int) (m i : Nat) : Bool := (fst (owP c off h) m i).isSome
def owI (c : Array Value) (off : Nat) (h : Int) (m i : Nat) : Nat := (fst (owP c off h) m i).getD 0

abbrev Z2 : Array Value := ⟨[.int .i64 0, .int .i64 0]⟩
def sp (c : Array Value) (x : Nat) : Array Value := ⟨[.int .i64 (getInt c x), .int .i64 (getInt c (x + 1))]⟩
def pp (b : Nat) : Value := .pointer (some ⟨b, 0, none⟩)

/-! ### wind.Over: its loop -/
def ok27 (off : Nat) (c : Array Value) (n : Nat) (i m : Int) : Bool := dec (Good c off n ∧ 0 ≤ i ∧ n ≤ 20 ∧ m = n)
def okZ (x y : Array Value) : Bool := dec (x = Z2 ∧ y = Z2)
def sh27 : Shape
  | .code none (.loop code) ⟨t, [], ⟨.cells c true :: .cells x false :: .cells y false :: G, 1, []⟩⟩ =>
    match lget t 1, lget t 4, lget t 5, lget t 26, lget t 27, lget t 28 with
    | .int .i64 h, .pointer (some ⟨1, 0, none⟩), .pointer (some ⟨2, 0, none⟩), .slice (some ⟨0, off, none⟩) n 6, .int .i64 m, .int .i64 i => some fun j =>
      .br (eqCode code (theLoop Try.prog 27 0)) (.br (Nat.beq t.length 43) (.br (okZ x y) (.br (ok27 off c n i m)
        (.br (ovB c off h (n - i.toNat) i.toNat)
          (loopEnd 43 .ret [(4, pp 1), (5, pp 2), (6, .int .i64 0)] ⟨.cells c true :: .cells (sp c (off + (ovI c off h (n - i.toNat) i.toNat) * 6 + 2)) false :: .cells (sp c (off + (ovI c off h (n - i.toNat) i.toNat) * 6 + 4)) false :: G, 1, []⟩ j)
          (loopEnd 43 (.exit 0) [(4, pp 1), (5, pp 2)] ⟨.cells c true :: .cells Z2 false :: .cells Z2 false :: G, 1, []⟩ j)) .no) .no) .no) .no
    | _, _, _, _, _, _ => none
  | _ => none
def mes27 : Task → Nat
  | .code _ _ s => match lget s.t 27, lget s.t 28 with
    | .int _ n, .int _ i => Nat.sub n.toNat i.toNat
    | _, _ => 0
  | _ => 0
def pick27 : Ex → List Nat
  | .ret => [4, 5, 6]
  | _ => [4, 5]

/-! ### hangfireref01.Over: its loop -/
def ok28 (off : Nat) (c : Array Value) (n : Nat) (i : Int) : Bool := dec (Good c off n ∧ 0 ≤ i ∧ n ≤ 20)
def sh28 : Shape
  | .code none (.loop code) ⟨t, [], ⟨.cells c true :: .cells x false :: .cells y false :: G, 1, []⟩⟩ =>
    match lget t 1, lget t 4, lget t 5, lget t 0, lget t 9 with
    | .int .i64 h, .pointer (some ⟨1, 0, none⟩), .pointer (some ⟨2, 0, none⟩), .slice (some ⟨0, off, none⟩) n 6, .int .i64 i => some fun j =>
      .br (eqCode code (theLoop Try.prog 28 0)) (.br (Nat.beq t.length 61) (.br (okZ x y) (.br (ok28 off c n i)
        (.br (owB c off h (n - i.toNat) i.toNat)
          (loopEnd 61 .ret [(4, pp 1), (5, pp 2), (6, .int .i64 0)] ⟨.cells c true :: .cells (sp c (off + (owI c off h (n - i.toNat) i.toNat) * 6 + 2)) false :: .cells (sp c (off + (owI c off h (n - i.toNat) i.toNat) * 6 + 4)) false :: G, 1, []⟩ j)
          (loopEnd 61 (.exit 0) [(4, pp 1), (5, pp 2)] ⟨.cells c true :: .cells Z2 false :: .cells Z2 false :: G, 1, []⟩ j)) .no) .no) .no) .no
    | _, _, _, _, _ => none
  | _ => none
def mes28 : Task → Nat
  | .code _ _ s => match lget s.t 0, lget s.t 9 with
    | .slice _ n _, .int _ i => Nat.sub n i.toNat
    | _, _ => 0
  | _ => 0

/-! ### wind.coversBand: its loop -/
/-- A band of some and one told by its numbers are in each other's way. -/
def cvP (c : Array Value) (off : Nat) (b0 b1 b2 b3 b4 b5 : Int) (k : Nat) : Bool :=
  decide (getInt c (off + k * 6) < b1) && (decide (b0 < getInt c (off + k * 6 + 1)) &&
    !(decide (getInt c (off + k * 6 + 2) ≤ b2) && (decide (b3 ≤ getInt c (off + k * 6 + 3)) && (decide (getInt c (off + k * 6 + 4) ≤ b4) && decide (b5 ≤ getInt c (off + k * 6 + 5))))))
def cvB (c : Array Value) (off : Nat) (b0 b1 b2 b3 b4 b5 : Int) (m i : Nat) : Bool := (fst (cvP c off b0 b1 b2 b3 b4 b5) m i).isSome
def sh72 : Shape
  | .code none (.loop code) ⟨t, [], ⟨.cells c true :: .cells ⟨[.int .i64 b0, .int .i64 b1, .int .i64 b2, .int .i64 b3, .int .i64 b4, .int .i64 b5]⟩ false :: G, 1, []⟩⟩ =>
    match lget t 3, lget t 8, lget t 9, lget t 10 with
    | .pointer (some ⟨1, 0, none⟩), .slice (some ⟨0, off, none⟩) n 6, .int .i64 m, .int .i64 i => some fun j =>
      .br (eqCode code (theLoop Try.prog 72 0)) (.br (Nat.beq t.length 43) (.br (ok27 off c n i m)
        (.br (cvB c off b0 b1 b2 b3 b4 b5 (n - i.toNat) i.toNat)
          (loopEnd 43 .ret [(4, .bool false)] ⟨.cells c true :: .cells ⟨[.int .i64 b0, .int .i64 b1, .int .i64 b2, .int .i64 b3, .int .i64 b4, .int .i64 b5]⟩ false :: G, 1, []⟩ j)
          (loopEnd 43 (.exit 0) [] ⟨.cells c true :: .cells ⟨[.int .i64 b0, .int .i64 b1, .int .i64 b2, .int .i64 b3, .int .i64 b4, .int .i64 b5]⟩ false :: G, 1, []⟩ j)) .no) .no) .no
    | _, _, _, _ => none
  | _ => none
def mes72 : Task → Nat
  | .code _ _ s => match lget s.t 9, lget s.t 10 with
    | .int _ n, .int _ i => Nat.sub n.toNat i.toNat
    | _, _ => 0
  | _ => 0
def pick72 : Ex → List Nat
  | .ret => [4]
  | _ => []

/-! ### Slices that are handed in -/
def SliceOk (a : Option Addr) (n sz : Nat) (H : List Ob) : Prop := n = 0 ∨ ∃ b off, a = some ⟨b, off, none⟩ ∧ sz = 6 ∧ isCells H b = true ∧ Good (cellsAt H b) off n
def okS (a : Option Addr) (n sz : Nat) (H : List Ob) : Bool := dec (SliceOk a n sz H)
def arrOf (a : Option Addr) (H : List Ob) : Array Value := match a with
  | some x => cellsAt H x.block
  | none => #[]
def offOf (a : Option Addr) : Nat := match a with
  | some x => x.off
  | none => 0

def cbR1 (c : Array Value) (off n : Nat) : Int := if n < 1 ∨ 20 < n then 0 else cbI c off n 0 0
def cbR2 (c : Array Value) (off n : Nat) : Int := if n < 1 ∨ 20 < n then 3 else cbE c off n 0 0
/-- CheckBands. -/
def p25 (f : Nat) : Ans
  | .call g ⟨[.slice a n sz]⟩ h => (match Nat.beq g f with
    | true => some (.br (okS a n sz h.bl) (.leaf (.ret (.tuple ⟨[.int .i64 (cbR1 (arrOf a h.bl) (offOf a) n), .int .i64 (cbR2 (arrOf a h.bl) (offOf a) n)]⟩) h)) .no)
    | false => none)
  | _ => none
/-- wind.coversBand. -/
def p72 : Ans
  | .call 72 ⟨[.slice a n sz, .agg ⟨[.int .i64 b0, .int .i64 b1, .int .i64 b2, .int .i64 b3, .int .i64 b4, .int .i64 b5]⟩]⟩ h =>
    some (.br (okS a n sz h.bl) (.br (Nat.ble n 20) (.leaf (.ret (.bool (!cvB (arrOf a h.bl) (offOf a) b0 b1 b2 b3 b4 b5 n 0)) h)) .no) .no)
  | _ => none

/-! ### wind.Covers: its loop -/
def cvP2 (c : Array Value) (off n : Nat) (d : Array Value) (e : Nat) (k : Nat) : Bool :=
  cvB c off (getInt d (e + k * 6)) (getInt d (e + k * 6 + 1)) (getInt d (e + k * 6 + 2)) (getInt d (e + k * 6 + 3)) (getInt d (e + k * 6 + 4)) (getInt d (e + k * 6 + 5)) n 0
def cvB2 (c : Array Value) (off n : Nat) (d : Array Value) (e m i : Nat) : Bool := (fst (cvP2 c off n d e) m i).isSome
def ok29 (c : Array Value) (off n : Nat) (d : Array Value) (e n2 : Nat) (i m : Int) : Bool := dec (Good c off n ∧ Good d e n2 ∧ 0 ≤ i ∧ n ≤ 20 ∧ n2 ≤ 20 ∧ m = n2)
def sh29 : Shape
  | .code none (.loop code) ⟨t, [], ⟨.cells c true :: .cells d true :: G, 2, []⟩⟩ =>
    match lget t 0, lget t 43, lget t 44, lget t 45 with
    | .slice (some ⟨0, off, none⟩) n 6, .slice (some ⟨1, e, none⟩) n2 6, .int .i64 m, .int .i64 i => some fun j =>
      .br (eqCode code (theLoop Try.prog 29 0)) (.br (Nat.beq t.length 54) (.br (ok29 c off n d e n2 i m)
        (.br (cvB2 c off n d e (n2 - i.toNat) i.toNat)
          (loopEnd 54 .ret [(4, .bool false), (5, .int .i64 0)] ⟨.cells c true :: .cells d true :: G, 2, []⟩ j)
          (loopEnd 54 (.exit 0) [] ⟨.cells c true :: .cells d true :: G, 2, []⟩ j)) .no) .no) .no
    | _, _, _, _ => none
  | _ => none
def mes29 : Task → Nat
  | .code _ _ s => match lget s.t 44, lget s.t 45 with
    | .int _ n, .int _ i => Nat.sub n.toNat i.toNat
    | _, _ => 0
  | _ => 0
def pick29 : Ex → List Nat
  | .ret => [4, 5]
  | _ => []

/-! ### hangfireref01.Covers: its loops -/
def cwP (c : Array Value) (x : Nat) (d : Array Value) (e : Nat) (k : Nat) : Bool :=
  decide (max (getInt c x) (getInt d (e + k * 6)) < min (getInt c (x + 1)) (getInt d (e + k * 6 + 1))) &&
    !(decide (getInt c (x + 2) ≤ getInt d (e + k * 6 + 2)) && (decide (getInt d (e + k * 6 + 3) ≤ getInt c (x + 3)) && (decide (getInt c (x + 4) ≤ getInt d (e + k * 6 + 4)) && decide (getInt d (e + k * 6 + 5) ≤ getInt c (x + 5)))))
def cwB (c : Array Value) (x : Nat) (d : Array Value) (e m i : Nat) : Bool := (fst (cwP c x d e) m i).isSome
def cwP2 (c : Array Value) (off : Nat) (d : Array Value) (e n2 : Nat) (k : Nat) : Bool := cwB c (off + k * 6) d e n2 0
def cwB2 (c : Array Value) (off : Nat) (d : Array Value) (e n2 m i : Nat) : Bool := (fst (cwP2 c off d e n2) m i).isSome
def ok30 (c : Array Value) (off n : Nat) (d : Array Value) (e n2 : Nat) (i k : Int) : Bool := dec (Good c off n ∧ Good d e n2 ∧ 0 ≤ i ∧ i < n ∧ 0 ≤ k ∧ n ≤ 20 ∧ n2 ≤ 20)
def sh30 : Shape
  | .code none (.loop code) ⟨t, [], ⟨.cells c true :: .cells d true :: G, 2, []⟩⟩ =>
    match Nat.beq (firstReg code) 12, lget t 0, lget t 1, lget t 8, lget t 9 with
    | true, .slice (some ⟨0, off, none⟩) n 6, .slice (some ⟨1, e, none⟩) n2 6, .int .i64 i, .int .i64 k => some fun j =>
      .br (eqCode code (theLoop Try.prog 30 1)) (.br (Nat.beq t.length 105) (.br (ok30 c off n d e n2 i k)
        (.br (cwB c (off + i.toNat * 6) d e (n2 - k.toNat) k.toNat)
          (loopEnd 105 .ret [(4, .bool false), (5, .int .i64 0)] ⟨.cells c true :: .cells d true :: G, 2, []⟩ j)
          (loopEnd 105 (.exit 2) [(0, .slice (some ⟨0, off, none⟩) n 6), (1, .slice (some ⟨1, e, none⟩) n2 6), (8, .int .i64 i)] ⟨.cells c true :: .cells d true :: G, 2, []⟩ j)) .no) .no) .no
    | _, _, _, _, _ => none
  | _ => none
def mes30 : Task → Nat
  | .code _ _ s => match lget s.t 1, lget s.t 9 with
    | .slice _ n _, .int _ i => Nat.sub n i.toNat
    | _, _ => 0
  | _ => 0
def pick30 : Ex → List Nat
  | .ret => [4, 5]
  | _ => [0, 1, 8]
def ok31 (c : Array Value) (off n : Nat) (d : Array Value) (e n2 : Nat) (i : Int) : Bool := dec (Good c off n ∧ Good d e n2 ∧ 0 ≤ i ∧ n ≤ 20 ∧ n2 ≤ 20)
def sh31 : Shape
  | .code none (.loop code) ⟨t, [], ⟨.cells c true :: .cells d true :: G, 2, []⟩⟩ =>
    match Nat.beq (firstReg code) 9, lget t 0, lget t 1, lget t 8 with
    | true, .slice (some ⟨0, off, none⟩) n 6, .slice (some ⟨1, e, none⟩) n2 6, .int .i64 i => some fun j =>
      .br (eqCode code (theLoop Try.prog 30 0)) (.br (Nat.beq t.length 105) (.br (ok31 c off n d e n2 i)
        (.br (cwB2 c off d e n2 (n - i.toNat) i.toNat)
          (loopEnd 105 .ret [(4, .bool false), (5, .int .i64 0)] ⟨.cells c true :: .cells d true :: G, 2, []⟩ j)
          (loopEnd 105 (.exit 0) [] ⟨.cells c true :: .cells d true :: G, 2, []⟩ j)) .no) .no) .no
    | _, _, _, _ => none
  | _ => none
def mes31 : Task → Nat
  | .code _ _ s => match lget s.t 0, lget s.t 8 with
    | .slice _ n _, .int _ i => Nat.sub n i.toNat
    | _, _ => 0
  | _ => 0

/-- Over. -/
def ovE (c : Array Value) (off n : Nat) (h : Int) : Int :=
  if cbR2 c off n ≠ 0 then cbR2 c off n else if h < 0 ∨ 99999999 < h then 7 else if ovB c off h n 0 = true then 0 else 4
def ovV (c : Array Value) (off n : Nat) (h : Int) (j : Nat) : Int := if ovE c off n h = 0 then getInt c (off + ovI c off h n 0 * 6 + j) else 0
def p27 (f : Nat) : Ans
  | .call g ⟨[.slice a n sz, .int .i64 x]⟩ h => (match Nat.beq g f with
    | true => some (.br (okS a n sz h.bl) (.leaf (.ret (.tuple ⟨[.agg ⟨[.int .i64 (ovV (arrOf a h.bl) (offOf a) n x 2), .int .i64 (ovV (arrOf a h.bl) (offOf a) n x 3)]⟩,
        .agg ⟨[.int .i64 (ovV (arrOf a h.bl) (offOf a) n x 4), .int .i64 (ovV (arrOf a h.bl) (offOf a) n x 5)]⟩, .int .i64 (ovE (arrOf a h.bl) (offOf a) n x)]⟩) h)) .no)
    | false => none)
  | _ => none
/-- Covers. -/
def cvE (c : Array Value) (off n : Nat) (d : Array Value) (e n2 : Nat) : Int := if cbR2 c off n ≠ 0 then cbR2 c off n else cbR2 d e n2
def cvT (c : Array Value) (off n : Nat) (d : Array Value) (e n2 : Nat) : Bool :=
  decide (cvE c off n d e n2 = 0) && (decide (getInt d (e + (n2 - 1) * 6 + 1) ≤ getInt c (off + (n - 1) * 6 + 1)) && !(cvB2 c off n d e n2 0))
def p29 (f : Nat) : Ans
  | .call g ⟨[.slice a n sz, .slice a2 n2 sz2]⟩ h => (match Nat.beq g f with
    | true => some (.br (okS a n sz h.bl) (.br (okS a2 n2 sz2 h.bl) (.leaf (.ret (.tuple ⟨[.bool (cvT (arrOf a h.bl) (offOf a) n (arrOf a2 h.bl) (offOf a2) n2), .int .i64 (cvE (arrOf a h.bl) (offOf a) n (arrOf a2 h.bl) (offOf a2) n2)]⟩) h)) .no) .no)
    | false => none)
  | _ => none
/-- CheckBands, its answer by cases. -/
def p25v (f : Nat) : Ans
  | .call g ⟨[.slice a n sz]⟩ h => (match Nat.beq g f with
    | true => some (.br (okS a n sz h.bl)
        (.br (decide (cbR2 (arrOf a h.bl) (offOf a) n = 0)) (.leaf (.ret (.tuple ⟨[.int .i64 (cbR1 (arrOf a h.bl) (offOf a) n), .int .i64 0]⟩) h))
        (.br (decide (cbR2 (arrOf a h.bl) (offOf a) n = 2)) (.leaf (.ret (.tuple ⟨[.int .i64 (cbR1 (arrOf a h.bl) (offOf a) n), .int .i64 2]⟩) h))
        (.br (decide (cbR2 (arrOf a h.bl) (offOf a) n = 3)) (.leaf (.ret (.tuple ⟨[.int .i64 (cbR1 (arrOf a h.bl) (offOf a) n), .int .i64 3]⟩) h))
        (.leaf (.ret (.tuple ⟨[.int .i64 (cbR1 (arrOf a h.bl) (offOf a) n), .int .i64 7]⟩) h))))) .no)
    | false => none)
  | _ => none
/-- Awake. -/
def p24 : Ans
  | .call 24 ⟨[]⟩ h => some (.leaf (.ret (.bool true) h))
  | _ => none

def pick25 : Ex → List Nat
  | .ret => [2, 3]
  | _ => []
end
end Go.Proofs.Ytohpmnfplglbdaa

/- The loop of wind.CheckBands: what it finds. Conditions: none. -/
namespace Go.Proofs.Ytohpmnfplglbdaa
open Go.Gh Go.RowKit
noncomputable section
set_option maxRecDepth 100000
theorem tree25 (J : Task → List Value) (off : Nat) (c : Array Value) (n : Nat) (i fr : Int) (M : Nat) (y : List Value) :
    evS Try.prog (((sh25.ans J).below mes25 M).or (fun _ => none)) 60 (.code none (.loop (theLoop Try.prog 25 0)) ⟨sets (junkF 33 y) [(4, .int .i64 fr), (16, .slice (some ⟨0, off, none⟩) n 6), (17, .int .i64 (Int.ofNat n)), (18, .int .i64 i)], [], ⟨[.cells c true], 1, []⟩⟩) (sumK 1 33 pick25) =
    cond (decide (i < (Int.ofNat n)))
    (cond (and (decide ((0 : Int) ≤ i)) (decide (i < (Int.ofNat n))))
     (cond (and true (rdOk c [(Leaf.int .i64), (Leaf.int .i64), (Leaf.int .i64), (Leaf.int .i64), (Leaf.int .i64), (Leaf.int .i64)] (off + ((Int.toNat i) * 6))))
      (cond (not (decide ((getInt c (off + ((Int.toNat i) * 6))) = fr)))
       (some (Out.ex Ex.ret (St.mk [(Value.int .i64 i), (Value.int .i64 (2 : Int))] [] (Hp.mk [(Ob.cells c true)] 33 []))))
       (cond (decide ((getInt c ((off + ((Int.toNat i) * 6)) + 1)) ≤ (getInt c (off + ((Int.toNat i) * 6)))))
        (some (Out.ex Ex.ret (St.mk [(Value.int .i64 i), (Value.int .i64 (7 : Int))] [] (Hp.mk [(Ob.cells c true)] 33 []))))
        (cond (decide ((100000000 : Int) < (getInt c ((off + ((Int.toNat i) * 6)) + 1))))
         (some (Out.ex Ex.ret (St.mk [(Value.int .i64 i), (Value.int .i64 (7 : Int))] [] (Hp.mk [(Ob.cells c true)] 33 []))))
         (cond (decide ((getInt c (((off + ((Int.toNat i) * 6)) + 1) + 1)) ≤ (getInt c ((((off + ((Int.toNat i) * 6)) + 1) + 1) + 1))))
          (cond (decide ((-20000 : Int) ≤ (getInt c (((off + ((Int.toNat i) * 6)) + 1) + 1))))
           (cond (decide ((getInt c (((off + ((Int.toNat i) * 6)) + 1) + 1)) ≤ (20000 : Int)))
            (cond (decide ((-20000 : Int) ≤ (getInt c ((((off + ((Int.toNat i) * 6)) + 1) + 1) + 1))))
             (cond (not (decide ((getInt c ((((off + ((Int.toNat i) * 6)) + 1) + 1) + 1)) ≤ (20000 : Int))))
              (some (Out.ex Ex.ret (St.mk [(Value.int .i64 i), (Value.int .i64 (7 : Int))] [] (Hp.mk [(Ob.cells c true)] 33 []))))
              (cond (decide ((getInt c (((((off + ((Int.toNat i) * 6)) + 1) + 1) + 1) + 1)) ≤ (getInt c ((((((off + ((Int.toNat i) * 6)) + 1) + 1) + 1) + 1) + 1))))
               (cond (decide ((-20000 : Int) ≤ (getInt c (((((off + ((Int.toNat i) * 6)) + 1) + 1) + 1) + 1))))
                (cond (decide ((getInt c (((((off + ((Int.toNat i) * 6)) + 1) + 1) + 1) + 1)) ≤ (20000 : Int)))
                 (cond (decide ((-20000 : Int) ≤ (getInt c ((((((off + ((Int.toNat i) * 6)) + 1) + 1) + 1) + 1) + 1))))
                  (cond (not (decide ((getInt c ((((((off + ((Int.toNat i) * 6)) + 1) + 1) + 1) + 1) + 1)) ≤ (20000 : Int))))
                   (some (Out.ex Ex.ret (St.mk [(Value.int .i64 i), (Value.int .i64 (7 : Int))] [] (Hp.mk [(Ob.cells c true)] 33 []))))
                   (cond (Nat.blt (Nat.sub (Int.toNat (Int.ofNat n)) (Int.toNat (IntKind.wrap .i64 (i + (1 : Int))))) M)
                    (cond (eqCode (theLoop Try.prog 25 0) (theLoop Try.prog 25 0))
                     (cond (ok25 off c n (IntKind.wrap .i64 (i + (1 : Int))) (Int.ofNat n))
                      (cond (cbB c off (n - (Int.toNat (IntKind.wrap .i64 (i + (1 : Int))))) (Int.toNat (IntKind.wrap .i64 (i + (1 : Int)))) (getInt c ((off + ((Int.toNat i) * 6)) + 1)))
                       (some (Out.ex Ex.ret (St.mk [(Value.int .i64 (cbI c off (n - (Int.toNat (IntKind.wrap .i64 (i + (1 : Int))))) (Int.toNat (IntKind.wrap .i64 (i + (1 : Int)))) (getInt c ((off + ((Int.toNat i) * 6)) + 1)))), (Value.int .i64 (cbE c off (n - (Int.toNat (IntKind.wrap .i64 (i + (1 : Int))))) (Int.toNat (IntKind.wrap .i64 (i + (1 : Int)))) (getInt c ((off + ((Int.toNat i) * 6)) + 1))))] [] (Hp.mk [(Ob.cells c true)] 33 []))))
                       (some (Out.ex (Ex.exit 0) (St.mk [] [] (Hp.mk [(Ob.cells c true)] 33 [])))))
                      (none))
                     (none))
                    (none)))
                  (some (Out.ex Ex.ret (St.mk [(Value.int .i64 i), (Value.int .i64 (7 : Int))] [] (Hp.mk [(Ob.cells c true)] 33 [])))))
                 (some (Out.ex Ex.ret (St.mk [(Value.int .i64 i), (Value.int .i64 (7 : Int))] [] (Hp.mk [(Ob.cells c true)] 33 [])))))
                (some (Out.ex Ex.ret (St.mk [(Value.int .i64 i), (Value.int .i64 (7 : Int))] [] (Hp.mk [(Ob.cells c true)] 33 [])))))
               (some (Out.ex Ex.ret (St.mk [(Value.int .i64 i), (Value.int .i64 (7 : Int))] [] (Hp.mk [(Ob.cells c true)] 33 []))))))
             (some (Out.ex Ex.ret (St.mk [(Value.int .i64 i), (Value.int .i64 (7 : Int))] [] (Hp.mk [(Ob.cells c true)] 33 [])))))
            (some (Out.ex Ex.ret (St.mk [(Value.int .i64 i), (Value.int .i64 (7 : Int))] [] (Hp.mk [(Ob.cells c true)] 33 [])))))
           (some (Out.ex Ex.ret (St.mk [(Value.int .i64 i), (Value.int .i64 (7 : Int))] [] (Hp.mk [(Ob.cells c true)] 33 [])))))
          (some (Out.ex Ex.ret (St.mk [(Value.int .i64 i), (Value.int .i64 (7 : Int))] [] (Hp.mk [(Ob.cells c true)] 33 []))))))))
      (none))
     (none))
    (some (Out.ex (Ex.exit 0) (St.mk [] [] (Hp.mk [(Ob.cells c true)] 33 [])))) := by kernel_rfl

theorem noNG_of {P : Program} (h : (P.funcs.toList.all fun fn => !(fn.name == "runtime.NumGoroutine")) = true) : NoNG P := by
  intro f fn hf _
  rw [List.all_eq_true] at h
  have := h fn (by rw [Array.mem_toList_iff]; exact Array.mem_of_getElem? hf)
  simpa using this
theorem noNG : NoNG Try.prog := noNG_of (by decide +kernel)
theorem mixed : Try.prog.follows .mixedOrders = true := by decide +kernel

theorem kept1 (c : Array Value) (r : Bool) (h : obSc 1 (.cells c r) = true) : ObsKept 1 [.cells c r] [.cells c r] := .cons (by simp [obKept, h]) .nil

theorem known25 : ∃ J, Known Try.prog (sh25.ans J) := by
  refine Known.junk (Known.nothing _) mes25 sh25 ?_
  intro J t f hs hkn
  unfold sh25 at hs
  split at hs
  case h_2 => cases hs
  rename_i code t c G
  split at hs
  case h_2 => cases hs
  rename_i off n m i fr e16 e17 e18 e4
  simp only [Option.some.injEq] at hs
  subst hs
  refine ex_guard fun h1 => ex_guard fun h2 => ex_guard fun h3 => ?_
  obtain rfl := eqCode_eq h1
  have hl : t.length = 33 := Nat.eq_of_beq_eq_true h2
  obtain ⟨hg, hi0, hn, rfl⟩ := dec_iff.1 h3
  obtain ⟨i, rfl⟩ := Int.eq_ofNat_of_zero_le hi0
  have use := fun e vs H1 wr1 hev hk he hvs => hkn.loopLeaf (G := G) noNG mixed (n := 60) (N0 := 33) (N := 33) (live := [(4, .int .i64 fr), (16, .slice (some ⟨0, off, none⟩) n 6), (17, .int .i64 (Int.ofNat n)), (18, .int .i64 (Int.ofNat i))]) (H0 := [.cells c true]) (pick := pick25) (e := e) (vs := vs) (H1 := H1) (wr1 := wr1)
    (base := 1) (wr := []) (c := theLoop Try.prog 25 0) (t := t) hev hl (by
      intro kv hm
      simp only [List.mem_cons, List.not_mem_nil, or_false] at hm
      rcases hm with rfl | rfl | rfl | rfl
      · exact ⟨e4, rfl, rfl⟩
      · exact ⟨e16, rfl, rfl⟩
      · exact ⟨e17, rfl, rfl⟩
      · exact ⟨e18, rfl, rfl⟩) (Nat.le_refl 1) (by simp [obSc_g0 hg.1]) hk he hvs
  simp only [List.length_cons, List.length_nil, Nat.zero_add] at use
  rw [tree25] at use
  have use2 := fun e vs hev he hvs => use e vs [.cells c true] [] hev (kept1 c true (obSc_g0 hg.1)) he hvs
  clear use
  simp only [Int.ofNat_eq_natCast, Int.toNat_natCast] at use2 ⊢
  by_cases hin : (i : Int) < n
  · have hx := hg.2 i (by omega)
    obtain ⟨m, hm⟩ : ∃ m, n - i = m + 1 := ⟨n - i - 1, by omega⟩
    have hw : IntKind.i64.wrap ((i : Int) + 1) = ((i + 1 : Nat) : Int) := by rw [wrap64_id (by omega) (by omega)]; rfl
    rw [hm]
    have hm' : n - (i + 1) = m := by omega
    simp only [hw, Int.toNat_natCast, hm', hx, hin, decide_true, cond_true, Bool.true_and, Int.natCast_nonneg, eqCode_self] at use2
    have hme : (n.sub (i + 1)).blt (mes25 (.code none (.loop (theLoop Try.prog 25 0)) ⟨t, [], ⟨.cells c true :: G, 1, []⟩⟩)) = true := by
      simp only [mes25, e17, e18, Nat.blt_eq, Int.toNat_natCast]
      show n - (i + 1) < n - i
      omega
    have hok : ok25 off c n ↑(i + 1) n = true := dec_iff.2 ⟨hg, by omega, hn, rfl⟩
    simp only [hme, hok, cond_true] at use2
    by_cases he : ckB c (off + i * 6) fr = 0
    · have e1 : cbB c off (m + 1) i fr = cbB c off m (i + 1) (getInt c (off + i * 6 + 1)) := by simp [cbB, cb, he]
      have e2 : cbI c off (m + 1) i fr = cbI c off m (i + 1) (getInt c (off + i * 6 + 1)) := by simp [cbI, cb, he]
      have e3 : cbE c off (m + 1) i fr = cbE c off m (i + 1) (getInt c (off + i * 6 + 1)) := by simp [cbE, cb, he]
      rw [e1, e2, e3]
      cases hb : cbB c off m (i + 1) (getInt c (off + i * 6 + 1)) with
      | true =>
        refine use2 .ret [.int .i64 (cbI c off m (i + 1) (getInt c (off + i * 6 + 1))), .int .i64 (cbE c off m (i + 1) (getInt c (off + i * 6 + 1)))] ?_ rfl rfl
        revert he
        unfold ckB wsp wnd
        simp only [cond_eq_ite, Bool.not_eq_true', decide_eq_true_eq, decide_eq_false_iff_not, hb]
        grind
      | false =>
        refine use2 (.exit 0) [] ?_ rfl rfl
        revert he
        unfold ckB wsp wnd
        simp only [cond_eq_ite, Bool.not_eq_true', decide_eq_true_eq, decide_eq_false_iff_not, hb]
        grind
    · have e1 : cbB c off (m + 1) i fr = true := by simp [cbB, cb, he]
      have e2 : cbI c off (m + 1) i fr = i := by simp [cbI, cb, he]
      have e3 : cbE c off (m + 1) i fr = ckB c (off + i * 6) fr := by simp [cbE, cb, he]
      rw [e1, e2, e3]
      refine use2 .ret [.int .i64 i, .int .i64 (ckB c (off + i * 6) fr)] ?_ rfl rfl
      revert he
      unfold ckB wsp wnd
      simp only [cond_eq_ite, Bool.not_eq_true', decide_eq_true_eq, decide_eq_false_iff_not]
      grind
  · have h0 : n - i = 0 := by omega
    have e1 : cbB c off (n - i) i fr = false := by rw [h0]; rfl
    rw [e1]
    refine use2 (.exit 0) [] ?_ rfl rfl
    simp only [hin, decide_false, cond_false]
end
end Go.Proofs.Ytohpmnfplglbdaa

/- The loop of hangfireref01.CheckBands: what it finds. Conditions: none. -/
namespace Go.Proofs.Ytohpmnfplglbdaa
open Go.Gh Go.RowKit
noncomputable section
set_option maxRecDepth 100000
theorem tree26 (J : Task → List Value) (off : Nat) (c : Array Value) (n : Nat) (i : Int) (M : Nat) (y : List Value) :
    evS Try.prog (((sh26.ans J).below mes26 M).or (fun _ => none)) 60 (.code none (.loop (theLoop Try.prog 26 0)) ⟨sets (junkF 70 y) [(0, .slice (some ⟨0, off, none⟩) n 6), (4, .int .i64 i)], [], ⟨[.cells c true], 1, []⟩⟩) (sumK 1 70 pick25) =
    cond (decide (i < (Int.ofNat n)))
    (cond (decide ((0 : Int) < i))
     (cond (and (decide ((0 : Int) ≤ (IntKind.wrap .i64 (i - (1 : Int))))) (decide ((IntKind.wrap .i64 (i - (1 : Int))) < (Int.ofNat n))))
      (cond (and true (isInt .i64 c ((off + ((Int.toNat (IntKind.wrap .i64 (i - (1 : Int)))) * 6)) + 1)))
       (cond (and (decide ((0 : Int) ≤ i)) (decide (i < (Int.ofNat n))))
        (cond (and true (isInt .i64 c ((off + ((Int.toNat i) * 6)) + 0)))
         (cond (not (decide ((getInt c ((off + ((Int.toNat i) * 6)) + 0)) = (getInt c ((off + ((Int.toNat (IntKind.wrap .i64 (i - (1 : Int)))) * 6)) + 1)))))
          (some (Out.ex Ex.ret (St.mk [(Value.int .i64 i), (Value.int .i64 (2 : Int))] [] (Hp.mk [(Ob.cells c true)] 70 []))))
          (cond (and (decide ((0 : Int) ≤ i)) (decide (i < (Int.ofNat n))))
           (cond (and true (isInt .i64 c ((off + ((Int.toNat i) * 6)) + 1)))
            (cond (and (decide ((0 : Int) ≤ i)) (decide (i < (Int.ofNat n))))
             (cond (and true (isInt .i64 c ((off + ((Int.toNat i) * 6)) + 0)))
              (cond (decide ((getInt c ((off + ((Int.toNat i) * 6)) + 1)) ≤ (getInt c ((off + ((Int.toNat i) * 6)) + 0))))
               (some (Out.ex Ex.ret (St.mk [(Value.int .i64 i), (Value.int .i64 (7 : Int))] [] (Hp.mk [(Ob.cells c true)] 70 []))))
               (cond (and (decide ((0 : Int) ≤ i)) (decide (i < (Int.ofNat n))))
                (cond (and true (isInt .i64 c ((off + ((Int.toNat i) * 6)) + 1)))
                 (cond (decide ((100000000 : Int) < (getInt c ((off + ((Int.toNat i) * 6)) + 1))))
                  (some (Out.ex Ex.ret (St.mk [(Value.int .i64 i), (Value.int .i64 (7 : Int))] [] (Hp.mk [(Ob.cells c true)] 70 []))))
                  (cond (and (decide ((0 : Int) ≤ i)) (decide (i < (Int.ofNat n))))
                   (cond (and true (rdOk c [(Leaf.int .i64), (Leaf.int .i64)] ((off + ((Int.toNat i) * 6)) + 2)))
                    (cond (decide ((-20000 : Int) ≤ (getInt c ((off + ((Int.toNat i) * 6)) + 2))))
                     (cond (decide ((getInt c ((off + ((Int.toNat i) * 6)) + 2)) ≤ (20000 : Int)))
                      (cond (decide ((-20000 : Int) ≤ (getInt c (((off + ((Int.toNat i) * 6)) + 2) + 1))))
                       (cond (decide ((getInt c (((off + ((Int.toNat i) * 6)) + 2) + 1)) ≤ (20000 : Int)))
                        (cond (not (decide ((getInt c ((off + ((Int.toNat i) * 6)) + 2)) ≤ (getInt c (((off + ((Int.toNat i) * 6)) + 2) + 1)))))
                         (some (Out.ex Ex.ret (St.mk [(Value.int .i64 i), (Value.int .i64 (7 : Int))] [] (Hp.mk [(Ob.cells c true)] 70 []))))
                         (cond (and (decide ((0 : Int) ≤ i)) (decide (i < (Int.ofNat n))))
                          (cond (and true (rdOk c [(Leaf.int .i64), (Leaf.int .i64)] ((off + ((Int.toNat i) * 6)) + 4)))
                           (cond (decide ((-20000 : Int) ≤ (getInt c ((off + ((Int.toNat i) * 6)) + 4))))
                            (cond (decide ((getInt c ((off + ((Int.toNat i) * 6)) + 4)) ≤ (20000 : Int)))
                             (cond (decide ((-20000 : Int) ≤ (getInt c (((off + ((Int.toNat i) * 6)) + 4) + 1))))
                              (cond (decide ((getInt c (((off + ((Int.toNat i) * 6)) + 4) + 1)) ≤ (20000 : Int)))
                               (cond (not (decide ((getInt c ((off + ((Int.toNat i) * 6)) + 4)) ≤ (getInt c (((off + ((Int.toNat i) * 6)) + 4) + 1)))))
                                (some (Out.ex Ex.ret (St.mk [(Value.int .i64 i), (Value.int .i64 (7 : Int))] [] (Hp.mk [(Ob.cells c true)] 70 []))))
                                (cond (Nat.blt (Nat.sub n (Int.toNat (IntKind.wrap .i64 (i + (1 : Int))))) M)
                                 (cond (eqCode (theLoop Try.prog 26 0) (theLoop Try.prog 26 0))
                                  (cond (ok26 off c n (IntKind.wrap .i64 (i + (1 : Int))))
                                   (cond (cbB c off (n - (Int.toNat (IntKind.wrap .i64 (i + (1 : Int))))) (Int.toNat (IntKind.wrap .i64 (i + (1 : Int)))) (frOfI c off (Int.toNat (IntKind.wrap .i64 (i + (1 : Int))))))
                                    (some (Out.ex Ex.ret (St.mk [(Value.int .i64 (cbI c off (n - (Int.toNat (IntKind.wrap .i64 (i + (1 : Int))))) (Int.toNat (IntKind.wrap .i64 (i + (1 : Int)))) (frOfI c off (Int.toNat (IntKind.wrap .i64 (i + (1 : Int))))))), (Value.int .i64 (cbE c off (n - (Int.toNat (IntKind.wrap .i64 (i + (1 : Int))))) (Int.toNat (IntKind.wrap .i64 (i + (1 : Int)))) (frOfI c off (Int.toNat (IntKind.wrap .i64 (i + (1 : Int)))))))] [] (Hp.mk [(Ob.cells c true)] 70 []))))
                                    (some (Out.ex (Ex.exit 0) (St.mk [] [] (Hp.mk [(Ob.cells c true)] 70 [])))))
                                   (none))
                                  (none))
                                 (none)))
                               (some (Out.ex Ex.ret (St.mk [(Value.int .i64 i), (Value.int .i64 (7 : Int))] [] (Hp.mk [(Ob.cells c true)] 70 [])))))
                              (some (Out.ex Ex.ret (St.mk [(Value.int .i64 i), (Value.int .i64 (7 : Int))] [] (Hp.mk [(Ob.cells c true)] 70 [])))))
                             (some (Out.ex Ex.ret (St.mk [(Value.int .i64 i), (Value.int .i64 (7 : Int))] [] (Hp.mk [(Ob.cells c true)] 70 [])))))
                            (some (Out.ex Ex.ret (St.mk [(Value.int .i64 i), (Value.int .i64 (7 : Int))] [] (Hp.mk [(Ob.cells c true)] 70 [])))))
                           (none))
                          (none)))
                        (some (Out.ex Ex.ret (St.mk [(Value.int .i64 i), (Value.int .i64 (7 : Int))] [] (Hp.mk [(Ob.cells c true)] 70 [])))))
                       (some (Out.ex Ex.ret (St.mk [(Value.int .i64 i), (Value.int .i64 (7 : Int))] [] (Hp.mk [(Ob.cells c true)] 70 [])))))
                      (some (Out.ex Ex.ret (St.mk [(Value.int .i64 i), (Value.int .i64 (7 : Int))] [] (Hp.mk [(Ob.cells c true)] 70 [])))))
                     (some (Out.ex Ex.ret (St.mk [(Value.int .i64 i), (Value.int .i64 (7 : Int))] [] (Hp.mk [(Ob.cells c true)] 70 [])))))
                    (none))
                   (none)))
                 (none))
                (none)))
              (none))
             (none))
            (none))
           (none)))
         (none))
        (none))
       (none))
      (none))
     (cond (and (decide ((0 : Int) ≤ i)) (decide (i < (Int.ofNat n))))
      (cond (and true (isInt .i64 c ((off + ((Int.toNat i) * 6)) + 0)))
       (cond (not (decide ((getInt c ((off + ((Int.toNat i) * 6)) + 0)) = (0 : Int))))
        (some (Out.ex Ex.ret (St.mk [(Value.int .i64 i), (Value.int .i64 (2 : Int))] [] (Hp.mk [(Ob.cells c true)] 70 []))))
        (cond (and (decide ((0 : Int) ≤ i)) (decide (i < (Int.ofNat n))))
         (cond (and true (isInt .i64 c ((off + ((Int.toNat i) * 6)) + 1)))
          (cond (and (decide ((0 : Int) ≤ i)) (decide (i < (Int.ofNat n))))
           (cond (and true (isInt .i64 c ((off + ((Int.toNat i) * 6)) + 0)))
            (cond (decide ((getInt c ((off + ((Int.toNat i) * 6)) + 1)) ≤ (getInt c ((off + ((Int.toNat i) * 6)) + 0))))
             (some (Out.ex Ex.ret (St.mk [(Value.int .i64 i), (Value.int .i64 (7 : Int))] [] (Hp.mk [(Ob.cells c true)] 70 []))))
             (cond (and (decide ((0 : Int) ≤ i)) (decide (i < (Int.ofNat n))))
              (cond (and true (isInt .i64 c ((off + ((Int.toNat i) * 6)) + 1)))
               (cond (decide ((100000000 : Int) < (getInt c ((off + ((Int.toNat i) * 6)) + 1))))
                (some (Out.ex Ex.ret (St.mk [(Value.int .i64 i), (Value.int .i64 (7 : Int))] [] (Hp.mk [(Ob.cells c true)] 70 []))))
                (cond (and (decide ((0 : Int) ≤ i)) (decide (i < (Int.ofNat n))))
                 (cond (and true (rdOk c [(Leaf.int .i64), (Leaf.int .i64)] ((off + ((Int.toNat i) * 6)) + 2)))
                  (cond (decide ((-20000 : Int) ≤ (getInt c ((off + ((Int.toNat i) * 6)) + 2))))
                   (cond (decide ((getInt c ((off + ((Int.toNat i) * 6)) + 2)) ≤ (20000 : Int)))
                    (cond (decide ((-20000 : Int) ≤ (getInt c (((off + ((Int.toNat i) * 6)) + 2) + 1))))
                     (cond (decide ((getInt c (((off + ((Int.toNat i) * 6)) + 2) + 1)) ≤ (20000 : Int)))
                      (cond (not (decide ((getInt c ((off + ((Int.toNat i) * 6)) + 2)) ≤ (getInt c (((off + ((Int.toNat i) * 6)) + 2) + 1)))))
                       (some (Out.ex Ex.ret (St.mk [(Value.int .i64 i), (Value.int .i64 (7 : Int))] [] (Hp.mk [(Ob.cells c true)] 70 []))))
                       (cond (and (decide ((0 : Int) ≤ i)) (decide (i < (Int.ofNat n))))
                        (cond (and true (rdOk c [(Leaf.int .i64), (Leaf.int .i64)] ((off + ((Int.toNat i) * 6)) + 4)))
                         (cond (decide ((-20000 : Int) ≤ (getInt c ((off + ((Int.toNat i) * 6)) + 4))))
                          (cond (decide ((getInt c ((off + ((Int.toNat i) * 6)) + 4)) ≤ (20000 : Int)))
                           (cond (decide ((-20000 : Int) ≤ (getInt c (((off + ((Int.toNat i) * 6)) + 4) + 1))))
                            (cond (decide ((getInt c (((off + ((Int.toNat i) * 6)) + 4) + 1)) ≤ (20000 : Int)))
                             (cond (not (decide ((getInt c ((off + ((Int.toNat i) * 6)) + 4)) ≤ (getInt c (((off + ((Int.toNat i) * 6)) + 4) + 1)))))
                              (some (Out.ex Ex.ret (St.mk [(Value.int .i64 i), (Value.int .i64 (7 : Int))] [] (Hp.mk [(Ob.cells c true)] 70 []))))
                              (cond (Nat.blt (Nat.sub n (Int.toNat (IntKind.wrap .i64 (i + (1 : Int))))) M)
                               (cond (eqCode (theLoop Try.prog 26 0) (theLoop Try.prog 26 0))
                                (cond (ok26 off c n (IntKind.wrap .i64 (i + (1 : Int))))
                                 (cond (cbB c off (n - (Int.toNat (IntKind.wrap .i64 (i + (1 : Int))))) (Int.toNat (IntKind.wrap .i64 (i + (1 : Int)))) (frOfI c off (Int.toNat (IntKind.wrap .i64 (i + (1 : Int))))))
                                  (some (Out.ex Ex.ret (St.mk [(Value.int .i64 (cbI c off (n - (Int.toNat (IntKind.wrap .i64 (i + (1 : Int))))) (Int.toNat (IntKind.wrap .i64 (i + (1 : Int)))) (frOfI c off (Int.toNat (IntKind.wrap .i64 (i + (1 : Int))))))), (Value.int .i64 (cbE c off (n - (Int.toNat (IntKind.wrap .i64 (i + (1 : Int))))) (Int.toNat (IntKind.wrap .i64 (i + (1 : Int)))) (frOfI c off (Int.toNat (IntKind.wrap .i64 (i + (1 : Int)))))))] [] (Hp.mk [(Ob.cells c true)] 70 []))))
                                  (some (Out.ex (Ex.exit 0) (St.mk [] [] (Hp.mk [(Ob.cells c true)] 70 [])))))
                                 (none))
                                (none))
                               (none)))
                             (some (Out.ex Ex.ret (St.mk [(Value.int .i64 i), (Value.int .i64 (7 : Int))] [] (Hp.mk [(Ob.cells c true)] 70 [])))))
                            (some (Out.ex Ex.ret (St.mk [(Value.int .i64 i), (Value.int .i64 (7 : Int))] [] (Hp.mk [(Ob.cells c true)] 70 [])))))
                           (some (Out.ex Ex.ret (St.mk [(Value.int .i64 i), (Value.int .i64 (7 : Int))] [] (Hp.mk [(Ob.cells c true)] 70 [])))))
                          (some (Out.ex Ex.ret (St.mk [(Value.int .i64 i), (Value.int .i64 (7 : Int))] [] (Hp.mk [(Ob.cells c true)] 70 [])))))
                         (none))
                        (none)))
                      (some (Out.ex Ex.ret (St.mk [(Value.int .i64 i), (Value.int .i64 (7 : Int))] [] (Hp.mk [(Ob.cells c true)] 70 [])))))
                     (some (Out.ex Ex.ret (St.mk [(Value.int .i64 i), (Value.int .i64 (7 : Int))] [] (Hp.mk [(Ob.cells c true)] 70 [])))))
                    (some (Out.ex Ex.ret (St.mk [(Value.int .i64 i), (Value.int .i64 (7 : Int))] [] (Hp.mk [(Ob.cells c true)] 70 [])))))
                   (some (Out.ex Ex.ret (St.mk [(Value.int .i64 i), (Value.int .i64 (7 : Int))] [] (Hp.mk [(Ob.cells c true)] 70 [])))))
                  (none))
                 (none)))
               (none))
              (none)))
            (none))
           (none))
          (none))
         (none)))
       (none))
      (none)))
    (some (Out.ex (Ex.exit 0) (St.mk [] [] (Hp.mk [(Ob.cells c true)] 70 [])))) := by kernel_rfl

theorem rd6 {c : Array Value} {x : Nat} (h : rdOk c L6 x = true) : isInt .i64 c x = true ∧ isInt .i64 c (x + 1) = true ∧ isInt .i64 c (x + 2) = true ∧ isInt .i64 c (x + 3) = true ∧ isInt .i64 c (x + 4) = true ∧ isInt .i64 c (x + 5) = true := by
  simp only [rdOk, rdLeaf, Bool.and_eq_true] at h
  exact ⟨h.1, h.2.1, h.2.2.1, h.2.2.2.1, h.2.2.2.2.1, h.2.2.2.2.2.1⟩
theorem rd2 {c : Array Value} {x : Nat} (h1 : isInt .i64 c x = true) (h2 : isInt .i64 c (x + 1) = true) : rdOk c [.int .i64, .int .i64] x = true := by
  simp only [rdOk, rdLeaf, h1, h2, Bool.and_self]

theorem known26 : ∃ J, Known Try.prog (sh26.ans J) := by
  refine Known.junk (Known.nothing _) mes26 sh26 ?_
  intro J t f hs hkn
  unfold sh26 at hs
  split at hs
  case h_2 => cases hs
  rename_i code t c G
  split at hs
  case h_2 => cases hs
  rename_i off n i e0 e4
  simp only [Option.some.injEq] at hs
  subst hs
  refine ex_guard fun h1 => ex_guard fun h2 => ex_guard fun h3 => ?_
  obtain rfl := eqCode_eq h1
  have hl : t.length = 70 := Nat.eq_of_beq_eq_true h2
  obtain ⟨hg, hi0, hn⟩ := dec_iff.1 h3
  obtain ⟨i, rfl⟩ := Int.eq_ofNat_of_zero_le hi0
  have use := fun e vs H1 wr1 hev hk he hvs => hkn.loopLeaf (G := G) noNG mixed (n := 60) (N0 := 70) (N := 70) (live := [(0, .slice (some ⟨0, off, none⟩) n 6), (4, .int .i64 (Int.ofNat i))]) (H0 := [.cells c true]) (pick := pick25) (e := e) (vs := vs) (H1 := H1) (wr1 := wr1)
    (base := 1) (wr := []) (c := theLoop Try.prog 26 0) (t := t) hev hl (by
      intro kv hm
      simp only [List.mem_cons, List.not_mem_nil, or_false] at hm
      rcases hm with rfl | rfl
      · exact ⟨e0, rfl, rfl⟩
      · exact ⟨e4, rfl, rfl⟩) (Nat.le_refl 1) (by simp [obSc_g0 hg.1]) hk he hvs
  simp only [List.length_cons, List.length_nil, Nat.zero_add] at use
  rw [tree26] at use
  have use2 := fun e vs hev he hvs => use e vs [.cells c true] [] hev (kept1 c true (obSc_g0 hg.1)) he hvs
  clear use
  simp only [Int.ofNat_eq_natCast, Int.toNat_natCast] at use2 ⊢
  by_cases hin : (i : Int) < n
  · obtain ⟨x0, x1, x2, x3, x4, x5⟩ := rd6 (hg.2 i (by omega))
    have x23 := rd2 x2 x3
    have x45 := rd2 x4 x5
    obtain ⟨m, hm⟩ : ∃ m, n - i = m + 1 := ⟨n - i - 1, by omega⟩
    have hw : IntKind.i64.wrap ((i : Int) + 1) = ((i + 1 : Nat) : Int) := by rw [wrap64_id (by omega) (by omega)]; rfl
    rw [hm]
    have hm' : n - (i + 1) = m := by omega
    have hme : (n.sub (i + 1)).blt (mes26 (.code none (.loop (theLoop Try.prog 26 0)) ⟨t, [], ⟨.cells c true :: G, 1, []⟩⟩)) = true := by
      simp only [mes26, e0, e4, Nat.blt_eq, Int.toNat_natCast]
      show n - (i + 1) < n - i
      omega
    have hok : ok26 off c n ↑(i + 1) = true := dec_iff.2 ⟨hg, by omega, hn⟩
    have hfr : frOfI c off (i + 1) = getInt c (off + i * 6 + 1) := by simp [frOfI]
    simp only [hw, Int.toNat_natCast, hm', hin, decide_true, cond_true, Bool.true_and, Int.natCast_nonneg, eqCode_self, hme, hok, hfr, Nat.add_zero, x0, x1, x23, x45] at use2
    have hprev : (0 < (i : Int)) → (IntKind.i64.wrap ((i : Int) - 1)) = ((i - 1 : Nat) : Int) ∧ isInt .i64 c (off + (i - 1) * 6 + 1) = true ∧ frOfI c off i = getInt c (off + (i - 1) * 6 + 1) := by
      intro hpos
      refine ⟨by rw [wrap64_id (by omega) (by omega)]; omega, (rd6 (hg.2 (i - 1) (by omega))).2.1, ?_⟩
      unfold frOfI; rw [if_neg (by omega)]
    have hz : ¬ (0 < (i : Int)) → frOfI c off i = 0 := fun h => by unfold frOfI; rw [if_pos (by omega)]
    by_cases hpos : 0 < (i : Int)
    · obtain ⟨p1, p2, p3⟩ := hprev hpos
      have p4 : ((i - 1 : Nat) : Int) < n := by omega
      simp only [hpos, decide_true, cond_true, p1, p2, Int.natCast_nonneg, Bool.true_and, p4, Int.toNat_natCast] at use2
      rw [p3]
      by_cases he : ckB c (off + i * 6) (getInt c (off + (i - 1) * 6 + 1)) = 0
      · have e1 : cbB c off (m + 1) i (getInt c (off + (i - 1) * 6 + 1)) = cbB c off m (i + 1) (getInt c (off + i * 6 + 1)) := by simp [cbB, cb, he]
        have e2 : cbI c off (m + 1) i (getInt c (off + (i - 1) * 6 + 1)) = cbI c off m (i + 1) (getInt c (off + i * 6 + 1)) := by simp [cbI, cb, he]
        have e3 : cbE c off (m + 1) i (getInt c (off + (i - 1) * 6 + 1)) = cbE c off m (i + 1) (getInt c (off + i * 6 + 1)) := by simp [cbE, cb, he]
        rw [e1, e2, e3]
        cases hb : cbB c off m (i + 1) (getInt c (off + i * 6 + 1)) with
        | true =>
          refine use2 .ret [.int .i64 (cbI c off m (i + 1) (getInt c (off + i * 6 + 1))), .int .i64 (cbE c off m (i + 1) (getInt c (off + i * 6 + 1)))] ?_ rfl rfl
          revert he
          unfold ckB wsp wnd
          simp only [cond_eq_ite, Bool.not_eq_true', decide_eq_true_eq, decide_eq_false_iff_not, hb]
          grind
        | false =>
          refine use2 (.exit 0) [] ?_ rfl rfl
          revert he
          unfold ckB wsp wnd
          simp only [cond_eq_ite, Bool.not_eq_true', decide_eq_true_eq, decide_eq_false_iff_not, hb]
          grind
      · have e1 : cbB c off (m + 1) i (getInt c (off + (i - 1) * 6 + 1)) = true := by simp [cbB, cb, he]
        have e2 : cbI c off (m + 1) i (getInt c (off + (i - 1) * 6 + 1)) = i := by simp [cbI, cb, he]
        have e3 : cbE c off (m + 1) i (getInt c (off + (i - 1) * 6 + 1)) = ckB c (off + i * 6) (getInt c (off + (i - 1) * 6 + 1)) := by simp [cbE, cb, he]
        rw [e1, e2, e3]
        refine use2 .ret [.int .i64 i, .int .i64 (ckB c (off + i * 6) (getInt c (off + (i - 1) * 6 + 1)))] ?_ rfl rfl
        revert he
        unfold ckB wsp wnd
        simp only [cond_eq_ite, Bool.not_eq_true', decide_eq_true_eq, decide_eq_false_iff_not]
        grind
    · have p3 := hz hpos
      simp only [hpos, decide_false, cond_false] at use2
      rw [p3]
      by_cases he : ckB c (off + i * 6) 0 = 0
      · have e1 : cbB c off (m + 1) i 0 = cbB c off m (i + 1) (getInt c (off + i * 6 + 1)) := by simp [cbB, cb, he]
        have e2 : cbI c off (m + 1) i 0 = cbI c off m (i + 1) (getInt c (off + i * 6 + 1)) := by simp [cbI, cb, he]
        have e3 : cbE c off (m + 1) i 0 = cbE c off m (i + 1) (getInt c (off + i * 6 + 1)) := by simp [cbE, cb, he]
        rw [e1, e2, e3]
        cases hb : cbB c off m (i + 1) (getInt c (off + i * 6 + 1)) with
        | true =>
          refine use2 .ret [.int .i64 (cbI c off m (i + 1) (getInt c (off + i * 6 + 1))), .int .i64 (cbE c off m (i + 1) (getInt c (off + i * 6 + 1)))] ?_ rfl rfl
          revert he
          unfold ckB wsp wnd
          simp only [cond_eq_ite, Bool.not_eq_true', decide_eq_true_eq, decide_eq_false_iff_not, hb]
          grind
        | false =>
          refine use2 (.exit 0) [] ?_ rfl rfl
          revert he
          unfold ckB wsp wnd
          simp only [cond_eq_ite, Bool.not_eq_true', decide_eq_true_eq, decide_eq_false_iff_not, hb]
          grind
      · have e1 : cbB c off (m + 1) i 0 = true := by simp [cbB, cb, he]
        have e2 : cbI c off (m + 1) i 0 = i := by simp [cbI, cb, he]
        have e3 : cbE c off (m + 1) i 0 = ckB c (off + i * 6) 0 := by simp [cbE, cb, he]
        rw [e1, e2, e3]
        refine use2 .ret [.int .i64 i, .int .i64 (ckB c (off + i * 6) 0)] ?_ rfl rfl
        revert he
        unfold ckB wsp wnd
        simp only [cond_eq_ite, Bool.not_eq_true', decide_eq_true_eq, decide_eq_false_iff_not]
        grind
  · have h0 : n - i = 0 := by omega
    have e1 : cbB c off (n - i) i (frOfI c off i) = false := by rw [h0]; rfl
    rw [e1]
    refine use2 (.exit 0) [] ?_ rfl rfl
    simp only [hin, decide_false, cond_false]
end
end Go.Proofs.Ytohpmnfplglbdaa

/- The loops of wind.Over and hangfireref01.Over: the band that they find. Conditions: none. -/
namespace Go.Proofs.Ytohpmnfplglbdaa
open Go.Gh Go.RowKit
noncomputable section
set_option maxRecDepth 100000

theorem fst_hit {p : Nat → Bool} {m i : Nat} (h : p i = true) : fst p (m + 1) i = some i := by simp only [fst]; rw [if_pos h]
theorem fst_miss {p : Nat → Bool} {m i : Nat} (h : p i = false) : fst p (m + 1) i = fst p m (i + 1) := by simp only [fst]; rw [if_neg (by simp [h])]
theorem kept3 (c : Array Value) (x y x' y' : Array Value) (h : c.toList.all g0 = true) (hx : x'.toList.all g0 = true) (hy : y'.toList.all g0 = true) :
    ObsKept 3 [.cells c true, .cells x false, .cells y false] [.cells c true, .cells x' false, .cells y' false] :=
  .cons (by simp [obKept, obSc_g0 h, Ob.live, Ob.rw]) (.cons (by simp [obKept, obSc_g0 hx, Ob.live, Ob.rw]) (.cons (by simp [obKept, obSc_g0 hy, Ob.live, Ob.rw]) .nil))
theorem sp_g0 (c : Array Value) (x : Nat) : (sp c x).toList.all g0 = true := rfl
theorem tree27 (J : Task → List Value) (off : Nat) (c : Array Value) (n : Nat) (i h : Int) (M : Nat) (y : List Value) :
    evS Try.prog (((sh27.ans J).below mes27 M).or (fun _ => none)) 60 (.code none (.loop (theLoop Try.prog 27 0)) ⟨sets (junkF 43 y) [(1, .int .i64 h), (4, pp 1), (5, pp 2), (26, .slice (some ⟨0, off, none⟩) n 6), (27, .int .i64 (Int.ofNat n)), (28, .int .i64 i)], [], ⟨[.cells c true, .cells Z2 false, .cells Z2 false], 1, []⟩⟩) (sumK 3 43 pick27) =
    cond (decide (i < (Int.ofNat n)))
    (cond (and (decide ((0 : Int) ≤ i)) (decide (i < (Int.ofNat n))))
     (cond (and true (rdOk c [(Leaf.int .i64), (Leaf.int .i64), (Leaf.int .i64), (Leaf.int .i64), (Leaf.int .i64), (Leaf.int .i64)] (off + ((Int.toNat i) * 6))))
      (cond (decide (h < (getInt c ((off + ((Int.toNat i) * 6)) + 1))))
       (cond (decide ((getInt c (((((off + ((Int.toNat i) * 6)) + 1) + 1) + 1) + 1)) = (getInt c (((((off + ((Int.toNat i) * 6)) + 1) + 1) + 1) + 1))))
        (cond (decide ((getInt c ((((((off + ((Int.toNat i) * 6)) + 1) + 1) + 1) + 1) + 1)) = (getInt c ((((((off + ((Int.toNat i) * 6)) + 1) + 1) + 1) + 1) + 1))))
         (cond (decide ((getInt c (((((off + ((Int.toNat i) * 6)) + 1) + 1) + 1) + 1)) = (getInt c (((((off + ((Int.toNat i) * 6)) + 1) + 1) + 1) + 1))))
          (cond (decide ((getInt c ((((((off + ((Int.toNat i) * 6)) + 1) + 1) + 1) + 1) + 1)) = (getInt c ((((((off + ((Int.toNat i) * 6)) + 1) + 1) + 1) + 1) + 1))))
           (some (Out.ex Ex.ret (St.mk [(Value.pointer (Option.some (Addr.mk 1 0 Option.none))), (Value.pointer (Option.some (Addr.mk 2 0 Option.none))), (Value.int .i64 (0 : Int))] [] (Hp.mk [(Ob.cells c true), (Ob.cells ⟨[(Value.int .i64 (getInt c (((off + ((Int.toNat i) * 6)) + 1) + 1))), (Value.int .i64 (getInt c ((((off + ((Int.toNat i) * 6)) + 1) + 1) + 1)))]⟩ false), (Ob.cells ⟨[(Value.int .i64 (getInt c (((((off + ((Int.toNat i) * 6)) + 1) + 1) + 1) + 1))), (Value.int .i64 (getInt c ((((((off + ((Int.toNat i) * 6)) + 1) + 1) + 1) + 1) + 1)))]⟩ false)] 43 []))))
           (none))
          (none))
         (none))
        (none))
       (cond (Nat.blt (Nat.sub (Int.toNat (Int.ofNat n)) (Int.toNat (IntKind.wrap .i64 (i + (1 : Int))))) M)
        (cond (eqCode (theLoop Try.prog 27 0) (theLoop Try.prog 27 0))
         (cond (okZ ⟨[(Value.int .i64 (0 : Int)), (Value.int .i64 (0 : Int))]⟩ ⟨[(Value.int .i64 (0 : Int)), (Value.int .i64 (0 : Int))]⟩)
          (cond (ok27 off c n (IntKind.wrap .i64 (i + (1 : Int))) (Int.ofNat n))
           (cond (ovB c off h (n - (Int.toNat (IntKind.wrap .i64 (i + (1 : Int))))) (Int.toNat (IntKind.wrap .i64 (i + (1 : Int)))))
            (some (Out.ex Ex.ret (St.mk [(Value.pointer (Option.some (Addr.mk 1 0 Option.none))), (Value.pointer (Option.some (Addr.mk 2 0 Option.none))), (Value.int .i64 (0 : Int))] [] (Hp.mk [(Ob.cells c true), (Ob.cells ⟨[(Value.int .i64 (getInt c ((off + ((ovI c off h (n - (Int.toNat (IntKind.wrap .i64 (i + (1 : Int))))) (Int.toNat (IntKind.wrap .i64 (i + (1 : Int))))) * 6)) + 2))), (Value.int .i64 (getInt c (((off + ((ovI c off h (n - (Int.toNat (IntKind.wrap .i64 (i + (1 : Int))))) (Int.toNat (IntKind.wrap .i64 (i + (1 : Int))))) * 6)) + 2) + 1)))]⟩ false), (Ob.cells ⟨[(Value.int .i64 (getInt c ((off + ((ovI c off h (n - (Int.toNat (IntKind.wrap .i64 (i + (1 : Int))))) (Int.toNat (IntKind.wrap .i64 (i + (1 : Int))))) * 6)) + 4))), (Value.int .i64 (getInt c (((off + ((ovI c off h (n - (Int.toNat (IntKind.wrap .i64 (i + (1 : Int))))) (Int.toNat (IntKind.wrap .i64 (i + (1 : Int))))) * 6)) + 4) + 1)))]⟩ false)] 43 []))))
            (some (Out.ex (Ex.exit 0) (St.mk [(Value.pointer (Option.some (Addr.mk 1 0 Option.none))), (Value.pointer (Option.some (Addr.mk 2 0 Option.none)))] [] (Hp.mk [(Ob.cells c true), (Ob.cells ⟨[(Value.int .i64 (0 : Int)), (Value.int .i64 (0 : Int))]⟩ false), (Ob.cells ⟨[(Value.int .i64 (0 : Int)), (Value.int .i64 (0 : Int))]⟩ false)] 43 [])))))
           (none))
          (none))
         (none))
        (none)))
      (none))
     (none))
    (some (Out.ex (Ex.exit 0) (St.mk [(Value.pointer (Option.some (Addr.mk 1 0 Option.none))), (Value.pointer (Option.some (Addr.mk 2 0 Option.none)))] [] (Hp.mk [(Ob.cells c true), (Ob.cells ⟨[(Value.int .i64 (0 : Int)), (Value.int .i64 (0 : Int))]⟩ false), (Ob.cells ⟨[(Value.int .i64 (0 : Int)), (Value.int .i64 (0 : Int))]⟩ false)] 43 [])))) := by kernel_rfl

theorem known27 : ∃ J, Known Try.prog (sh27.ans J) := by
  refine Known.junk (Known.nothing _) mes27 sh27 ?_
  intro J t f hs hkn
  unfold sh27 at hs
  split at hs
  case h_2 => cases hs
  rename_i code t c x y G
  split at hs
  case h_2 => cases hs
  rename_i h off n m i e1 e4 e5 e26 e27 e28
  simp only [Option.some.injEq] at hs
  subst hs
  refine ex_guard fun h1 => ex_guard fun h2 => ex_guard fun h2' => ex_guard fun h3 => ?_
  obtain rfl := eqCode_eq h1
  obtain ⟨rfl, rfl⟩ := dec_iff.1 h2'
  have hl : t.length = 43 := Nat.eq_of_beq_eq_true h2
  obtain ⟨hg, hi0, hn, rfl⟩ := dec_iff.1 h3
  obtain ⟨i, rfl⟩ := Int.eq_ofNat_of_zero_le hi0
  have use := fun e vs H1 wr1 hev hk he hvs => hkn.loopLeaf (G := G) noNG mixed (n := 60) (N0 := 43) (N := 43) (live := [(1, .int .i64 h), (4, pp 1), (5, pp 2), (26, .slice (some ⟨0, off, none⟩) n 6), (27, .int .i64 (Int.ofNat n)), (28, .int .i64 (Int.ofNat i))]) (H0 := [.cells c true, .cells Z2 false, .cells Z2 false]) (pick := pick27) (e := e) (vs := vs) (H1 := H1) (wr1 := wr1)
    (base := 1) (wr := []) (c := theLoop Try.prog 27 0) (t := t) hev hl (by
      intro kv hm
      simp only [List.mem_cons, List.not_mem_nil, or_false] at hm
      rcases hm with rfl | rfl | rfl | rfl | rfl | rfl
      · exact ⟨e1, rfl, rfl⟩
      · exact ⟨e4, rfl, rfl⟩
      · exact ⟨e5, rfl, rfl⟩
      · exact ⟨e26, rfl, rfl⟩
      · exact ⟨e27, rfl, rfl⟩
      · exact ⟨e28, rfl, rfl⟩) (by simp) (by simp [obSc_g0 hg.1]; decide) hk he hvs
  simp only [List.length_cons, List.length_nil, Nat.zero_add] at use
  rw [tree27] at use
  simp only [Int.ofNat_eq_natCast, Int.toNat_natCast] at use ⊢
  by_cases hin : (i : Int) < n
  · have hx := hg.2 i (by omega)
    obtain ⟨m, hm⟩ : ∃ m, n - i = m + 1 := ⟨n - i - 1, by omega⟩
    have hw : IntKind.i64.wrap ((i : Int) + 1) = ((i + 1 : Nat) : Int) := by rw [wrap64_id (by omega) (by omega)]; rfl
    rw [hm]
    have hm' : n - (i + 1) = m := by omega
    have hme : (n.sub (i + 1)).blt (mes27 (.code none (.loop (theLoop Try.prog 27 0)) ⟨t, [], ⟨.cells c true :: .cells Z2 false :: .cells Z2 false :: G, 1, []⟩⟩)) = true := by
      simp only [mes27, e27, e28, Nat.blt_eq, Int.toNat_natCast]
      show n - (i + 1) < n - i
      omega
    have hok : ok27 off c n ↑(i + 1) n = true := dec_iff.2 ⟨hg, by omega, hn, rfl⟩
    have hz : okZ Z2 Z2 = true := dec_iff.2 ⟨rfl, rfl⟩
    simp only [hw, Int.toNat_natCast, hm', hx, hin, decide_true, cond_true, Bool.true_and, Int.natCast_nonneg, eqCode_self, hme, hok, hz] at use
    cases hp : ovP c off h i with
    | true =>
      have e1 : ovB c off h (m + 1) i = true := by simp [ovB, fst_hit hp]
      have e2 : ovI c off h (m + 1) i = i := by simp [ovI, fst_hit hp]
      rw [e1, e2]
      refine use .ret [pp 1, pp 2, .int .i64 0] [.cells c true, .cells (sp c (off + i * 6 + 2)) false, .cells (sp c (off + i * 6 + 4)) false] [] ?_ (kept3 c _ _ _ _ hg.1 rfl rfl) rfl rfl
      have : h < getInt c (off + i * 6 + 1) := of_decide_eq_true hp
      simp only [this, decide_true, cond_true]
      rfl
    | false =>
      have e1 : ovB c off h (m + 1) i = ovB c off h m (i + 1) := by simp [ovB, fst_miss hp]
      have e2 : ovI c off h (m + 1) i = ovI c off h m (i + 1) := by simp [ovI, fst_miss hp]
      rw [e1, e2]
      have : ¬ h < getInt c (off + i * 6 + 1) := of_decide_eq_false hp
      simp only [this, decide_false, cond_false] at use
      cases hb : ovB c off h m (i + 1) with
      | true =>
        rw [hb] at use
        exact use .ret [pp 1, pp 2, .int .i64 0] [.cells c true, .cells (sp c (off + ovI c off h m (i + 1) * 6 + 2)) false, .cells (sp c (off + ovI c off h m (i + 1) * 6 + 4)) false] [] rfl (kept3 c _ _ _ _ hg.1 rfl rfl) rfl rfl
      | false =>
        rw [hb] at use
        exact use (.exit 0) [pp 1, pp 2] [.cells c true, .cells Z2 false, .cells Z2 false] [] rfl (kept3 c _ _ _ _ hg.1 rfl rfl) rfl rfl
  · have h0 : n - i = 0 := by omega
    have e1 : ovB c off h (n - i) i = false := by rw [h0]; rfl
    rw [e1]
    refine use (.exit 0) [pp 1, pp 2] [.cells c true, .cells Z2 false, .cells Z2 false] [] ?_ (kept3 c _ _ _ _ hg.1 rfl rfl) rfl rfl
    simp only [hin, decide_false, cond_false]
    rfl
end
end Go.Proofs.Ytohpmnfplglbdaa

/- The loop of hangfireref01.Over: the band that it finds. Conditions: none. -/
namespace Go.Proofs.Ytohpmnfplglbdaa
open Go.Gh Go.RowKit
noncomputable section
set_option maxRecDepth 100000
theorem tree28 (J : Task → List Value) (off : Nat) (c : Array Value) (n : Nat) (i h : Int) (M : Nat) (y : List Value) :
    evS Try.prog (((sh28.ans J).below mes28 M).or (fun _ => none)) 60 (.code none (.loop (theLoop Try.prog 28 0)) ⟨sets (junkF 61 y) [(0, .slice (some ⟨0, off, none⟩) n 6), (1, .int .i64 h), (4, pp 1), (5, pp 2), (9, .int .i64 i)], [], ⟨[.cells c true, .cells Z2 false, .cells Z2 false], 1, []⟩⟩) (sumK 3 61 pick27) =
    cond (decide (i < (Int.ofNat n)))
    (cond (and (decide ((0 : Int) ≤ i)) (decide (i < (Int.ofNat n))))
     (cond (and true (isInt .i64 c ((off + ((Int.toNat i) * 6)) + 0)))
      (cond (decide ((getInt c ((off + ((Int.toNat i) * 6)) + 0)) ≤ h))
       (cond (and (decide ((0 : Int) ≤ i)) (decide (i < (Int.ofNat n))))
        (cond (and true (isInt .i64 c ((off + ((Int.toNat i) * 6)) + 1)))
         (cond (decide (h < (getInt c ((off + ((Int.toNat i) * 6)) + 1))))
          (cond (and (decide ((0 : Int) ≤ i)) (decide (i < (Int.ofNat n))))
           (cond (and true (rdOk c [(Leaf.int .i64), (Leaf.int .i64)] ((off + ((Int.toNat i) * 6)) + 2)))
            (cond (and (decide ((0 : Int) ≤ i)) (decide (i < (Int.ofNat n))))
             (cond (and true (rdOk c [(Leaf.int .i64), (Leaf.int .i64)] ((off + ((Int.toNat i) * 6)) + 4)))
              (cond (and true (rdOk c [(Leaf.int .i64), (Leaf.int .i64)] ((off + ((Int.toNat i) * 6)) + 4)))
               (cond (decide ((getInt c ((off + ((Int.toNat i) * 6)) + 4)) = (getInt c ((off + ((Int.toNat i) * 6)) + 4))))
                (cond (decide ((getInt c (((off + ((Int.toNat i) * 6)) + 4) + 1)) = (getInt c (((off + ((Int.toNat i) * 6)) + 4) + 1))))
                 (cond (and true (rdOk c [(Leaf.int .i64), (Leaf.int .i64)] ((off + ((Int.toNat i) * 6)) + 4)))
                  (cond (decide ((getInt c ((off + ((Int.toNat i) * 6)) + 4)) = (getInt c ((off + ((Int.toNat i) * 6)) + 4))))
                   (cond (decide ((getInt c (((off + ((Int.toNat i) * 6)) + 4) + 1)) = (getInt c (((off + ((Int.toNat i) * 6)) + 4) + 1))))
                    (some (Out.ex Ex.ret (St.mk [(Value.pointer (Option.some (Addr.mk 1 0 Option.none))), (Value.pointer (Option.some (Addr.mk 2 0 Option.none))), (Value.int .i64 (0 : Int))] [] (Hp.mk [(Ob.cells c true), (Ob.cells ⟨[(Value.int .i64 (getInt c ((off + ((Int.toNat i) * 6)) + 2))), (Value.int .i64 (getInt c (((off + ((Int.toNat i) * 6)) + 2) + 1)))]⟩ false), (Ob.cells ⟨[(Value.int .i64 (getInt c ((off + ((Int.toNat i) * 6)) + 4))), (Value.int .i64 (getInt c (((off + ((Int.toNat i) * 6)) + 4) + 1)))]⟩ false)] 61 []))))
                    (none))
                   (none))
                  (none))
                 (none))
                (none))
               (none))
              (none))
             (none))
            (none))
           (none))
          (cond (Nat.blt (Nat.sub n (Int.toNat (IntKind.wrap .i64 (i + (1 : Int))))) M)
           (cond (eqCode (theLoop Try.prog 28 0) (theLoop Try.prog 28 0))
            (cond (okZ ⟨[(Value.int .i64 (0 : Int)), (Value.int .i64 (0 : Int))]⟩ ⟨[(Value.int .i64 (0 : Int)), (Value.int .i64 (0 : Int))]⟩)
             (cond (ok28 off c n (IntKind.wrap .i64 (i + (1 : Int))))
              (cond (owB c off h (n - (Int.toNat (IntKind.wrap .i64 (i + (1 : Int))))) (Int.toNat (IntKind.wrap .i64 (i + (1 : Int)))))
               (some (Out.ex Ex.ret (St.mk [(Value.pointer (Option.some (Addr.mk 1 0 Option.none))), (Value.pointer (Option.some (Addr.mk 2 0 Option.none))), (Value.int .i64 (0 : Int))] [] (Hp.mk [(Ob.cells c true), (Ob.cells ⟨[(Value.int .i64 (getInt c ((off + ((owI c off h (n - (Int.toNat (IntKind.wrap .i64 (i + (1 : Int))))) (Int.toNat (IntKind.wrap .i64 (i + (1 : Int))))) * 6)) + 2))), (Value.int .i64 (getInt c (((off + ((owI c off h (n - (Int.toNat (IntKind.wrap .i64 (i + (1 : Int))))) (Int.toNat (IntKind.wrap .i64 (i + (1 : Int))))) * 6)) + 2) + 1)))]⟩ false), (Ob.cells ⟨[(Value.int .i64 (getInt c ((off + ((owI c off h (n - (Int.toNat (IntKind.wrap .i64 (i + (1 : Int))))) (Int.toNat (IntKind.wrap .i64 (i + (1 : Int))))) * 6)) + 4))), (Value.int .i64 (getInt c (((off + ((owI c off h (n - (Int.toNat (IntKind.wrap .i64 (i + (1 : Int))))) (Int.toNat (IntKind.wrap .i64 (i + (1 : Int))))) * 6)) + 4) + 1)))]⟩ false)] 61 []))))
               (some (Out.ex (Ex.exit 0) (St.mk [(Value.pointer (Option.some (Addr.mk 1 0 Option.none))), (Value.pointer (Option.some (Addr.mk 2 0 Option.none)))] [] (Hp.mk [(Ob.cells c true), (Ob.cells ⟨[(Value.int .i64 (0 : Int)), (Value.int .i64 (0 : Int))]⟩ false), (Ob.cells ⟨[(Value.int .i64 (0 : Int)), (Value.int .i64 (0 : Int))]⟩ false)] 61 [])))))
              (none))
             (none))
            (none))
           (none)))
         (none))
        (none))
       (cond (Nat.blt (Nat.sub n (Int.toNat (IntKind.wrap .i64 (i + (1 : Int))))) M)
        (cond (eqCode (theLoop Try.prog 28 0) (theLoop Try.prog 28 0))
         (cond (okZ ⟨[(Value.int .i64 (0 : Int)), (Value.int .i64 (0 : Int))]⟩ ⟨[(Value.int .i64 (0 : Int)), (Value.int .i64 (0 : Int))]⟩)
          (cond (ok28 off c n (IntKind.wrap .i64 (i + (1 : Int))))
           (cond (owB c off h (n - (Int.toNat (IntKind.wrap .i64 (i + (1 : Int))))) (Int.toNat (IntKind.wrap .i64 (i + (1 : Int)))))
            (some (Out.ex Ex.ret (St.mk [(Value.pointer (Option.some (Addr.mk 1 0 Option.none))), (Value.pointer (Option.some (Addr.mk 2 0 Option.none))), (Value.int .i64 (0 : Int))] [] (Hp.mk [(Ob.cells c true), (Ob.cells ⟨[(Value.int .i64 (getInt c ((off + ((owI c off h (n - (Int.toNat (IntKind.wrap .i64 (i + (1 : Int))))) (Int.toNat (IntKind.wrap .i64 (i + (1 : Int))))) * 6)) + 2))), (Value.int .i64 (getInt c (((off + ((owI c off h (n - (Int.toNat (IntKind.wrap .i64 (i + (1 : Int))))) (Int.toNat (IntKind.wrap .i64 (i + (1 : Int))))) * 6)) + 2) + 1)))]⟩ false), (Ob.cells ⟨[(Value.int .i64 (getInt c ((off + ((owI c off h (n - (Int.toNat (IntKind.wrap .i64 (i + (1 : Int))))) (Int.toNat (IntKind.wrap .i64 (i + (1 : Int))))) * 6)) + 4))), (Value.int .i64 (getInt c (((off + ((owI c off h (n - (Int.toNat (IntKind.wrap .i64 (i + (1 : Int))))) (Int.toNat (IntKind.wrap .i64 (i + (1 : Int))))) * 6)) + 4) + 1)))]⟩ false)] 61 []))))
            (some (Out.ex (Ex.exit 0) (St.mk [(Value.pointer (Option.some (Addr.mk 1 0 Option.none))), (Value.pointer (Option.some (Addr.mk 2 0 Option.none)))] [] (Hp.mk [(Ob.cells c true), (Ob.cells ⟨[(Value.int .i64 (0 : Int)), (Value.int .i64 (0 : Int))]⟩ false), (Ob.cells ⟨[(Value.int .i64 (0 : Int)), (Value.int .i64 (0 : Int))]⟩ false)] 61 [])))))
           (none))
          (none))
         (none))
        (none)))
      (none))
     (none))
    (some (Out.ex (Ex.exit 0) (St.mk [(Value.pointer (Option.some (Addr.mk 1 0 Option.none))), (Value.pointer (Option.some (Addr.mk 2 0 Option.none)))] [] (Hp.mk [(Ob.cells c true), (Ob.cells ⟨[(Value.int .i64 (0 : Int)), (Value.int .i64 (0 : Int))]⟩ false), (Ob.cells ⟨[(Value.int .i64 (0 : Int)), (Value.int .i64 (0 : Int))]⟩ false)] 61 [])))) := by kernel_rfl

theorem known28 : ∃ J, Known Try.prog (sh28.ans J) := by
  refine Known.junk (Known.nothing _) mes28 sh28 ?_
  intro J t f hs hkn
  unfold sh28 at hs
  split at hs
  case h_2 => cases hs
  rename_i code t c x y G
  split at hs
  case h_2 => cases hs
  rename_i h off n i e1 e4 e5 e0 e9
  simp only [Option.some.injEq] at hs
  subst hs
  refine ex_guard fun h1 => ex_guard fun h2 => ex_guard fun h2' => ex_guard fun h3 => ?_
  obtain rfl := eqCode_eq h1
  obtain ⟨rfl, rfl⟩ := dec_iff.1 h2'
  have hl : t.length = 61 := Nat.eq_of_beq_eq_true h2
  obtain ⟨hg, hi0, hn⟩ := dec_iff.1 h3
  obtain ⟨i, rfl⟩ := Int.eq_ofNat_of_zero_le hi0
  have use := fun e vs H1 wr1 hev hk he hvs => hkn.loopLeaf (G := G) noNG mixed (n := 60) (N0 := 61) (N := 61) (live := [(0, .slice (some ⟨0, off, none⟩) n 6), (1, .int .i64 h), (4, pp 1), (5, pp 2), (9, .int .i64 (Int.ofNat i))]) (H0 := [.cells c true, .cells Z2 false, .cells Z2 false]) (pick := pick27) (e := e) (vs := vs) (H1 := H1) (wr1 := wr1)
    (base := 1) (wr := []) (c := theLoop Try.prog 28 0) (t := t) hev hl (by
      intro kv hm
      simp only [List.mem_cons, List.not_mem_nil, or_false] at hm
      rcases hm with rfl | rfl | rfl | rfl | rfl
      · exact ⟨e0, rfl, rfl⟩
      · exact ⟨e1, rfl, rfl⟩
      · exact ⟨e4, rfl, rfl⟩
      · exact ⟨e5, rfl, rfl⟩
      · exact ⟨e9, rfl, rfl⟩) (by simp) (by simp [obSc_g0 hg.1]; decide) hk he hvs
  simp only [List.length_cons, List.length_nil, Nat.zero_add] at use
  have use0 := use
  rw [tree28] at use
  simp only [Int.ofNat_eq_natCast, Int.toNat_natCast] at use ⊢
  by_cases hin : (i : Int) < n
  · obtain ⟨x0, x1, x2, x3, x4, x5⟩ := rd6 (hg.2 i (by omega))
    have x23 := rd2 x2 x3
    have x45 := rd2 x4 x5
    obtain ⟨m, hm⟩ : ∃ m, n - i = m + 1 := ⟨n - i - 1, by omega⟩
    have hw : IntKind.i64.wrap ((i : Int) + 1) = ((i + 1 : Nat) : Int) := by rw [wrap64_id (by omega) (by omega)]; rfl
    rw [hm]
    have hm' : n - (i + 1) = m := by omega
    have hme : (n.sub (i + 1)).blt (mes28 (.code none (.loop (theLoop Try.prog 28 0)) ⟨t, [], ⟨.cells c true :: .cells Z2 false :: .cells Z2 false :: G, 1, []⟩⟩)) = true := by
      simp only [mes28, e0, e9, Nat.blt_eq, Int.toNat_natCast]
      show n - (i + 1) < n - i
      omega
    have hok : ok28 off c n ↑(i + 1) = true := dec_iff.2 ⟨hg, by omega, hn⟩
    have hz : okZ Z2 Z2 = true := dec_iff.2 ⟨rfl, rfl⟩
    simp only [hw, Int.toNat_natCast, hm', x0, x1, x23, x45, Nat.add_zero, hin, decide_true, cond_true, Bool.true_and, Int.natCast_nonneg, eqCode_self, hme, hok, hz] at use
    cases hp : owP c off h i with
    | true =>
      have e1 : owB c off h (m + 1) i = true := by simp [owB, fst_hit hp]
      have e2 : owI c off h (m + 1) i = i := by simp [owI, fst_hit hp]
      rw [e1, e2]
      refine use .ret [pp 1, pp 2, .int .i64 0] [.cells c true, .cells (sp c (off + i * 6 + 2)) false, .cells (sp c (off + i * 6 + 4)) false] [] ?_ (kept3 c _ _ _ _ hg.1 rfl rfl) rfl rfl
      simp only [owP, Bool.and_eq_true] at hp
      simp only [hp.1, hp.2, cond_true]
      rfl
    | false =>
      have e1 : owB c off h (m + 1) i = owB c off h m (i + 1) := by simp [owB, fst_miss hp]
      have e2 : owI c off h (m + 1) i = owI c off h m (i + 1) := by simp [owI, fst_miss hp]
      rw [e1, e2]
      have fin : (∀ (e : Ex) (vs : List Value) (H1 : List Ob) (wr1 : List Nat), (bif owB c off h m (i + 1) then some (Out.ex .ret { t := [pp 1, pp 2, .int .i64 0], d := [], h := { bl := [.cells c true, .cells (sp c (off + owI c off h m (i + 1) * 6 + 2)) false, .cells (sp c (off + owI c off h m (i + 1) * 6 + 4)) false], base := 61, wr := [] } })
          else some (Out.ex (.exit 0) { t := [pp 1, pp 2], d := [], h := { bl := [.cells c true, .cells Z2 false, .cells Z2 false], base := 61, wr := [] } })) = some (Out.ex e { t := vs, d := [], h := { bl := H1, base := 61, wr := wr1 } }) →
          evS Try.prog (((sh28.ans J).below mes28 (mes28 (.code none (.loop (theLoop Try.prog 28 0)) ⟨t, [], ⟨.cells c true :: .cells Z2 false :: .cells Z2 false :: G, 1, []⟩⟩))).or (fun _ => none)) 60 (.code none (.loop (theLoop Try.prog 28 0)) ⟨sets (junkF 61 (t.map lo)) [(0, .slice (some ⟨0, off, none⟩) n 6), (1, .int .i64 h), (4, pp 1), (5, pp 2), (9, .int .i64 (Int.ofNat i))], [], ⟨[.cells c true, .cells Z2 false, .cells Z2 false], 1, []⟩⟩) (sumK 3 61 pick27) = some (Out.ex e { t := vs, d := [], h := { bl := H1, base := 61, wr := wr1 } })) := by
        intro e vs H1 wr1 hev
        rw [tree28]
        refine Eq.trans ?_ hev
        simp only [Int.ofNat_eq_natCast, hw, Int.toNat_natCast, hm', x0, x1, x23, x45, Nat.add_zero, hin, decide_true, cond_true, Bool.true_and, Int.natCast_nonneg, eqCode_self, hme, hok, hz]
        simp only [owP, Bool.and_eq_false_iff] at hp
        rcases hp with hp | hp
        · simp only [hp, cond_false]; rfl
        · simp only [hp, cond_false]
          cases decide (getInt c (off + i * 6) ≤ h) <;> rfl
      clear use
      cases hb : owB c off h m (i + 1) with
      | true =>
        rw [hb] at fin
        exact use0 .ret [pp 1, pp 2, .int .i64 0] [.cells c true, .cells (sp c (off + owI c off h m (i + 1) * 6 + 2)) false, .cells (sp c (off + owI c off h m (i + 1) * 6 + 4)) false] [] (fin _ _ _ _ rfl) (kept3 c _ _ _ _ hg.1 rfl rfl) rfl rfl
      | false =>
        rw [hb] at fin
        exact use0 (.exit 0) [pp 1, pp 2] [.cells c true, .cells Z2 false, .cells Z2 false] [] (fin _ _ _ _ rfl) (kept3 c _ _ _ _ hg.1 rfl rfl) rfl rfl
  · have h0 : n - i = 0 := by omega
    have e1 : owB c off h (n - i) i = false := by rw [h0]; rfl
    rw [e1]
    refine use (.exit 0) [pp 1, pp 2] [.cells c true, .cells Z2 false, .cells Z2 false] [] ?_ (kept3 c _ _ _ _ hg.1 rfl rfl) rfl rfl
    simp only [hin, decide_false, cond_false]
    rfl
end
end Go.Proofs.Ytohpmnfplglbdaa

