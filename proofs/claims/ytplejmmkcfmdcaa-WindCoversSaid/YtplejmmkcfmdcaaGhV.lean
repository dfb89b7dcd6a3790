/- Loads made quick. Conditions: none. -/
import Derived.Test.YtplejmmkcfmdcaaGhU
namespace Go.Gh
open Go.RowKit
noncomputable section

def nth {α : Type} (l : List α) : Nat → Option α := List.rec (motive := fun _ => Nat → Option α) (fun _ => none) (fun v _ ih n => Nat.rec (motive := fun _ => Option α) (some v) (fun m _ => ih m) n) l
theorem nth_eq {α : Type} : ∀ (l : List α) (n : Nat), nth l n = l[n]?
  | [], _ => rfl
  | _ :: _, 0 => rfl
  | _ :: r, n + 1 => (nth_eq r n).trans (by simp)
def dropR {α : Type} (l : List α) : Nat → List α := List.rec (motive := fun _ => Nat → List α) (fun _ => []) (fun v r ih n => Nat.rec (motive := fun _ => List α) (v :: r) (fun m _ => ih m) n) l
theorem dropR_eq {α : Type} : ∀ (l : List α) (n : Nat), dropR l n = l.drop n
  | [], n => by simp [dropR]
  | _ :: _, 0 => rfl
  | _ :: r, n + 1 => (dropR_eq r n).trans (by simp)
def takeK {β : Type} (n : Nat) : List Value → (List Value → β) → β → β :=
  Nat.rec (motive := fun _ => List Value → (List Value → β) → β → β) (fun _ k _ => k [])
    (fun _ ih l k e => List.rec (motive := fun _ => β) e (fun v r _ => ih r (fun t => k (v :: t)) e) l) n
theorem takeK_eq {β : Type} : ∀ (n : Nat) (l : List Value) (k : List Value → β) (e : β), takeK n l k e = if n ≤ l.length then k (l.take n) else e
  | 0, l, k, e => by rw [if_pos (Nat.zero_le _)]; rfl
  | n + 1, [], k, e => by rw [if_neg (by simp)]; rfl
  | n + 1, v :: r, k, e => by
    show takeK n r (fun t => k (v :: t)) e = _
    rw [takeK_eq n r]
    simp only [List.length_cons, Nat.add_le_add_iff_right, List.take_succ_cons]

def loadK {β : Type} (P : Program) (H : List Ob) (t : TypeId) (v : Value) (k : Value → β) (k1 : Value → β) (e : β) : β :=
  match v with
  | .pointer (some ⟨b, off, none⟩) =>
    match nth H b with
    | some (.cells ⟨c⟩ _) =>
      match isAggB P t with
      | some true => (match sizeB P t with | some (n + 1) => takeK (n + 1) (dropR c off) (fun l => k (.agg ⟨l⟩)) e | _ => e)
      | some false => (match nth c off with | some v => k1 v | none => e)
      | none => e
    | _ => e
  | _ => e
theorem loadK_ok {β : Type} {P : Program} {H : List Ob} {t : TypeId} {v : Value} {k : Value → β} {e : β} : (∃ u, rLoad P H t v = some u ∧ loadK P H t v k k e = k u) ∨ loadK P H t v k k e = e := by
  unfold loadK
  split
  · rename_i b off
    rw [nth_eq]
    split
    · rename_i c ro hb
      split
      · rename_i ha
        split
        · rename_i n hs
          rw [takeK_eq, dropR_eq]
          by_cases hn : n + 1 ≤ (c.drop off).length
          · rw [if_pos hn]
            refine .inl ⟨_, ?_, rfl⟩
            rw [List.length_drop] at hn
            simp only [rLoad, hb, ha, hs]
            rw [if_pos (by simp; omega)]
            congr 2
            apply Array.ext'
            simp [List.take_drop]
          · rw [if_neg hn]; exact .inr rfl
        · exact .inr rfl
      · rename_i ha
        rw [nth_eq]
        split
        · rename_i u hu
          refine .inl ⟨u, ?_, rfl⟩
          simp only [rLoad, hb, ha]
          simpa using hu
        · exact .inr rfl
      · exact .inr rfl
    · exact .inr rfl
  · exact .inr rfl

/-! ### Stores -/
def setK {α β : Type} (l : List α) : Nat → α → (List α → β) → β :=
  List.rec (motive := fun _ => Nat → α → (List α → β) → β) (fun _ _ k => k [])
    (fun x r ih n v k => Nat.rec (motive := fun _ => β) (k (v :: r)) (fun m _ => ih m v fun r' => k (x :: r')) n) l
theorem setK_eq {α β : Type} : ∀ (l : List α) (n : Nat) (v : α) (k : List α → β), setK l n v k = k (l.set n v)
  | [], _, _, _ => rfl
  | _ :: _, 0, _, _ => rfl
  | x :: r, n + 1, v, k => (setK_eq r n v fun r' => k (x :: r')).trans (by simp)

theorem wcells_succ : ∀ (vs : List Value) (x : Value) (r : List Value) (off : Nat), (wcells ⟨x :: r⟩ (off + 1) vs).toList = x :: (wcells ⟨r⟩ off vs).toList
  | [], x, r, off => rfl
  | v :: vs, x, r, off => by
    simp only [wcells]
    have e1 : (⟨x :: r⟩ : Array Value).setIfInBounds (off + 1) v = ⟨x :: r.set off v⟩ := by
      apply Array.ext'; simp
    have e2 : (⟨r⟩ : Array Value).setIfInBounds off v = ⟨r.set off v⟩ := by
      apply Array.ext'; simp
    rw [e1, e2]
    exact wcells_succ vs x (r.set off v) (off + 1)

def wrK {β : Type} (c : List Value) : Nat → List Value → (List Value → β) → β → β :=
  List.rec (motive := fun _ => Nat → List Value → (List Value → β) → β → β) (fun _ vs k e => List.rec (motive := fun _ => β) (k []) (fun _ _ _ => e) vs)
    (fun x r ih off vs k e => Nat.rec (motive := fun _ => β) (List.rec (motive := fun _ => β) (k (x :: r)) (fun v vs' _ => ih 0 vs' (fun t => k (v :: t)) e) vs)
      (fun m _ => ih m vs (fun t => k (x :: t)) e) off) c
theorem wrK_ok {β : Type} : ∀ (c : List Value) (off : Nat) (vs : List Value) (k : List Value → β) (e : β), off + vs.length ≤ c.length → wrK c off vs k e = k (wcells ⟨c⟩ off vs).toList
  | [], off, [], k, e, _ => rfl
  | [], off, v :: vs, k, e, h => by simp at h
  | x :: r, 0, [], k, e, _ => rfl
  | x :: r, 0, v :: vs, k, e, h => by
    show wrK r 0 vs (fun t => k (v :: t)) e = _
    rw [wrK_ok r 0 vs _ e (by simp at h ⊢; omega)]
    simp only [wcells]
    have e1 : (⟨x :: r⟩ : Array Value).setIfInBounds 0 v = ⟨v :: r⟩ := by
      apply Array.ext'; simp
    rw [e1, wcells_succ]
  | x :: r, off + 1, vs, k, e, h => by
    show wrK r off vs (fun t => k (x :: t)) e = _
    rw [wrK_ok r off vs _ e (by simp at h ⊢; omega), wcells_succ]
theorem wrK_else {β : Type} : ∀ (c : List Value) (off : Nat) (vs : List Value) (k : List Value → β) (e : β), vs ≠ [] → ¬ off + vs.length ≤ c.length → wrK c off vs k e = e
  | [], off, [], k, e, hv, _ => absurd rfl hv
  | [], off, v :: vs, k, e, _, h => rfl
  | x :: r, 0, [], k, e, hv, _ => absurd rfl hv
  | x :: r, 0, [v], k, e, _, h => by simp at h
  | x :: r, 0, v :: u :: vs, k, e, _, h => by
    show wrK r 0 (u :: vs) (fun t => k (v :: t)) e = _
    exact wrK_else r 0 (u :: vs) _ e (by simp) (by simp at h ⊢; omega)
  | x :: r, off + 1, vs, k, e, hv, h => by
    show wrK r off vs (fun t => k (x :: t)) e = _
    exact wrK_else r off vs _ e hv (by simp at h ⊢; omega)

def lenIs (l : List Value) : Nat → Bool := List.rec (motive := fun _ => Nat → Bool) (fun n => Nat.beq n 0) (fun _ _ ih n => Nat.rec (motive := fun _ => Bool) false (fun m _ => ih m) n) l
theorem lenIs_eq : ∀ (l : List Value) (n : Nat), lenIs l n = true → l.length = n
  | [], n, h => (Nat.eq_of_beq_eq_true h).symm
  | _ :: _, 0, h => by cases h
  | _ :: r, n + 1, h => by rw [List.length_cons, lenIs_eq r n h]
def cellsL (v : Value) : List Value := match v with | .agg ⟨l⟩ => l | v => [v]
theorem cellsL_eq (v : Value) : cellsL v = v.cells.toList := by cases v <;> rfl

def storeK {β : Type} (P : Program) (h : Hp) (t : TypeId) (x v : Value) (k : Hp → β) (e : β) : β :=
  match x with
  | .pointer (some ⟨b, off, none⟩) =>
    match nth h.bl b with
    | some (.cells ⟨c⟩ false) =>
      (match sizeB P t with
      | some (n + 1) => Bool.rec (motive := fun _ => β) e (wrK c off (cellsL v) (fun c' => setK h.bl b (.cells ⟨c'⟩ false) fun bl => Bool.rec (motive := fun _ => β) (k ⟨bl, h.base, h.wr⟩) (k ⟨bl, h.base, b :: h.wr⟩) (Nat.blt b h.base)) e)
          (notT v && (lenIs (cellsL v) (n + 1) && (cellsL v).all (·.oneCell')))
      | _ => e)
    | _ => e
  | _ => e
theorem storeK_ok {β : Type} {P : Program} {h : Hp} {t : TypeId} {x v : Value} {k : Hp → β} {e : β} : (∃ h', lStore P h t x v = some h' ∧ storeK P h t x v k e = k h') ∨ storeK P h t x v k e = e := by
  unfold storeK
  split
  · rename_i b off
    rw [nth_eq]
    split
    · rename_i c hb
      split
      · rename_i n hs
        cases hc : (notT v && (lenIs (cellsL v) (n + 1) && (cellsL v).all (·.oneCell'))) with
        | false => exact .inr rfl
        | true =>
          simp only [Bool.and_eq_true] at hc
          have hlen := lenIs_eq _ _ hc.2.1
          show (∃ h', _ ∧ wrK c off (cellsL v) _ e = k h') ∨ wrK c off (cellsL v) _ e = e
          by_cases hle : off + (cellsL v).length ≤ c.length
          · left
            rw [wrK_ok _ _ _ _ _ hle, setK_eq]
            refine ⟨h.put b (.cells (wcells ⟨c⟩ off v.cells.toList) false), ?_, ?_⟩
            · have h1 : v.cells.size = n + 1 := by rw [← Array.length_toList, ← cellsL_eq]; exact hlen
              have h2 : v.cells.toList.all (·.oneCell') = true := by rw [← cellsL_eq]; exact hc.2.2
              simp only [lStore, hb, hs]
              rw [if_pos ⟨hc.1, h1, by rw [hlen] at hle; simpa using hle, h2⟩]
            · rw [cellsL_eq]
              simp only [Hp.put]
              cases hbb : Nat.blt b h.base with
              | true => rw [if_pos (by simpa [Nat.blt_eq] using hbb)]
              | false => rw [if_neg (by intro hlt; rw [← Nat.blt_eq] at hlt; rw [hlt] at hbb; cases hbb)]
          · exact .inr (wrK_else _ _ _ _ _ (by intro he; rw [he] at hlen; cases hlen) hle)
      · exact .inr rfl
    · exact .inr rfl
  · exact .inr rfl
end
end Go.Gh
