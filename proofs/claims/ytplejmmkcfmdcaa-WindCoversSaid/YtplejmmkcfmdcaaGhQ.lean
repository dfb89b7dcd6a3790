/- Regions that leave their order open: whatever order is drawn, the one reckoned stands for it. Conditions: none. -/
import Derived.Test.YtplejmmkcfmdcaaGhP
namespace Go.Gh
open Go.RowKit
noncomputable section

/-! ### What an operation looks at -/
section
variable {P : Program} {ρ ρ' : Operand → Value}

theorem aread_congr {H : List Ob} {o : Oper} (h : ∀ x ∈ o.op.operands, ρ x = ρ' x) : aread P ρ H o = aread P ρ' H o := by
  have he : (∀ cs b, o.op ≠ .select cs b) → execOp ρ o = execOp ρ' o := fun hs => execOp_congr o hs h
  have pairs : ∀ ps : Array (Nat × Operand), (∀ x ∈ ps.map (·.2), ρ x = ρ' x) → (ps.toList.map fun (i, x) => (i, ρ x)) = (ps.toList.map fun (i, x) => (i, ρ' x)) := fun ps hp =>
    List.map_congr_left fun p hm => by
      obtain ⟨i, x⟩ := p
      simp only [hp x (Array.mem_map.2 ⟨(i, x), by simpa using hm, rfl⟩)]
  have alls : ∀ xs : Array Operand, (∀ x ∈ xs, ρ x = ρ' x) → (xs.toList.all fun x => gr (ρ x)) = (xs.toList.all fun x => gr (ρ' x)) := fun xs hx => by
    rw [Bool.eq_iff_iff, List.all_eq_true, List.all_eq_true]
    exact ⟨fun hh x hm => by rw [← hx x (by simpa using hm)]; exact hh x hm, fun hh x hm => by rw [hx x (by simpa using hm)]; exact hh x hm⟩
  have pall : ∀ ps : Array (Nat × Operand), (∀ x ∈ ps.map (·.2), ρ x = ρ' x) → (ps.toList.all fun x => okO x.2 && notT (ρ x.2)) = (ps.toList.all fun x => okO x.2 && notT (ρ' x.2)) := fun ps hp => by
    rw [Bool.eq_iff_iff, List.all_eq_true, List.all_eq_true]
    have hq : ∀ x ∈ ps.toList, ρ x.2 = ρ' x.2 := fun x hm => hp x.2 (Array.mem_map.2 ⟨x, by simpa using hm, rfl⟩)
    exact ⟨fun hh x hm => by rw [← hq x hm]; exact hh x hm, fun hh x hm => by rw [hq x hm]; exact hh x hm⟩
  obtain ⟨dst, op, type, pos, after, guard⟩ := o
  cases op <;> simp only [Op.operands] at h <;> simp only [aread]
  case build t ps => rw [pairs ps fun x hx => h x (by simpa using hx), pall ps fun x hx => h x (by simpa using hx)]
  case makeFunc fn fi ca =>
    rw [Array.map_congr_left (xs := fi) fun x hx => h x (by simp [hx]), Array.map_congr_left (xs := ca) fun x hx => h x (by simp [hx])]
  case call c =>
    rw [he (by simp)]
    have ha : ∀ x ∈ c.args, ρ x = ρ' x := fun x hx => h x (by simp [Call.operands, hx])
    obtain ⟨callee, args, argTypes⟩ := c
    cases callee with
    | value f => rfl
    | invoke r m => rfl
    | builtin b =>
      dsimp only
      rw [alls args ha]
      split
      · split
        · rfl
        · split
          · rename_i x t hx _ _
            have : x ∈ args := by rw [← Array.mem_toList_iff, hx]; simp
            rw [ha x this]
          · rfl
      · rfl
  case slice t x lo hi mx => rw [he (by simp)]; cases lo <;> cases hi <;> cases mx <;> simp_all
  all_goals (first | rfl | (rw [he (by simp)]; simp_all; done) | (simp_all; done))

theorem aloud_congr {h0 : Hp} {o : Oper} (h : ∀ x ∈ o.op.operands, ρ x = ρ' x) : aloud P ρ h0 o = aloud P ρ' h0 o := by
  have pairs : ∀ ps : Array (Nat × Operand), (∀ x ∈ ps.map (·.2), ρ x = ρ' x) → (ps.toList.map fun (i, x) => (i, ρ x)) = (ps.toList.map fun (i, x) => (i, ρ' x)) := fun ps hp =>
    List.map_congr_left fun p hm => by
      obtain ⟨i, x⟩ := p
      simp only [hp x (Array.mem_map.2 ⟨(i, x), by simpa using hm, rfl⟩)]
  have pall : ∀ ps : Array (Nat × Operand), (∀ x ∈ ps.map (·.2), ρ x = ρ' x) → (ps.toList.all fun x => okO x.2 && notT (ρ x.2)) = (ps.toList.all fun x => okO x.2 && notT (ρ' x.2)) := fun ps hp => by
    rw [Bool.eq_iff_iff, List.all_eq_true, List.all_eq_true]
    have hq : ∀ x ∈ ps.toList, ρ x.2 = ρ' x.2 := fun x hm => hp x.2 (Array.mem_map.2 ⟨x, by simpa using hm, rfl⟩)
    exact ⟨fun hh x hm => by rw [← hq x hm]; exact hh x hm, fun hh x hm => by rw [hq x hm]; exact hh x hm⟩
  obtain ⟨dst, op, type, pos, after, guard⟩ := o
  cases op <;> simp only [Op.operands] at h <;> simp only [aloud]
  case buildSlice t n ps => rw [pairs ps fun x hx => h x (by simpa using hx), pall ps fun x hx => h x (by simpa using hx)]
  case call c =>
    have ha : ∀ x ∈ c.args, ρ x = ρ' x := fun x hx => h x (by simp [Call.operands, hx])
    have hm : c.args.map ρ = c.args.map ρ' := Array.map_congr_left fun x hx => ha x hx
    obtain ⟨callee, args, argTypes⟩ := c
    cases callee with
    | value f =>
      have hf : ρ f = ρ' f := h f (by simp [Call.operands])
      simp only at hm ⊢
      rw [hf, hm]
    | invoke r m => rfl
    | builtin b =>
      cases b <;> try rfl
      simp only at ha ⊢
      split
      · rename_i s x ts tx hx ht
        have h1 : s ∈ args := by rw [← Array.mem_toList_iff, hx]; simp
        have h2 : x ∈ args := by rw [← Array.mem_toList_iff, hx]; simp
        rw [ha s h1, ha x h2]
      · rfl
  case defer c =>
    have ha : ∀ x ∈ c.args, ρ x = ρ' x := fun x hx => h x (by simp [Call.operands, hx])
    have hm : c.args.map ρ = c.args.map ρ' := Array.map_congr_left fun x hx => ha x hx
    obtain ⟨callee, args, argTypes⟩ := c
    cases callee with
    | value f =>
      have hf : ρ f = ρ' f := h f (by simp [Call.operands])
      simp only at hm ⊢
      rw [hf, hm]
    | invoke r m => rfl
    | builtin b => rfl
  all_goals (first | rfl | (simp_all; done))

theorem dloud_congr {self : Self} {h0 : Hp} {o : Oper} (h : ∀ x ∈ o.op.operands, ρ x = ρ' x) : dloud P self ρ h0 o = dloud P self ρ' h0 o := by
  unfold dloud; rw [aloud_congr h]
end

/-! ### Slots -/
theorem lset_set : ∀ (l : List Value) (n : Nat) (v : Value), lset l n v = l.set n v
  | [], _, _ => rfl
  | _ :: _, 0, _ => rfl
  | x :: r, n + 1, v => by simp [lset, lset_set r n v]
theorem lget_lset_ne {l : List Value} {n m : Nat} {v : Value} (h : n ≠ m) : lget (lset l n v) m = lget l m := by
  rw [lget_eq, lget_eq, lset_eq, Array.getD_eq_getD_getElem?, Array.getD_eq_getD_getElem?, Array.getElem?_setIfInBounds_ne h]
theorem lset_length (l : List Value) (n : Nat) (v : Value) : (lset l n v).length = l.length := by rw [lset_set]; simp
theorem lget_lset_congr {l l' : List Value} (hl : l.length = l'.length) {n : Nat} {v : Value} : lget (lset l n v) n = lget (lset l' n v) n := by
  rw [lget_eq, lget_eq, lset_eq, lset_eq, Array.getD_eq_getD_getElem?, Array.getD_eq_getD_getElem?, Array.getElem?_setIfInBounds, Array.getElem?_setIfInBounds]
  simp [hl]
theorem put_length (t : List Value) (dst : Option Tmp) (v : Value) : (put t dst v).length = t.length := by
  cases dst with
  | none => rfl
  | some d => exact lset_length _ _ _
theorem put_comm (t : List Value) {x y : Option Tmp} (v u : Value) (h : ∀ d, x = some d → y ≠ some d) : put (put t x v) y u = put (put t y u) x v := by
  cases x with
  | none => rfl
  | some d =>
    cases y with
    | none => rfl
    | some e =>
      have hne : d ≠ e := fun he => h d rfl (he ▸ rfl)
      simp only [put, lset_set]
      exact List.set_comm _ _ hne

/-! ### What has been done: a set of operations, out of the run reckoned -/
def TD (D : Nat → Bool) (l : List Rec) (T : List Value) : List Value := l.foldl (fun T r => if D r.i then put T r.o.dst r.v else T) T
def HD (D : Nat → Bool) (l : List Rec) (h : Hp) : Hp := l.foldl (fun h r => if D r.i && r.loud then r.ha else h) h

theorem TD_length (D : Nat → Bool) : ∀ (l : List Rec) (T : List Value), (TD D l T).length = T.length
  | [], _ => rfl
  | r :: l, T => by
    show (TD D l (if D r.i then put T r.o.dst r.v else T)).length = _
    rw [TD_length D l]
    split
    · exact put_length _ _ _
    · rfl

theorem TD_cons (D : Nat → Bool) (r : Rec) (l : List Rec) (T : List Value) : TD D (r :: l) T = TD D l (if D r.i then put T r.o.dst r.v else T) := rfl
theorem HD_cons (D : Nat → Bool) (r : Rec) (l : List Rec) (h : Hp) : HD D (r :: l) h = HD D l (if D r.i && r.loud then r.ha else h) := rfl
theorem TD_append (D : Nat → Bool) (l m : List Rec) (T : List Value) : TD D (l ++ m) T = TD D m (TD D l T) := List.foldl_append
theorem HD_append (D : Nat → Bool) (l m : List Rec) (h : Hp) : HD D (l ++ m) h = HD D m (HD D l h) := List.foldl_append

theorem TD_congr {D D' : Nat → Bool} : ∀ {l : List Rec} (T : List Value), (∀ r ∈ l, D r.i = D' r.i) → TD D l T = TD D' l T
  | [], _, _ => rfl
  | r :: l, T, h => by
    rw [TD_cons, TD_cons, h r (by simp)]
    exact TD_congr _ fun r hr => h r (by simp [hr])
theorem HD_congr {D D' : Nat → Bool} : ∀ {l : List Rec} (h0 : Hp), (∀ r ∈ l, r.loud = true → D r.i = D' r.i) → HD D l h0 = HD D' l h0
  | [], _, _ => rfl
  | r :: l, h0, h => by
    have e : (D r.i && r.loud) = (D' r.i && r.loud) := by
      cases hl : r.loud with
      | false => simp
      | true => rw [h r (by simp) hl]
    rw [HD_cons, HD_cons, e]
    exact HD_congr _ fun r hr => h r (by simp [hr])

theorem TD_get {D D' : Nat → Bool} {t : Tmp} : ∀ {l : List Rec} {T T' : List Value}, T.length = T'.length → lget T t = lget T' t → (∀ r ∈ l, r.o.dst = some t → D r.i = D' r.i) → lget (TD D l T) t = lget (TD D' l T') t
  | [], _, _, _, h, _ => h
  | r :: l, T, T', hl, h, hd => by
    rw [TD_cons, TD_cons]
    refine TD_get ?_ ?_ fun r hr => hd r (by simp [hr])
    · split <;> split <;> simp [put_length, hl]
    · by_cases he : r.o.dst = some t
      · rw [hd r (by simp) he, he]
        split
        · exact lget_lset_congr hl
        · exact h
      · have hk : ∀ X : List Value, lget (put X r.o.dst r.v) t = lget X t := fun X => by
          cases hx : r.o.dst with
          | none => rfl
          | some d => exact lget_lset_ne fun e => he (by rw [hx, e])
        split <;> split <;> simp [hk, h]

theorem TD_put {D : Nat → Bool} {dst : Option Tmp} {v : Value} : ∀ {l : List Rec} {T : List Value}, (∀ r ∈ l, ∀ t, dst = some t → r.o.dst ≠ some t) → TD D l (put T dst v) = put (TD D l T) dst v
  | [], _, _ => rfl
  | r :: l, T, h => by
    rw [TD_cons, TD_cons, ← TD_put fun r hr => h r (by simp [hr])]
    split
    · rw [put_comm _ _ _ (h r (by simp))]
    · rfl
end
end Go.Gh
