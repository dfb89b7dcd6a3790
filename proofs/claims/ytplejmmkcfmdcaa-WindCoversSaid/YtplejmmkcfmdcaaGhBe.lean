/- What any operation gives on values that are not written out: all kinds in one. Conditions: none. -/
import Derived.Test.YtplejmmkcfmdcaaGhBd
namespace Go.Gh
open Go.RowKit
noncomputable section

def symLen (P : Program) (t : TypeId) (x : Value) : Option Value :=
  match x with
  | .slice _ n _ => match P.underlying t with | some (.slice _) => some (goInt n) | _ => none
  | .string s => match P.underlying t with | some .string => some (goInt s.size) | _ => none
  | _ => none
theorem symLen_ok {P : Program} {ρ : Operand → Value} {H : List Ob} {o : Oper} {args : Array Operand} {ts : Array TypeId} {x : Operand} {t : TypeId} {v : Value} (ho : o.op = .call { callee := .builtin .len, args := args, argTypes := ts })
    (ha : args.toList = [x]) (ht : ts.toList = [t]) (hx : okO x = true) (h : symLen P t (ρ x) = some v) : aread P ρ H o = some v := by
  obtain rfl : args = #[x] := by apply Array.ext'; simpa using ha
  obtain rfl : ts = #[t] := by apply Array.ext'; simpa using ht
  unfold symLen at h
  have pv : ∀ {xv : Value} {d : TypeDesc} {m : Nat}, ρ x = xv → P.underlying t = some d → pureRun P (Builtin.len_ #[t] o.type #[xv]) = some (goInt m) → pureVal P (execOp ρ o) = some (goInt m) := by
    intro xv d m e hu hr
    refine pureVal_of ?_ rfl
    simp only [execOp, ho, resolve, pureRun_bind, pureRun_pure, Option.bind_some, invoke, builtin]
    have : (#[x] : Array Operand).map ρ = #[xv] := by simp [e]
    rw [this, hr]; rfl
  split at h
  · rename_i a n c e
    split at h
    · rename_i el hu
      simp only [Option.some.injEq] at h; subst h
      simp only [aread, ho, List.all_cons, List.all_nil, hx, Bool.and_true, if_true, e]
      split
      · rename_i hg
        refine pv e hu ?_
        simp only [Builtin.len_, List.getElem?_toArray, List.getElem?_cons_zero, pureRun_bind, pure_underlying hu, Option.bind_some]
        rfl
      · simp only [rLen, hu]
    · cases h
  · rename_i s e
    split at h
    · rename_i hu
      simp only [Option.some.injEq] at h; subst h
      simp only [aread, ho, List.all_cons, List.all_nil, hx, Bool.and_true, if_true, e]
      have hg : (gr (Value.string s) && numB Builtin.len) = true := rfl
      rw [if_pos hg]
      refine pv e hu ?_
      simp only [Builtin.len_, List.getElem?_toArray, List.getElem?_cons_zero, pureRun_bind, pure_underlying hu, Option.bind_some]
      rfl
    · cases h
  · cases h

def symR (P : Program) (ρ : Operand → Value) (H : List Ob) (o : Oper) : Option (Bool × Value) :=
  match o.op with
  | .load t x => if okO x then symLoad P H t (ρ x) else none
  | .binOp op t x y _ => if okO x && okO y then (match symBin P op t (ρ x) (ρ y) with | some r => some r | none => symEq P op t (ρ x) (ρ y)) else none
  | .indexAddr t x y => if okO x && okO y then symIx P t (ρ x) (ρ y) else none
  | .index t x y => if okO x && okO y then symIndex P t (ρ x) (ρ y) else none
  | .slice t x lo hi mx => if okO x && lo.all okO && hi.all okO && mx.isNone then symSlice P t (ρ x) (lo.map ρ) (hi.map ρ) else none
  | .call { callee := .builtin .len, args, argTypes } =>
    match args.toList, argTypes.toList with
    | [x], [t] => if okO x then (symLen P t (ρ x)).map fun v => (true, v) else none
    | _, _ => none
  | .call { callee := .builtin b, args, .. } => if args.toList.all okO then (symMost b (args.toList.map ρ)).map fun v => (true, v) else none
  | _ => none

theorem symR_ok {P : Program} {ρ : Operand → Value} {H : List Ob} {o : Oper} {b : Bool} {v : Value} (h : symR P ρ H o = some (b, v)) (hb : b = true) : aread P ρ H o = some v := by
  unfold symR at h
  split at h
  · rename_i t x ho
    split at h
    · rename_i hx
      simp only [aread, ho, hx, if_true]
      exact symLoad_ok h hb
    · cases h
  · rename_i op t x y yt ho
    split at h
    · rename_i hx
      rw [Bool.and_eq_true] at hx
      split at h
      · rename_i r hr
        simp only [Option.some.injEq] at h
        subst h
        exact symBin_ok ho hx.1 hx.2 hr hb
      · exact symEq_ok ho hx.1 hx.2 h hb
    · cases h
  · rename_i t x y ho
    split at h
    · rename_i hx
      simp only [aread, ho, hx, if_true]
      exact symIx_ok h hb
    · cases h
  · rename_i t x y ho
    split at h
    · rename_i hx
      rw [Bool.and_eq_true] at hx
      exact symIndex_ok ho hx.1 hx.2 h hb
    · cases h
  · rename_i t x lo hi mx ho
    split at h
    · rename_i hx
      obtain ⟨h1, h2⟩ := symSlice_ok h hb
      simp only [aread, ho, hx, if_true, h2, Bool.false_and, Bool.false_eq_true, if_false]
      exact h1
    · cases h
  · rename_i args ts ho
    split at h
    · rename_i x t ha ht
      split at h
      · rename_i hx
        rw [Option.map_eq_some_iff] at h
        obtain ⟨u, hu, e⟩ := h
        simp only [Prod.mk.injEq] at e
        obtain ⟨_, rfl⟩ := e
        exact symLen_ok ho ha ht hx hu
      · cases h
    · cases h
  · rename_i b args ts _ ho
    split at h
    · rename_i hx
      rw [Option.map_eq_some_iff] at h
      obtain ⟨u, hu, e⟩ := h
      simp only [Prod.mk.injEq] at e
      obtain ⟨_, rfl⟩ := e
      exact symMost_ok ho hx hu
    · cases h
  · cases h

/-! ### A value's head, written out -/
def headK {β : Type} (v : Value) (k : Value → β) : β :=
  match v with
  | .bool b => k (.bool b)
  | .int q n => k (.int q n)
  | .float q n => k (.float q n)
  | .complex q n m => k (.complex q n m)
  | .string s => k (.string s)
  | .pointer a => k (.pointer a)
  | .slice a l c => k (.slice a l c)
  | .map r => k (.map r)
  | .chan r => k (.chan r)
  | .func f a b => k (.func f a b)
  | .nilFunc => k .nilFunc
  | .iface t v => k (.iface t v)
  | .nilIface => k .nilIface
  | .agg cs => k (.agg cs)
  | .tuple vs => k (.tuple vs)
theorem headK_eq {β : Type} (v : Value) (k : Value → β) : headK v k = k v := by cases v <;> rfl
def headsK {β : Type} (l : List Value) : (List Value → β) → β :=
  List.rec (motive := fun _ => (List Value → β) → β) (fun k => k []) (fun x _ ih k => headK x fun x => ih fun r => k (x :: r)) l
theorem headsK_eq {β : Type} : ∀ (l : List Value) (k : List Value → β), headsK l k = k l
  | [], _ => rfl
  | x :: r, k => by show headK x (fun x => headsK r fun r => k (x :: r)) = _; rw [headK_eq]; exact headsK_eq r fun r => k (x :: r)
def setK' {β : Type} (t : List Value) (dst : Option Tmp) (v : Value) (k : List Value → β) : β :=
  match dst with
  | some d => headK v fun v => lsetK t d v k
  | none => k t
theorem setK'_eq {β : Type} (t : List Value) (dst : Option Tmp) (v : Value) (k : List Value → β) : setK' t dst v k = k (put t dst v) := by
  cases dst with
  | none => rfl
  | some d => simp only [setK', put, headK_eq, lsetK_eq]
def heapK {β : Type} (h : Hp) (k : Hp → β) : β := forceS h.bl fun bl => k { bl := bl, base := h.base, wr := h.wr }
theorem heapK_eq {β : Type} (h : Hp) (k : Hp → β) : heapK h k = k h := by simp only [heapK, forceS_eq]

/-! ### A slot that is known is written out -/
def litT (t : List Value) (d : Nat) (b : Bool) : List Value := lset t d (.bool b)
theorem lset_lget : ∀ (t : List Value) (d : Nat) (v : Value), lget t d = v → v ≠ undef → lset t d v = t
  | [], _, v, h, hn => rfl
  | x :: r, 0, v, h, _ => by have : x = v := h; subst this; rfl
  | x :: r, d + 1, v, h, hn => by show x :: lset r d v = _; rw [lset_lget r d v h hn]
theorem litT_eq {t : List Value} {d : Nat} {b : Bool} (h : lget t d = .bool b) : litT t d b = t := lset_lget t d _ h (by intro h; cases h)
def litK {β : Type} (t : List Value) (d : Nat) (b : Bool) (k : List Value → β) : β := lsetK t d (.bool b) k
theorem litK_eq {β : Type} {t : List Value} {d : Nat} {b : Bool} (h : lget t d = .bool b) (k : List Value → β) : litK t d b k = k t := by
  rw [litK, lsetK_eq]; congr 1; exact litT_eq h
end
end Go.Gh
