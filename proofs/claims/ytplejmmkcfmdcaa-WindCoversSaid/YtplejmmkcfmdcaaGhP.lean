/- Regions that leave their order open: whatever the order, what is reckoned in one order comes out. Conditions: none. -/
import Derived.Test.YtplejmmkcfmdcaaGhO
import Derived.OrdersIn
namespace Go.Gh
open Go.RowKit
noncomputable section

/-! ### Equal values, as far as a program tells -/
def veq0 : Value → Value → Bool
  | .bool a, .bool b => a == b
  | .int k a, .int q b => decide (k = q) && decide (a = b)
  | .string a, .string b => decide (a = b)
  | .pointer none, .pointer none => true
  | .pointer (some a), .pointer (some b) => decide (a = b)
  | .slice none l c, .slice none l' c' => decide (l = l') && decide (c = c')
  | .slice (some a) l c, .slice (some b) l' c' => decide (a = b) && decide (l = l') && decide (c = c')
  | .map a, .map b => decide (a = b)
  | .nilIface, .nilIface => true
  | .nilFunc, .nilFunc => true
  | _, _ => false
theorem veq0_eq {a b : Value} (h : veq0 a b = true) : a = b := by
  unfold veq0 at h
  split at h <;> simp_all
def veqL : List Value → List Value → Bool
  | [], [] => true
  | a :: r, b :: s => veq0 a b && veqL r s
  | _, _ => false
theorem veqL_eq : ∀ {a b : List Value}, veqL a b = true → a = b
  | [], [], _ => rfl
  | [], _ :: _, h => by simp [veqL] at h
  | _ :: _, [], h => by simp [veqL] at h
  | a :: r, b :: s, h => by
    simp only [veqL, Bool.and_eq_true] at h
    rw [veq0_eq h.1, veqL_eq h.2]
def veq : Value → Value → Bool
  | .agg a, .agg b => veqL a.toList b.toList
  | .func (.func f) a b, .func (.func g) c d => decide (f = g) && veqL a.toList c.toList && veqL b.toList d.toList
  | a, b => veq0 a b
theorem veq_eq {a b : Value} (h : veq a b = true) : a = b := by
  unfold veq at h
  split at h
  · rename_i a b
    have := veqL_eq h
    rw [show a = b from Array.ext' this]
  · rename_i f a b g c d
    simp only [Bool.and_eq_true, decide_eq_true_eq] at h
    rw [h.1.1, show a = c from Array.ext' (veqL_eq h.1.2), show b = d from Array.ext' (veqL_eq h.2)]
  · exact veq0_eq h
def same (x : Option Value) (v : Value) : Bool := match x with | some u => veq u v | none => false
theorem same_eq {x : Option Value} {v : Value} (h : same x v = true) : x = some v := by
  unfold same at h
  split at h
  · rw [veq_eq h]
  · cases h

/-- Does a read look into memory? -/
def memOp (o : Op) : Bool :=
  match o with
  | .load _ _ | .lookup _ _ _ _ | .convert _ _ _ | .call _ => true
  | _ => false

theorem aread_heap {P : Program} {ρ : Operand → Value} {o : Oper} (h : memOp o.op = false) (H H' : List Ob) : aread P ρ H o = aread P ρ H' o := by
  unfold aread
  cases ho : o.op <;> first | rfl | (rw [ho] at h; cases h)

structure Rec where
  i : Nat
  o : Oper
  T : List Value
  v : Value
  hb : Hp
  ha : Hp
  loud : Bool

def dloud (P : Program) (self : Self) (ρ : Operand → Value) (h : Hp) (o : Oper) : Option (Value × Hp) :=
  match aloud P ρ h o with
  | some (.val v h') => some (v, h')
  | some (.enter f args) => (match self (.call f args h) with | some (.ret v h') => some (v, h') | _ => none)
  | some (.yield l args) => (match self (.round l args h) with | some (.ret v h') => some (v, h') | _ => none)
  | _ => none

def consR (r : Rec) : Option (List Rec × List Value × Hp) → Option (List Rec × List Value × Hp)
  | some (l, T, h) => some (r :: l, T, h)
  | none => none

def drun (P : Program) (self : Self) (os : Array Oper) : List Nat → List Value → Hp → Option (List Rec × List Value × Hp)
  | [], T, h => some ([], T, h)
  | i :: r, T, h =>
    match os[i]? with
    | none => none
    | some o =>
      if wantedT os T o then
        match aread P (evalT T) h.bl o with
        | some v => forceV v fun v => putK T o.dst v fun T' => consR ⟨i, o, T, v, h, h, false⟩ (drun P self os r T' h)
        | none =>
          match dloud P self (evalT T) h o with
          | some (v, h') => forceV v fun v => putK T o.dst v fun T' => forceH o.op h' fun h' => consR ⟨i, o, T, v, h, h', true⟩ (drun P self os r T' h')
          | none => none
      else putK T o.dst undef fun T' => consR ⟨i, o, T, undef, h, h, false⟩ (drun P self os r T' h)

/-! ### What must come before what -/
def depsOf (o : Oper) : List Nat := (o.after.toList.filter (Region.binds .any)).map (·.on)
def cloOf (clo : List Nat) (ds : List Nat) : Nat := ds.foldl (fun m j => m ||| (1 <<< j) ||| clo.getD j 0) 0
def mkClo (os : Array Oper) : List Nat → List Nat → List Nat
  | [], clo => clo
  | i :: r, clo => mkClo os r (clo.set i (cloOf clo (((os[i]?).map depsOf).getD [])))
def cl (clo : List Nat) (i j : Nat) : Bool := (clo.getD i 0).testBit j

def orderOk (clo : List Nat) : List Nat → Nat → Bool
  | [], _ => true
  | i :: r, seen => (clo.getD i 0 &&& seen == clo.getD i 0) && !seen.testBit i && orderOk clo r (seen ||| 1 <<< i)

def looks (os : Array Oper) (o : Oper) : List Tmp := o.looksAt os

def unord (clo : List Nat) (i j : Nat) : Bool := !cl clo i j && !cl clo j i

def pairOk (P : Program) (os : Array Oper) (clo : List Nat) (r q : Rec) : Bool :=
  r.i == q.i ||
  ((match r.o.dst with
    | some t => (q.o.dst != some t) && (!(looks os q.o).contains t || cl clo q.i r.i || cl clo r.i q.i)
    | none => true) &&
   (!r.loud || (!q.loud || !unord clo r.i q.i) && (q.loud || !memOp q.o.op || !unord clo r.i q.i || !wantedT os q.T q.o || (same (aread P (evalT q.T) r.hb.bl q.o) q.v && same (aread P (evalT q.T) r.ha.bl q.o) q.v))))

def planOk (os : Array Oper) (order clo : List Nat) : Bool :=
  (List.range os.size).all (fun i => order.contains i) && orderOk clo order 0 &&
  (List.range os.size).all (fun i => clo.getD i 0 == cloOf clo (((os[i]?).map depsOf).getD [])) && order.all (fun i => decide (i < os.size))

def dchk (P : Program) (os : Array Oper) (clo : List Nat) (recs : List Rec) : Bool := recs.all fun r => recs.all fun q => pairOk P os clo r q

def drawn (P : Program) (self : Self) (_ : Option Nat) (_ : Nat) (os : Array Oper) (s : St) : Option Out :=
  if planOk os (Region.linearise .any os 0) (mkClo os (Region.linearise .any os 0) (List.replicate os.size 0)) then
    match drun P self os (Region.linearise .any os 0) s.t s.h with
    | some (recs, T, h) => if dchk P os (mkClo os (Region.linearise .any os 0) (List.replicate os.size 0)) recs then some (.ex .normal { s with t := T, h := h }) else none
    | none => none
  else none
end
end Go.Gh
