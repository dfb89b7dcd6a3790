/- The run made quick: code and calls. Conditions: none. -/
import Derived.Test.YtplejmmkcfmdcaaGhW
namespace Go.Gh
open Go.RowKit
noncomputable section

/-! ### Code, one node at a time: each alternative small -/
def zSeq (self : Self) (rd : Option Nat) (b : Code) : Option Out → R
  | some (.ex .normal s') => (match self (.code rd b s') with | some (.ex e s2) => some (.ex e s2) | _ => none)
  | some (.ex e s') => some (.ex e s')
  | _ => none
def zEx : Option Out → R
  | some (.ex e s') => some (.ex e s')
  | _ => none
def zBlock (id : Nat) : Option Out → R
  | some (.ex (.exit id') s') => if id' = id then some (.ex .normal s') else some (.ex (.exit id') s')
  | some (.ex e s') => some (.ex e s')
  | _ => none
def zLoop (self : Self) (rd : Option Nat) (c : Code) : Option Out → R
  | some (.ex .normal s') => zEx (self (.code rd (.loop c) s'))
  | some (.ex e s') => some (.ex e s')
  | _ => none
def zCond (self : Self) (rd : Option Nat) (x y : Code) (s : St) (v : Value) : R :=
  match v with
  | .bool b => Bool.rec (motive := fun _ => R) (zEx (self (.code rd y s))) (zEx (self (.code rd x s))) b
  | _ => none
def zCode (drawn : Program → Self → Option Nat → Nat → Array Oper → St → Option Out) (P : Program) (self : Self) (rd : Option Nat) (c : Code) (s : St) : R :=
  match c with
  | .seq a b => zSeq self rd b (self (.code rd a s))
  | .cond c x y => Bool.rec (motive := fun _ => R) none (zCond self rd x y s ((cO c).f s.t)) (okO c)
  | .block id c => zBlock id (self (.code rd c s))
  | .loop c => zLoop self rd c (self (.code rd c s))
  | .region id os dr => Bool.rec (motive := fun _ => R) ((cL P os (List.range os.size)).run self rd s) (drawn P self rd id os s) dr
  | .ret => some (.ex .ret s)
  | .skip => some (.ex .normal s)
  | .exit id => some (.ex (.exit id) s)
  | c => stepF drawn P self (.code rd c s)

/-- The frame of a call: what is handed over, and room. -/
def framed (n : Nat) (l : List Value) : List Value :=
  List.rec (motive := fun _ => Nat → List Value) (fun n => List.replicate n undef) (fun v _ ih n => v :: ih (n - 1)) l n
theorem framed_eq : ∀ (l : List Value) (n : Nat), framed n l = l ++ List.replicate (n - l.length) undef
  | [], n => rfl
  | v :: r, n => by
    show v :: framed (n - 1) r = _
    rw [framed_eq r (n - 1)]
    simp only [List.length_cons, List.cons_append]
    congr 3
    omega
def frameK (n : Nat) (l : List Value) : (List Value → R) → R :=
  List.rec (motive := fun _ => Nat → (List Value → R) → R) (fun n k => forceN n fun n => k (List.replicate n undef)) (fun v _ ih n k => ih (Nat.sub n 1) fun r => k (v :: r)) l n
theorem frameK_eq : ∀ (l : List Value) (n : Nat) (k : List Value → R), frameK n l k = k (l ++ List.replicate (n - l.length) undef)
  | [], n, k => rfl
  | v :: r, n, k => by
    show frameK (n - 1) r _ = _
    rw [frameK_eq r (n - 1)]
    simp only [List.length_cons, List.cons_append]
    congr 4
    omega

def zLeave (P : Program) (self : Self) (fn : Func) (h : Hp) : Option Out → R
  | some (.ex .normal s) => leave P self fn s.t h s.d .returning s.h
  | some (.ex .ret s) => leave P self fn s.t h s.d .returning s.h
  | some (.ex (.panic v) s) => leave P self fn s.t h s.d (.panicking v false) s.h
  | _ => none
def zCall (P : Program) (self : Self) (args : Array Value) (h : Hp) (fn : Func) (c : Code) : R :=
  frameK fn.ntmps args.toList fun t => forceN h.bl.length fun n => zLeave P self fn h (self (.code none c { t := t, d := [], h := ⟨h.bl, n, []⟩ }))

/-- The body of a function. -/
def bodyOf (P : Program) (f : FuncId) : Option (Func × Code) :=
  match P.funcs[f]? with
  | some fn => match fn.body with
    | some c => some (fn, c)
    | none => none
  | none => none

def stepQ (drawn : Program → Self → Option Nat → Nat → Array Oper → St → Option Out) (P : Program) (self : Self) (task : Task) : R :=
  match task with
  | .code rd c s => zCode drawn P self rd c s
  | .call f args h => (match bodyOf P f with | some (fn, c) => zCall P self args h fn c | none => none)
  | .dcall f args m h => stepF drawn P self (.dcall f args m h)
  | .round l args h => stepF drawn P self (.round l args h)

theorem stepQ_eq (drawn : Program → Self → Option Nat → Nat → Array Oper → St → Option Out) (P : Program) (self : Self) (task : Task) : stepQ drawn P self task = stepF drawn P self task := by
  cases task with
  | dcall f args m h => rfl
  | round l args h => rfl
  | call f args h =>
    simp only [stepQ, stepF, bodyOf]
    cases P.funcs[f]? with
    | none => rfl
    | some fn =>
      simp only
      cases fn.body with
      | none => rfl
      | some c =>
        simp only [zCall, frameK_eq, forceN_eq, forceL1_eq, frame, enterH, Array.length_toList]
        generalize self (.code none c _) = y
        unfold zLeave
        rcases y with _ | y
        · rfl
        · cases y with
          | ex e s => cases e <;> rfl
          | _ => rfl
  | code rd c s =>
    cases c with
    | seq a b =>
      simp only [stepQ, zCode, stepF]
      generalize self (.code rd a s) = y
      rcases y with _ | y
      · rfl
      · cases y with
        | ex e s => cases e <;> rfl
        | _ => rfl
    | cond c x y =>
      simp only [stepQ, zCode, stepF]
      cases okO c with
      | false => rfl
      | true =>
        simp only [(cO c).ok, zCond, if_true]
        generalize evalT s.t c = v
        cases v with
        | bool b =>
          cases b with
          | true =>
            simp only
            generalize self (.code rd x s) = y
            rcases y with _ | y
            · rfl
            · cases y <;> rfl
          | false =>
            simp only
            generalize self (.code rd y s) = y
            rcases y with _ | y
            · rfl
            · cases y <;> rfl
        | _ => rfl
    | block id c =>
      simp only [stepQ, zCode, stepF]
      generalize self (.code rd c s) = y
      rcases y with _ | y
      · rfl
      · cases y with
        | ex e s => cases e <;> rfl
        | _ => rfl
    | loop c =>
      simp only [stepQ, zCode, stepF]
      generalize self (.code rd c s) = y
      rcases y with _ | y
      · rfl
      · cases y with
        | ex e s => cases e <;> (first | rfl | (simp only [zLoop, zEx]; split <;> simp_all))
        | _ => rfl
    | region id os dr =>
      simp only [stepQ, zCode, stepF]
      cases dr with
      | false => exact (cL P os (List.range os.size)).ok self rd s
      | true => rfl
    | _ => rfl

def iterQ (drawn : Program → Self → Option Nat → Nat → Array Oper → St → Option Out) (P : Program) (n : Nat) : Self :=
  Nat.rec (motive := fun _ => Self) (fun _ => none) (fun _ ih => stepQ drawn P ih) n
theorem iterQ_eq (drawn : Program → Self → Option Nat → Nat → Array Oper → St → Option Out) (P : Program) : ∀ n, iterQ drawn P n = iter drawn P n
  | 0 => rfl
  | n + 1 => by
    show stepQ drawn P (iterQ drawn P n) = stepF drawn P (iter drawn P n)
    rw [iterQ_eq drawn P n]
    exact funext fun t => stepQ_eq drawn P _ t
end
end Go.Gh
