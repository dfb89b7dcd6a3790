/- A run over the small heap: code, calls, deferred calls, rounds of a range over a function. Conditions: none. -/
import Derived.Test.YtplejmmkcfmdcaaGhI
namespace Go.Gh
open Go.RowKit
noncomputable section

inductive Ex where
  | normal
  | exit (id : Nat)
  | goto (l : Nat)
  | ret
  | panic (v : Value)

structure St where
  t : List Value
  d : List Deferred
  h : Hp

inductive Mo where
  | returning
  | panicking (v : Value) (done : Bool)

inductive Task where
  | code (rd : Option Nat) (c : Code) (s : St)
  | call (f : FuncId) (args : Array Value) (h : Hp)
  | dcall (f : FuncId) (args : Array Value) (m : Mo) (h : Hp)
  | round (l : Nat) (args : Array Value) (h : Hp)

inductive Out where
  | ex (e : Ex) (s : St)
  | ret (v : Value) (h : Hp)
  | pan (v : Value) (h : Hp)
  | dret (m : Mo) (h : Hp)

abbrev Self := Task → Option Out

/-! ### A frame's slots, as a list that the kernel keeps written out -/
def lget (l : List Value) : Nat → Value :=
  List.rec (motive := fun _ => Nat → Value) (fun _ => undef) (fun v _ ih n => Nat.rec (motive := fun _ => Value) v (fun m _ => ih m) n) l
def lset : List Value → Nat → Value → List Value
  | [], _, _ => []
  | _ :: r, 0, v => v :: r
  | x :: r, n + 1, v => x :: lset r n v
def lsetK {β : Type} (l : List Value) : Nat → Value → (List Value → β) → β :=
  List.rec (motive := fun _ => Nat → Value → (List Value → β) → β) (fun _ _ k => k [])
    (fun x r ih n v k => Nat.rec (motive := fun _ => β) (k (v :: r)) (fun m _ => ih m v fun r' => k (x :: r')) n) l
theorem lsetK_eq {β : Type} : ∀ (l : List Value) (n : Nat) (v : Value) (k : List Value → β), lsetK l n v k = k (lset l n v)
  | [], _, _, _ => rfl
  | _ :: _, 0, _, _ => rfl
  | x :: r, n + 1, v, k => (lsetK_eq r n v fun r' => k (x :: r')).trans rfl
theorem lget_eq : ∀ (l : List Value) (n : Nat), lget l n = l.toArray.getD n undef
  | [], n => by show undef = _; simp
  | v :: r, 0 => by show v = _; simp
  | v :: r, n + 1 => by
    show lget r n = _
    rw [lget_eq r n, Array.getD_eq_getD_getElem?, Array.getD_eq_getD_getElem?]
    simp
theorem lset_eq : ∀ (l : List Value) (n : Nat) (v : Value), (lset l n v).toArray = l.toArray.setIfInBounds n v
  | l, n, v => by
    have h : ∀ (l : List Value) (n : Nat), lset l n v = l.set n v := by
      intro l
      induction l with
      | nil => intro n; rfl
      | cons x r ih =>
        intro n
        cases n with
        | zero => rfl
        | succ n => simp [lset, ih]
    rw [h]; simp

def put (t : List Value) (dst : Option Tmp) (v : Value) : List Value :=
  match dst with
  | some d => lset t d v
  | none => t

def evalT (t : List Value) : Operand → Value
  | .tmp x => lget t x
  | .const v => v
  | .global g => .pointer (some ⟨g, 0, none⟩)
  | .func f => .func (.func f) #[] #[]

def wantedT (os : Array Oper) (t : List Value) (o : Oper) : Bool :=
  match o.guard with
  | none => true
  | some (j, want) =>
    match (os[j]?).bind (·.dst) with
    | some d => (match lget t d with | .bool b => b == want | _ => false)
    | none => false

/-! ### Values written out -/
def forceN {β : Type} (n : Nat) (k : Nat → β) : β := Nat.rec (motive := fun _ => β) (k 0) (fun m _ => k m) (Nat.add n 1)
theorem forceN_eq {β : Type} (n : Nat) (k : Nat → β) : forceN n k = k n := rfl
def forceI {β : Type} (n : Int) (k : Int → β) : β := Int.rec (motive := fun _ => β) (fun m => forceN m fun m => k (.ofNat m)) (fun m => forceN m fun m => k (.negSucc m)) n
theorem forceI_eq {β : Type} (n : Int) (k : Int → β) : forceI n k = k n := by cases n <;> rfl
def forceO {β : Type} (a : Option Addr) (k : Option Addr → β) : β :=
  match a with
  | some ⟨b, o, none⟩ => forceN b fun b => forceN o fun o => k (some ⟨b, o, none⟩)
  | a => k a
theorem forceO_eq {β : Type} (a : Option Addr) (k : Option Addr → β) : forceO a k = k a := by
  unfold forceO
  split
  · simp only [forceN_eq]
  · rfl
def force0 {β : Type} (v : Value) (k : Value → β) : β :=
  match v with
  | .bool b => (match b with | true => k (.bool true) | false => k (.bool false))
  | .int q n => forceI n fun n => k (.int q n)
  | .pointer a => forceO a fun a => k (.pointer a)
  | .slice a l c => forceO a fun a => forceN l fun l => forceN c fun c => k (.slice a l c)
  | v => k v
theorem force0_eq {β : Type} (v : Value) (k : Value → β) : force0 v k = k v := by
  unfold force0
  split
  · rename_i b; cases b <;> rfl
  · simp only [forceI_eq]
  · simp only [forceO_eq]
  · simp only [forceO_eq, forceN_eq]
  · rfl
def forceL {β : Type} : List Value → (List Value → β) → β
  | [], k => k []
  | x :: r, k => force0 x fun x => forceL r fun r => k (x :: r)
theorem forceL_eq {β : Type} : ∀ (l : List Value) (k : List Value → β), forceL l k = k l
  | [], _ => rfl
  | x :: r, k => by simp only [forceL, force0_eq, forceL_eq r]
def force1 {β : Type} (v : Value) (k : Value → β) : β :=
  match v with
  | .agg ⟨cs⟩ => forceL cs fun cs => k (.agg ⟨cs⟩)
  | v => force0 v k
theorem force1_eq {β : Type} (v : Value) (k : Value → β) : force1 v k = k v := by
  unfold force1
  split
  · simp only [forceL_eq]
  · rw [force0_eq]
def forceL1 {β : Type} : List Value → (List Value → β) → β
  | [], k => k []
  | x :: r, k => force1 x fun x => forceL1 r fun r => k (x :: r)
theorem forceL1_eq {β : Type} : ∀ (l : List Value) (k : List Value → β), forceL1 l k = k l
  | [], _ => rfl
  | x :: r, k => by simp only [forceL1, force1_eq, forceL1_eq r]
def forceV {β : Type} (v : Value) (k : Value → β) : β :=
  match v with
  | .tuple ⟨vs⟩ => forceL1 vs fun vs => k (.tuple ⟨vs⟩)
  | v => force1 v k
theorem forceV_eq {β : Type} (v : Value) (k : Value → β) : forceV v k = k v := by
  unfold forceV
  split
  · simp only [forceL1_eq]
  · rw [force1_eq]
def putK {β : Type} (t : List Value) (dst : Option Tmp) (v : Value) (k : List Value → β) : β :=
  match dst with
  | some d => forceV v fun v => lsetK t d v k
  | none => k t
theorem putK_eq {β : Type} (t : List Value) (dst : Option Tmp) (v : Value) (k : List Value → β) : putK t dst v k = k (put t dst v) := by
  cases dst with
  | none => rfl
  | some d => simp only [putK, put, forceV_eq, lsetK_eq]
def forceOb {β : Type} (o : Ob) (k : Ob → β) : β :=
  match o with
  | .cells ⟨c⟩ ro => forceL c fun c => k (.cells ⟨c⟩ ro)
  | o => k o
theorem forceOb_eq {β : Type} (o : Ob) (k : Ob → β) : forceOb o k = k o := by
  unfold forceOb
  split
  · simp only [forceL_eq]
  · rfl
def forceB {β : Type} : List Ob → (List Ob → β) → β
  | [], k => k []
  | x :: r, k => forceOb x fun x => forceB r fun r => k (x :: r)
theorem forceB_eq {β : Type} : ∀ (l : List Ob) (k : List Ob → β), forceB l k = k l
  | [], _ => rfl
  | x :: r, k => by simp only [forceB, forceOb_eq, forceB_eq r]
/-- The list alone, and its last block. -/
def forceS {β : Type} (l : List Ob) : (List Ob → β) → β :=
  List.rec (motive := fun _ => (List Ob → β) → β) (fun k => k []) (fun x _ ih k => ih fun r => k (x :: r)) l
theorem forceS_eq {β : Type} : ∀ (l : List Ob) (k : List Ob → β), forceS l k = k l
  | [], _ => rfl
  | x :: r, k => forceS_eq r fun r => k (x :: r)
def forceE {β : Type} (l : List Ob) : (List Ob → β) → β :=
  List.rec (motive := fun _ => (List Ob → β) → β) (fun k => k [])
    (fun x r ih k => List.rec (motive := fun _ => β) (forceOb x fun x => k [x]) (fun _ _ _ => ih fun r => k (x :: r)) r) l
theorem forceE_eq {β : Type} : ∀ (l : List Ob) (k : List Ob → β), forceE l k = k l
  | [], _ => rfl
  | [x], k => forceOb_eq x fun x => k [x]
  | x :: y :: r, k => forceE_eq (y :: r) fun r => k (x :: r)
/-- The heap behind an operation: written out where it may have turned. -/
def forceH {β : Type} (o : Op) (h : Hp) (k : Hp → β) : β :=
  match o with
  | .alloc _ | .box _ _ | .buildSlice _ _ _ | .makeMap _ _ => forceE h.bl fun bl => forceN h.base fun base => k { bl := bl, base := base, wr := h.wr }
  | .call { callee := .value _, .. } => forceS h.bl fun bl => forceN h.base fun base => k { bl := bl, base := base, wr := h.wr }
  | .store _ _ _ | .convert _ _ _ | .mapUpdate _ _ _ _ | .call _ => forceB h.bl fun bl => forceN h.base fun base => k { bl := bl, base := base, wr := h.wr }
  | _ => k h
theorem forceH_eq {β : Type} (o : Op) (h : Hp) (k : Hp → β) : forceH o h k = k h := by
  unfold forceH
  split <;> simp only [forceB_eq, forceS_eq, forceE_eq, forceN_eq]

/-! ### Operations in the order of the text -/
def runOps (P : Program) (self : Self) (rd : Option Nat) (os : Array Oper) : List Nat → St → Option Out
  | [], s => some (.ex .normal s)
  | i :: r, s =>
    match os[i]? with
    | none => runOps P self rd os r s
    | some o =>
      if wantedT os s.t o then
        match aop P (evalT s.t) s.h o with
        | some (.val v h) => putK s.t o.dst v fun t => forceH o.op h fun h => runOps P self rd os r { s with t := t, h := h }
        | some (.enter f args) =>
          match self (.call f args s.h) with
          | some (.ret v h) => putK s.t o.dst v fun t => forceH o.op h fun h => runOps P self rd os r { s with t := t, h := h }
          | some (.pan v h) => some (.ex (.panic v) { s with h := h })
          | _ => none
        | some (.yield l args) =>
          match self (.round l args s.h) with
          | some (.ret v h) => putK s.t o.dst v fun t => forceH o.op h fun h => runOps P self rd os r { s with t := t, h := h }
          | _ => none
        | some (.defer d) => if rd.isNone then putK s.t o.dst undef fun t => runOps P self rd os r { t := t, d := d :: s.d, h := s.h } else none
        | some (.panic v) => some (.ex (.panic v) s)
        | _ => none
      else putK s.t o.dst undef fun t => runOps P self rd os r { s with t := t }

/-! ### Leaving a function -/
def moVal : Mo → Value
  | .returning => undef
  | .panicking v _ => v

def settleM : Mo → Mo
  | .panicking _ true => .returning
  | m => m

def leave (P : Program) (self : Self) (fn : Func) (t : List Value) (h : Hp) : List Deferred → Mo → Hp → Option Out
  | [], .returning, hf => (resB P hf.bl fn t.toArray).map fun v => .ret v (exitH h hf v)
  | [], .panicking v false, hf => some (.pan v (exitH h hf v))
  | [], .panicking _ true, _ => none
  | d :: ds, m, hf =>
    match d.target with
    | .collected r =>
      match hf.bl[r]? with
      | some (.dfr false) => leave P self fn t h ds m (hf.put r (.dfr true))
      | _ => none
    | .fn (.func g) cap =>
      if bodied P g then
        match self (.dcall g (d.args ++ cap) m hf) with
        | some (.dret m' h') => leave P self fn t h ds (settleM m') h'
        | _ => none
      else none
    | _ => none

/-- The operations of a deferred function that may call recover: none of them calls. -/
def runDOps (P : Program) (os : Array Oper) : List Nat → St → Mo → Option (Ex × St × Mo)
  | [], s, m => some (.normal, s, m)
  | i :: r, s, m =>
    match os[i]? with
    | none => runDOps P os r s m
    | some o =>
      if wantedT os s.t o then
        match aop P (evalT s.t) s.h o with
        | some (.val v h) => putK s.t o.dst v fun t => forceH o.op h fun h => runDOps P os r { s with t := t, h := h } m
        | some .recover =>
          match m with
          | .panicking v false => runDOps P os r { s with t := put s.t o.dst v } (.panicking v true)
          | m => runDOps P os r { s with t := put s.t o.dst .nilIface } m
        | _ => none
      else runDOps P os r { s with t := put s.t o.dst undef } m

def hasRecover (os : Array Oper) : Bool := os.toList.any fun o => match o.op with | .call { callee := .builtin .recover, .. } => true | _ => false

def dcode (P : Program) (self : Self) : Code → St → Mo → Option (Ex × St × Mo)
  | .seq a b, s, m =>
    match dcode P self a s m with
    | some (.normal, s', m') => dcode P self b s' m'
    | r => r
  | .cond c x y, s, m =>
    if okO c then match evalT s.t c with
      | .bool true => dcode P self x s m
      | .bool false => dcode P self y s m
      | _ => none
    else none
  | .region id os dr, s, m =>
    if hasRecover os && !dr then runDOps P os (List.range os.size) s m
    else match self (.code none (.region id os dr) s) with
      | some (.ex e s') => some (e, s', m)
      | _ => none
  | c, s, m =>
    match self (.code none c s) with
    | some (.ex e s') => some (e, s', m)
    | _ => none

def frame (fn : Func) (args : Array Value) : List Value := args.toList ++ List.replicate (fn.ntmps - args.size) undef

def loopNew (s : St) (ps : Array Tmp) (assign body : Code) (D : Nat) : Ob := .loop .ready none s.t.toArray ps assign body D

/-- Behind the function that was ranged over. -/
def endLoop (self : Self) (rd : Option Nat) (L : Nat) (d : List Deferred) (t : List Value) : Option Out → Option Out
  | some (.ret _ h) =>
    match h.bl[L]? with
    | some (.loop st pend t' ps a b D) =>
      if st = .busy then none else
      match pend with
      | none => some (.ex .normal { t := t, d := d, h := h.put L (.loop .exhausted none t' ps a b D) })
      | some c => match self (.code rd c { t := t, d := d, h := h.put L (.loop .exhausted (some c) t' ps a b D) }) with
        | some (.ex e s) => some (.ex e s)
        | _ => none
    | _ => none
  | _ => none

def jumpOf : Ex → Option (Option Code)
  | .normal => some none
  | .ret => some (some .ret)
  | .exit id => some (some (.exit id))
  | .goto l => some (some (.goto l))
  | .panic _ => none

def stepF (drawn : Program → Self → Option Nat → Nat → Array Oper → St → Option Out) (P : Program) (self : Self) : Task → Option Out
  | .code rd c s =>
    match c with
    | .skip | .label _ => some (.ex .normal s)
    | .exit id => some (.ex (.exit id) s)
    | .goto l => some (.ex (.goto l) s)
    | .ret => some (.ex .ret s)
    | .seq a b =>
      match self (.code rd a s) with
      | some (.ex .normal s') => match self (.code rd b s') with
        | some (.ex e s2) => some (.ex e s2)
        | _ => none
      | some (.ex e s') => some (.ex e s')
      | _ => none
    | .cond c x y =>
      if okO c then match evalT s.t c with
        | .bool true => (match self (.code rd x s) with | some (.ex e s') => some (.ex e s') | _ => none)
        | .bool false => (match self (.code rd y s) with | some (.ex e s') => some (.ex e s') | _ => none)
        | _ => none
      else none
    | .block id c =>
      match self (.code rd c s) with
      | some (.ex (.exit id') s') => if id' = id then some (.ex .normal s') else some (.ex (.exit id') s')
      | some (.ex e s') => some (.ex e s')
      | _ => none
    | .loop c =>
      match self (.code rd c s) with
      | some (.ex .normal s') => (match self (.code rd (.loop c) s') with | some (.ex e s2) => some (.ex e s2) | _ => none)
      | some (.ex e s') => some (.ex e s')
      | _ => none
    | .region id os dr => if dr then drawn P self rd id os s else runOps P self rd os (List.range os.size) s
    | .rangeFunc g ps assign body =>
      if okO g then match evalT s.t g with
        | .func (.func f) first cap =>
          if bodied P f then
            match rd with
            | none =>
              endLoop self none (s.h.bl.length + 1) ({ target := .collected s.h.bl.length, args := #[] } :: s.d) s.t
                (self (.call f (first ++ #[.func (.yield (s.h.bl.length + 1)) #[] #[]] ++ cap) ((s.h.push (.dfr false)).push (loopNew s ps assign body s.h.bl.length))))
            | some l0 => match s.h.bl[l0]? with
              | some (.loop _ _ _ _ _ _ D) =>
                endLoop self (some l0) s.h.bl.length s.d s.t (self (.call f (first ++ #[.func (.yield s.h.bl.length) #[] #[]] ++ cap) (s.h.push (loopNew s ps assign body D))))
              | _ => none
          else none
        | _ => none
      else none
    | _ => none
  | .call f args h =>
    match P.funcs[f]? with
    | some fn => match fn.body with
      | some c => match forceL1 (frame fn args) fun t => self (.code none c { t := t, d := [], h := enterH h }) with
        | some (.ex .normal s) | some (.ex .ret s) => leave P self fn s.t h s.d .returning s.h
        | some (.ex (.panic v) s) => leave P self fn s.t h s.d (.panicking v false) s.h
        | _ => none
      | none => none
    | none => none
  | .dcall f args m h =>
    match P.funcs[f]? with
    | some fn => match fn.body with
      | some c => match forceL1 (frame fn args) fun t => dcode P self c { t := t, d := [], h := enterH h } m with
        | some (.normal, s, m') | some (.ret, s, m') =>
          if s.d.isEmpty then match resB P s.h.bl fn s.t.toArray with
            | some _ => some (.dret m' (exitH h s.h (moVal m')))
            | none => none
          else none
        | _ => none
      | none => none
    | none => none
  | .round l args h =>
    match h.bl[l]? with
    | some (.loop .ready _ t ps assign body _) =>
      if args.size = ps.size then
        match self (.code (some l) assign { t := ((ps.zip args).foldl (fun t (p, a) => t.setIfInBounds p a) t).toList, d := [], h := h }) with
        | some (.ex .normal s1) => match s1.h.bl[l]? with
          | some (.loop .ready pend1 t1 ps1 a1 b1 D1) =>
            match self (.code (some l) body { s1 with h := s1.h.put l (.loop .busy pend1 t1 ps1 a1 b1 D1) }) with
            | some (.ex e s2) => match jumpOf e, s2.h.bl[l]? with
              | some j, some (.loop _ _ t2 ps2 a2 b2 D2) => some (.ret (.bool j.isNone) (s2.h.put l (.loop (if j.isNone then .ready else .done) j t2 ps2 a2 b2 D2)))
              | _, _ => none
            | _ => none
          | _ => none
        | _ => none
      else none
    | _ => none
end
end Go.Gh
