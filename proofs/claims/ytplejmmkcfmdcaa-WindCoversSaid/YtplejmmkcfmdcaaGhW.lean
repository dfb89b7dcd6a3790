/- The run made quick: operations as closures that are written out once. Conditions: none. -/
import Derived.Test.YtplejmmkcfmdcaaGhV
namespace Go.Gh
open Go.RowKit
noncomputable section

/-- One operation that is wanted. -/
def bodyOp (P : Program) (self : Self) (rd : Option Nat) (o : Oper) (s : St) (K : St → Option Out) : Option Out :=
  match aop P (evalT s.t) s.h o with
  | some (.val v h) => putK s.t o.dst v fun t => forceH o.op h fun h => K { s with t := t, h := h }
  | some (.enter f args) =>
    match self (.call f args s.h) with
    | some (.ret v h) => putK s.t o.dst v fun t => forceH o.op h fun h => K { s with t := t, h := h }
    | some (.pan v h) => some (.ex (.panic v) { s with h := h })
    | _ => none
  | some (.yield l args) =>
    match self (.round l args s.h) with
    | some (.ret v h) => putK s.t o.dst v fun t => forceH o.op h fun h => K { s with t := t, h := h }
    | _ => none
  | some (.defer d) => if rd.isNone then putK s.t o.dst undef fun t => K { t := t, d := d :: s.d, h := s.h } else none
  | some (.panic v) => some (.ex (.panic v) s)
  | _ => none

theorem runOps_cons {P : Program} {self : Self} {rd : Option Nat} {os : Array Oper} {i : Nat} {r : List Nat} {s : St} : runOps P self rd os (i :: r) s =
    match os[i]? with
    | none => runOps P self rd os r s
    | some o => if wantedT os s.t o then bodyOp P self rd o s (runOps P self rd os r) else putK s.t o.dst undef fun t => runOps P self rd os r { s with t := t } := rfl

/-! ### Operands -/
structure OC (x : Operand) where
  f : List Value → Value
  ok : ∀ T, f T = evalT T x
def cO (x : Operand) : OC x :=
  match x with
  | .tmp n => ⟨fun T => lget T n, fun _ => rfl⟩
  | .const v => ⟨fun _ => v, fun _ => rfl⟩
  | .global g => ⟨fun _ => .pointer (some ⟨g, 0, none⟩), fun _ => rfl⟩
  | .func f => ⟨fun _ => .func (.func f) #[] #[], fun _ => rfl⟩

/-- A value in its outermost form. -/
def forceW {β : Type} (v : Value) (k : Value → β) : β :=
  match v with
  | .bool b => k (.bool b)
  | .int q n => k (.int q n)
  | .string s => k (.string s)
  | .pointer a => k (.pointer a)
  | .slice a l c => k (.slice a l c)
  | .map a => k (.map a)
  | .agg cs => k (.agg cs)
  | .tuple cs => k (.tuple cs)
  | .func f a b => k (.func f a b)
  | .nilFunc => k .nilFunc
  | .nilIface => k .nilIface
  | v => k v
theorem forceW_eq {β : Type} (v : Value) (k : Value → β) : forceW v k = k v := by cases v <;> rfl

def asI {β : Type} (v : Value) (k : IntKind → Int → β) (e : β) : β := match v with | .int q n => k q n | _ => e
def asB {β : Type} (v : Value) (kt kf e : β) : β := match v with | .bool b => Bool.rec (motive := fun _ => β) kf kt b | _ => e

/-! ### Reads -/
abbrev R := Option Out
structure QC (P : Program) (o : Oper) where
  f : List Value → List Ob → (Value → R) → R → R
  ok : ∀ T H k e, (∃ v, aread P (evalT T) H o = some v ∧ f T H k e = k v) ∨ f T H k e = e

def qNone (P : Program) (o : Oper) : QC P o := ⟨fun _ _ _ e => e, fun _ _ _ _ => .inr rfl⟩
def qRead (P : Program) (o : Oper) : QC P o :=
  ⟨fun T H k e => match aread P (evalT T) H o with | some v => forceV v k | none => e, fun T H k e => by
    cases h : aread P (evalT T) H o with
    | none => exact .inr rfl
    | some v => exact .inl ⟨v, rfl, forceV_eq v k⟩⟩
def qMove (P : Program) (o : Oper) (x : Operand) (h : ∀ T H, aread P (evalT T) H o = some (evalT T x)) : QC P o :=
  ⟨fun T _ k _ => forceW ((cO x).f T) k, fun T H k e => .inl ⟨_, h T H, by rw [forceW_eq, (cO x).ok]⟩⟩
def qPick (P : Program) (o : Oper) (c a b : Operand) (ho : o.op = .pick c a b) (hok : (okO c && okO a && okO b) = true) : QC P o :=
  ⟨fun T _ k e => asB ((cO c).f T) (forceW ((cO a).f T) k) (forceW ((cO b).f T) k) e, fun T H k e => by
    rw [(cO c).ok, (cO a).ok, (cO b).ok, forceW_eq, forceW_eq]
    unfold asB
    split
    · rename_i t ht
      left
      refine ⟨if t then evalT T a else evalT T b, ?_, ?_⟩
      · unfold aread; rw [ho]; simp only; rw [if_pos hok, ht]
      · cases t <;> rfl
    · exact .inr rfl⟩

def iLt (a b : Int) : Bool := match a, b with | .ofNat m, .ofNat n => Nat.blt m n | a, b => decide (a < b)
theorem iLt_eq (a b : Int) : iLt a b = decide (a < b) := by
  unfold iLt
  split
  · rename_i m n
    rw [Bool.eq_iff_iff]
    simp [Nat.blt_eq]
  · rfl
def iEq (a b : Int) : Bool := match a, b with | .ofNat m, .ofNat n => Nat.beq m n | a, b => decide (a = b)
theorem iEq_eq (a b : Int) : iEq a b = decide (a = b) := by
  unfold iEq
  split
  · rename_i m n
    rw [Bool.eq_iff_iff]
    simp [Int.ofNat_inj]
  · rfl
def retB (k : Value → R) (b : Bool) : R := Bool.rec (motive := fun _ => R) (k (.bool false)) (k (.bool true)) b
theorem retB_eq (k : Value → R) (b : Bool) : retB k b = k (.bool b) := by cases b <;> rfl
def retI (k : Value → R) (q : IntKind) (n : Int) : R := forceI (q.wrap n) fun n => k (.int q n)
def cmpI (op : BinOp) : Option (Int → Int → Bool) :=
  match op with
  | .eql => some fun a b => iEq a b
  | .neq => some fun a b => !iEq a b
  | .lss => some fun a b => iLt a b
  | .leq => some fun a b => !iLt b a
  | .gtr => some fun a b => iLt b a
  | .geq => some fun a b => !iLt a b
  | _ => none
theorem cmpI_eq {op : BinOp} {g : Int → Int → Bool} (h : cmpI op = some g) (q : IntKind) (a b : Int) : fastBin op (.int q a) (.int q b) = some (.bool (g a b)) := by
  cases op <;> simp only [cmpI, Option.some.injEq] at h <;> first | (cases h; done) | skip
  all_goals
    subst h
    simp only [fastBin, if_true, iLt_eq, iEq_eq]
    try (congr 2 <;> (rw [Bool.eq_iff_iff]; simp <;> omega))
def numI (op : BinOp) : Option (Int → Int → Int) :=
  match op with
  | .add => some fun a b => a + b
  | .sub => some fun a b => a - b
  | .mul => some fun a b => a * b
  | _ => none
theorem numI_eq {op : BinOp} {g : Int → Int → Int} (h : numI op = some g) (q : IntKind) (a b : Int) : fastBin op (.int q a) (.int q b) = some (.int q (q.wrap (g a b))) := by
  cases op <;> simp only [numI, Option.some.injEq] at h <;> first | (cases h; done) | skip
  all_goals
    subst h
    simp only [fastBin, if_true]

theorem aread_bin {P : Program} {T : List Value} {H : List Ob} {o : Oper} {op : BinOp} {t : TypeId} {x y : Operand} {t' : TypeId} {q : IntKind} {a b : Int} {v : Value}
    (ho : o.op = .binOp op t x y t') (hok : (okO x && okO y) = true) (hx : evalT T x = .int q a) (hy : evalT T y = .int q b) (hf : fastBin op (.int q a) (.int q b) = some v) : aread P (evalT T) H o = some v := by
  unfold aread
  rw [ho]
  simp only
  rw [hx, hy, hf]
  simp only [gr, gA, g0, Bool.and_true]
  rw [if_pos hok]

def qCmp (P : Program) (o : Oper) (op : BinOp) (t : TypeId) (x y : Operand) (t' : TypeId) (g : Int → Int → Bool) (ho : o.op = .binOp op t x y t') (hok : (okO x && okO y) = true) (hg : cmpI op = some g) : QC P o :=
  ⟨fun T _ k e => asI ((cO x).f T) (fun q a => asI ((cO y).f T) (fun q' b => if q = q' then retB k (g a b) else e) e) e, fun T H k e => by
    rw [(cO x).ok, (cO y).ok]
    unfold asI
    split
    · rename_i q a hx
      split
      · rename_i q' b hy
        show (∃ v, aread P (evalT T) H o = some v ∧ (if q = q' then _ else e) = k v) ∨ (if q = q' then _ else e) = e
        by_cases hq : q = q'
        · subst hq
          rw [if_pos rfl]
          exact .inl ⟨_, aread_bin ho hok hx hy (cmpI_eq hg q a b), retB_eq _ _⟩
        · rw [if_neg hq]; exact .inr rfl
      · exact .inr rfl
    · exact .inr rfl⟩
def qNum (P : Program) (o : Oper) (op : BinOp) (t : TypeId) (x y : Operand) (t' : TypeId) (g : Int → Int → Int) (ho : o.op = .binOp op t x y t') (hok : (okO x && okO y) = true) (hg : numI op = some g) : QC P o :=
  ⟨fun T _ k e => asI ((cO x).f T) (fun q a => asI ((cO y).f T) (fun q' b => if q = q' then retI k q (g a b) else e) e) e, fun T H k e => by
    rw [(cO x).ok, (cO y).ok]
    unfold asI
    split
    · rename_i q a hx
      split
      · rename_i q' b hy
        show (∃ v, aread P (evalT T) H o = some v ∧ (if q = q' then _ else e) = k v) ∨ (if q = q' then _ else e) = e
        by_cases hq : q = q'
        · subst hq
          rw [if_pos rfl]
          exact .inl ⟨_, aread_bin ho hok hx hy (numI_eq hg q a b), by unfold retI; rw [forceI_eq]⟩
        · rw [if_neg hq]; exact .inr rfl
      · exact .inr rfl
    · exact .inr rfl⟩

/-- What is read by one function of the value of one operand. -/
def qOne (P : Program) (o : Oper) (x : Operand) (g : List Ob → Value → Option Value) (h : ∀ T H v, g H (evalT T x) = some v → aread P (evalT T) H o = some v) : QC P o :=
  ⟨fun T H k e => match g H ((cO x).f T) with | some v => forceV v k | none => e, fun T H k e => by
    rw [(cO x).ok]
    split
    · rename_i v hv; exact .inl ⟨v, h T H v hv, forceV_eq v k⟩
    · exact .inr rfl⟩

def mapC : List Operand → List Value → (List Value → R) → R
  | [], _, k => k []
  | x :: r, T, k => forceW ((cO x).f T) fun v => mapC r T fun l => k (v :: l)
theorem mapC_eq (T : List Value) : ∀ (l : List Operand) (k : List Value → R), mapC l T k = k (l.map (evalT T))
  | [], _ => rfl
  | x :: r, k => by simp only [mapC, forceW_eq, mapC_eq T r, (cO x).ok, List.map_cons]

/-! ### Reads of ground values: reckoned on the values alone, so that the same is reckoned once -/
theorem if_some {c : Prop} [Decidable c] {a : Option Value} {v : Value} (h : (if c then a else none) = some v) : c ∧ a = some v := by
  by_cases hc : c
  · rw [if_pos hc] at h; exact ⟨hc, h⟩
  · rw [if_neg hc] at h; cases h
theorem okO_const (v : Value) : okO (.const v) = gr v := rfl
theorem ev_const (T : List Value) (v : Value) : evalT T (.const v) = v := rfl
def memo (P : Program) (o : Oper) (k : Value → R) (e : R) : R := match aread P (evalT []) [] o with | some v => forceV v k | none => e
theorem memo_ok {P : Program} {o : Oper} {k : Value → R} {e : R} : (∃ v, aread P (evalT []) [] o = some v ∧ memo P o k e = k v) ∨ memo P o k e = e := by
  unfold memo
  cases h : aread P (evalT []) [] o with
  | none => exact .inr rfl
  | some v => exact .inl ⟨v, rfl, forceV_eq v k⟩

def qUn (P : Program) (o : Oper) (u : UnOp) (t : TypeId) (x : Operand) (ho : o.op = .unOp u t x) (hx : okO x = true) : QC P o :=
  ⟨fun T _ k e => forceW ((cO x).f T) fun v => memo P { o with op := .unOp u t (.const v) } k e, fun T H k e => by
    rw [forceW_eq, (cO x).ok]
    rcases memo_ok (P := P) (o := { o with op := .unOp u t (.const (evalT T x)) }) (k := k) (e := e) with ⟨v, h1, h2⟩ | h
    · refine .inl ⟨v, ?_, h2⟩
      obtain ⟨dst, op, type, pos, after, guard⟩ := o
      simp only at ho; subst ho
      simp only [aread, okO_const, ev_const] at h1
      simp only [aread, hx, Bool.true_and]
      obtain ⟨hg, h1⟩ := if_some h1
      simp only [Bool.and_eq_true] at hg
      rw [if_pos hg.2]; exact h1
    · exact .inr h⟩

def qIdx (P : Program) (o : Oper) (t : TypeId) (x y : Operand) (ho : o.op = .index t x y) (hx : (okO x && okO y) = true) : QC P o :=
  ⟨fun T _ k e => forceW ((cO x).f T) fun v => forceW ((cO y).f T) fun u => memo P { o with op := .index t (.const v) (.const u) } k e, fun T H k e => by
    rw [forceW_eq, forceW_eq, (cO x).ok, (cO y).ok]
    rcases memo_ok (P := P) (o := { o with op := .index t (.const (evalT T x)) (.const (evalT T y)) }) (k := k) (e := e) with ⟨v, h1, h2⟩ | h
    · refine .inl ⟨v, ?_, h2⟩
      obtain ⟨dst, op, type, pos, after, guard⟩ := o
      simp only at ho; subst ho
      simp only [aread, okO_const, ev_const] at h1
      simp only [aread, hx, Bool.true_and]
      obtain ⟨hg, h1⟩ := if_some h1
      simp only [Bool.and_eq_true] at hg
      rw [if_pos (by simp [hg.1.2, hg.2])]; exact h1
    · exact .inr h⟩

def divOp (b : BinOp) : Bool := match b with | .quo | .rem => true | _ => false
def qDiv (P : Program) (o : Oper) (b : BinOp) (t : TypeId) (x y : Operand) (t' : TypeId) (ho : o.op = .binOp b t x y t') (hx : (okO x && okO y) = true) (hb : divOp b = true) : QC P o :=
  ⟨fun T _ k e => forceW ((cO x).f T) fun v => forceW ((cO y).f T) fun u => memo P { o with op := .binOp b t (.const v) (.const u) t' } k e, fun T H k e => by
    rw [forceW_eq, forceW_eq, (cO x).ok, (cO y).ok]
    rcases memo_ok (P := P) (o := { o with op := .binOp b t (.const (evalT T x)) (.const (evalT T y)) t' }) (k := k) (e := e) with ⟨v, h1, h2⟩ | h
    · refine .inl ⟨v, ?_, h2⟩
      obtain ⟨dst, op, type, pos, after, guard⟩ := o
      simp only at ho; subst ho
      simp only [aread, okO_const, ev_const] at h1
      simp only [aread, hx, Bool.true_and]
      obtain ⟨hg, h1⟩ := if_some h1
      simp only [Bool.and_eq_true] at hg
      rw [if_pos (by simp [hg.1.2, hg.2])]
      cases b <;> first | (cases hb; done) | exact h1
    · exact .inr h⟩

def mmOp (b : Builtin) : Bool := match b with | .max | .min | .len => true | _ => false
def qMm (P : Program) (o : Oper) (b : Builtin) (args : Array Operand) (ts : Array TypeId) (ho : o.op = .call { callee := .builtin b, args := args, argTypes := ts }) (hx : args.toList.all okO = true) (hb : mmOp b = true) : QC P o :=
  ⟨fun T _ k e => mapC args.toList T fun l => memo P { o with op := .call { callee := .builtin b, args := ⟨l.map .const⟩, argTypes := ts } } k e, fun T H k e => by
    rw [mapC_eq]
    rcases memo_ok (P := P) (o := { o with op := .call { callee := .builtin b, args := ⟨(args.toList.map (evalT T)).map .const⟩, argTypes := ts } }) (k := k) (e := e) with ⟨v, h1, h2⟩ | h
    · refine .inl ⟨v, ?_, h2⟩
      obtain ⟨dst, op, type, pos, after, guard⟩ := o
      simp only at ho; subst ho
      simp only [aread] at h1
      simp only [aread, hx, if_true]
      have e1 : (List.map Operand.const (List.map (evalT T) args.toList)).all okO = args.toList.all fun x => gr (evalT T x) := by
        rw [List.all_map, List.all_map]; rfl
      have e2 : ((List.map Operand.const (List.map (evalT T) args.toList)).all fun x => gr (evalT [] x)) = args.toList.all fun x => gr (evalT T x) := by
        rw [List.all_map, List.all_map]; rfl
      rw [e1, e2] at h1
      split at h1
      · rename_i hg
        rw [hg] at h1 ⊢
        have e3 : (⟨(args.toList.map (evalT T)).map .const⟩ : Array Operand).map (evalT []) = args.map (evalT T) := by
          apply Array.ext'
          simp [evalT]
        cases b <;> first | (cases hb; done) | skip
        all_goals
          simp only [numB, Bool.and_self, if_true] at h1 ⊢
          simp only [execOp, resolve, e3] at h1 ⊢
          exact h1
      · cases h1
    · exact .inr h⟩

def qLoad (P : Program) (o : Oper) (t : TypeId) (x : Operand) (ho : o.op = .load t x) (hx : okO x = true) : QC P o :=
  ⟨fun T H k e => loadK P H t ((cO x).f T) k (fun v => forceW v k) e, fun T H k e => by
    rw [show (fun v => forceW v k) = k from funext fun v => forceW_eq v k, (cO x).ok]
    rcases loadK_ok (P := P) (H := H) (t := t) (v := evalT T x) (k := k) (e := e) with ⟨u, h1, h2⟩ | h
    · exact .inl ⟨u, by unfold aread; rw [ho]; simp only; rw [if_pos hx]; exact h1, h2⟩
    · exact .inr h⟩

def cQ (P : Program) (o : Oper) : QC P o :=
  match ho : o.op with
  | .move x => if hx : okO x = true then qMove P o x (fun T H => by unfold aread; rw [ho]; simp only; rw [if_pos hx]) else qNone P o
  | .assign x => if hx : okO x = true then qMove P o x (fun T H => by unfold aread; rw [ho]; simp only; rw [if_pos hx]) else qNone P o
  | .pick c a b => if h : (okO c && okO a && okO b) = true then qPick P o c a b ho h else qNone P o
  | .binOp op t x y t' =>
    if h : (okO x && okO y) = true then
      match hg : cmpI op with
      | some g => qCmp P o op t x y t' g ho h hg
      | none => match hg : numI op with
        | some g => qNum P o op t x y t' g ho h hg
        | none => if hb : divOp op = true then qDiv P o op t x y t' ho h hb else qRead P o
    else qNone P o
  | .load t x => if hx : okO x = true then qLoad P o t x ho hx else qNone P o
  | .fieldAddr s x f => if hx : okO x = true then qOne P o x (fun _ v => rFieldAddr P s f v) (fun T H v hv => by unfold aread; rw [ho]; simp only; rw [if_pos hx]; exact hv) else qNone P o
  | .field t x f => if hx : okO x = true then qOne P o x (fun _ v => rField P t f v) (fun T H v hv => by unfold aread; rw [ho]; simp only; rw [if_pos hx]; exact hv) else qNone P o
  | .extract x i => if hx : okO x = true then qOne P o x (fun _ v => rExtract i v) (fun T H v hv => by unfold aread; rw [ho]; simp only; rw [if_pos hx]; exact hv) else qNone P o
  | .alloc _ | .box _ _ | .buildSlice _ _ _ | .store _ _ _ | .makeMap _ _ | .mapUpdate _ _ _ _ | .defer _ | .panic _ => qNone P o
  | .call { callee := .value _, .. } => qNone P o
  | .call { callee := .builtin b, args := args, argTypes := ts } =>
    if hb : mmOp b = true then if hx : args.toList.all okO = true then qMm P o b args ts ho hx hb else qRead P o else qRead P o
  | .unOp u t x => if hx : okO x = true then qUn P o u t x ho hx else qNone P o
  | .index t x y => if hx : (okO x && okO y) = true then qIdx P o t x y ho hx else qNone P o
  | _ => qRead P o

/-! ### Operations -/
structure BC (P : Program) (o : Oper) where
  run : Self → Option Nat → St → (St → R) → R
  ok : ∀ self rd s K, run self rd s K = bodyOp P self rd o s K

def bQuiet (P : Program) (o : Oper) (q : QC P o) : BC P o :=
  match hd : o.dst with
  | none => ⟨fun self rd s K => q.f s.t s.h.bl (fun _ => K s) (bodyOp P self rd o s K), fun self rd s K => by
      rcases q.ok s.t s.h.bl (fun _ => K s) (bodyOp P self rd o s K) with ⟨v, h1, h2⟩ | h
      · rw [h2]; unfold bodyOp aop; rw [h1]; simp only [putK_eq, forceH_eq, hd, put]
      · exact h⟩
  | some d => ⟨fun self rd s K => q.f s.t s.h.bl (fun v => lsetK s.t d v fun t => K ⟨t, s.d, s.h⟩) (bodyOp P self rd o s K), fun self rd s K => by
      rcases q.ok s.t s.h.bl (fun v => lsetK s.t d v fun t => K ⟨t, s.d, s.h⟩) (bodyOp P self rd o s K) with ⟨v, h1, h2⟩ | h
      · rw [h2]; unfold bodyOp aop; rw [h1]; simp only [putK_eq, forceH_eq, lsetK_eq, hd, put]
      · exact h⟩

def afterCall (dst : Option Tmp) (s : St) (K : St → R) (y : Option Out) : R :=
  match y with
  | some (.ret v h) => putK s.t dst v fun t => forceS h.bl fun bl => forceN h.base fun base => K ⟨t, s.d, ⟨bl, base, h.wr⟩⟩
  | some (.pan v h) => some (.ex (.panic v) { s with h := h })
  | _ => none

def bCall (P : Program) (o : Oper) (g : FuncId) (args : Array Operand) (ts : Array TypeId) (ho : o.op = .call { callee := .value (.func g), args := args, argTypes := ts }) (hok : args.toList.all okO = true) (hb : bodied P g = true) : BC P o :=
  ⟨fun self _ s K => mapC args.toList s.t fun l => afterCall o.dst s K (self (.call g ⟨l⟩ s.h)), fun self rd s K => by
    rw [mapC_eq]
    have ha : aop P (evalT s.t) s.h o = some (.enter g ⟨args.toList.map (evalT s.t)⟩) := by
      unfold aop aread aloud
      rw [ho]
      simp only [okO, evalT, hok, hb, Bool.and_self, if_true]
      congr 2
      apply Array.ext'
      simp [Array.toList_map]
    unfold bodyOp afterCall
    rw [ha]
    simp only
    split <;> simp only [putK_eq, forceH_eq, forceS_eq, forceN_eq]⟩

def bStore (P : Program) (o : Oper) (t : TypeId) (a x : Operand) (ho : o.op = .store t a x) (hok : (okO a && okO x) = true) (hd : o.dst = none) : BC P o :=
  ⟨fun self rd s K => storeK P s.h t ((cO a).f s.t) ((cO x).f s.t) (fun h => K ⟨s.t, s.d, h⟩) (bodyOp P self rd o s K), fun self rd s K => by
    rw [(cO a).ok, (cO x).ok]
    rcases storeK_ok (P := P) (h := s.h) (t := t) (x := evalT s.t a) (v := evalT s.t x) (k := fun h => K ⟨s.t, s.d, h⟩) (e := bodyOp P self rd o s K) with ⟨h', h1, h2⟩ | h
    · rw [h2]
      have ha : aop P (evalT s.t) s.h o = some (.val undef h') := by
        unfold aop aread aloud
        rw [ho]
        simp only [hok, if_true, h1, Option.map_some]
      unfold bodyOp
      rw [ha]
      simp only [putK_eq, forceH_eq, hd, put]
    · exact h⟩

def cB (P : Program) (o : Oper) : BC P o :=
  match ho : o.op with
  | .call { callee := .value (.func g), args := args, argTypes := ts } =>
    if h : (args.toList.all okO && bodied P g) = true then bCall P o g args ts ho (Bool.and_eq_true _ _ ▸ h).1 (Bool.and_eq_true _ _ ▸ h).2 else ⟨fun self rd s K => bodyOp P self rd o s K, fun _ _ _ _ => rfl⟩
  | .store t a x =>
    if h : (okO a && okO x) = true then (match hd : o.dst with | none => bStore P o t a x ho h hd | some _ => ⟨fun self rd s K => bodyOp P self rd o s K, fun _ _ _ _ => rfl⟩)
    else ⟨fun self rd s K => bodyOp P self rd o s K, fun _ _ _ _ => rfl⟩
  | _ => bQuiet P o (cQ P o)

structure SC (P : Program) (os : Array Oper) (o : Oper) where
  run : Self → Option Nat → St → (St → R) → R
  ok : ∀ self rd s K, run self rd s K = if wantedT os s.t o then bodyOp P self rd o s K else putK s.t o.dst undef fun t => K { s with t := t }

def isB (want : Bool) (v : Value) : Bool := match v with | .bool b => b == want | _ => false
theorem wanted_some {os : Array Oper} {T : List Value} {o : Oper} {j : Nat} {want : Bool} {d : Tmp} (hg : o.guard = some (j, want)) (hd : (os[j]?).bind (·.dst) = some d) : wantedT os T o = isB want (lget T d) := by
  unfold wantedT
  rw [hg]
  simp only
  split
  · rename_i d' hd'; rw [hd] at hd'; cases hd'; rfl
  · rename_i hd'; rw [hd] at hd'; cases hd'
theorem wanted_none {os : Array Oper} {T : List Value} {o : Oper} {j : Nat} {want : Bool} (hg : o.guard = some (j, want)) (hd : (os[j]?).bind (·.dst) = none) : wantedT os T o = false := by
  unfold wantedT
  rw [hg]
  simp only
  split
  · rename_i d' hd'; rw [hd] at hd'; cases hd'
  · rfl
def cS (P : Program) (os : Array Oper) (o : Oper) : SC P os o :=
  match hg : o.guard with
  | none => ⟨(cB P o).run, fun self rd s K => by rw [(cB P o).ok]; unfold wantedT; rw [hg]; rfl⟩
  | some (j, want) =>
    match hd : (os[j]?).bind (·.dst) with
    | some d => ⟨fun self rd s K => Bool.rec (motive := fun _ => R) (putK s.t o.dst undef fun t => K { s with t := t }) ((cB P o).run self rd s K) (isB want (lget s.t d)), fun self rd s K => by
        rw [(cB P o).ok, wanted_some hg hd]
        cases isB want (lget s.t d) <;> rfl⟩
    | none => ⟨fun _ _ s K => putK s.t o.dst undef fun t => K { s with t := t }, fun self rd s K => by rw [wanted_none hg hd]; rfl⟩

structure LC (P : Program) (os : Array Oper) (l : List Nat) where
  run : Self → Option Nat → St → R
  ok : ∀ self rd s, run self rd s = runOps P self rd os l s

def cL (P : Program) (os : Array Oper) (l : List Nat) : LC P os l :=
  List.rec (motive := fun l => LC P os l) ⟨fun _ _ s => some (.ex .normal s), fun _ _ _ => rfl⟩
    (fun i r ih => match hi : os[i]? with
      | none => ⟨ih.run, fun self rd s => by rw [ih.ok, runOps_cons, hi]⟩
      | some o => ⟨fun self rd s => (cS P os o).run self rd s (fun s => ih.run self rd s), fun self rd s => by
          rw [(cS P os o).ok, runOps_cons, hi, show (fun s => ih.run self rd s) = runOps P self rd os r from funext fun s => ih.ok self rd s]
          simp only [ih.ok]⟩) l
end
end Go.Gh
