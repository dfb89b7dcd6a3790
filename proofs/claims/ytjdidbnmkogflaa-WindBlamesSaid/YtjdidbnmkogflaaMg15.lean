/- WindBlames proved. Conditions: none. -/
import Derived.Test.YtjdidbnmkogflaaMg5
import Derived.Test.YtjdidbnmkogflaaMg7
import Derived.Test.YtjdidbnmkogflaaMg6
import Derived.Test.YtjdidbnmkogflaaMg14
import Derived.Test.YtjdidbnmkogflaaMg13
import Derived.Test.YtjdidbnmkogflaaMg11
namespace Go.Gi
open Go.RowKit
noncomputable section
def bodyOp (P : Program) (self : Self) (rd : Option Nat) (o : Oper) (s : St) (K : St → Option Out) : Option Out :=
  match aop P (evalT s.t) s.h o with
  | some (.val v h) => putK s.t o.dst v fun t => forceH o.op h fun h => K { s with t := t, h := h }
  | some (.enter f args) =>
    match self (.call f args s.h) with
    | some (.ret v h) => putK s.t o.dst v fun t => forceH o.op h fun h => K { s with t := t, h := h }
    | some (.pan v h) => some (.ex (.panic v) { s with h := h })
    | _ => none
  | some (.yield l args) =>
    match self (.round l args s.h) with
    | some (.ret v h) => putK s.t o.dst v fun t => forceH o.op h fun h => K { s with t := t, h := h }
    | _ => none
  | some (.defer d) => if rd.isNone then putK s.t o.dst undef fun t => K { t := t, d := d :: s.d, h := s.h } else none
  | some (.panic v) => some (.ex (.panic v) s)
  | _ => none
theorem runOps_cons {P : Program} {self : Self} {rd : Option Nat} {os : Array Oper} {i : Nat} {r : List Nat} {s : St} : runOps P self rd os (i :: r) s =
    match os[i]? with
    | none => runOps P self rd os r s
    | some o => if wantedT os s.t o then bodyOp P self rd o s (runOps P self rd os r) else putK s.t o.dst undef fun t => runOps P self rd os r { s with t := t } := rfl
structure OC (x : Operand) where
  f : List Value → Value
  ok : ∀ T, f T = evalT T x
def cO (x : Operand) : OC x :=
  match x with
  | .tmp n => ⟨fun T => lget T n, fun _ => rfl⟩
  | .const v => ⟨fun _ => v, fun _ => rfl⟩
  | .global g => ⟨fun _ => .pointer (some ⟨g, 0, none⟩), fun _ => rfl⟩
  | .func f => ⟨fun _ => .func (.func f) #[] #[], fun _ => rfl⟩
def forceW {β : Type} (v : Value) (k : Value → β) : β :=
  match v with
  | .bool b => k (.bool b)
  | .int q n => k (.int q n)
  | .string s => k (.string s)
  | .pointer a => k (.pointer a)
  | .slice a l c => k (.slice a l c)
  | .map a => k (.map a)
  | .agg cs => k (.agg cs)
  | .tuple cs => k (.tuple cs)
  | .func f a b => k (.func f a b)
  | .nilFunc => k .nilFunc
  | .nilIface => k .nilIface
  | v => k v
theorem forceW_eq {β : Type} (v : Value) (k : Value → β) : forceW v k = k v := by cases v <;> rfl
def asI {β : Type} (v : Value) (k : IntKind → Int → β) (e : β) : β := match v with | .int q n => k q n | _ => e
def asB {β : Type} (v : Value) (kt kf e : β) : β := match v with | .bool b => Bool.rec (motive := fun _ => β) kf kt b | _ => e
abbrev R := Option Out
structure QC (P : Program) (o : Oper) where
  f : List Value → List Ob → (Value → R) → R → R
  ok : ∀ T H k e, (∃ v, aread P (evalT T) H o = some v ∧ f T H k e = k v) ∨ f T H k e = e
def qNone (P : Program) (o : Oper) : QC P o := ⟨fun _ _ _ e => e, fun _ _ _ _ => .inr rfl⟩
def qRead (P : Program) (o : Oper) : QC P o :=
  ⟨fun T H k e => match aread P (evalT T) H o with | some v => forceV v k | none => e, fun T H k e => by
    cases h : aread P (evalT T) H o with
    | none => exact .inr rfl
    | some v => exact .inl ⟨v, rfl, forceV_eq v k⟩⟩
def qMove (P : Program) (o : Oper) (x : Operand) (h : ∀ T H, aread P (evalT T) H o = some (evalT T x)) : QC P o :=
  ⟨fun T _ k _ => forceW ((cO x).f T) k, fun T H k e => .inl ⟨_, h T H, by rw [forceW_eq, (cO x).ok]⟩⟩
def qPick (P : Program) (o : Oper) (c a b : Operand) (ho : o.op = .pick c a b) (hok : (okO c && okO a && okO b) = true) : QC P o :=
  ⟨fun T _ k e => asB ((cO c).f T) (forceW ((cO a).f T) k) (forceW ((cO b).f T) k) e, fun T H k e => by
    rw [(cO c).ok, (cO a).ok, (cO b).ok, forceW_eq, forceW_eq]
    unfold asB
    split
    · rename_i t ht
      left
      refine ⟨if t then evalT T a else evalT T b, ?_, ?_⟩
      · unfold aread; rw [ho]; simp only; rw [if_pos hok, ht]
      · cases t <;> rfl
    · exact .inr rfl⟩
def iLt (a b : Int) : Bool := match a, b with | .ofNat m, .ofNat n => Nat.blt m n | a, b => decide (a < b)
theorem iLt_eq (a b : Int) : iLt a b = decide (a < b) := by
  unfold iLt
  split
  · rename_i m n
    rw [Bool.eq_iff_iff]
    simp [Nat.blt_eq]
  · rfl
def iEq (a b : Int) : Bool := match a, b with | .ofNat m, .ofNat n => Nat.beq m n | a, b => decide (a = b)
theorem iEq_eq (a b : Int) : iEq a b = decide (a = b) := by
  unfold iEq
  split
  · rename_i m n
    rw [Bool.eq_iff_iff]
    simp [Int.ofNat_inj]
  · rfl
def retB (k : Value → R) (b : Bool) : R := Bool.rec (motive := fun _ => R) (k (.bool false)) (k (.bool true)) b
theorem retB_eq (k : Value → R) (b : Bool) : retB k b = k (.bool b) := by cases b <;> rfl
def retI (k : Value → R) (q : IntKind) (n : Int) : R := forceI (q.wrap n) fun n => k (.int q n)
def cmpI (op : BinOp) : Option (Int → Int → Bool) :=
  match op with
  | .eql => some fun a b => iEq a b
  | .neq => some fun a b => !iEq a b
  | .lss => some fun a b => iLt a b
  | .leq => some fun a b => !iLt b a
  | .gtr => some fun a b => iLt b a
  | .geq => some fun a b => !iLt a b
  | _ => none
theorem cmpI_eq {op : BinOp} {g : Int → Int → Bool} (h : cmpI op = some g) (q : IntKind) (a b : Int) : fastBin op (.int q a) (.int q b) = some (.bool (g a b)) := by
  cases op <;> simp only [cmpI, Option.some.injEq] at h <;> first | (cases h; done) | skip
  all_goals
    subst h
    simp only [fastBin, if_true, iLt_eq, iEq_eq]
    try (congr 2 <;> (rw [Bool.eq_iff_iff]; simp <;> omega))
def numI (op : BinOp) : Option (Int → Int → Int) :=
  match op with
  | .add => some fun a b => a + b
  | .sub => some fun a b => a - b
  | .mul => some fun a b => a * b
  | _ => none
theorem numI_eq {op : BinOp} {g : Int → Int → Int} (h : numI op = some g) (q : IntKind) (a b : Int) : fastBin op (.int q a) (.int q b) = some (.int q (q.wrap (g a b))) := by
  cases op <;> simp only [numI, Option.some.injEq] at h <;> first | (cases h; done) | skip
  all_goals
    subst h
    simp only [fastBin, if_true]
theorem aread_bin {P : Program} {T : List Value} {H : List Ob} {o : Oper} {op : BinOp} {t : TypeId} {x y : Operand} {t' : TypeId} {q : IntKind} {a b : Int} {v : Value}
    (ho : o.op = .binOp op t x y t') (hok : (okO x && okO y) = true) (hx : evalT T x = .int q a) (hy : evalT T y = .int q b) (hf : fastBin op (.int q a) (.int q b) = some v) : aread P (evalT T) H o = some v := by
  unfold aread
  rw [ho]
  simp only
  rw [hx, hy, hf]
  simp only [gr, gA, g0, Bool.and_true]
  rw [if_pos hok]
def qCmp (P : Program) (o : Oper) (op : BinOp) (t : TypeId) (x y : Operand) (t' : TypeId) (g : Int → Int → Bool) (ho : o.op = .binOp op t x y t') (hok : (okO x && okO y) = true) (hg : cmpI op = some g) : QC P o :=
  ⟨fun T _ k e => asI ((cO x).f T) (fun q a => asI ((cO y).f T) (fun q' b => if q = q' then retB k (g a b) else e) e) e, fun T H k e => by
    rw [(cO x).ok, (cO y).ok]
    unfold asI
    split
    · rename_i q a hx
      split
      · rename_i q' b hy
        show (∃ v, aread P (evalT T) H o = some v ∧ (if q = q' then _ else e) = k v) ∨ (if q = q' then _ else e) = e
        by_cases hq : q = q'
        · subst hq
          rw [if_pos rfl]
          exact .inl ⟨_, aread_bin ho hok hx hy (cmpI_eq hg q a b), retB_eq _ _⟩
        · rw [if_neg hq]; exact .inr rfl
      · exact .inr rfl
    · exact .inr rfl⟩
def qNum (P : Program) (o : Oper) (op : BinOp) (t : TypeId) (x y : Operand) (t' : TypeId) (g : Int → Int → Int) (ho : o.op = .binOp op t x y t') (hok : (okO x && okO y) = true) (hg : numI op = some g) : QC P o :=
  ⟨fun T _ k e => asI ((cO x).f T) (fun q a => asI ((cO y).f T) (fun q' b => if q = q' then retI k q (g a b) else e) e) e, fun T H k e => by
    rw [(cO x).ok, (cO y).ok]
    unfold asI
    split
    · rename_i q a hx
      split
      · rename_i q' b hy
        show (∃ v, aread P (evalT T) H o = some v ∧ (if q = q' then _ else e) = k v) ∨ (if q = q' then _ else e) = e
        by_cases hq : q = q'
        · subst hq
          rw [if_pos rfl]
          exact .inl ⟨_, aread_bin ho hok hx hy (numI_eq hg q a b), by unfold retI; rw [forceI_eq]⟩
        · rw [if_neg hq]; exact .inr rfl
      · exact .inr rfl
    · exact .inr rfl⟩
def qOne (P : Program) (o : Oper) (x : Operand) (g : List Ob → Value → Option Value) (h : ∀ T H v, g H (evalT T x) = some v → aread P (evalT T) H o = some v) : QC P o :=
  ⟨fun T H k e => match g H ((cO x).f T) with | some v => forceV v k | none => e, fun T H k e => by
    rw [(cO x).ok]
    split
    · rename_i v hv; exact .inl ⟨v, h T H v hv, forceV_eq v k⟩
    · exact .inr rfl⟩
def mapC : List Operand → List Value → (List Value → R) → R
  | [], _, k => k []
  | x :: r, T, k => forceW ((cO x).f T) fun v => mapC r T fun l => k (v :: l)
theorem mapC_eq (T : List Value) : ∀ (l : List Operand) (k : List Value → R), mapC l T k = k (l.map (evalT T))
  | [], _ => rfl
  | x :: r, k => by simp only [mapC, forceW_eq, mapC_eq T r, (cO x).ok, List.map_cons]
theorem if_some {c : Prop} [Decidable c] {a : Option Value} {v : Value} (h : (if c then a else none) = some v) : c ∧ a = some v := by
  by_cases hc : c
  · rw [if_pos hc] at h; exact ⟨hc, h⟩
  · rw [if_neg hc] at h; cases h
theorem okO_const (v : Value) : okO (.const v) = gr v := rfl
theorem ev_const (T : List Value) (v : Value) : evalT T (.const v) = v := rfl
def memo (P : Program) (o : Oper) (k : Value → R) (e : R) : R := match aread P (evalT []) [] o with | some v => forceV v k | none => e
theorem memo_ok {P : Program} {o : Oper} {k : Value → R} {e : R} : (∃ v, aread P (evalT []) [] o = some v ∧ memo P o k e = k v) ∨ memo P o k e = e := by
  unfold memo
  cases h : aread P (evalT []) [] o with
  | none => exact .inr rfl
  | some v => exact .inl ⟨v, rfl, forceV_eq v k⟩
def qUn (P : Program) (o : Oper) (u : UnOp) (t : TypeId) (x : Operand) (ho : o.op = .unOp u t x) (hx : okO x = true) : QC P o :=
  ⟨fun T _ k e => forceW ((cO x).f T) fun v => memo P { o with op := .unOp u t (.const v) } k e, fun T H k e => by
    rw [forceW_eq, (cO x).ok]
    rcases memo_ok (P := P) (o := { o with op := .unOp u t (.const (evalT T x)) }) (k := k) (e := e) with ⟨v, h1, h2⟩ | h
    · refine .inl ⟨v, ?_, h2⟩
      obtain ⟨dst, op, type, pos, after, guard⟩ := o
      simp only at ho; subst ho
      simp only [aread, okO_const, ev_const] at h1
      simp only [aread, hx, Bool.true_and]
      obtain ⟨hg, h1⟩ := if_some h1
      simp only [Bool.and_eq_true] at hg
      rw [if_pos hg.2]; exact h1
    · exact .inr h⟩
def qIdx (P : Program) (o : Oper) (t : TypeId) (x y : Operand) (ho : o.op = .index t x y) (hx : (okO x && okO y) = true) : QC P o :=
  ⟨fun T _ k e => forceW ((cO x).f T) fun v => forceW ((cO y).f T) fun u => memo P { o with op := .index t (.const v) (.const u) } k e, fun T H k e => by
    rw [forceW_eq, forceW_eq, (cO x).ok, (cO y).ok]
    rcases memo_ok (P := P) (o := { o with op := .index t (.const (evalT T x)) (.const (evalT T y)) }) (k := k) (e := e) with ⟨v, h1, h2⟩ | h
    · refine .inl ⟨v, ?_, h2⟩
      obtain ⟨dst, op, type, pos, after, guard⟩ := o
      simp only at ho; subst ho
      simp only [aread, okO_const, ev_const] at h1
      simp only [aread, hx, Bool.true_and]
      obtain ⟨hg, h1⟩ := if_some h1
      simp only [Bool.and_eq_true] at hg
      rw [if_pos (by simp [hg.1.2, hg.2])]; exact h1
    · exact .inr h⟩
def divOp (b : BinOp) : Bool := match b with | .quo | .rem => true | _ => false
def qDiv (P : Program) (o : Oper) (b : BinOp) (t : TypeId) (x y : Operand) (t' : TypeId) (ho : o.op = .binOp b t x y t') (hx : (okO x && okO y) = true) (hb : divOp b = true) : QC P o :=
  ⟨fun T _ k e => forceW ((cO x).f T) fun v => forceW ((cO y).f T) fun u => memo P { o with op := .binOp b t (.const v) (.const u) t' } k e, fun T H k e => by
    rw [forceW_eq, forceW_eq, (cO x).ok, (cO y).ok]
    rcases memo_ok (P := P) (o := { o with op := .binOp b t (.const (evalT T x)) (.const (evalT T y)) t' }) (k := k) (e := e) with ⟨v, h1, h2⟩ | h
    · refine .inl ⟨v, ?_, h2⟩
      obtain ⟨dst, op, type, pos, after, guard⟩ := o
      simp only at ho; subst ho
      simp only [aread, okO_const, ev_const] at h1
      simp only [aread, hx, Bool.true_and]
      obtain ⟨hg, h1⟩ := if_some h1
      simp only [Bool.and_eq_true] at hg
      rw [if_pos (by simp [hg.1.2, hg.2])]
      cases b <;> first | (cases hb; done) | exact h1
    · exact .inr h⟩
def mmOp (b : Builtin) : Bool := match b with | .max | .min | .len => true | _ => false
def qMm (P : Program) (o : Oper) (b : Builtin) (args : Array Operand) (ts : Array TypeId) (ho : o.op = .call { callee := .builtin b, args := args, argTypes := ts }) (hx : args.toList.all okO = true) (hb : mmOp b = true) : QC P o :=
  ⟨fun T _ k e => mapC args.toList T fun l => memo P { o with op := .call { callee := .builtin b, args := ⟨l.map .const⟩, argTypes := ts } } k e, fun T H k e => by
    rw [mapC_eq]
    rcases memo_ok (P := P) (o := { o with op := .call { callee := .builtin b, args := ⟨(args.toList.map (evalT T)).map .const⟩, argTypes := ts } }) (k := k) (e := e) with ⟨v, h1, h2⟩ | h
    · refine .inl ⟨v, ?_, h2⟩
      obtain ⟨dst, op, type, pos, after, guard⟩ := o
      simp only at ho; subst ho
      simp only [aread] at h1
      simp only [aread, hx, if_true]
      have e1 : (List.map Operand.const (List.map (evalT T) args.toList)).all okO = args.toList.all fun x => gr (evalT T x) := by
        rw [List.all_map, List.all_map]; rfl
      have e2 : ((List.map Operand.const (List.map (evalT T) args.toList)).all fun x => gr (evalT [] x)) = args.toList.all fun x => gr (evalT T x) := by
        rw [List.all_map, List.all_map]; rfl
      rw [e1, e2] at h1
      split at h1
      · rename_i hg
        rw [hg] at h1 ⊢
        have e3 : (⟨(args.toList.map (evalT T)).map .const⟩ : Array Operand).map (evalT []) = args.map (evalT T) := by
          apply Array.ext'
          simp [evalT]
        cases b <;> first | (cases hb; done) | skip
        all_goals
          simp only [numB, Bool.and_self, if_true] at h1 ⊢
          simp only [execOp, resolve, e3] at h1 ⊢
          exact h1
      · cases h1
    · exact .inr h⟩
def qLoad (P : Program) (o : Oper) (t : TypeId) (x : Operand) (ho : o.op = .load t x) (hx : okO x = true) : QC P o :=
  ⟨fun T H k e => loadK P H t ((cO x).f T) k (fun v => forceW v k) e, fun T H k e => by
    rw [show (fun v => forceW v k) = k from funext fun v => forceW_eq v k, (cO x).ok]
    rcases loadK_ok (P := P) (H := H) (t := t) (v := evalT T x) (k := k) (e := e) with ⟨u, h1, h2⟩ | h
    · exact .inl ⟨u, by unfold aread; rw [ho]; simp only; rw [if_pos hx]; exact h1, h2⟩
    · exact .inr h⟩
def cQ (P : Program) (o : Oper) : QC P o :=
  match ho : o.op with
  | .move x => if hx : okO x = true then qMove P o x (fun T H => by unfold aread; rw [ho]; simp only; rw [if_pos hx]) else qNone P o
  | .assign x => if hx : okO x = true then qMove P o x (fun T H => by unfold aread; rw [ho]; simp only; rw [if_pos hx]) else qNone P o
  | .pick c a b => if h : (okO c && okO a && okO b) = true then qPick P o c a b ho h else qNone P o
  | .binOp op t x y t' =>
    if h : (okO x && okO y) = true then
      match hg : cmpI op with
      | some g => qCmp P o op t x y t' g ho h hg
      | none => match hg : numI op with
        | some g => qNum P o op t x y t' g ho h hg
        | none => if hb : divOp op = true then qDiv P o op t x y t' ho h hb else qRead P o
    else qNone P o
  | .load t x => if hx : okO x = true then qLoad P o t x ho hx else qNone P o
  | .fieldAddr s x f => if hx : okO x = true then qOne P o x (fun _ v => rFieldAddr P s f v) (fun T H v hv => by unfold aread; rw [ho]; simp only; rw [if_pos hx]; exact hv) else qNone P o
  | .field t x f => if hx : okO x = true then qOne P o x (fun _ v => rField P t f v) (fun T H v hv => by unfold aread; rw [ho]; simp only; rw [if_pos hx]; exact hv) else qNone P o
  | .extract x i => if hx : okO x = true then qOne P o x (fun _ v => rExtract i v) (fun T H v hv => by unfold aread; rw [ho]; simp only; rw [if_pos hx]; exact hv) else qNone P o
  | .alloc _ | .box _ _ | .buildSlice _ _ _ | .store _ _ _ | .makeMap _ _ | .mapUpdate _ _ _ _ | .defer _ | .panic _ => qNone P o
  | .call { callee := .value _, .. } => qNone P o
  | .call { callee := .builtin b, args := args, argTypes := ts } =>
    if hb : mmOp b = true then if hx : args.toList.all okO = true then qMm P o b args ts ho hx hb else qRead P o else qRead P o
  | .unOp u t x => if hx : okO x = true then qUn P o u t x ho hx else qNone P o
  | .index t x y => if hx : (okO x && okO y) = true then qIdx P o t x y ho hx else qNone P o
  | _ => qRead P o
structure BC (P : Program) (o : Oper) where
  run : Self → Option Nat → St → (St → R) → R
  ok : ∀ self rd s K, run self rd s K = bodyOp P self rd o s K
def bQuiet (P : Program) (o : Oper) (q : QC P o) : BC P o :=
  match hd : o.dst with
  | none => ⟨fun self rd s K => q.f s.t s.h.bl (fun _ => K s) (bodyOp P self rd o s K), fun self rd s K => by
      rcases q.ok s.t s.h.bl (fun _ => K s) (bodyOp P self rd o s K) with ⟨v, h1, h2⟩ | h
      · rw [h2]; unfold bodyOp aop; rw [h1]; simp only [putK_eq, forceH_eq, hd, put]
      · exact h⟩
  | some d => ⟨fun self rd s K => q.f s.t s.h.bl (fun v => lsetK s.t d v fun t => K ⟨t, s.d, s.h⟩) (bodyOp P self rd o s K), fun self rd s K => by
      rcases q.ok s.t s.h.bl (fun v => lsetK s.t d v fun t => K ⟨t, s.d, s.h⟩) (bodyOp P self rd o s K) with ⟨v, h1, h2⟩ | h
      · rw [h2]; unfold bodyOp aop; rw [h1]; simp only [putK_eq, forceH_eq, lsetK_eq, hd, put]
      · exact h⟩
def afterCall (dst : Option Tmp) (s : St) (K : St → R) (y : Option Out) : R :=
  match y with
  | some (.ret v h) => putK s.t dst v fun t => forceS h.bl fun bl => forceN h.base fun base => K ⟨t, s.d, ⟨bl, base, h.wr⟩⟩
  | some (.pan v h) => some (.ex (.panic v) { s with h := h })
  | _ => none
def bCall (P : Program) (o : Oper) (g : FuncId) (args : Array Operand) (ts : Array TypeId) (ho : o.op = .call { callee := .value (.func g), args := args, argTypes := ts }) (hok : args.toList.all okO = true) (hb : bodied P g = true) : BC P o :=
  ⟨fun self _ s K => mapC args.toList s.t fun l => afterCall o.dst s K (self (.call g ⟨l⟩ s.h)), fun self rd s K => by
    rw [mapC_eq]
    have ha : aop P (evalT s.t) s.h o = some (.enter g ⟨args.toList.map (evalT s.t)⟩) := by
      unfold aop aread aloud
      rw [ho]
      simp only [okO, evalT, hok, hb, Bool.and_self, if_true]
      congr 2
      apply Array.ext'
      simp [Array.toList_map]
    unfold bodyOp afterCall
    rw [ha]
    simp only
    split <;> simp only [putK_eq, forceH_eq, forceS_eq, forceN_eq]⟩
def bStore (P : Program) (o : Oper) (t : TypeId) (a x : Operand) (ho : o.op = .store t a x) (hok : (okO a && okO x) = true) (hd : o.dst = none) : BC P o :=
  ⟨fun self rd s K => storeK P s.h t ((cO a).f s.t) ((cO x).f s.t) (fun h => K ⟨s.t, s.d, h⟩) (bodyOp P self rd o s K), fun self rd s K => by
    rw [(cO a).ok, (cO x).ok]
    rcases storeK_ok (P := P) (h := s.h) (t := t) (x := evalT s.t a) (v := evalT s.t x) (k := fun h => K ⟨s.t, s.d, h⟩) (e := bodyOp P self rd o s K) with ⟨h', h1, h2⟩ | h
    · rw [h2]
      have ha : aop P (evalT s.t) s.h o = some (.val undef h') := by
        unfold aop aread aloud
        rw [ho]
        simp only [hok, if_true, h1, Option.map_some]
      unfold bodyOp
      rw [ha]
      simp only [putK_eq, forceH_eq, hd, put]
    · exact h⟩
def cB (P : Program) (o : Oper) : BC P o :=
  match ho : o.op with
  | .call { callee := .value (.func g), args := args, argTypes := ts } =>
    if h : (args.toList.all okO && bodied P g) = true then bCall P o g args ts ho (Bool.and_eq_true _ _ ▸ h).1 (Bool.and_eq_true _ _ ▸ h).2 else ⟨fun self rd s K => bodyOp P self rd o s K, fun _ _ _ _ => rfl⟩
  | .store t a x =>
    if h : (okO a && okO x) = true then (match hd : o.dst with | none => bStore P o t a x ho h hd | some _ => ⟨fun self rd s K => bodyOp P self rd o s K, fun _ _ _ _ => rfl⟩)
    else ⟨fun self rd s K => bodyOp P self rd o s K, fun _ _ _ _ => rfl⟩
  | _ => bQuiet P o (cQ P o)
structure SC (P : Program) (os : Array Oper) (o : Oper) where
  run : Self → Option Nat → St → (St → R) → R
  ok : ∀ self rd s K, run self rd s K = if wantedT os s.t o then bodyOp P self rd o s K else putK s.t o.dst undef fun t => K { s with t := t }
def isB (want : Bool) (v : Value) : Bool := match v with | .bool b => b == want | _ => false
theorem wanted_some {os : Array Oper} {T : List Value} {o : Oper} {j : Nat} {want : Bool} {d : Tmp} (hg : o.guard = some (j, want)) (hd : (os[j]?).bind (·.dst) = some d) : wantedT os T o = isB want (lget T d) := by
  unfold wantedT
  rw [hg]
  simp only
  split
  · rename_i d' hd'; rw [hd] at hd'; cases hd'; rfl
  · rename_i hd'; rw [hd] at hd'; cases hd'
theorem wanted_none {os : Array Oper} {T : List Value} {o : Oper} {j : Nat} {want : Bool} (hg : o.guard = some (j, want)) (hd : (os[j]?).bind (·.dst) = none) : wantedT os T o = false := by
  unfold wantedT
  rw [hg]
  simp only
  split
  · rename_i d' hd'; rw [hd] at hd'; cases hd'
  · rfl
def cS (P : Program) (os : Array Oper) (o : Oper) : SC P os o :=
  match hg : o.guard with
  | none => ⟨(cB P o).run, fun self rd s K => by rw [(cB P o).ok]; unfold wantedT; rw [hg]; rfl⟩
  | some (j, want) =>
    match hd : (os[j]?).bind (·.dst) with
    | some d => ⟨fun self rd s K => Bool.rec (motive := fun _ => R) (putK s.t o.dst undef fun t => K { s with t := t }) ((cB P o).run self rd s K) (isB want (lget s.t d)), fun self rd s K => by
        rw [(cB P o).ok, wanted_some hg hd]
        cases isB want (lget s.t d) <;> rfl⟩
    | none => ⟨fun _ _ s K => putK s.t o.dst undef fun t => K { s with t := t }, fun self rd s K => by rw [wanted_none hg hd]; rfl⟩
structure LC (P : Program) (os : Array Oper) (l : List Nat) where
  run : Self → Option Nat → St → R
  ok : ∀ self rd s, run self rd s = runOps P self rd os l s
def cL (P : Program) (os : Array Oper) (l : List Nat) : LC P os l :=
  List.rec (motive := fun l => LC P os l) ⟨fun _ _ s => some (.ex .normal s), fun _ _ _ => rfl⟩
    (fun i r ih => match hi : os[i]? with
      | none => ⟨ih.run, fun self rd s => by rw [ih.ok, runOps_cons, hi]⟩
      | some o => ⟨fun self rd s => (cS P os o).run self rd s (fun s => ih.run self rd s), fun self rd s => by
          rw [(cS P os o).ok, runOps_cons, hi, show (fun s => ih.run self rd s) = runOps P self rd os r from funext fun s => ih.ok self rd s]
          simp only [ih.ok]⟩) l
end
end Go.Gi

namespace Go.Gi
open Go.RowKit
noncomputable section
def zSeq (self : Self) (rd : Option Nat) (b : Code) : Option Out → R
  | some (.ex .normal s') => (match self (.code rd b s') with | some (.ex e s2) => some (.ex e s2) | _ => none)
  | some (.ex e s') => some (.ex e s')
  | _ => none
def zEx : Option Out → R
  | some (.ex e s') => some (.ex e s')
  | _ => none
def zBlock (id : Nat) : Option Out → R
  | some (.ex (.exit id') s') => if id' = id then some (.ex .normal s') else some (.ex (.exit id') s')
  | some (.ex e s') => some (.ex e s')
  | _ => none
def zLoop (self : Self) (rd : Option Nat) (c : Code) : Option Out → R
  | some (.ex .normal s') => zEx (self (.code rd (.loop c) s'))
  | some (.ex e s') => some (.ex e s')
  | _ => none
def zCond (self : Self) (rd : Option Nat) (x y : Code) (s : St) (v : Value) : R :=
  match v with
  | .bool b => Bool.rec (motive := fun _ => R) (zEx (self (.code rd y s))) (zEx (self (.code rd x s))) b
  | _ => none
def zCode (drawn : Program → Self → Option Nat → Nat → Array Oper → St → Option Out) (P : Program) (self : Self) (rd : Option Nat) (c : Code) (s : St) : R :=
  match c with
  | .seq a b => zSeq self rd b (self (.code rd a s))
  | .cond c x y => Bool.rec (motive := fun _ => R) none (zCond self rd x y s ((cO c).f s.t)) (okO c)
  | .block id c => zBlock id (self (.code rd c s))
  | .loop c => zLoop self rd c (self (.code rd c s))
  | .region id os dr => Bool.rec (motive := fun _ => R) ((cL P os (List.range os.size)).run self rd s) (drawn P self rd id os s) dr
  | .ret => some (.ex .ret s)
  | .skip => some (.ex .normal s)
  | .exit id => some (.ex (.exit id) s)
  | c => stepF drawn P self (.code rd c s)
def frameK (n : Nat) (l : List Value) : (List Value → R) → R :=
  List.rec (motive := fun _ => Nat → (List Value → R) → R) (fun n k => forceN n fun n => k (List.replicate n undef)) (fun v _ ih n k => ih (Nat.sub n 1) fun r => k (v :: r)) l n
theorem frameK_eq : ∀ (l : List Value) (n : Nat) (k : List Value → R), frameK n l k = k (l ++ List.replicate (n - l.length) undef)
  | [], n, k => rfl
  | v :: r, n, k => by
    show frameK (n - 1) r _ = _
    rw [frameK_eq r (n - 1)]
    simp only [List.length_cons, List.cons_append]
    congr 4
    omega
def zLeave (P : Program) (self : Self) (fn : Func) (h : Hp) : Option Out → R
  | some (.ex .normal s) => leave P self fn s.t h s.d .returning s.h
  | some (.ex .ret s) => leave P self fn s.t h s.d .returning s.h
  | some (.ex (.panic v) s) => leave P self fn s.t h s.d (.panicking v false) s.h
  | _ => none
def zCall (P : Program) (self : Self) (args : Array Value) (h : Hp) (fn : Func) (c : Code) : R :=
  frameK fn.ntmps args.toList fun t => forceN h.bl.length fun n => zLeave P self fn h (self (.code none c { t := t, d := [], h := ⟨h.bl, n, []⟩ }))
def bodyOf (P : Program) (f : FuncId) : Option (Func × Code) :=
  match P.funcs[f]? with
  | some fn => match fn.body with
    | some c => some (fn, c)
    | none => none
  | none => none
def stepQ (drawn : Program → Self → Option Nat → Nat → Array Oper → St → Option Out) (P : Program) (self : Self) (task : Task) : R :=
  match task with
  | .code rd c s => zCode drawn P self rd c s
  | .call f args h => (match bodyOf P f with | some (fn, c) => zCall P self args h fn c | none => none)
  | .dcall f args m h => stepF drawn P self (.dcall f args m h)
  | .round l args h => stepF drawn P self (.round l args h)
theorem stepQ_eq (drawn : Program → Self → Option Nat → Nat → Array Oper → St → Option Out) (P : Program) (self : Self) (task : Task) : stepQ drawn P self task = stepF drawn P self task := by
  cases task with
  | dcall f args m h => rfl
  | round l args h => rfl
  | call f args h =>
    simp only [stepQ, stepF, bodyOf]
    cases P.funcs[f]? with
    | none => rfl
    | some fn =>
      simp only
      cases fn.body with
      | none => rfl
      | some c =>
        simp only [zCall, frameK_eq, forceN_eq, forceL1_eq, frame, enterH, Array.length_toList]
        generalize self (.code none c _) = y
        unfold zLeave
        rcases y with _ | y
        · rfl
        · cases y with
          | ex e s => cases e <;> rfl
          | _ => rfl
  | code rd c s =>
    cases c with
    | seq a b =>
      simp only [stepQ, zCode, stepF]
      generalize self (.code rd a s) = y
      rcases y with _ | y
      · rfl
      · cases y with
        | ex e s => cases e <;> rfl
        | _ => rfl
    | cond c x y =>
      simp only [stepQ, zCode, stepF]
      cases okO c with
      | false => rfl
      | true =>
        simp only [(cO c).ok, zCond, if_true]
        generalize evalT s.t c = v
        cases v with
        | bool b =>
          cases b with
          | true =>
            simp only
            generalize self (.code rd x s) = y
            rcases y with _ | y
            · rfl
            · cases y <;> rfl
          | false =>
            simp only
            generalize self (.code rd y s) = y
            rcases y with _ | y
            · rfl
            · cases y <;> rfl
        | _ => rfl
    | block id c =>
      simp only [stepQ, zCode, stepF]
      generalize self (.code rd c s) = y
      rcases y with _ | y
      · rfl
      · cases y with
        | ex e s => cases e <;> rfl
        | _ => rfl
    | loop c =>
      simp only [stepQ, zCode, stepF]
      generalize self (.code rd c s) = y
      rcases y with _ | y
      · rfl
      · cases y with
        | ex e s => cases e <;> (first | rfl | (simp only [zLoop, zEx]; split <;> simp_all))
        | _ => rfl
    | region id os dr =>
      simp only [stepQ, zCode, stepF]
      cases dr with
      | false => exact (cL P os (List.range os.size)).ok self rd s
      | true => rfl
    | _ => rfl
def iterQ (drawn : Program → Self → Option Nat → Nat → Array Oper → St → Option Out) (P : Program) (n : Nat) : Self :=
  Nat.rec (motive := fun _ => Self) (fun _ => none) (fun _ ih => stepQ drawn P ih) n
theorem iterQ_eq (drawn : Program → Self → Option Nat → Nat → Array Oper → St → Option Out) (P : Program) : ∀ n, iterQ drawn P n = iter drawn P n
  | 0 => rfl
  | n + 1 => by
    show stepQ drawn P (iterQ drawn P n) = stepF drawn P (iter drawn P n)
    rw [iterQ_eq drawn P n]
    exact funext fun t => stepQ_eq drawn P _ t
end
end Go.Gi

namespace Go.Gi
open Go.RowKit
noncomputable section
def loudS (o : Oper) : Bool :=
  match o.op with
  | .alloc _ | .box _ _ | .buildSlice _ _ _ | .store _ _ _ | .convert _ _ _ | .makeMap _ _ | .mapUpdate _ _ _ _ | .insert _ _ _ _ => true
  | .call { callee := .builtin b, .. } => (match b with | .len | .cap | .max | .min => false | _ => true)
  | .call _ => true
  | _ => false
def dstOk1 (os : Array Oper) (clo : List Nat) (i j : Nat) : Bool :=
  i == j || match os[i]?, os[j]? with
    | some a, some b => (match a.dst with
      | some t => (b.dst != some t) && (!(looks os b).contains t || cl clo j i || cl clo i j)
      | none => true)
    | _, _ => true
def dstOk (os : Array Oper) (clo : List Nat) : Bool := (List.range os.size).all fun i => (List.range os.size).all fun j => dstOk1 os clo i j
def need1 (os : Array Oper) (clo : List Nat) (i j : Nat) : Bool :=
  match os[i]?, os[j]? with
  | some a, some b => loudS a && (loudS b || memOp b.op) && unord clo i j
  | _, _ => false
def need (os : Array Oper) (clo : List Nat) : List (Nat × Nat) :=
  (List.range os.size).flatMap fun i => ((List.range os.size).filter fun j => need1 os clo i j).map fun j => (i, j)
def dchkQ (P : Program) (os : Array Oper) (clo : List Nat) (recs : List Rec) : Bool :=
  dstOk os clo && recs.all (fun r => !r.loud || loudS r.o) && (need os clo).all fun x => recs.all fun r => !(r.i == x.1) || recs.all fun q => !(q.i == x.2) || pairOk P os clo r q
theorem dchkQ_ok {P : Program} {os : Array Oper} {clo : List Nat} {recs : List Rec} (ho : ∀ r ∈ recs, os[r.i]? = some r.o) (h : dchkQ P os clo recs = true) : dchk P os clo recs = true := by
  simp only [dchkQ, Bool.and_eq_true, List.all_eq_true] at h
  obtain ⟨⟨h1, h2⟩, h3⟩ := h
  simp only [dchk, List.all_eq_true]
  intro r hr q hq
  have hri := ho r hr
  have hqi := ho q hq
  have hrl : r.i < os.size := (Array.getElem?_eq_some_iff.1 hri).1
  have hql : q.i < os.size := (Array.getElem?_eq_some_iff.1 hqi).1
  by_cases hn : need1 os clo r.i q.i = true
  · have hm : (r.i, q.i) ∈ need os clo := by
      simp only [need, List.mem_flatMap, List.mem_map, List.mem_filter, List.mem_range]
      exact ⟨r.i, hrl, q.i, ⟨hql, hn⟩, rfl⟩
    have := h3 _ hm r hr
    simp only [beq_self_eq_true, Bool.not_true, Bool.false_or, List.all_eq_true] at this
    have := this q hq
    simpa using this
  · have hd : dstOk1 os clo r.i q.i = true := by
      simp only [dstOk, List.all_eq_true, List.mem_range] at h1
      exact h1 r.i hrl q.i hql
    simp only [dstOk1, hri, hqi] at hd
    simp only [need1, hri, hqi] at hn
    unfold pairOk
    cases he : r.i == q.i with
    | true => rfl
    | false =>
      rw [he, Bool.false_or] at hd
      rw [Bool.false_or, Bool.and_eq_true]
      refine ⟨hd, ?_⟩
      have hl1 := h2 r hr
      have hl2 := h2 q hq
      cases hrL : r.loud with
      | false => rfl
      | true =>
        simp only [hrL, Bool.not_true, Bool.false_or] at hl1
        simp only [hl1, Bool.true_and] at hn
        cases hu : unord clo r.i q.i with
        | false => simp
        | true =>
          simp only [hu, Bool.and_true, Bool.or_eq_true, not_or, Bool.not_eq_true] at hn
          cases hqL : q.loud with
          | true => simp only [hqL, hn.1, Bool.not_true, Bool.or_false] at hl2; cases hl2
          | false => simp [hn.2]
def drawnQ (P : Program) (self : Self) (_ : Option Nat) (_ : Nat) (os : Array Oper) (s : St) : Option Out :=
  if planOk os (Region.linearise .any os 0) (mkClo os (Region.linearise .any os 0) (List.replicate os.size 0)) then
    match drun P self os (Region.linearise .any os 0) s.t s.h with
    | some (recs, T, h) => if dchkQ P os (mkClo os (Region.linearise .any os 0) (List.replicate os.size 0)) recs then some (.ex .normal { s with t := T, h := h }) else none
    | none => none
  else none
theorem drawnQ_le {P : Program} {self : Self} {rd : Option Nat} {id : Nat} {os : Array Oper} {s : St} {o : Out} (h : drawnQ P self rd id os s = some o) : drawn P self rd id os s = some o := by
  unfold drawnQ at h
  unfold drawn
  split at h
  case isFalse => cases h
  rename_i hp
  rw [if_pos hp]
  split at h
  case h_2 => cases h
  rename_i recs T h1 hr
  split at h
  case isFalse => cases h
  rename_i hc
  rw [hr]
  simp only
  rw [if_pos (dchkQ_ok (fun r hm => ((drun_tr _ _ _ _ _ _ hr).1.recs r hm).1) hc)]
  exact h
theorem drawnQ_ok {P : Program} (hN : NoNG P) (hm : P.follows .mixedOrders = true) : DrawnOk P drawnQ :=
  fun self hs rd id os s o h => drawn_ok hN hm self hs rd id os s o (drawnQ_le h)
end
end Go.Gi

namespace Go.Proofs.Ytjdidbnmkogflaa.Old
open Go.Gi Go.RowKit
noncomputable section
def saysTrue (o : Option Out) : Bool := match o with | some (.ret (.bool true) ⟨[], 0, []⟩) => true | _ => false
theorem saysTrue_iff {o : Option Out} (h : saysTrue o = true) : o = some (.ret (.bool true) ⟨[], 0, []⟩) := by
  unfold saysTrue at h
  split at h
  · rfl
  · cases h
theorem awake_run : saysTrue (iterQ drawnQ Try.prog 600 (.call 24 #[] { bl := [], base := 0, wr := [] })) = true := by kernel_rfl
theorem awakeFact : Fact Try.prog (.call 24 #[] ⟨[], 0, []⟩) (.ret (.bool true) ⟨[], 0, []⟩) := by
  have h := saysTrue_iff awake_run
  rw [iterQ_eq] at h
  exact ⟨(iter_ok noNG (drawnQ_ok noNG mixed) 600).1 _ _ h, trivial⟩
end
end Go.Proofs.Ytjdidbnmkogflaa.Old

namespace Go.Proofs.Ytjdidbnmkogflaa
open Go.Gi Go.RowKit Go.Proofs.Ytjdidbnmkogflaa.Old
noncomputable section
def p24V : Ans
  | .call g ⟨[]⟩ h => (match Nat.beq g 24 with
    | true => some (.leaf (.ret (.bool true) h))
    | false => none)
  | _ => none
theorem known24V : Known Try.prog p24V := by
  intro t xx o hh ho
  unfold p24V at hh
  split at hh
  case h_2 => cases hh
  rename_i g h
  split at hh
  case h_2 => cases hh
  rename_i hg
  simp only [Option.some.injEq] at hh
  subst hh
  simp only [AT.out, Option.some.injEq] at ho
  subst ho
  rw [Nat.eq_of_beq_eq_true hg]
  exact Fact.lift (zs := []) awakeFact rfl rfl h
end
end Go.Proofs.Ytjdidbnmkogflaa

namespace Go.Proofs.Ytjdidbnmkogflaa
open Go.Gi Go.RowKit Go.Proofs.Ytjdidbnmkogflaa.Old
noncomputable section
set_option maxRecDepth 100000
set_option maxHeartbeats 4000000
set_option linter.unusedVariables false
set_option linter.unusedSimpArgs false
structure R7 where
  r0 : Bool
structure A7 where
  a0 : Array Value
  a1 : Nat
  a2 : Nat
  a3 : Array Value
  a4 : Nat
  a5 : Nat
  a6 : Array Value
  a7 : Nat
  a8 : Nat
  a9 : Int
  a10 : Int
  a11 : Int
  a12 : Int
  a13 : Int
noncomputable def rt7 (a0 : Array Value) (a1 : Nat) (a2 : Nat) (a3 : Array Value) (a4 : Nat) (a5 : Nat) (a6 : Array Value) (a7 : Nat) (a8 : Nat) (a9 : Int) (a10 : Int) (a11 : Int) (a12 : Int) (a13 : Int) : RT R7 :=
  .br (F38_ok (a0) a1 a2 (a3) a4 a5 (a6) a7 a8 a9 a10 a11 a12 a13)
 (.br (F39_ok (a0) a1 a2 (a3) a4 a5 (a6) a7 a8 a9 a10 a11 a12 a13)
 (.br (F33_ok (F38_0 (a0) a1 a2 (a3) a4 a5 (a6) a7 a8 a9 a10 a11 a12 a13) (F38_1 (a0) a1 a2 (a3) a4 a5 (a6) a7 a8 a9 a10 a11 a12 a13) (F38_2 (a0) a1 a2 (a3) a4 a5 (a6) a7 a8 a9 a10 a11 a12 a13) (F39_0 (a0) a1 a2 (a3) a4 a5 (a6) a7 a8 a9 a10 a11 a12 a13) (F39_1 (a0) a1 a2 (a3) a4 a5 (a6) a7 a8 a9 a10 a11 a12 a13) (F39_2 (a0) a1 a2 (a3) a4 a5 (a6) a7 a8 a9 a10 a11 a12 a13))
 (.br (F33_0 (F38_0 (a0) a1 a2 (a3) a4 a5 (a6) a7 a8 a9 a10 a11 a12 a13) (F38_1 (a0) a1 a2 (a3) a4 a5 (a6) a7 a8 a9 a10 a11 a12 a13) (F38_2 (a0) a1 a2 (a3) a4 a5 (a6) a7 a8 a9 a10 a11 a12 a13) (F39_0 (a0) a1 a2 (a3) a4 a5 (a6) a7 a8 a9 a10 a11 a12 a13) (F39_1 (a0) a1 a2 (a3) a4 a5 (a6) a7 a8 a9 a10 a11 a12 a13) (F39_2 (a0) a1 a2 (a3) a4 a5 (a6) a7 a8 a9 a10 a11 a12 a13))
 (.br ((F38_3 (a0) a1 a2 (a3) a4 a5 (a6) a7 a8 a9 a10 a11 a12 a13) == (F39_3 (a0) a1 a2 (a3) a4 a5 (a6) a7 a8 a9 a10 a11 a12 a13))
 (.br (decide ((F38_4 (a0) a1 a2 (a3) a4 a5 (a6) a7 a8 a9 a10 a11 a12 a13) = (F39_4 (a0) a1 a2 (a3) a4 a5 (a6) a7 a8 a9 a10 a11 a12 a13)))
 (.leaf ⟨true⟩)
 (.leaf ⟨false⟩))
 (.leaf ⟨false⟩))
 (.leaf ⟨false⟩))
 (.no))
 (.no))
 (.no)
noncomputable def en7 (r : R7) : Value := (.bool r.r0)
theorem T7  (a0 : Array Value) (a1 : Nat) (a2 : Nat) (a3 : Array Value) (a4 : Nat) (a5 : Nat) (a6 : Array Value) (a7 : Nat) (a8 : Nat) (a9 : Int) (a10 : Int) (a11 : Int) (a12 : Int) (a13 : Int) : evC Try.prog (Ans.c (p24V.or (p33.or (p38.or p39)))) 60 (.call 7 ⟨[(.agg ⟨[(lstV a0 a1 a2 7), (lstV a3 a4 a5 5), (lstV a6 a7 a8 1), (.int .i64 a9), (.int .i64 a10)]⟩), (.agg ⟨[(.int .i64 a11), (.int .i64 a12), (.int .i64 a13)]⟩)]⟩ ⟨[], 0, []⟩) (frzK [0]) = (rt7 a0 a1 a2 a3 a4 a5 a6 a7 a8 a9 a10 a11 a12 a13).out (fun r => .ret (en7 r) ⟨[], 0, []⟩) := by kernel_rfl
noncomputable def F7 (a0 : Array Value) (a1 : Nat) (a2 : Nat) (a3 : Array Value) (a4 : Nat) (a5 : Nat) (a6 : Array Value) (a7 : Nat) (a8 : Nat) (a9 : Int) (a10 : Int) (a11 : Int) (a12 : Int) (a13 : Int) : Option R7 := (rt7 a0 a1 a2 a3 a4 a5 a6 a7 a8 a9 a10 a11 a12 a13).val
section
variable (a0 : Array Value) (a1 : Nat) (a2 : Nat) (a3 : Array Value) (a4 : Nat) (a5 : Nat) (a6 : Array Value) (a7 : Nat) (a8 : Nat) (a9 : Int) (a10 : Int) (a11 : Int) (a12 : Int) (a13 : Int)
noncomputable def F7_ok : Bool := (F7 a0 a1 a2 a3 a4 a5 a6 a7 a8 a9 a10 a11 a12 a13).isSome
noncomputable def F7_0 : Bool := match F7 a0 a1 a2 a3 a4 a5 a6 a7 a8 a9 a10 a11 a12 a13 with | some r => r.r0 | none => false
end
noncomputable def dec7 : Task → Option (A7 × Hp)
  | .call g ⟨[(.agg ⟨[(.func (.via 0 ⟨[]⟩ 0 true) a0 ⟨[.slice (some ⟨0, a1, none⟩) a2 7]⟩), (.func (.via 0 ⟨[]⟩ 0 true) a3 ⟨[.slice (some ⟨0, a4, none⟩) a5 5]⟩), (.func (.via 0 ⟨[]⟩ 0 true) a6 ⟨[.slice (some ⟨0, a7, none⟩) a8 1]⟩), (.int .i64 a9), (.int .i64 a10)]⟩), (.agg ⟨[(.int .i64 a11), (.int .i64 a12), (.int .i64 a13)]⟩)]⟩ h => (match Nat.beq g 7 with | true => some (⟨a0, a1, a2, a3, a4, a5, a6, a7, a8, a9, a10, a11, a12, a13⟩, h) | false => none)
  | _ => none
noncomputable def alt7 (x : A7) (h : Hp) : AT := .br (F7_ok x.a0 x.a1 x.a2 x.a3 x.a4 x.a5 x.a6 x.a7 x.a8 x.a9 x.a10 x.a11 x.a12 x.a13) (.leaf (.ret (.bool (F7_0 x.a0 x.a1 x.a2 x.a3 x.a4 x.a5 x.a6 x.a7 x.a8 x.a9 x.a10 x.a11 x.a12 x.a13)) h)) .no
noncomputable def p7 : Ans := fnAns dec7 alt7
theorem ha7 : ∀ (x : A7) (h : Hp) (o : Out), (alt7 x h).out = some o → ∃ r, (rt7 x.a0 x.a1 x.a2 x.a3 x.a4 x.a5 x.a6 x.a7 x.a8 x.a9 x.a10 x.a11 x.a12 x.a13).val = some r ∧ o = .ret (en7 r) h := by
  intro x h o e
  unfold alt7 at e
  cases hF : F7 x.a0 x.a1 x.a2 x.a3 x.a4 x.a5 x.a6 x.a7 x.a8 x.a9 x.a10 x.a11 x.a12 x.a13 with
  | none => simp [F7_ok, hF, AT.out] at e
  | some r =>
    refine ⟨r, hF, ?_⟩
    simp only [F7_ok, F7_0, hF, AT.out, Option.isSome_some, cond_true, Option.some.injEq] at e
    rw [← e]; rfl
theorem hd7 : ∀ (t : Task) (x : A7) (h : Hp), dec7 t = some (x, h) → t = .call 7 ⟨[(.agg ⟨[(lstV x.a0 x.a1 x.a2 7), (lstV x.a3 x.a4 x.a5 5), (lstV x.a6 x.a7 x.a8 1), (.int .i64 x.a9), (.int .i64 x.a10)]⟩), (.agg ⟨[(.int .i64 x.a11), (.int .i64 x.a12), (.int .i64 x.a13)]⟩)]⟩ h := by
  intro t x h e
  unfold dec7 at e
  split at e
  case h_2 => cases e
  split at e
  case h_2 => cases e
  rename_i hg
  simp only [Option.some.injEq, Prod.mk.injEq] at e
  obtain ⟨rfl, rfl⟩ := e
  rw [Nat.eq_of_beq_eq_true hg]
theorem known7 : Known Try.prog p7 := by
  exact Known.fn noNG mixed (Known.or known24V (Known.or known33 (Known.or known38 known39))) (n := 60) (zs := [0]) 7 (fun x : A7 => [(.agg ⟨[(lstV x.a0 x.a1 x.a2 7), (lstV x.a3 x.a4 x.a5 5), (lstV x.a6 x.a7 x.a8 1), (.int .i64 x.a9), (.int .i64 x.a10)]⟩), (.agg ⟨[(.int .i64 x.a11), (.int .i64 x.a12), (.int .i64 x.a13)]⟩)]) (fun x => rt7 x.a0 x.a1 x.a2 x.a3 x.a4 x.a5 x.a6 x.a7 x.a8 x.a9 x.a10 x.a11 x.a12 x.a13) en7 (fun x => T7  x.a0 x.a1 x.a2 x.a3 x.a4 x.a5 x.a6 x.a7 x.a8 x.a9 x.a10 x.a11 x.a12 x.a13) (fun x => rfl) dec7 alt7 hd7 ha7
end
end Go.Proofs.Ytjdidbnmkogflaa

namespace Go.Proofs.Ytjdidbnmkogflaa
open Go.ChangeShapes Go.WideShapes Go.ChangeAt Go.RowKit Go.Gi Go.Proofs.Ytjdidbnmkogflaa.Old
set_option linter.unusedVariables false
def True7 : Prop := ∀ (c1 : Array Value) (n1 : Nat) (c2 : Array Value) (n2 : Nat) (c3 : Array Value) (n3 : Nat) (age shear x0 x1 x2 : Int), GL L7 7 c1 n1 → GL L5 5 c2 n2 → GL L1 1 c3 n3 →
  (Lit.int .i64 age).wf = true → (Lit.int .i64 shear).wf = true → (Lit.int .i64 x0).wf = true → (Lit.int .i64 x1).wf = true → (Lit.int .i64 x2).wf = true →
  (rt7 c1 0 n1 c2 0 n2 c3 0 n3 age shear x0 x1 x2).val = some ⟨true⟩
theorem law7 (hm : True7) {c1 c2 c3 : Array Value} {n1 n2 n3 : Nat} {age shear x0 x1 x2 : Int} (h1 : GL L7 7 c1 n1) (h2 : GL L5 5 c2 n2) (h3 : GL L1 1 c3 n3) (w0 : (Lit.int .i64 age).wf = true) (w1 : (Lit.int .i64 shear).wf = true) (w2 : (Lit.int .i64 x0).wf = true) (w3 : (Lit.int .i64 x1).wf = true) (w4 : (Lit.int .i64 x2).wf = true) :
    Fact Try.prog (.call 7 ⟨[(.agg ⟨[(lstV c1 0 n1 7), (lstV c2 0 n2 5), (lstV c3 0 n3 1), (.int .i64 age), (.int .i64 shear)]⟩), (.agg ⟨[(.int .i64 x0), (.int .i64 x1), (.int .i64 x2)]⟩)]⟩ ⟨[], 0, []⟩) (.ret (.bool true) ⟨[], 0, []⟩) := by
  have e := hm c1 n1 c2 n2 c3 n3 age shear x0 x1 x2 h1 h2 h3 w0 w1 w2 w3 w4
  refine known7 _ (alt7 ⟨c1, 0, n1, c2, 0, n2, c3, 0, n3, age, shear, x0, x1, x2⟩ ⟨[], 0, []⟩) _ rfl ?_
  have e1 : F7 c1 0 n1 c2 0 n2 c3 0 n3 age shear x0 x1 x2 = some ⟨true⟩ := e
  simp only [alt7, F7_ok, F7_0, e1, AT.out, Option.isSome_some, cond_true]
set_option maxRecDepth 100000 in
theorem lifted7 (hm : True7) (os : Os) (started : os.Started) (H : Type) (enc : TypeId × Value → H) :
    ReturnsInHanded {} Try.checked os 7 .any (Rows.windBlamesSpec.pre6 enc Try.prog Try.f7 Rows.windBlamesRow.domain false) (Rows.windBlamesSpec.post enc Try.prog Try.f7 false true false false) := by
  refine returnsInHanded_of_change (C := Try.checked) own started (by kernel_rfl) Try.func7
    (ChangeSpec.witness6 (enc := enc) (C := Try.checked) false ⟨#[], #[.agg #[.slice none 0 0, .slice none 0 0, .slice none 0 0, .int .i64 0, .int .i64 0], .agg #[.int .i64 0, .int .i64 0, .int .i64 0]], []⟩ 8 (by kernel_rfl) (by kernel_rfl) (by kernel_rfl) (by kernel_rfl)) ?_
  intro W base args ds gs before hval0 hW hcnd _
  have hval : ∀ (j : Nat) t v, Try.f7.params[j]? = some t → args[j]? = some v → Value.okWide Try.prog W .any base t v := hval0
  have hW' := hW
  obtain ⟨p, q, hA0, hV, rfl, hfz, hnd⟩ := hW
  have hA : DataW.TrodAll enc Try.prog W 0 (fun _ => true) true Try.f7.params.toList args.toList ds p := hA0
  rw [Try.params7] at hA hval
  obtain ⟨v0, vs0, d0, ds0, p0, q0, hargs, rfl, rfl, h0, r0⟩ := trodAll_cons hA
  obtain ⟨v1, vs1, d1, ds1, p1, q1, rfl, rfl, rfl, h1, r1⟩ := trodAll_cons r0
  obtain ⟨rfl, rfl, rfl⟩ := trodAll_nil r1
  obtain rfl : args = #[v0, v1] := by cases args; simp_all
  obtain ⟨rfl, rfl⟩ := trodVars_none hV
  have k0 := h0
  have k1 := h1
  have lt0 : ∀ x ∈ p0, x.block < W.heap.size := by obtain ⟨m, hm⟩ := k0; exact DataW.trod_lt m _ _ _ hm
  have lt1 : ∀ x ∈ p1, x.block < W.heap.size := by obtain ⟨m, hm⟩ := k1; exact DataW.trod_lt m _ _ _ hm
  obtain ⟨abs, u0, c1, n1, c2, n2, c3, n3, age, shear, rfl, g1, g2, g3, w4, w5⟩ := tskArg (hval 0 26 v0 rfl rfl) h0
  obtain ⟨x0, x1, x2, u1, y0, y1, y2⟩ := threeArg (hval 1 50 v1 rfl rfl) h1
  clear hA0 hval0
  refine (calls_frozen (law7 hm (age := age) (shear := shear) (x0 := x0) (x1 := x1) (x2 := x2) g1 g2 g3 w4 w5 y0 y1 y2) rfl (((VRs.nil _).push u0).push u1)).mono fun e W' ⟨he, bel⟩ => ?_
  subst he
  exact ⟨_, rfl, _, _, _, [], _, [], hW', trodAll_mk1 (shut_bool Try.underlying4 _), (trodAll_cons_mk (Below.trod laidOut (by kernel_rfl) (of_decide_eq_true (by kernel_rfl)) k0 bel lt0) (trodAll_cons_mk (Below.trod laidOut (by kernel_rfl) (of_decide_eq_true (by kernel_rfl)) k1 bel lt1) trodAll_mk0)), rfl, bel.frame _, fun h => by cases h⟩
theorem over7 (hm : True7) : Rows.windBlamesRow.holds Try.pinned (OpenSpec.ofChange Rows.windBlamesSpec) :=
  OpenClaim.holds_of_wide 7 Try.f7 rfl rfl rfl rfl rfl rfl rfl ⟨rfl, rfl, rfl, rfl, rfl⟩ rfl rfl rfl rfl rfl (by kernel_rfl) Try.func7 (by kernel_rfl)
    (of_decide_eq_true (by kernel_rfl)) (by unfold Func.isWrapper; first | (rw [if_pos (by decide +kernel)]; kernel_rfl) | (rw [if_neg (by decide +kernel)]; exact ⟨rfl, rfl⟩))
    (fun os started H enc _ => lifted7 hm os started H enc)
theorem blames_of (hm : True7) : Rows.WindBlamesSaid := over7 hm
end Go.Proofs.Ytjdidbnmkogflaa

namespace Go.Proofs.Ytjdidbnmkogflaa
open Go.Gi Go.RowKit
noncomputable section
set_option maxRecDepth 100000
theorem loop33 {c : Array Value} {o n : Nat} (hc : ∀ i, i < n → isInt .i64 c (o + i) = true) (hn : n ≤ maxLen) : ∀ (k : Nat) (i : Nat), i + k = n →
    loopR (fun x : X33_0 => rd33_0 x.v0 x.v1 x.v2 x.v3 x.v4 x.v5 x.v6) ⟨c, o, n, c, o, n, (i : Int)⟩ = some .k1
  | 0, i, h => loopR_done (by
      have h1 : ¬ ((i : Int) < (n : Int)) := by omega
      simp [rd33_0, RT.val, h1])
  | k + 1, i, h => by
    refine (loopR_next (y := ⟨c, o, n, c, o, n, ((i + 1 : Nat) : Int)⟩) ?_).trans (loop33 hc hn k (i + 1) (by omega))
    have h1 : ((i : Int) < (n : Int)) := by omega
    have h2 : (0 : Int) ≤ (i : Int) := by omega
    have hm : maxLen = 9223372036854775807 := rfl
    have h3 : IntKind.wrap .i64 ((i : Int) + 1) = ((i + 1 : Nat) : Int) := by
      rw [wrap64_id (by omega) (by omega)]; omega
    have h4 : isInt .i64 c (o + i) = true := hc i (by omega)
    simp [rd33_0, RT.val, h1, h2, h3, h4]
theorem ints_self {c : Array Value} {o n : Nat} (hc : ∀ i, i < n → isInt .i64 c (o + i) = true) (hn : n ≤ maxLen) : (rt33 c o n c o n).val = some ⟨true⟩ := by
  have h := loop33 hc hn n 0 (by omega)
  have h1 : L33_0 c o n c o n 0 = some .k1 := h
  simp [rt33, RT.val, eqCode_self, L33_0_k0, L33_0_k1, h1]
theorem F33_self {c : Array Value} {o n : Nat} (hc : ∀ i, i < n → isInt .i64 c (o + i) = true) (hn : n ≤ maxLen) : F33_ok c o n c o n = true ∧ F33_0 c o n c o n = true := by
  have h : F33 c o n c o n = some ⟨true⟩ := ints_self hc hn
  exact ⟨by simp [F33_ok, h], by simp [F33_0, h]⟩
end
end Go.Proofs.Ytjdidbnmkogflaa

namespace Go.Proofs.Ytjdidbnmkogflaa
open Go.Gi Go.RowKit Go.Proofs.Ytjdidbnmkogflaa.Old
noncomputable section
set_option maxRecDepth 100000
set_option linter.unusedVariables false
set_option linter.unusedSimpArgs false
section
variable {c0 c c3 : Array Value} {n n2 n3 : Nat} {age shear lo hi tick now : Int}
theorem F89_eq (hv : Vld c0 0 n c 0 n2 age shear) (hok : F81ok c0 0 n c 0 n2 c3 0 n3 age shear lo hi tick now = true) :
    F89_ok c0 0 n c 0 n2 c3 0 n3 age shear lo hi tick now = true ∧ F89_0 c0 0 n c 0 n2 c3 0 n3 age shear lo hi tick now = arrI (cul c0 c n2 age shear lo hi tick now n 0) ∧
    F89_1 c0 0 n c 0 n2 c3 0 n3 age shear lo hi tick now = 0 ∧ F89_2 c0 0 n c 0 n2 c3 0 n3 age shear lo hi tick now = (cul c0 c n2 age shear lo hi tick now n 0).length := by
  have hL := loop89 hv hok n 0 [] (by omega) (by simp)
  have hL' : L89_0 none (Int.ofNat n) 0 c0 0 n c 0 n2 c3 0 n3 age shear lo hi tick now = _ := hL
  have h : F89 c0 0 n c 0 n2 c3 0 n3 age shear lo hi tick now = some ⟨arrI (cul c0 c n2 age shear lo hi tick now n 0), 0, (cul c0 c n2 age shear lo hi tick now n 0).length⟩ := by
    unfold F89 rt89
    simp only [RT.val, eqCode_self, cond_true, L89_0_k0, L89_0_k0_0, L89_0_k0_1, L89_0_k0_2, hL', List.nil_append]
  exact ⟨by simp [F89_ok, h], by simp [F89_0, h], by simp [F89_1, h], by simp [F89_2, h]⟩
theorem F90_no (hv : Vld c0 0 n c 0 n2 age shear) (hq : Qst lo hi tick now) (he : emp (all c0 c n2 age shear lo hi tick now (chB 128 (-1)))  = true) :
    F90_ok c0 0 n c 0 n2 c3 0 n3 age shear lo hi tick now = true ∧ F90_0 c0 0 n c 0 n2 c3 0 n3 age shear lo hi tick now = arrI (cul c0 c n2 age shear lo hi tick now n 0) ∧
    F90_1 c0 0 n c 0 n2 c3 0 n3 age shear lo hi tick now = 0 ∧ F90_2 c0 0 n c 0 n2 c3 0 n3 age shear lo hi tick now = (cul c0 c n2 age shear lo hi tick now n 0).length ∧ F90_3 c0 0 n c 0 n2 c3 0 n3 age shear lo hi tick now = false := by
  obtain ⟨f1, f2⟩ := F122_of (c3 := c3) (n3 := n3) (out := -1) hv hq
  rw [he] at f2
  have h : F90 c0 0 n c 0 n2 c3 0 n3 age shear lo hi tick now = some ⟨arrI (cul c0 c n2 age shear lo hi tick now n 0), 0, (cul c0 c n2 age shear lo hi tick now n 0).length, false⟩ := by
    unfold F90 rt90
    rw [f2, f1]
    have hL := loop90 hv hq (c3 := c3) (n3 := n3) (F122_0 c0 0 n c 0 n2 c3 0 n3 age shear (-1) lo hi tick now) (F122_1 c0 0 n c 0 n2 c3 0 n3 age shear (-1) lo hi tick now) (F122_2 c0 0 n c 0 n2 c3 0 n3 age shear (-1) lo hi tick now) (F122_3 c0 0 n c 0 n2 c3 0 n3 age shear (-1) lo hi tick now) n 0 [] (by omega) (by simp)
    have hL' : L90_0 none lo hi tick now false 0 c0 0 n c 0 n2 c3 0 n3 age shear (F122_0 c0 0 n c 0 n2 c3 0 n3 age shear (-1) lo hi tick now) (F122_1 c0 0 n c 0 n2 c3 0 n3 age shear (-1) lo hi tick now) (F122_2 c0 0 n c 0 n2 c3 0 n3 age shear (-1) lo hi tick now) (F122_3 c0 0 n c 0 n2 c3 0 n3 age shear (-1) lo hi tick now) = _ := hL
    simp only [RT.val, eqCode_self, cond_true, Bool.not_true, L90_0_k0, L90_0_k0_0, L90_0_k0_1, L90_0_k0_2, L90_0_k0_3, hL', List.nil_append]
  exact ⟨by simp [F90_ok, h], by simp [F90_0, h], by simp [F90_1, h], by simp [F90_2, h], by simp [F90_3, h]⟩
theorem F90_yes (hv : Vld c0 0 n c 0 n2 age shear) (hq : Qst lo hi tick now) (he : emp (all c0 c n2 age shear lo hi tick now (chB 128 (-1)))  = false) :
    F90_ok c0 0 n c 0 n2 c3 0 n3 age shear lo hi tick now = true ∧ F90_0 c0 0 n c 0 n2 c3 0 n3 age shear lo hi tick now = ⟨[]⟩ ∧
    F90_1 c0 0 n c 0 n2 c3 0 n3 age shear lo hi tick now = 0 ∧ F90_2 c0 0 n c 0 n2 c3 0 n3 age shear lo hi tick now = 0 ∧ F90_3 c0 0 n c 0 n2 c3 0 n3 age shear lo hi tick now = true := by
  obtain ⟨f1, f2⟩ := F122_of (c3 := c3) (n3 := n3) (out := -1) hv hq
  rw [he] at f2
  have h : F90 c0 0 n c 0 n2 c3 0 n3 age shear lo hi tick now = some ⟨⟨[]⟩, 0, 0, true⟩ := by
    unfold F90 rt90
    rw [f2, f1]
    have hL' : ∀ (a b x y : Int), L90_0 none lo hi tick now true 0 c0 0 n c 0 n2 c3 0 n3 age shear a b x y = some (.k0 true ⟨[]⟩ 0 0 c0 0 n c 0 n2 c3 0 n3 age shear a b x y) := fun a b x y => by
      unfold L90_0
      refine loopR_done ?_
      by_cases h : (0 : Int) < (n : Int) <;> simp only [rd90_0, RT.val, Int.ofNat_eq_natCast, h, decide_true, decide_false, Bool.not_true, cond_true, cond_false]
    simp only [RT.val, eqCode_self, cond_true, Bool.not_false, L90_0_k0, L90_0_k0_0, L90_0_k0_1, L90_0_k0_2, L90_0_k0_3, hL', List.nil_append]
  exact ⟨by simp [F90_ok, h], by simp [F90_0, h], by simp [F90_1, h], by simp [F90_2, h], by simp [F90_3, h]⟩
end
end
end Go.Proofs.Ytjdidbnmkogflaa

namespace Go.Proofs.Ytjdidbnmkogflaa
open Go.Gi Go.RowKit Go.Proofs.Ytjdidbnmkogflaa.Old
noncomputable section
set_option maxRecDepth 100000
set_option linter.unusedVariables false
set_option linter.unusedSimpArgs false
section
variable {c0 c c3 : Array Value} {n n2 n3 : Nat} {age shear k x y : Int}
def blm (c0 c c3 : Array Value) (n n2 n3 : Nat) (age shear k x y : Int) : List Int × Bool × Int :=
  if F20_2 c0 0 n c 0 n2 c3 0 n3 age shear = 0 then
    (if qErr n3 k x y = 0 then (if emp (all c0 c n2 age shear (wLo c3 k) (wHi c3 k) x y (chB 128 (-1))) = true then (cul c0 c n2 age shear (wLo c3 k) (wHi c3 k) x y n 0, false, 0) else ([], true, 0)) else ([], false, qErr n3 k x y))
  else ([], false, F20_2 c0 0 n c 0 n2 c3 0 n3 age shear)
theorem F80_of (g : GL L1 1 c3 n3) (h : qErr n3 k x y = 0) : F80_ok c0 0 n c 0 n2 c3 0 n3 age shear k x y = true ∧ F80_0 c0 0 n c 0 n2 c3 0 n3 age shear k x y = wLo c3 k ∧ F80_1 c0 0 n c 0 n2 c3 0 n3 age shear k x y = wHi c3 k ∧
    F80_2 c0 0 n c 0 n2 c3 0 n3 age shear k x y = x ∧ F80_3 c0 0 n c 0 n2 c3 0 n3 age shear k x y = y ∧ F80_4 c0 0 n c 0 n2 c3 0 n3 age shear k x y = 0 := by
  have e := F80_eq (c1 := c0) (c2 := c) (n1 := n) (n2 := n2) (age := age) (shear := shear) (k := k) (x := x) (y := y) g
  rw [if_pos h] at e
  exact ⟨by simp [F80_ok, e], by simp [F80_0, e], by simp [F80_1, e], by simp [F80_2, e], by simp [F80_3, e], by simp [F80_4, e]⟩
theorem F80_err (g : GL L1 1 c3 n3) (h : ¬ qErr n3 k x y = 0) : F80_ok c0 0 n c 0 n2 c3 0 n3 age shear k x y = true ∧ F80_4 c0 0 n c 0 n2 c3 0 n3 age shear k x y = qErr n3 k x y := by
  have e := F80_eq (c1 := c0) (c2 := c) (n1 := n) (n2 := n2) (age := age) (shear := shear) (k := k) (x := x) (y := y) g
  rw [if_neg h] at e
  exact ⟨by simp [F80_ok, e], by simp [F80_4, e]⟩
theorem F38_eq (g1 : GL L7 7 c0 n) (g2 : GL L5 5 c n2) (g3 : GL L1 1 c3 n3) : F38 c0 0 n c 0 n2 c3 0 n3 age shear k x y =
    some ⟨arrI (blm c0 c c3 n n2 n3 age shear k x y).1, 0, (blm c0 c c3 n n2 n3 age shear k x y).1.length, (blm c0 c c3 n n2 n3 age shear k x y).2.1, (blm c0 c c3 n n2 n3 age shear k x y).2.2⟩ := by
  have hok := F20_ok_of (age := age) (shear := shear) g1 g2 g3
  unfold F38 rt38 blm
  by_cases hz : F20_2 c0 0 n c 0 n2 c3 0 n3 age shear = 0
  · rw [if_pos hz]
    by_cases hq : qErr n3 k x y = 0
    · rw [if_pos hq]
      obtain ⟨hv, _, hc⟩ := vld g1 g2 g3 hz
      have hQ := qst hc hq
      obtain ⟨k1, k2, k3, k4, k5, k6⟩ := F80_of (c0 := c0) (c := c) (n := n) (n2 := n2) (age := age) (shear := shear) g3 hq
      have h81 : F81ok c0 0 n c 0 n2 c3 0 n3 age shear (wLo c3 k) (wHi c3 k) x y = true := dec_iff.2 ⟨hok, hz, hQ⟩
      obtain ⟨f1, f2, f3, f4⟩ := F81_of (c3 := c3) (off3 := 0) (n3 := n3) (lo := wLo c3 k) (hi := wHi c3 k) (tick := x) (now := y) (g := 88) (q := 0) hv
      have e88 : all c0 c n2 age shear (wLo c3 k) (wHi c3 k) x y (chB 88 0) = all c0 c n2 age shear (wLo c3 k) (wHi c3 k) x y (chB 128 (-1)) := all_congr fun i hi => by
        have := hv.src i hi
        show true = !decide (getInt c (0 + i * 5) = -1)
        rw [decide_eq_false (by omega)]; rfl
      rw [e88] at f1 f2 f3 f4
      obtain ⟨m1, m2, m3, m4⟩ := F89_eq hv h81
      by_cases he : emp (all c0 c n2 age shear (wLo c3 k) (wHi c3 k) x y (chB 128 (-1))) = true
      · rw [if_pos he]
        unfold emp at he
        simp only [RT.val, hok, hz, k1, k2, k3, k4, k5, k6, h81, f1, f2, f3, f4, (F83_of _ _ _ _).1, (F83_of _ _ _ _).2, he, m1, m2, m3, m4, decide_true, Bool.not_true, cond_true, cond_false]
      · rw [if_neg he]
        unfold emp at he
        rw [Bool.not_eq_true] at he
        simp only [RT.val, hok, hz, k1, k2, k3, k4, k5, k6, h81, f1, f2, f3, f4, (F83_of _ _ _ _).1, (F83_of _ _ _ _).2, he, decide_true, Bool.not_true, Bool.not_false, cond_true, cond_false]
        rfl
    · rw [if_neg hq]
      obtain ⟨k1, k6⟩ := F80_err (c0 := c0) (c := c) (n := n) (n2 := n2) (age := age) (shear := shear) g3 hq
      simp only [RT.val, hok, hz, k1, k6, hq, decide_true, decide_false, Bool.not_true, Bool.not_false, cond_true, cond_false]
      rfl
  · rw [if_neg hz]
    simp only [RT.val, hok, hz, decide_false, Bool.not_false, cond_true]
    rfl
end
end
end Go.Proofs.Ytjdidbnmkogflaa

namespace Go.Proofs.Ytjdidbnmkogflaa
open Go.Gi Go.RowKit Go.Proofs.Ytjdidbnmkogflaa.Old
noncomputable section
set_option maxRecDepth 100000
set_option linter.unusedVariables false
set_option linter.unusedSimpArgs false
section
variable {c0 c c3 : Array Value} {n n2 n3 : Nat} {age shear k x y : Int}
theorem F39_eq (g1 : GL L7 7 c0 n) (g2 : GL L5 5 c n2) (g3 : GL L1 1 c3 n3) : F39 c0 0 n c 0 n2 c3 0 n3 age shear k x y =
    some ⟨arrI (blm c0 c c3 n n2 n3 age shear k x y).1, 0, (blm c0 c c3 n n2 n3 age shear k x y).1.length, (blm c0 c c3 n n2 n3 age shear k x y).2.1, (blm c0 c c3 n n2 n3 age shear k x y).2.2⟩ := by
  have hok := F20_ok_of (age := age) (shear := shear) g1 g2 g3
  unfold F39 rt39 blm
  by_cases hz : F20_2 c0 0 n c 0 n2 c3 0 n3 age shear = 0
  · rw [if_pos hz]
    obtain ⟨hv, hn, hc⟩ := vld g1 g2 g3 hz
    have hw : IntKind.wrap .i64 ((n3 : Int) - 1) = (n3 : Int) - 1 := wrap64_id (by omega) (by omega)
    by_cases hk : k < 0 ∨ (n3 : Int) ≤ k
    · have hq : qErr n3 k x y = 4 := by unfold qErr; rw [if_pos hk]
      have hf : (decide (0 ≤ k) && decide (k ≤ (n3 : Int) - 1)) = false := by
        rw [Bool.and_eq_false_iff, decide_eq_false_iff_not, decide_eq_false_iff_not]; omega
      rw [hq, if_neg (by decide)]
      simp only [RT.val, hok, hz, F63_ok_eq, F63_0_eq, Int.ofNat_eq_natCast, hw, hf, decide_true, Bool.not_false, cond_true]
      rfl
    · have hf : (decide (0 ≤ k) && decide (k ≤ (n3 : Int) - 1)) = true := by
        rw [Bool.and_eq_true, decide_eq_true_eq, decide_eq_true_eq]; omega
      obtain ⟨d1, d2, d3⟩ := F84_of (c1 := c0) (c2 := c) (n1 := n) (n2 := n2) (age := age) (shear := shear) (k := k) g3 (by omega) (by omega)
      by_cases hx : (decide (0 ≤ x) && decide (x ≤ 100000)) = true
      · by_cases hy : (decide (0 ≤ y) && decide (y ≤ 100000)) = true
        · have hq : qErr n3 k x y = 0 := by unfold qErr; rw [if_neg hk, if_pos (by rw [hx, hy]; rfl)]
          have hQ := qst hc hq
          rw [if_pos hq]
          by_cases he : emp (all c0 c n2 age shear (wLo c3 k) (wHi c3 k) x y (chB 128 (-1))) = true
          · rw [if_pos he]
            obtain ⟨m0, m1, m2, m3, m4⟩ := F90_no (c3 := c3) (n3 := n3) hv hQ he
            simp only [RT.val, hok, hz, F63_ok_eq, F63_0_eq, F76_ok_eq, F76_0_eq, Int.ofNat_eq_natCast, hw, hf, hx, hy, d1, d2, d3, m0, m1, m2, m3, m4, decide_true, Bool.not_true, cond_true, cond_false]
          · rw [if_neg he]
            rw [Bool.not_eq_true] at he
            obtain ⟨m0, m1, m2, m3, m4⟩ := F90_yes (c3 := c3) (n3 := n3) hv hQ he
            simp only [RT.val, hok, hz, F63_ok_eq, F63_0_eq, F76_ok_eq, F76_0_eq, Int.ofNat_eq_natCast, hw, hf, hx, hy, d1, d2, d3, m0, m1, m2, m3, m4, decide_true, Bool.not_true, cond_true, cond_false]
            rfl
        · rw [Bool.not_eq_true] at hy
          have hq : qErr n3 k x y = 7 := by unfold qErr; rw [if_neg hk, if_neg (by rw [hx, hy]; decide)]
          rw [hq, if_neg (by decide)]
          simp only [RT.val, hok, hz, F63_ok_eq, F63_0_eq, F76_ok_eq, F76_0_eq, Int.ofNat_eq_natCast, hw, hf, hx, hy, decide_true, Bool.not_true, Bool.not_false, cond_true, cond_false]
          rfl
      · rw [Bool.not_eq_true] at hx
        have hq : qErr n3 k x y = 7 := by unfold qErr; rw [if_neg hk, if_neg (by rw [hx]; simp)]
        rw [hq, if_neg (by decide)]
        simp only [RT.val, hok, hz, F63_ok_eq, F63_0_eq, F76_ok_eq, F76_0_eq, Int.ofNat_eq_natCast, hw, hf, hx, decide_true, Bool.not_true, Bool.not_false, cond_true, cond_false]
        rfl
  · rw [if_neg hz]
    simp only [RT.val, hok, hz, decide_false, Bool.not_false, cond_true, cond_false]
    rfl
theorem cul_len (c0 c : Array Value) (n2 : Nat) (age shear lo hi tick now : Int) : ∀ m k, (cul c0 c n2 age shear lo hi tick now m k).length ≤ m
  | 0, _ => Nat.le_refl _
  | m + 1, k => by
    have := cul_len c0 c n2 age shear lo hi tick now m (k + 1)
    unfold cul
    split
    · omega
    · simp only [List.length_cons]; omega
end
theorem true7 : True7 := by
  intro c1 n1 c2 n2 c3 n3 age shear x0 x1 x2 g1 g2 g3 _ _ _ _ _
  have e1 := F38_eq (age := age) (shear := shear) (k := x0) (x := x1) (y := x2) g1 g2 g3
  have e2 := F39_eq (age := age) (shear := shear) (k := x0) (x := x1) (y := x2) g1 g2 g3
  have hlen : (blm c1 c2 c3 n1 n2 n3 age shear x0 x1 x2).1.length ≤ maxLen := by
    have hm : maxLen = 9223372036854775807 := rfl
    have hf := g1.few
    unfold blm
    split
    · split
      · split
        · have := cul_len c1 c2 n2 age shear (wLo c3 x0) (wHi c3 x0) x1 x2 n1 0
          exact Nat.le_trans this hf
        · simp
      · simp
    · simp
  obtain ⟨s1, s2⟩ := F33_self (c := arrI (blm c1 c2 c3 n1 n2 n3 age shear x0 x1 x2).1) (o := 0) (n := (blm c1 c2 c3 n1 n2 n3 age shear x0 x1 x2).1.length) (fun i hi => isInt_arrI _ hi) hlen
  unfold rt7
  simp only [RT.val, F38_ok, F38_0, F38_1, F38_2, F38_3, F38_4, F39_ok, F39_0, F39_1, F39_2, F39_3, F39_4, e1, e2, s1, s2, Option.isSome_some, beq_self_eq_true, decide_true, cond_true]
theorem windBlamesProved : Rows.WindBlamesSaid := blames_of true7
end
end Go.Proofs.Ytjdidbnmkogflaa

