/- Regions that leave their order open, over values that are not written out. Conditions: none. -/
import Derived.Test.YtplejmmkcfmdcaaGhBg
namespace Go.Gh
open Go.RowKit
noncomputable section

/-- May it be loud? -/
def sLoudS (o : Oper) : Bool :=
  match o.op with
  | .alloc _ | .box _ _ | .buildSlice _ _ _ | .store _ _ _ | .convert _ _ _ | .makeMap _ _ | .mapUpdate _ _ _ _ | .insert _ _ _ _ => true
  | .call { callee := .builtin b, .. } => (match b with | .len | .cap | .max | .min => false | _ => true)
  | .call _ => true
  | _ => false

def sDstOk1 (os : Array Oper) (clo : List Nat) (i j : Nat) : Bool :=
  i == j || match os[i]?, os[j]? with
    | some a, some b => (match a.dst with
      | some t => (b.dst != some t) && (!(looks os b).contains t || cl clo j i || cl clo i j)
      | none => true)
    | _, _ => true
def sDstOk (os : Array Oper) (clo : List Nat) : Bool := (List.range os.size).all fun i => (List.range os.size).all fun j => sDstOk1 os clo i j
def sNeed1 (os : Array Oper) (clo : List Nat) (i j : Nat) : Bool :=
  match os[i]?, os[j]? with
  | some a, some b => sLoudS a && (sLoudS b || memOp b.op) && unord clo i j
  | _, _ => false
def sNeed (os : Array Oper) (clo : List Nat) : List (Nat × Nat) :=
  (List.range os.size).flatMap fun i => ((List.range os.size).filter fun j => sNeed1 os clo i j).map fun j => (i, j)

def sDchkQ (P : Program) (os : Array Oper) (clo : List Nat) (recs : List Rec) : Bool :=
  sDstOk os clo && recs.all (fun r => !r.loud || sLoudS r.o) && (sNeed os clo).all fun x => recs.all fun r => !(r.i == x.1) || recs.all fun q => !(q.i == x.2) || pairOk P os clo r q

theorem sDchkQ_ok {P : Program} {os : Array Oper} {clo : List Nat} {recs : List Rec} (ho : ∀ r ∈ recs, os[r.i]? = some r.o) (h : sDchkQ P os clo recs = true) : dchk P os clo recs = true := by
  simp only [sDchkQ, Bool.and_eq_true, List.all_eq_true] at h
  obtain ⟨⟨h1, h2⟩, h3⟩ := h
  simp only [dchk, List.all_eq_true]
  intro r hr q hq
  have hri := ho r hr
  have hqi := ho q hq
  have hrl : r.i < os.size := (Array.getElem?_eq_some_iff.1 hri).1
  have hql : q.i < os.size := (Array.getElem?_eq_some_iff.1 hqi).1
  by_cases hn : sNeed1 os clo r.i q.i = true
  · have hm : (r.i, q.i) ∈ sNeed os clo := by
      simp only [sNeed, List.mem_flatMap, List.mem_map, List.mem_filter, List.mem_range]
      exact ⟨r.i, hrl, q.i, ⟨hql, hn⟩, rfl⟩
    have := h3 _ hm r hr
    simp only [beq_self_eq_true, Bool.not_true, Bool.false_or, List.all_eq_true] at this
    have := this q hq
    simpa using this
  · have hd : sDstOk1 os clo r.i q.i = true := by
      simp only [sDstOk, List.all_eq_true, List.mem_range] at h1
      exact h1 r.i hrl q.i hql
    simp only [sDstOk1, hri, hqi] at hd
    simp only [sNeed1, hri, hqi] at hn
    unfold pairOk
    cases he : r.i == q.i with
    | true => rfl
    | false =>
      rw [he, Bool.false_or] at hd
      rw [Bool.false_or, Bool.and_eq_true]
      refine ⟨hd, ?_⟩
      have hl1 := h2 r hr
      have hl2 := h2 q hq
      cases hrL : r.loud with
      | false => rfl
      | true =>
        simp only [hrL, Bool.not_true, Bool.false_or] at hl1
        simp only [hl1, Bool.true_and] at hn
        cases hu : unord clo r.i q.i with
        | false => simp
        | true =>
          simp only [hu, Bool.and_true, Bool.or_eq_true, not_or, Bool.not_eq_true] at hn
          cases hqL : q.loud with
          | true => simp only [hqL, hn.1, Bool.not_true, Bool.or_false] at hl2; cases hl2
          | false => simp [hn.2]


/-! ### Is it the same? -/
def veq0C (x y : Value) (k : Option Out) : Option Out :=
  match x, y with
  | .bool a, .bool b => cond (a == b) k none
  | .int p a, .int q b => if p = q then cond (decide (a = b)) k none else none
  | .string a, .string b => cond (decide (a = b)) k none
  | .pointer none, .pointer none => k
  | .pointer (some a), .pointer (some b) => cond (decide (a = b)) k none
  | .slice none l c, .slice none l' c' => cond (decide (l = l') && decide (c = c')) k none
  | .slice (some a) l c, .slice (some b) l' c' => cond (decide (a = b) && (decide (l = l') && decide (c = c'))) k none
  | .map a, .map b => cond (decide (a = b)) k none
  | .nilIface, .nilIface => k
  | .nilFunc, .nilFunc => k
  | _, _ => none
theorem veq0C_ok {x y : Value} {k : Option Out} {r : Out} (h : veq0C x y k = some r) : veq0 x y = true ∧ k = some r := by
  unfold veq0C at h
  split at h
  · obtain ⟨h1, h2⟩ := cond_some h; exact ⟨by simpa [veq0] using h1, h2⟩
  · split at h
    · rename_i hk; obtain ⟨h1, h2⟩ := cond_some h; exact ⟨by simpa [veq0, hk] using h1, h2⟩
    · cases h
  · obtain ⟨h1, h2⟩ := cond_some h; exact ⟨by simpa [veq0] using h1, h2⟩
  · exact ⟨rfl, h⟩
  · obtain ⟨h1, h2⟩ := cond_some h; exact ⟨by simpa [veq0] using h1, h2⟩
  · obtain ⟨h1, h2⟩ := cond_some h; exact ⟨by simpa [veq0] using h1, h2⟩
  · obtain ⟨h1, h2⟩ := cond_some h
    simp only [Bool.and_eq_true, decide_eq_true_eq] at h1
    exact ⟨by simp [veq0, h1], h2⟩
  · obtain ⟨h1, h2⟩ := cond_some h; exact ⟨by simpa [veq0] using h1, h2⟩
  · exact ⟨rfl, h⟩
  · exact ⟨rfl, h⟩
  · cases h
def veqLC : List Value → List Value → Option Out → Option Out
  | [], [], k => k
  | a :: r, b :: s, k => veq0C a b (veqLC r s k)
  | _, _, _ => none
theorem veqLC_ok : ∀ {a b : List Value} {k : Option Out} {r : Out}, veqLC a b k = some r → veqL a b = true ∧ k = some r
  | [], [], _, _, h => ⟨rfl, h⟩
  | [], _ :: _, _, _, h => by cases h
  | _ :: _, [], _, _, h => by cases h
  | a :: l, b :: m, k, r, h => by
    obtain ⟨h1, h2⟩ := veq0C_ok (show veq0C a b (veqLC l m k) = some r from h)
    obtain ⟨h3, h4⟩ := veqLC_ok h2
    exact ⟨by simp [veqL, h1, h3], h4⟩
def veqC (x y : Value) (k : Option Out) : Option Out :=
  match x, y with
  | .agg a, .agg b => veqLC a.toList b.toList k
  | .func (.func f) a b, .func (.func g) c d => if f = g then veqLC a.toList c.toList (veqLC b.toList d.toList k) else none
  | a, b => veq0C a b k
theorem veqC_ok {x y : Value} {k : Option Out} {r : Out} (h : veqC x y k = some r) : veq x y = true ∧ k = some r := by
  unfold veqC at h
  split at h
  · exact veqLC_ok h
  · split at h
    · rename_i hf
      obtain ⟨h1, h2⟩ := veqLC_ok h
      obtain ⟨h3, h4⟩ := veqLC_ok h2
      exact ⟨by simp [veq, hf, h1, h3], h4⟩
    · cases h
  · rename_i h1 h2
    obtain ⟨h3, h4⟩ := veq0C_ok h
    refine ⟨?_, h4⟩
    unfold veq
    split
    · exact (h1 _ _ rfl rfl).elim
    · exact (h2 _ _ _ _ _ _ rfl rfl).elim
    · exact h3

def sameC (P : Program) (T : List Value) (H : List Ob) (o : Oper) (v : Value) (k : Option Out) : Option Out :=
  match symR P (evalT T) H o with
  | some (b, v') => cond b (veqC v' v k) none
  | none => match aread P (evalT T) H o with
    | some v' => veqC v' v k
    | none => none
theorem sameC_ok {P : Program} {T : List Value} {H : List Ob} {o : Oper} {v : Value} {k : Option Out} {r : Out} (h : sameC P T H o v k = some r) : same (aread P (evalT T) H o) v = true ∧ k = some r := by
  unfold sameC at h
  split at h
  · rename_i b v' hs
    obtain ⟨h1, h2⟩ := cond_some h
    obtain ⟨h3, h4⟩ := veqC_ok h2
    rw [symR_ok hs h1]
    exact ⟨h3, h4⟩
  · split at h
    · rename_i v' ha
      rw [ha]
      exact veqC_ok h
    · cases h

/-! ### Two operations -/
def dstP (os : Array Oper) (clo : List Nat) (r q : Rec) : Bool :=
  match r.o.dst with
  | some t => (q.o.dst != some t) && (!(looks os q.o).contains t || cl clo q.i r.i || cl clo r.i q.i)
  | none => true
def pairC (P : Program) (os : Array Oper) (clo : List Nat) (r q : Rec) (k : Option Out) : Option Out :=
  if r.i == q.i then k else
  if dstP os clo r q then
    if r.loud && unord clo r.i q.i then
      if q.loud then none
      else if memOp q.o.op && wantedT os q.T q.o then sameC P q.T r.hb.bl q.o q.v (sameC P q.T r.ha.bl q.o q.v k)
      else k
    else k
  else none
theorem pairC_ok {P : Program} {os : Array Oper} {clo : List Nat} {r q : Rec} {k : Option Out} {x : Out} (h : pairC P os clo r q k = some x) : pairOk P os clo r q = true ∧ k = some x := by
  unfold pairC at h
  show (r.i == q.i || (dstP os clo r q && (!r.loud || (!q.loud || !unord clo r.i q.i) && (q.loud || !memOp q.o.op || !unord clo r.i q.i || !wantedT os q.T q.o ||
    (same (aread P (evalT q.T) r.hb.bl q.o) q.v && same (aread P (evalT q.T) r.ha.bl q.o) q.v))))) = true ∧ _
  generalize he : (r.i == q.i) = e at h ⊢
  generalize hd : dstP os clo r q = d at h ⊢
  generalize hl : r.loud = l at h ⊢
  generalize hu : unord clo r.i q.i = u at h ⊢
  generalize hq : q.loud = ql at h ⊢
  generalize hm : memOp q.o.op = m at h ⊢
  generalize hw : wantedT os q.T q.o = wt at h ⊢
  cases e <;> cases d <;> cases l <;> cases u <;> cases ql <;> cases m <;> cases wt <;> first
    | (cases h; done)
    | exact ⟨rfl, h⟩
    | (obtain ⟨h6, h7⟩ := sameC_ok h
       obtain ⟨h8, h9⟩ := sameC_ok h7
       exact ⟨by rw [h6, h8]; rfl, h9⟩)

def pairsC (P : Program) (os : Array Oper) (clo : List Nat) (r : Rec) (j : Nat) : List Rec → Option Out → Option Out
  | [], k => k
  | q :: l, k => if q.i == j then pairC P os clo r q (pairsC P os clo r j l k) else pairsC P os clo r j l k
theorem pairsC_ok {P : Program} {os : Array Oper} {clo : List Nat} {r : Rec} {j : Nat} : ∀ {l : List Rec} {k : Option Out} {x : Out}, pairsC P os clo r j l k = some x →
    (∀ q ∈ l, q.i == j → pairOk P os clo r q = true) ∧ k = some x
  | [], _, _, h => ⟨fun _ hq => by simp at hq, h⟩
  | q :: l, k, x, h => by
    simp only [pairsC] at h
    split at h
    · rename_i hq
      obtain ⟨h1, h2⟩ := pairC_ok h
      obtain ⟨h3, h4⟩ := pairsC_ok h2
      refine ⟨fun q' hm he => ?_, h4⟩
      rcases List.mem_cons.1 hm with rfl | hm
      · exact h1
      · exact h3 q' hm he
    · rename_i hq
      obtain ⟨h3, h4⟩ := pairsC_ok h
      refine ⟨fun q' hm he => ?_, h4⟩
      rcases List.mem_cons.1 hm with rfl | hm
      · exact (hq he).elim
      · exact h3 q' hm he
def rowsC (P : Program) (os : Array Oper) (clo : List Nat) (all : List Rec) (i j : Nat) : List Rec → Option Out → Option Out
  | [], k => k
  | r :: l, k => if r.i == i then pairsC P os clo r j all (rowsC P os clo all i j l k) else rowsC P os clo all i j l k
theorem rowsC_ok {P : Program} {os : Array Oper} {clo : List Nat} {all : List Rec} {i j : Nat} : ∀ {l : List Rec} {k : Option Out} {x : Out}, rowsC P os clo all i j l k = some x →
    (∀ r ∈ l, r.i == i → ∀ q ∈ all, q.i == j → pairOk P os clo r q = true) ∧ k = some x
  | [], _, _, h => ⟨fun _ hq => by simp at hq, h⟩
  | q :: l, k, x, h => by
    simp only [rowsC] at h
    split at h
    · rename_i hq
      obtain ⟨h1, h2⟩ := pairsC_ok h
      obtain ⟨h3, h4⟩ := rowsC_ok h2
      refine ⟨fun q' hm he => ?_, h4⟩
      rcases List.mem_cons.1 hm with rfl | hm
      · exact h1
      · exact h3 q' hm he
    · rename_i hq
      obtain ⟨h3, h4⟩ := rowsC_ok h
      refine ⟨fun q' hm he => ?_, h4⟩
      rcases List.mem_cons.1 hm with rfl | hm
      · exact (hq he).elim
      · exact h3 q' hm he
def needC (P : Program) (os : Array Oper) (clo : List Nat) (recs : List Rec) : List (Nat × Nat) → Option Out → Option Out
  | [], k => k
  | (i, j) :: l, k => rowsC P os clo recs i j recs (needC P os clo recs l k)
theorem needC_ok {P : Program} {os : Array Oper} {clo : List Nat} {recs : List Rec} : ∀ {l : List (Nat × Nat)} {k : Option Out} {x : Out}, needC P os clo recs l k = some x →
    (∀ p ∈ l, ∀ r ∈ recs, r.i == p.1 → ∀ q ∈ recs, q.i == p.2 → pairOk P os clo r q = true) ∧ k = some x
  | [], _, _, h => ⟨fun _ hq => by simp at hq, h⟩
  | (i, j) :: l, k, x, h => by
    obtain ⟨h1, h2⟩ := rowsC_ok (show rowsC P os clo recs i j recs (needC P os clo recs l k) = some x from h)
    obtain ⟨h3, h4⟩ := needC_ok h2
    refine ⟨fun p hm => ?_, h4⟩
    rcases List.mem_cons.1 hm with rfl | hm
    · exact h1
    · exact h3 p hm
def chkC (P : Program) (os : Array Oper) (clo : List Nat) (recs : List Rec) (k : Option Out) : Option Out :=
  if sDstOk os clo && recs.all (fun r => !r.loud || sLoudS r.o) then needC P os clo recs (sNeed os clo) k else none
theorem chkC_ok {P : Program} {os : Array Oper} {clo : List Nat} {recs : List Rec} {k : Option Out} {x : Out} (ho : ∀ r ∈ recs, os[r.i]? = some r.o) (h : chkC P os clo recs k = some x) : dchk P os clo recs = true ∧ k = some x := by
  unfold chkC at h
  split at h
  · rename_i h1
    rw [Bool.and_eq_true] at h1
    obtain ⟨h2, h3⟩ := needC_ok h
    refine ⟨sDchkQ_ok ho ?_, h3⟩
    unfold sDchkQ
    rw [h1.1, h1.2]
    simp only [Bool.true_and, List.all_eq_true]
    intro p hp r hr
    cases e1 : r.i == p.1 with
    | false => rfl
    | true =>
      simp only [Bool.not_true, Bool.false_or, List.all_eq_true]
      intro q hq
      cases e2 : q.i == p.2 with
      | false => rfl
      | true => simp only [Bool.not_true, Bool.false_or]; exact h2 p hp r hr e1 q hq e2
  · cases h

/-! ### The run in one order -/
section
variable {P : Program} {self : SelfC} {sd : Self}
def opD (P : Program) (self : SelfC) (T : List Value) (h : Hp) (o : Oper) (k : Value → Hp → Bool → Option Out) : Option Out :=
  match o.op with
  | .pick c a b => if okO c && okO a && okO b then (match evalT T c with | .bool t => cond t (k (evalT T a) h false) (k (evalT T b) h false) | _ => none) else none
  | _ =>
    match symR P (evalT T) h.bl o with
    | some (b, v) => cond b (k v h false) none
    | none => match aread P (evalT T) h.bl o with
      | some v => k v h false
      | none => loudC P (evalT T) h o {
        val := fun v h' => heapK h' fun h' => k v h' true
        enter := fun f args => headsK args fun args => self (.call f ⟨args⟩ h) fun | .ret v h' => k v h' true | _ => none
        yield := fun l args => headsK args fun args => self (.round l ⟨args⟩ h) fun | .ret v h' => k v h' true | _ => none
        defer := fun _ => none
        panic := fun _ => none }
theorem opD_ok (hs : CpsOk self sd) {T : List Value} {h : Hp} {o : Oper} {k : Value → Hp → Bool → Option Out} {r : Out} (hc : opD P self T h o k = some r) :
    (∃ v, aread P (evalT T) h.bl o = some v ∧ k v h false = some r) ∨ (aread P (evalT T) h.bl o = none ∧ ∃ v h', dloud P sd (evalT T) h o = some (v, h') ∧ k v h' true = some r) := by
  unfold opD at hc
  split at hc
  · rename_i c a b ho
    split at hc
    · rename_i hx
      split at hc
      · rename_i t ht
        cases t with
        | true => exact .inl ⟨evalT T a, by simp only [aread, ho, hx, if_true, ht], hc⟩
        | false => exact .inl ⟨evalT T b, by simp only [aread, ho, hx, if_true, ht, Bool.false_eq_true, if_false], hc⟩
      · cases hc
    · cases hc
  · split at hc
    · rename_i b v hsy
      obtain ⟨h1, h2⟩ := cond_some hc
      exact .inl ⟨v, symR_ok hsy h1, h2⟩
    · split at hc
      · rename_i v ha; exact .inl ⟨v, ha, hc⟩
      · rename_i ha
        refine .inr ⟨ha, ?_⟩
        obtain ⟨nx, h1, h2⟩ := loudC_ok hc
        unfold dloud
        rw [h1]
        cases nx with
        | val v hp => simp only [Ends.on, heapK_eq] at h2; exact ⟨_, _, rfl, h2⟩
        | enter f args =>
          simp only [Ends.on, headsK_eq] at h2
          obtain ⟨o', h3, h4⟩ := hs _ _ _ h2
          rw [show (⟨args.toList⟩ : Array Value) = args from rfl] at h3
          simp only [h3]
          cases o' with
          | ret v hp => exact ⟨_, _, rfl, h4⟩
          | _ => cases h4
        | yield l' args =>
          simp only [Ends.on, headsK_eq] at h2
          obtain ⟨o', h3, h4⟩ := hs _ _ _ h2
          rw [show (⟨args.toList⟩ : Array Value) = args from rfl] at h3
          simp only [h3]
          cases o' with
          | ret v hp => exact ⟨_, _, rfl, h4⟩
          | _ => cases h4
        | defer d => cases h2
        | panic v => cases h2
        | recover => cases h2

def drunC (P : Program) (self : SelfC) (os : Array Oper) : List Nat → List Value → Hp → (List Rec → List Value → Hp → Option Out) → Option Out
  | [], T, h, k => k [] T h
  | i :: r, T, h, k =>
    match os[i]? with
    | none => none
    | some o =>
      guardC os o T
        (fun T => opD P self T h o fun v h' loud => headK v fun v => setK' T o.dst v fun T' => drunC P self os r T' h' fun l T2 h2 => k (⟨i, o, T, v, h, h', loud⟩ :: l) T2 h2)
        (fun T => setK' T o.dst undef fun T' => drunC P self os r T' h fun l T2 h2 => k (⟨i, o, T, undef, h, h, false⟩ :: l) T2 h2)
theorem guardC_lit {os : Array Oper} {o : Oper} {t : List Value} {yes no : List Value → Option Out} {r : Out} (h : guardC os o t yes no = some r) :
    (wantedT os t o = true ∧ yes t = some r) ∨ (wantedT os t o = false ∧ no t = some r) := guardC_ok h
theorem drunC_ok (hs : CpsOk self sd) {os : Array Oper} : ∀ {l : List Nat} {T : List Value} {h : Hp} {k : List Rec → List Value → Hp → Option Out} {r : Out}, drunC P self os l T h k = some r →
    ∃ recs T' h', drun P sd os l T h = some (recs, T', h') ∧ k recs T' h' = some r
  | [], T, h, k, r, hc => ⟨_, _, _, rfl, hc⟩
  | i :: l, T, h, k, r, hc => by
    simp only [drunC] at hc
    simp only [drun]
    split at hc
    · cases hc
    · rename_i o hi
      rw [hi]
      simp only [forceV_eq, putK_eq, forceH_eq]
      rcases guardC_ok hc with ⟨hw, hc⟩ | ⟨hw, hc⟩
      · rw [if_pos hw]
        rcases opD_ok hs hc with ⟨v, ha, hc⟩ | ⟨ha, v, h', hd, hc⟩
        · rw [ha]
          simp only [headK_eq, setK'_eq] at hc
          obtain ⟨recs, T', h', h1, h2⟩ := drunC_ok hs hc
          simp only
          rw [h1]
          exact ⟨_, _, _, rfl, h2⟩
        · rw [ha]
          simp only [headK_eq, setK'_eq] at hc
          obtain ⟨recs, T', h'', h1, h2⟩ := drunC_ok hs hc
          simp only
          rw [hd]
          simp only
          rw [h1]
          exact ⟨_, _, _, rfl, h2⟩
      · rw [if_neg (by rw [hw]; intro h; cases h)]
        simp only [setK'_eq] at hc
        obtain ⟨recs, T', h'', h1, h2⟩ := drunC_ok hs hc
        rw [h1]
        exact ⟨_, _, _, rfl, h2⟩

def drawnC (P : Program) (self : SelfC) (os : Array Oper) (s : St) (k : Ex → St → Option Out) : Option Out :=
  if planOk os (Region.linearise .any os 0) (mkClo os (Region.linearise .any os 0) (List.replicate os.size 0)) then
    drunC P self os (Region.linearise .any os 0) s.t s.h fun recs T h =>
      chkC P os (mkClo os (Region.linearise .any os 0) (List.replicate os.size 0)) recs (k .normal { t := T, d := s.d, h := h })
  else none
theorem drawnC_ok (hs : CpsOk self sd) {rd : Option Nat} {id : Nat} {os : Array Oper} {s : St} {k : Ex → St → Option Out} {r : Out} (hc : drawnC P self os s k = some r) :
    ∃ e s', drawn P sd rd id os s = some (.ex e s') ∧ k e s' = some r := by
  unfold drawnC at hc
  unfold drawn
  split at hc
  · rename_i hp
    rw [if_pos hp]
    obtain ⟨recs, T, h, h1, h2⟩ := drunC_ok hs hc
    rw [h1]
    obtain ⟨h3, h4⟩ := chkC_ok (fun r hm => ((drun_tr _ _ _ _ _ _ h1).1.recs r hm).1) h2
    simp only
    rw [if_pos h3]
    exact ⟨_, _, rfl, h4⟩
  · cases hc
end
end
end Go.Gh
