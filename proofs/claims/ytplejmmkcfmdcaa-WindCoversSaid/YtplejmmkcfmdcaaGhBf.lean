/- Operations one behind the other, what comes behind them handed in: over values that are not written out. Conditions: none. -/
import Derived.Test.YtplejmmkcfmdcaaGhBe
namespace Go.Gh
open Go.RowKit
noncomputable section

abbrev Kn := Out → Option Out
abbrev SelfC := Task → Kn → Option Out
def CpsOk (c : SelfC) (s : Self) : Prop := ∀ (t : Task) (k : Kn) (r : Out), c t k = some r → ∃ o, s t = some o ∧ k o = some r

theorem cond_some {α : Type} {b : Bool} {x : Option α} {r : α} (h : cond b x none = some r) : b = true ∧ x = some r := by
  cases b with
  | true => exact ⟨rfl, h⟩
  | false => cases h

/-! ### What makes memory -/
def newC (H : List Ob) (size n : Nat) (x : Value) (k : Array Value → Option Out) : Option Out :=
  match x with
  | .slice (some ⟨b, off, none⟩) _ _ =>
    match nthO H b with
    | some (.cells c _) => cond (decide (off + n * size ≤ c.size)) (k (c.extract off (off + n * size))) none
    | _ => none
  | .string s => k (strBytes (s.extract 0 n))
  | _ => none
theorem newC_ok {H : List Ob} {size n : Nat} {x : Value} {k : Array Value → Option Out} {r : Out} (h : newC H size n x k = some r) : ∃ c, newB H size n x = some c ∧ k c = some r := by
  unfold newC at h
  split at h
  · rename_i b off l c
    rw [nthO_eq] at h
    split at h
    · rename_i c ro hb
      obtain ⟨h1, h2⟩ := cond_some h
      exact ⟨_, by simp only [newB, hb]; rw [if_pos (of_decide_eq_true h1)], h2⟩
    · cases h
  · exact ⟨_, rfl, h⟩
  · cases h

def appendC (P : Program) (h : Hp) (ts tx : TypeId) (s x : Value) (k : Value → Hp → Option Out) : Option Out :=
  match P.underlying ts, P.underlying tx with
  | some (.slice e), some d =>
    if intB d = true then none else
    match P.info? e, zeroB P e with
    | some inf, some z =>
      match s, lenB x with
      | .slice base sl sz, some n =>
        cond (decide (n = 0)) (k (.slice base sl sz) h)
        (newC h.bl inf.size n x fun news =>
          cond (decide ((sl + n) * inf.bytes ≤ 140737488355328) && (decide (sl + n ≤ 4611686018427387904) && (decide (news.size = n * inf.size) && (news.toList.all (·.oneCell') && decide (z.cells.size = inf.size)))))
            (match base with
            | none => cond (decide (sl = 0)) (k (.slice (some ⟨h.bl.length, 0, none⟩) n inf.size) (h.push (.cells news false))) none
            | some ⟨b, off, none⟩ =>
              match nthO h.bl b with
              | some (.cells c false) =>
                cond (decide (sz = inf.size) && decide (off + sl * inf.size ≤ c.size))
                  (k (.slice (some ⟨h.bl.length, 0, none⟩) (sl + n) inf.size) ((h.put b .dead).push (.cells (c.extract off (off + sl * inf.size) ++ news) false))) none
              | _ => none
            | _ => none) none)
      | _, _ => none
    | _, _ => none
  | _, _ => none
theorem appendC_ok {P : Program} {h : Hp} {ts tx : TypeId} {s x : Value} {k : Value → Hp → Option Out} {r : Out} (hc : appendC P h ts tx s x k = some r) : ∃ v h', lAppend P h ts tx s x = some (v, h') ∧ k v h' = some r := by
  unfold appendC at hc
  unfold lAppend
  split at hc
  · rename_i e d hu1 hu2
    rw [hu1, hu2]
    simp only
    split at hc
    · cases hc
    · rename_i hi
      rw [if_neg hi]
      split at hc
      · rename_i inf z h1 h2
        rw [h1, h2]
        simp only
        split at hc
        · rename_i base sl sz n hn
          rw [hn]
          simp only
          cases h0 : decide (n = 0) with
          | true =>
            rw [h0] at hc
            rw [if_pos (of_decide_eq_true h0)]
            exact ⟨_, _, rfl, hc⟩
          | false =>
            rw [h0] at hc
            rw [if_neg (of_decide_eq_false h0)]
            rw [cond_false] at hc
            obtain ⟨news, hnew, hc⟩ := newC_ok hc
            rw [hnew]
            simp only
            obtain ⟨hcnd, hc⟩ := cond_some hc
            simp only [Bool.and_eq_true, decide_eq_true_eq] at hcnd
            rw [if_pos hcnd]
            split at hc
            · obtain ⟨hs, hc⟩ := cond_some hc
              simp only
              rw [if_pos (of_decide_eq_true hs)]
              exact ⟨_, _, rfl, hc⟩
            · rename_i b off
              rw [nthO_eq] at hc
              split at hc
              · rename_i c hb
                obtain ⟨hs, hc⟩ := cond_some hc
                simp only [Bool.and_eq_true, decide_eq_true_eq] at hs
                simp only [hb]
                rw [if_pos ⟨hs, hs.2⟩]
                exact ⟨_, _, rfl, hc⟩
              · cases hc
            · cases hc
        · cases hc
      · cases hc
  · cases hc

def storeC (P : Program) (h : Hp) (t : TypeId) (x v : Value) (k : Hp → Option Out) : Option Out :=
  match x with
  | .pointer (some ⟨b, off, none⟩) =>
    match nthO h.bl b, sizeB P t with
    | some (.cells c false), some n =>
      cond (notT v && (decide (v.cells.size = n) && (decide (off + n ≤ c.size) && v.cells.toList.all (·.oneCell')))) (k (h.put b (.cells (wcells c off v.cells.toList) false))) none
    | _, _ => none
  | _ => none
theorem storeC_ok {P : Program} {h : Hp} {t : TypeId} {x v : Value} {k : Hp → Option Out} {r : Out} (hc : storeC P h t x v k = some r) : ∃ h', lStore P h t x v = some h' ∧ k h' = some r := by
  unfold storeC at hc
  split at hc
  · rename_i b off
    rw [nthO_eq] at hc
    split at hc
    · rename_i c n hb hn
      obtain ⟨h1, hc⟩ := cond_some hc
      simp only [Bool.and_eq_true, decide_eq_true_eq] at h1
      exact ⟨_, by simp only [lStore, hb, hn]; rw [if_pos ⟨h1.1, h1.2.1, h1.2.2.1, h1.2.2.2⟩], hc⟩
    · cases hc
  · cases hc

/-! ### One operation -/
/-- What comes behind an operation: a value, a call, a yield, a deferred call, a panic. -/
structure Ends where
  val : Value → Hp → Option Out
  enter : FuncId → List Value → Option Out
  yield : Nat → List Value → Option Out
  defer : Deferred → Option Out
  panic : Value → Option Out

def loudC (P : Program) (ρ : Operand → Value) (h : Hp) (o : Oper) (k : Ends) : Option Out :=
  match o.op with
  | .store t a x => if okO a && okO x then storeC P h t (ρ a) (ρ x) (k.val undef) else none
  | .call { callee := .builtin .append, args, argTypes } =>
    match args.toList, argTypes.toList with
    | [s, x], [ts, tx] => if okO s && okO x then appendC P h ts tx (ρ s) (ρ x) k.val else none
    | _, _ => none
  | .call { callee := .value f, args, .. } =>
    if okO f && args.toList.all okO then
      match ρ f with
      | .func (.func g) first cap => if bodied P g then k.enter g (first.toList ++ (args.toList.map ρ ++ cap.toList)) else none
      | .func (.yield l) first _ => if first.isEmpty then k.yield l (args.toList.map ρ) else none
      | _ => none
    else none
  | _ =>
    match aloud P ρ h o with
    | some (.val v h') => k.val v h'
    | some (.enter f args) => k.enter f args.toList
    | some (.yield l args) => k.yield l args.toList
    | some (.defer d) => k.defer d
    | some (.panic v) => k.panic v
    | _ => none

def Ends.on (k : Ends) : Nx → Option Out
  | .val v h => k.val v h
  | .enter f args => k.enter f args.toList
  | .yield l args => k.yield l args.toList
  | .defer d => k.defer d
  | .panic v => k.panic v
  | .recover => none

theorem loudC_ok {P : Program} {ρ : Operand → Value} {h : Hp} {o : Oper} {k : Ends} {r : Out} (hc : loudC P ρ h o k = some r) : ∃ nx, aloud P ρ h o = some nx ∧ k.on nx = some r := by
  unfold loudC at hc
  split at hc
  · rename_i t a x ho
    split at hc
    · rename_i hx
      obtain ⟨h', h1, h2⟩ := storeC_ok hc
      exact ⟨.val undef h', by simp only [aloud, ho, hx, if_true, h1, Option.map_some], h2⟩
    · cases hc
  · rename_i args ts ho
    split at hc
    · rename_i s x t1 t2 e1 e2
      split at hc
      · rename_i hx
        obtain ⟨v, h', h1, h2⟩ := appendC_ok hc
        exact ⟨.val v h', by simp only [aloud, ho, e1, e2, hx, if_true, h1, Option.map_some], h2⟩
      · cases hc
    · cases hc
  · rename_i f args ts ho
    split at hc
    · rename_i hx
      split at hc
      · rename_i g first cap hf
        split at hc
        · rename_i hb
          refine ⟨.enter g (first ++ args.map ρ ++ cap), by simp only [aloud, ho, hx, if_true, hf, hb], ?_⟩
          simp only [Ends.on, Array.toList_append, Array.toList_map, List.append_assoc]
          exact hc
        · cases hc
      · rename_i l first cap hf
        split at hc
        · rename_i hb
          refine ⟨.yield l (args.map ρ), by simp only [aloud, ho, hx, if_true, hf, hb], ?_⟩
          simp only [Ends.on, Array.toList_map]
          exact hc
        · cases hc
      · cases hc
    · cases hc
  · split at hc
    · rename_i h1; exact ⟨_, h1, hc⟩
    · rename_i h1; exact ⟨_, h1, hc⟩
    · rename_i h1; exact ⟨_, h1, hc⟩
    · rename_i h1; exact ⟨_, h1, hc⟩
    · rename_i h1; exact ⟨_, h1, hc⟩
    · cases hc

def Ends.heap (k : Ends) : Ends := { k with val := fun v h => heapK h fun h => k.val v h }
theorem Ends.heap_on {k : Ends} {nx : Nx} : k.heap.on nx = k.on nx := by
  cases nx <;> simp only [Ends.heap, Ends.on, heapK_eq]

def opC (P : Program) (ρ : Operand → Value) (h : Hp) (o : Oper) (k : Ends) : Option Out :=
  match o.op with
  | .pick c a b => if okO c && okO a && okO b then (match ρ c with | .bool t => cond t (k.val (ρ a) h) (k.val (ρ b) h) | _ => none) else none
  | _ =>
    match symR P ρ h.bl o with
    | some (b, v) => cond b (k.val v h) none
    | none => match aread P ρ h.bl o with
      | some v => k.val v h
      | none => loudC P ρ h o k.heap
theorem opC_ok {P : Program} {ρ : Operand → Value} {h : Hp} {o : Oper} {k : Ends} {r : Out} (hc : opC P ρ h o k = some r) : ∃ nx, aop P ρ h o = some nx ∧ k.on nx = some r := by
  unfold opC at hc
  split at hc
  · rename_i c a b ho
    split at hc
    · rename_i hx
      split at hc
      · rename_i t ht
        cases t with
        | true => exact ⟨.val (ρ a) h, by simp only [aop, aread, ho, hx, if_true, ht], hc⟩
        | false => exact ⟨.val (ρ b) h, by simp only [aop, aread, ho, hx, if_true, ht, Bool.false_eq_true, if_false], hc⟩
      · cases hc
    · cases hc
  · split at hc
    · rename_i b v hs
      obtain ⟨h1, h2⟩ := cond_some hc
      exact ⟨.val v h, by simp only [aop, symR_ok hs h1], h2⟩
    · split at hc
      · rename_i v ha
        exact ⟨.val v h, by simp only [aop, ha], hc⟩
      · rename_i ha
        obtain ⟨nx, h1, h2⟩ := loudC_ok hc
        exact ⟨nx, by simp only [aop, ha, h1], by rw [← Ends.heap_on]; exact h2⟩
end
end Go.Gh
