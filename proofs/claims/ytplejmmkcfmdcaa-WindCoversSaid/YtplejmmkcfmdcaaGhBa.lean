/- Operations on numbers and cells that are not written out: a condition, and what comes out under it. Conditions: none. -/
import Derived.Test.YtplejmmkcfmdcaaGhU
namespace Go.Gh
open Go.RowKit
noncomputable section

/-! ### Cells -/
def getInt (c : Array Value) (i : Nat) : Int := match lget c.toList i with | .int _ n => n | _ => 0
def getBool (c : Array Value) (i : Nat) : Bool := match lget c.toList i with | .bool b => b | _ => false
def getStr (c : Array Value) (i : Nat) : ByteArray := match lget c.toList i with | .string s => s | _ => ByteArray.empty
def isInt (q : IntKind) (c : Array Value) (i : Nat) : Bool := match lget c.toList i with | .int q' _ => decide (q' = q) | _ => false
def isBool (c : Array Value) (i : Nat) : Bool := match lget c.toList i with | .bool _ => true | _ => false
def isStr (c : Array Value) (i : Nat) : Bool := match lget c.toList i with | .string _ => true | _ => false
def inArr (c : Array Value) (i : Nat) : Bool := Nat.blt i c.toList.length

theorem lget_some {c : Array Value} {i : Nat} {v : Value} (h : lget c.toList i = v) (hn : v ≠ undef) : c[i]? = some v := by
  rw [lget_eq, Array.toArray_toList, Array.getD_eq_getD_getElem?] at h
  cases hc : c[i]? with
  | none => rw [hc] at h; exact absurd h.symm hn
  | some u => rw [hc] at h; simp at h; rw [h]
theorem isInt_ok {q : IntKind} {c : Array Value} {i : Nat} (h : isInt q c i = true) : c[i]? = some (.int q (getInt c i)) := by
  unfold isInt at h
  split at h
  · rename_i q' n hl
    have := of_decide_eq_true h
    subst this
    rw [lget_some hl (by intro h; cases h)]
    simp [getInt, hl]
  · cases h
theorem isBool_ok {c : Array Value} {i : Nat} (h : isBool c i = true) : c[i]? = some (.bool (getBool c i)) := by
  unfold isBool at h
  split at h
  · rename_i b hl
    rw [lget_some hl (by intro h; cases h)]
    simp [getBool, hl]
  · cases h
theorem isStr_ok {c : Array Value} {i : Nat} (h : isStr c i = true) : c[i]? = some (.string (getStr c i)) := by
  unfold isStr at h
  split at h
  · rename_i b hl
    rw [lget_some hl (by intro h; cases h)]
    simp [getStr, hl]
  · cases h
theorem inArr_ok {c : Array Value} {i : Nat} (h : inArr c i = true) : c[i]? = some (lget c.toList i) := by
  unfold inArr at h
  rw [Nat.blt_eq] at h
  have hlt : i < c.size := by simpa using h
  rw [lget_eq, Array.toArray_toList, Array.getD_eq_getD_getElem?, Array.getElem?_eq_getElem hlt]
  rfl

inductive Leaf where
  | int (q : IntKind)
  | bool
  | str
  | any

def leafOf (P : Program) (t : TypeId) : Leaf :=
  match P.underlying t with
  | some (.int q) => .int q
  | some .bool => .bool
  | some .string => .str
  | _ => .any

def leaves (P : Program) : Nat → TypeId → List Leaf
  | 0, _ => []
  | d + 1, t =>
    match P.underlying t with
    | some (.struct fs) => fs.toList.flatMap fun f => leaves P d f.type
    | some (.array n e) => (List.range n).flatMap fun _ => leaves P d e
    | _ => [leafOf P t]

def rdLeaf (c : Array Value) : Leaf → Nat → Bool × Value
  | .int q, i => (isInt q c i, .int q (getInt c i))
  | .bool, i => (isBool c i, .bool (getBool c i))
  | .str, i => (isStr c i, .string (getStr c i))
  | .any, i => (inArr c i, lget c.toList i)
theorem rdLeaf_ok {c : Array Value} {l : Leaf} {i : Nat} (h : (rdLeaf c l i).1 = true) : c[i]? = some (rdLeaf c l i).2 := by
  cases l with
  | int q => exact isInt_ok h
  | bool => exact isBool_ok h
  | str => exact isStr_ok h
  | any => exact inArr_ok h

def rdOk (c : Array Value) : List Leaf → Nat → Bool
  | [], _ => true
  | l :: r, i => (rdLeaf c l i).1 && rdOk c r (i + 1)
def rdVals (c : Array Value) : List Leaf → Nat → List Value
  | [], _ => []
  | l :: r, i => (rdLeaf c l i).2 :: rdVals c r (i + 1)
theorem rdVals_length (c : Array Value) : ∀ (l : List Leaf) (i : Nat), (rdVals c l i).length = l.length
  | [], _ => rfl
  | _ :: r, i => by simp [rdVals, rdVals_length c r]
theorem rdVals_get {c : Array Value} : ∀ {l : List Leaf} {i : Nat}, rdOk c l i = true → ∀ j, j < l.length → (rdVals c l i)[j]? = c[i + j]?
  | [], _, _, j, hj => absurd hj (Nat.not_lt_zero _)
  | l :: r, i, h, j, hj => by
    simp only [rdOk, Bool.and_eq_true] at h
    cases j with
    | zero => simp only [rdVals, List.getElem?_cons_zero]; rw [Nat.add_zero, rdLeaf_ok h.1]
    | succ j =>
      simp only [rdVals, List.getElem?_cons_succ]
      rw [rdVals_get h.2 j (by simpa using hj)]
      congr 1; omega
theorem rdVals_le {c : Array Value} {l : List Leaf} {i : Nat} (h : rdOk c l i = true) (hn : l ≠ []) : i + l.length ≤ c.size := by
  have hpos : 0 < l.length := List.length_pos_iff.2 hn
  have := rdVals_get h (l.length - 1) (by omega)
  rw [List.getElem?_eq_getElem (by rw [rdVals_length]; omega)] at this
  have := (Array.getElem?_eq_some_iff.1 this.symm).1
  omega
theorem rdVals_ok {c : Array Value} {l : List Leaf} {i : Nat} (h : rdOk c l i = true) (hle : i + l.length ≤ c.size) : c.extract i (i + l.length) = ⟨rdVals c l i⟩ := by
  apply Array.ext_getElem?
  intro j
  rw [Array.getElem?_extract]
  by_cases hj : j < l.length
  · rw [if_pos (by omega)]
    simp only [List.getElem?_toArray]
    exact (rdVals_get h j hj).symm
  · rw [if_neg (by omega)]
    simp only [List.getElem?_toArray]
    rw [List.getElem?_eq_none (by rw [rdVals_length]; omega)]

def nthO (l : List Ob) : Nat → Option Ob := List.rec (motive := fun _ => Nat → Option Ob) (fun _ => none) (fun v _ ih n => Nat.rec (motive := fun _ => Option Ob) (some v) (fun m _ => ih m) n) l
theorem nthO_eq : ∀ (l : List Ob) (n : Nat), nthO l n = l[n]?
  | [], n => by show none = _; simp
  | v :: r, 0 => by show some v = _; simp
  | v :: r, n + 1 => by show nthO r n = _; rw [nthO_eq r n]; simp

def isCells (H : List Ob) (b : Nat) : Bool := match nthO H b with | some (.cells _ _) => true | _ => false
def cellsAt (H : List Ob) (b : Nat) : Array Value := match nthO H b with | some (.cells c _) => c | _ => #[]
theorem cells_ok {H : List Ob} {b : Nat} (h : isCells H b = true) : ∃ ro, H[b]? = some (.cells (cellsAt H b) ro) := by
  unfold isCells at h
  unfold cellsAt
  rw [← nthO_eq]
  split at h
  · rename_i c ro hc; rw [hc]; exact ⟨ro, rfl⟩
  · cases h

def symLoad (P : Program) (H : List Ob) (t : TypeId) (x : Value) : Option (Bool × Value) :=
  match x with
  | .pointer (some ⟨b, off, none⟩) =>
    match isAggB P t with
    | some true =>
      match sizeB P t with
      | some n => if (leaves P 20 t).length = n ∧ n ≠ 0 then some (isCells H b && rdOk (cellsAt H b) (leaves P 20 t) off, .agg ⟨rdVals (cellsAt H b) (leaves P 20 t) off⟩) else none
      | none => none
    | some false => some (isCells H b && (rdLeaf (cellsAt H b) (leafOf P t) off).1, (rdLeaf (cellsAt H b) (leafOf P t) off).2)
    | none => none
  | _ => none
theorem symLoad_ok {P : Program} {H : List Ob} {t : TypeId} {x v : Value} {b : Bool} (h : symLoad P H t x = some (b, v)) (hb : b = true) : rLoad P H t x = some v := by
  unfold symLoad at h
  split at h
  · rename_i bk off
    split at h
    · rename_i ha
      split at h
      · rename_i n hn
        split at h
        · rename_i hl
          simp only [Option.some.injEq, Prod.mk.injEq] at h
          obtain ⟨rfl, rfl⟩ := h
          rw [Bool.and_eq_true] at hb
          obtain ⟨ro, hc⟩ := cells_ok hb.1
          simp only [rLoad, hc, ha, hn]
          have hle := rdVals_le hb.2 (by intro e; rw [e] at hl; exact hl.2 hl.1.symm)
          rw [hl.1] at hle
          rw [if_pos hle]
          congr 2
          rw [← hl.1]
          exact rdVals_ok hb.2 (by rw [hl.1]; exact hle)
        · cases h
      · cases h
    · rename_i ha
      simp only [Option.some.injEq, Prod.mk.injEq] at h
      obtain ⟨h1, rfl⟩ := h
      rw [← h1, Bool.and_eq_true] at hb
      obtain ⟨ro, hc⟩ := cells_ok hb.1
      simp only [rLoad, hc, ha]
      exact rdLeaf_ok hb.2
    · cases h
  · cases h

/-! ### Operations on two values -/
def symInt (op : BinOp) (k : IntKind) (a b : Int) : Option (Bool × Value) :=
  match op with
  | .add => some (true, .int k (k.wrap (a + b)))
  | .sub => some (true, .int k (k.wrap (a - b)))
  | .mul => some (true, .int k (k.wrap (a * b)))
  | .eql => some (true, .bool (decide (a = b)))
  | .neq => some (true, .bool (!decide (a = b)))
  | .lss => some (true, .bool (decide (a < b)))
  | .leq => some (true, .bool (decide (a ≤ b)))
  | .gtr => some (true, .bool (decide (b < a)))
  | .geq => some (true, .bool (decide (b ≤ a)))
  | .quo => some (!decide (b = 0), .int k (k.wrap (a.tdiv b)))
  | .rem => some (!decide (b = 0), .int k (a.tmod b))
  | .shl => some (decide (0 ≤ b), .int k (k.wrap (a * 2 ^ (min b.toNat k.bits))))
  | .shr => some (decide (0 ≤ b), .int k (a.fdiv (2 ^ (min b.toNat k.bits))))
  | _ => none

theorem intEq (a b : Int) : (a == b) = decide (a = b) := by
  rw [Bool.eq_iff_iff]; simp
theorem intNe (a b : Int) : (a != b) = !decide (a = b) := by
  rw [bne, intEq]
end
end Go.Gh
