/- What an operation that writes nothing gives on values that are not written out: indexes, slices, the greatest of numbers, structs. Conditions: none. -/
import Derived.Test.YtplejmmkcfmdcaaGhBb
namespace Go.Gh
open Go.RowKit
noncomputable section

theorem pureRun_pure {P : Program} {α : Type} (a : α) : pureRun P (pure a) = some a := rfl

/-! ### Indexes -/
def symIx (P : Program) (t : TypeId) (x y : Value) : Option (Bool × Value) :=
  match x, y with
  | .slice (some ⟨b, off, none⟩) len _, .int _ i =>
    match P.underlying t with
    | some (.slice e) => match sizeB P e with
      | some n => some (decide (0 ≤ i) && decide (i < len), .pointer (some ⟨b, off + i.toNat * n, none⟩))
      | none => none
    | _ => none
  | _, _ => none
theorem symIx_ok {P : Program} {t : TypeId} {x y v : Value} {b : Bool} (h : symIx P t x y = some (b, v)) (hb : b = true) : rIndexAddr P t x y = some v := by
  unfold symIx at h
  split at h
  · split at h
    · rename_i e hu
      split at h
      · rename_i n hn
        simp only [Option.some.injEq, Prod.mk.injEq] at h
        obtain ⟨h1, rfl⟩ := h
        subst h1
        simp only [Bool.and_eq_true, decide_eq_true_eq] at hb
        simp only [rIndexAddr, hu, hn, hb, and_self, if_true]
      · cases h
    · cases h
  · cases h

def getByte (s : ByteArray) (i : Nat) : Int := match s[i]? with | some b => (b.toNat : Int) | none => 0
def symIndex (P : Program) (t : TypeId) (x y : Value) : Option (Bool × Value) :=
  match x, y with
  | .string s, .int _ i =>
    match P.underlying t with
    | some .string => some (decide (0 ≤ i) && decide (i < s.size), .int .u8 (getByte s i.toNat))
    | _ => none
  | _, _ => none
theorem symIndex_ok {P : Program} {ρ : Operand → Value} {H : List Ob} {o : Oper} {t : TypeId} {x y : Operand} {b : Bool} {v : Value} (ho : o.op = .index t x y) (hx : okO x = true) (hy : okO y = true)
    (h : symIndex P t (ρ x) (ρ y) = some (b, v)) (hb : b = true) : aread P ρ H o = some v := by
  unfold symIndex at h
  split at h
  · rename_i s k i e1 e2
    split at h
    · rename_i hu
      simp only [Option.some.injEq, Prod.mk.injEq] at h
      obtain ⟨h1, rfl⟩ := h
      subst h1
      simp only [Bool.and_eq_true, decide_eq_true_eq] at hb
      simp only [aread, ho, hx, hy, e1, e2]
      show pureVal P (execOp ρ o) = _
      refine pureVal_of ?_ rfl
      simp only [execOp, ho, e1, e2]
      refine pure_val ?_
      have hlt : i.toNat < s.size := by omega
      simp only [Instr.index, asIntOf, pureRun_bind, pureRun_pure, Option.bind_some, pure_underlying hu, hb.1, if_true]
      have hs : s[i.toNat]? = some s[i.toNat] := by simp [hlt]
      rw [hs]
      simp only [getByte, hs]
      rfl
    · cases h
  · cases h

def symBound (v : Option Value) (d : Nat) : Option (Bool × Nat) :=
  match v with
  | none => some (true, d)
  | some (.int _ i) => some (decide (0 ≤ i), i.toNat)
  | some _ => none
theorem symBound_ok {v : Option Value} {d n : Nat} {b : Bool} (h : symBound v d = some (b, n)) (hb : b = true) : bound v d = some n := by
  unfold symBound at h
  split at h
  · simp only [Option.some.injEq, Prod.mk.injEq] at h; rw [bound, h.2]
  · simp only [Option.some.injEq, Prod.mk.injEq] at h
    obtain ⟨h1, rfl⟩ := h
    subst h1
    simp only [bound]; rw [if_pos (of_decide_eq_true hb)]
  · cases h

def symSlice (P : Program) (t : TypeId) (x : Value) (lo hi : Option Value) : Option (Bool × Value) :=
  match x with
  | .slice (some ⟨b, off, none⟩) len sz =>
    match P.underlying t with
    | some (.slice e) => match sizeB P e, symBound lo 0, symBound hi len with
      | some n, some (b1, l), some (b2, h) => if n = sz then some (b1 && (b2 && (decide (l ≤ h) && decide (h ≤ len))), .slice (some ⟨b, off + l * n, none⟩) (h - l) sz) else none
      | _, _, _ => none
    | _ => none
  | _ => none
theorem symSlice_ok {P : Program} {t : TypeId} {x v : Value} {lo hi : Option Value} {b : Bool} (h : symSlice P t x lo hi = some (b, v)) (hb : b = true) : rSlice P t lo hi x = some v ∧ gr x = false := by
  unfold symSlice at h
  split at h
  · split at h
    · rename_i e hu
      split at h
      · rename_i n b1 l b2 hh hn hl hr
        split at h
        · rename_i hsz
          simp only [Option.some.injEq, Prod.mk.injEq] at h
          obtain ⟨h1, rfl⟩ := h
          subst h1
          simp only [Bool.and_eq_true, decide_eq_true_eq] at hb
          refine ⟨?_, rfl⟩
          simp only [rSlice, hu, hn, symBound_ok hl hb.1, symBound_ok hr hb.2.1]
          rw [if_pos ⟨hb.2.2.1, hb.2.2.2, hsz⟩]
        · cases h
      · cases h
    · cases h
  · cases h

def symCut (P : Program) (t : TypeId) (x : Value) (lo hi : Option Value) : Option (Bool × Value) :=
  match x with
  | .string s =>
    match P.underlying t with
    | some .string => match symBound lo 0, symBound hi s.size with
      | some (b1, l), some (b2, h) => some (b1 && (b2 && (decide (l ≤ h) && decide (h ≤ s.size))), .string (s.extract l h))
      | _, _ => none
    | _ => none
  | _ => none

/-! ### The greatest and the least of numbers -/
def foldI (f : Int → Int → Int) (k : IntKind) : Int → List Value → Option Value
  | a, [] => some (.int k a)
  | a, .int k' b :: r => if k' = k then foldI f k (f a b) r else none
  | _, _ :: _ => none
def symMost (b : Builtin) (vs : List Value) : Option Value :=
  match vs with
  | .int k a :: r => (match b with
    | .max => foldI max k a r
    | .min => foldI min k a r
    | _ => none)
  | _ => none
theorem max2_eq (k : IntKind) (a b : Int) : Builtin.max2 (.int k a) (.int k b) = pure (.int k (max a b)) := by
  simp only [Builtin.max2]; congr 2; rw [Int.max_def]; split <;> split <;> omega
theorem min2_eq (k : IntKind) (a b : Int) : Builtin.min2 (.int k a) (.int k b) = pure (.int k (min a b)) := by
  simp only [Builtin.min2]; congr 2; rw [Int.min_def]; split <;> split <;> omega
theorem foldMax {P : Program} {k : IntKind} : ∀ {r : List Value} {a : Int} {v : Value}, foldI max k a r = some v → pureRun P (r.foldlM Builtin.max2 (.int k a)) = some v ∧ (∃ n, v = .int k n)
  | [], a, v, h => by simp only [foldI, Option.some.injEq] at h; subst h; exact ⟨rfl, _, rfl⟩
  | x :: r, a, v, h => by
    cases x <;> simp only [foldI] at h <;> first | (cases h; done) | skip
    rename_i k' b
    split at h
    · rename_i hk
      subst hk
      obtain ⟨h1, h2⟩ := foldMax (P := P) h
      refine ⟨?_, h2⟩
      rw [List.foldlM_cons, max2_eq, pureRun_bind]
      exact h1
    · cases h
theorem foldMin {P : Program} {k : IntKind} : ∀ {r : List Value} {a : Int} {v : Value}, foldI min k a r = some v → pureRun P (r.foldlM Builtin.min2 (.int k a)) = some v ∧ (∃ n, v = .int k n)
  | [], a, v, h => by simp only [foldI, Option.some.injEq] at h; subst h; exact ⟨rfl, _, rfl⟩
  | x :: r, a, v, h => by
    cases x <;> simp only [foldI] at h <;> first | (cases h; done) | skip
    rename_i k' b
    split at h
    · rename_i hk
      subst hk
      obtain ⟨h1, h2⟩ := foldMin (P := P) h
      refine ⟨?_, h2⟩
      rw [List.foldlM_cons, min2_eq, pureRun_bind]
      exact h1
    · cases h
theorem foldI_gr {f : Int → Int → Int} {k : IntKind} : ∀ {r : List Value} {a : Int} {v : Value}, foldI f k a r = some v → r.all gr = true
  | [], _, _, _ => rfl
  | x :: r, a, v, h => by
    cases x <;> simp only [foldI] at h <;> first | (cases h; done) | skip
    split at h
    · simp only [List.all_cons, Bool.and_eq_true]; exact ⟨rfl, foldI_gr h⟩
    · cases h

theorem symMost_ok {P : Program} {ρ : Operand → Value} {H : List Ob} {o : Oper} {b : Builtin} {args : Array Operand} {ts : Array TypeId} {v : Value} (ho : o.op = .call { callee := .builtin b, args := args, argTypes := ts })
    (hx : args.toList.all okO = true) (h : symMost b (args.toList.map ρ) = some v) : aread P ρ H o = some v := by
  have hg : (args.toList.all fun x => gr (ρ x)) = true ∧ (b = .max ∨ b = .min) := by
    unfold symMost at h
    split at h
    · rename_i k a r e
      have hall : (args.toList.map ρ).all gr = true ∧ (b = .max ∨ b = .min) := by
        rw [e, List.all_cons]
        split at h
        · exact ⟨by rw [foldI_gr h]; rfl, .inl rfl⟩
        · exact ⟨by rw [foldI_gr h]; rfl, .inr rfl⟩
        · cases h
      rw [List.all_map] at hall
      exact hall
    · cases h
  have hn : numB b = true := by rcases hg.2 with rfl | rfl <;> rfl
  simp only [aread, ho, hx, hg.1, hn, Bool.and_self, if_true]
  have hl : (args.map ρ).toList = args.toList.map ρ := by simp
  unfold symMost at h
  split at h
  · rename_i k a r e
    rcases hg.2 with rfl | rfl
    · obtain ⟨h1, n, rfl⟩ := foldMax (P := P) h
      refine pureVal_of ?_ rfl
      simp only [execOp, ho, resolve, pureRun_bind, pureRun_pure, Option.bind_some, invoke, builtin]
      simp only [Builtin.max_, hl, e]
      rw [h1]; rfl
    · obtain ⟨h1, n, rfl⟩ := foldMin (P := P) h
      refine pureVal_of ?_ rfl
      simp only [execOp, ho, resolve, pureRun_bind, pureRun_pure, Option.bind_some, invoke, builtin]
      simp only [Builtin.min_, hl, e]
      rw [h1]; rfl
  · cases h
end
end Go.Gh
