/- Structs compared. Conditions: none. -/
import Derived.Test.YtplejmmkcfmdcaaGhBc
namespace Go.Gh
open Go.RowKit
noncomputable section

/-- Part by part. -/
def eqFs (P : Program) (e : TypeId → Value → Value → Option Bool) (xs ys : Array Value) : List Field → Option Bool
  | [] => some true
  | f :: r =>
    if f.name = "_" then eqFs P e xs ys r else
    match rPart P f.type xs f.offset, rPart P f.type ys f.offset with
    | some u, some v => match e f.type u v, eqFs P e xs ys r with
      | some b, some b' => some (b && b')
      | _, _ => none
    | _, _ => none
def eqT (P : Program) : Nat → TypeId → Value → Value → Option Bool
  | 0, _, _, _ => none
  | d + 1, t, x, y =>
    match P.underlying t, x, y with
    | some .bool, .bool a, .bool b => some (a == b)
    | some (.int _), .int k a, .int k' b => if k = k' then some (decide (a = b)) else none
    | some .string, .string a, .string b => some (a == b)
    | some (.struct fs), .agg xs, .agg ys => if P.stoodInHeld t then none else eqFs P (eqT P d) xs ys fs.toList
    | _, _, _ => none

theorem part_pure {P : Program} {t : TypeId} {cs : Array Value} {off : Nat} {v : Value} (h : rPart P t cs off = some v) : pureRun P (part t cs off) = some v := by
  unfold rPart at h
  unfold part
  rw [pureRun_bind]
  have hag : ∀ {b : Bool}, isAggB P t = some b → pureRun P (isAgg t) = some b := by
    intro b hb
    unfold isAggB at hb
    unfold isAgg
    rw [pureRun_bind]
    split at hb
    · rename_i hu; cases hb; rw [pure_underlying hu]; rfl
    · rename_i hu; cases hb; rw [pure_underlying hu]; rfl
    · rename_i d h1 h2 hu
      cases hb; rw [pure_underlying hu]
      cases d <;> first | rfl | exact (h1 _ rfl).elim | exact (h2 _ _ rfl).elim
    · cases hb
  split at h
  · rename_i ha
    rw [hag ha]
    simp only [Option.bind_some, if_true]
    split at h
    · rename_i n hn
      simp only [Option.some.injEq] at h
      subst h
      unfold sizeB at hn
      rw [Option.map_eq_some_iff] at hn
      obtain ⟨i, hi, rfl⟩ := hn
      have : pureRun P (sizeOf t) = some i.size := by
        unfold sizeOf typeInfo
        simp only [pureRun_bind]
        show ((pureRun P (match P.info? t with | some i => pure i | none => _)).bind _) = _
        rw [hi]; rfl
      rw [pureRun_bind, this]; rfl
    · cases h
  · rename_i ha
    rw [hag ha]
    simp only [Option.bind_some, Bool.false_eq_true, if_false]
    rw [h]; rfl
  · cases h

theorem eqFs_ok {P : Program} {d : Nat} {xs ys : Array Value} (ih : ∀ t x y b, eqT P d t x y = some b → pureRun P (Op.equalIn d t x y) = some b) : ∀ {fs : List Field} {b : Bool}, eqFs P (eqT P d) xs ys fs = some b →
    pureRun P (do
      for f in fs do
        if f.name ≠ "_" then
          if !(← Op.equalIn d f.type (← part f.type xs f.offset) (← part f.type ys f.offset)) then return false
      pure true : Sem Bool) = some b := by
  intro fs
  induction fs with
  | nil => intro b h; simp only [eqFs, Option.some.injEq] at h; subst h; rfl
  | cons f r ihr =>
    intro b h
    simp only [eqFs] at h
    simp only [List.forIn_cons]
    by_cases hf : f.name = "_"
    · rw [if_pos hf] at h
      simp only [hf, ne_eq, not_true_eq_false, if_false, pure_bind]
      exact ihr h
    · rw [if_neg hf] at h
      split at h
      · rename_i u v hu hv
        split at h
        · rename_i b1 b2 h1 h2
          simp only [Option.some.injEq] at h
          subst h
          have e1 := ih _ _ _ _ h1
          simp only [ne_eq, hf, not_false_eq_true, if_true, pureRun_bind, part_pure hu, part_pure hv, Option.bind_some, e1]
          cases b1 with
          | true =>
            have := ihr h2
            simp only [pureRun_bind, ne_eq] at this
            exact this
          | false => rfl
        · cases h
      · cases h

theorem eqT_ok {P : Program} : ∀ {d : Nat} (t : TypeId) (x y : Value) (b : Bool), eqT P d t x y = some b → pureRun P (Op.equalIn d t x y) = some b
  | 0, _, _, _, _, h => by cases h
  | d + 1, t, x, y, b, h => by
    unfold eqT at h
    split at h
    · rename_i u c hu
      simp only [Option.some.injEq] at h; subst h
      exact equalIn_bool d hu u c
    · rename_i q k u k' c hu
      split at h
      · rename_i hk
        subst hk
        simp only [Option.some.injEq] at h; subst h
        rw [← intEq]
        exact equalIn_int d hu k u c
      · cases h
    · rename_i u c hu
      simp only [Option.some.injEq] at h; subst h
      exact equalIn_string d hu u c
    · rename_i fs xs ys hu
      split at h
      · cases h
      · rename_i hst
        have := eqFs_ok (fun t x y b => eqT_ok t x y b) h
        unfold Op.equalIn
        rw [pureRun_bind, pure_underlying hu]
        simp only [Option.bind_some]
        rw [pureRun_bind, show pureRun P program = some P from rfl]
        simp only [Option.bind_some]
        rw [if_neg hst, ← Array.forIn_toList]
        exact this
    · cases h

def symEq (P : Program) (op : BinOp) (t : TypeId) (x y : Value) : Option (Bool × Value) :=
  match x, y with
  | .agg xs, .agg ys =>
    if P.eqGuardType P.depth t then none else
    match eqT P 10000 t (.agg xs) (.agg ys) with
    | some b => (match op with | .eql => some (gr x && gr y, .bool b) | .neq => some (gr x && gr y, .bool (!b)) | _ => none)
    | none => none
  | _, _ => none

theorem symEq_ok {P : Program} {ρ : Operand → Value} {H : List Ob} {o : Oper} {op : BinOp} {t yt : TypeId} {x y : Operand} {b : Bool} {v : Value} (ho : o.op = .binOp op t x y yt) (hx : okO x = true) (hy : okO y = true)
    (h : symEq P op t (ρ x) (ρ y) = some (b, v)) (hb : b = true) : aread P ρ H o = some v := by
  unfold symEq at h
  split at h
  · rename_i xs ys e1 e2
    split at h
    · cases h
    · rename_i hg
      split at h
      · rename_i c hc
        have hq : pureRun P (Op.equal t (.agg xs) (.agg ys)) = some c := eqT_ok _ _ _ _ hc
        have hguard : ∀ op', pureRun P (eqGuard op' t x y (.agg xs) (.agg ys)) = some () := by
          intro op'
          unfold eqGuard
          have h1 : pureRun P program = some P := rfl
          cases op' <;> first | rfl | skip
          all_goals
            simp only [Bool.not_true, Bool.false_eq_true, if_false, pureRun_bind, h1, Option.bind_some]
            rw [if_pos (by simpa using hg)]
            rfl
        have main : ∀ u, pureRun P (binOp op t (.agg xs) (.agg ys)) = some u → gr u = true → (gr (.agg xs) && gr (.agg ys)) = true → aread P ρ H o = some u := by
          intro u hu hgu hgg
          have hp := pure_bin (P := P) (ρ := ρ) ho (by rw [e1, e2]; exact hguard _) (by rw [e1, e2]; exact hu) hgu
          rw [Bool.and_eq_true] at hgg
          unfold aread
          simp only [ho, hx, hy, e1, e2]
          rw [hgg.1, hgg.2, hp]
          have hf : fastBin op (.agg xs) (.agg ys) = none := by simp [fastBin]
          rw [hf]; rfl
        split at h
        · simp only [Option.some.injEq, Prod.mk.injEq] at h
          obtain ⟨h1, rfl⟩ := h
          exact main _ (by simp only [binOp]; rw [pureRun_bind, hq]; rfl) rfl (by rw [← e1, ← e2]; exact h1.trans hb)
        · simp only [Option.some.injEq, Prod.mk.injEq] at h
          obtain ⟨h1, rfl⟩ := h
          exact main _ (by simp only [binOp]; rw [pureRun_bind, hq]; rfl) rfl (by rw [← e1, ← e2]; exact h1.trans hb)
        · cases h
      · cases h
  · cases h
end
end Go.Gh
