/- What an operation that writes nothing gives on values that are not written out, and under which condition. Conditions: none. -/
import Derived.Test.YtplejmmkcfmdcaaGhBa
namespace Go.Gh
open Go.RowKit
noncomputable section

theorem pureVal_of {P : Program} {s : Sem Next} {v : Value} (h : pureRun P s = some (.value v)) (hg : gr v = true) : pureVal P s = some v := by
  unfold pureVal; rw [h]; simp only; rw [if_pos hg]
theorem pure_val {P : Program} {s : Sem Value} {v : Value} (h : pureRun P s = some v) : pureRun P (do pure (.value (← s)) : Sem Next) = some (.value v) := by
  rw [pureRun_bind, h]; rfl
theorem pure_bin {P : Program} {ρ : Operand → Value} {o : Oper} {op : BinOp} {t yt : TypeId} {x y : Operand} {v : Value} (ho : o.op = .binOp op t x y yt) (hg : pureRun P (eqGuard op t x y (ρ x) (ρ y)) = some ())
    (hb : pureRun P (binOp op t (ρ x) (ρ y)) = some v) (hv : gr v = true) : pureVal P (execOp ρ o) = some v := by
  refine pureVal_of ?_ hv
  simp only [execOp, ho]
  exact pure_val (by rw [pureRun_bind, hg]; exact hb)

theorem guard_int {P : Program} (op : BinOp) (t : TypeId) (x y : Operand) (k k' : IntKind) (a b : Int) : pureRun P (eqGuard op t x y (.int k a) (.int k' b)) = some () := by
  unfold eqGuard; cases op <;> rfl
theorem guard_bool {P : Program} (op : BinOp) (t : TypeId) (x y : Operand) (a b : Bool) : pureRun P (eqGuard op t x y (.bool a) (.bool b)) = some () := by
  unfold eqGuard; cases op <;> rfl
theorem guard_str {P : Program} (op : BinOp) (t : TypeId) (x y : Operand) (a b : ByteArray) : pureRun P (eqGuard op t x y (.string a) (.string b)) = some () := by
  unfold eqGuard; cases op <;> rfl

def symBin (P : Program) (op : BinOp) (t : TypeId) (x y : Value) : Option (Bool × Value) :=
  match x, y with
  | .int k a, .int k' b => if k = k' then symInt op k a b else match op with
    | .shl => some (decide (0 ≤ b), .int k (k.wrap (a * 2 ^ (min b.toNat k.bits))))
    | .shr => some (decide (0 ≤ b), .int k (a.fdiv (2 ^ (min b.toNat k.bits))))
    | _ => none
  | .bool a, .bool b => match P.underlying t with
    | some .bool => (match op with | .eql => some (true, .bool (a == b)) | .neq => some (true, .bool (!(a == b))) | _ => none)
    | _ => none
  | .string a, .string b => match op with | .eql => some (true, .bool (a.toList == b.toList)) | .neq => some (true, .bool (!(a.toList == b.toList))) | _ => none
  | _, _ => none

theorem shift_shl {P : Program} {k k' : IntKind} {a b : Int} (h : decide (0 ≤ b) = true) : pureRun P (Op.shift .shl k a k' b) = some (.int k (k.wrap (a * 2 ^ (min b.toNat k.bits)))) := by
  have := of_decide_eq_true h
  unfold Op.shift
  rw [if_neg (by omega)]
  rfl
theorem shift_shr {P : Program} {k k' : IntKind} {a b : Int} (h : decide (0 ≤ b) = true) : pureRun P (Op.shift .shr k a k' b) = some (.int k (a.fdiv (2 ^ (min b.toNat k.bits)))) := by
  have := of_decide_eq_true h
  unfold Op.shift
  rw [if_neg (by omega)]
  rfl

theorem symBin_ok {P : Program} {ρ : Operand → Value} {H : List Ob} {o : Oper} {op : BinOp} {t yt : TypeId} {x y : Operand} {b : Bool} {v : Value} (ho : o.op = .binOp op t x y yt) (hx : okO x = true) (hy : okO y = true)
    (h : symBin P op t (ρ x) (ρ y) = some (b, v)) (hb : b = true) : aread P ρ H o = some v := by
  have main : gr (ρ x) = true → gr (ρ y) = true → (fastBin op (ρ x) (ρ y) = some v ∨ fastBin op (ρ x) (ρ y) = none ∧ pureVal P (execOp ρ o) = some v) → aread P ρ H o = some v := by
    intro g1 g2 h
    simp only [aread, ho, hx, hy, g1, g2, Bool.and_self, if_true]
    rcases h with h | ⟨h1, h2⟩
    · rw [h]
    · rw [h1]; exact h2
  have pb := @pure_bin P ρ o op t yt x y v ho
  unfold symBin at h
  split at h
  · rename_i k a k' c hxa hyc
    rw [hxa, hyc] at main pb
    have main := main rfl rfl
    split at h
    · rename_i hk
      subst hk
      unfold symInt at h
      cases op <;> simp only [Option.some.injEq, Prod.mk.injEq] at h <;> first | (cases h; done) | skip
      case quo =>
        obtain ⟨h1, rfl⟩ := h
        subst h1
        refine main (.inr ⟨by simp [fastBin], pb (guard_int _ _ _ _ _ _ _ _) ?_ rfl⟩)
        simp only [binOp, ne_eq, not_true_eq_false, if_false, Op.intDiv]
        rw [if_neg (by simpa using hb)]; rfl
      case rem =>
        obtain ⟨h1, rfl⟩ := h
        subst h1
        refine main (.inr ⟨by simp [fastBin], pb (guard_int _ _ _ _ _ _ _ _) ?_ rfl⟩)
        simp only [binOp, ne_eq, not_true_eq_false, if_false, Op.intDiv]
        rw [if_neg (by simpa using hb)]; rfl
      case shl =>
        obtain ⟨h1, rfl⟩ := h
        subst h1
        exact main (.inr ⟨by simp [fastBin], pb (guard_int _ _ _ _ _ _ _ _) (by simpa only [binOp] using shift_shl hb) rfl⟩)
      case shr =>
        obtain ⟨h1, rfl⟩ := h
        subst h1
        exact main (.inr ⟨by simp [fastBin], pb (guard_int _ _ _ _ _ _ _ _) (by simpa only [binOp] using shift_shr hb) rfl⟩)
      all_goals
        obtain ⟨h1, rfl⟩ := h
        refine main (.inl ?_)
        simp [fastBin, intEq, intNe]
    · rename_i hk
      split at h
      · simp only [Option.some.injEq, Prod.mk.injEq] at h
        obtain ⟨h1, rfl⟩ := h
        subst h1
        exact main (.inr ⟨by simp [fastBin, hk], pb (guard_int _ _ _ _ _ _ _ _) (by simpa only [binOp] using shift_shl hb) rfl⟩)
      · simp only [Option.some.injEq, Prod.mk.injEq] at h
        obtain ⟨h1, rfl⟩ := h
        subst h1
        exact main (.inr ⟨by simp [fastBin, hk], pb (guard_int _ _ _ _ _ _ _ _) (by simpa only [binOp] using shift_shr hb) rfl⟩)
      · cases h
  · rename_i a c hxa hyc
    rw [hxa, hyc] at main pb
    have main := main rfl rfl
    split at h
    · rename_i hu
      split at h
      · simp only [Option.some.injEq, Prod.mk.injEq] at h
        obtain ⟨h1, rfl⟩ := h
        refine main (.inr ⟨by simp [fastBin], pb (guard_bool _ _ _ _ _ _) ?_ rfl⟩)
        simp only [binOp]
        rw [pureRun_bind, show pureRun P (Op.equal t (.bool a) (.bool c)) = some (a == c) from equalIn_bool 9999 hu a c]; rfl
      · simp only [Option.some.injEq, Prod.mk.injEq] at h
        obtain ⟨h1, rfl⟩ := h
        refine main (.inr ⟨by simp [fastBin], pb (guard_bool _ _ _ _ _ _) ?_ rfl⟩)
        simp only [binOp]
        rw [pureRun_bind, show pureRun P (Op.equal t (.bool a) (.bool c)) = some (a == c) from equalIn_bool 9999 hu a c]; rfl
      · cases h
    · cases h
  · rename_i a c hxa hyc
    rw [hxa, hyc] at main pb
    have main := main rfl rfl
    split at h
    · simp only [Option.some.injEq, Prod.mk.injEq] at h
      obtain ⟨h1, rfl⟩ := h
      refine main (.inr ⟨by simp [fastBin], pb (guard_str _ _ _ _ _ _) ?_ rfl⟩)
      simp only [binOp, Op.stringOp]; rfl
    · simp only [Option.some.injEq, Prod.mk.injEq] at h
      obtain ⟨h1, rfl⟩ := h
      refine main (.inr ⟨by simp [fastBin], pb (guard_str _ _ _ _ _ _) ?_ rfl⟩)
      simp only [binOp, Op.stringOp]; rfl
    · cases h
  · cases h
end
end Go.Gh
