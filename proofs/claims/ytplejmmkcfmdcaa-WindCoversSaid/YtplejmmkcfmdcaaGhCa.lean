/- Known answers, as trees of cases; how new ones are added, also by induction on a measure. Conditions: none. -/
import Derived.Test.YtplejmmkcfmdcaaGhBi
namespace Go.Gh
open Go.RowKit
noncomputable section

/-- An answer: by cases. -/
inductive AT where
  | leaf (o : Out)
  | no
  | br (b : Bool) (x y : AT)
def AT.run : AT → Kn → Option Out
  | .leaf o, k => k o
  | .no, _ => none
  | .br b x y, k => cond b (x.run k) (y.run k)
def AT.out : AT → Option Out
  | .leaf o => some o
  | .no => none
  | .br b x y => cond b x.out y.out
theorem AT.run_some {k : Kn} {r : Out} : ∀ {a : AT}, a.run k = some r → ∃ o, a.out = some o ∧ k o = some r
  | .leaf o, h => ⟨o, rfl, h⟩
  | .no, h => nomatch h
  | .br b x y, h => by
    cases b with
    | true => exact AT.run_some (a := x) h
    | false => exact AT.run_some (a := y) h

abbrev Ans := Task → Option AT
def Ans.self (a : Ans) : Self := fun t => match a t with
  | some x => x.out
  | _ => none
def Ans.c (a : Ans) : Task → Kn → Option (Option Out) := fun t k => match a t with
  | some x => some (x.run k)
  | none => none
theorem Ans.oc (a : Ans) : OcOk a.c a.self := by
  constructor
  · intro t k r h
    unfold Ans.c at h
    unfold Ans.self
    split at h
    · rename_i x ha
      simp only [Option.some.injEq] at h
      rw [ha]
      exact AT.run_some h
    · cases h
  · intro t k h
    unfold Ans.c at h
    unfold Ans.self
    split at h
    · cases h
    · rename_i ha; rw [ha]

def LoopFact (P : Program) : Task → Out → Prop
  | .code rd (.loop c) s, .ex e s' => s.h.base ≤ s.h.bl.length →
    ∀ (K : Nat → Prop) (w0 : World) (φ : Phi) (w : World) (a : Act) (F : Fence) (n : Nat), Inv K w0 φ s.h.bl w → VRs φ s.t.toArray a.tmps → DRs φ s.d a.defers → FenceOk φ rd F → wpLoopIn F n P c (CodeR K w0 φ e s') a w
  | _, _ => True

/-- What is known of a task. -/
def Fact (P : Program) (t : Task) (o : Out) : Prop := TaskOk P t o ∧ LoopFact P t o
def Known (P : Program) (a : Ans) : Prop := ∀ t x o, a t = some x → x.out = some o → Fact P t o

theorem Ans.self_iff {a : Ans} {t : Task} {o : Out} : a.self t = some o ↔ ∃ x, a t = some x ∧ x.out = some o := by
  unfold Ans.self
  split
  · rename_i x h; rw [h]; simp
  · rename_i h
    constructor
    · intro h'; cases h'
    · rintro ⟨x, hx, _⟩; exact (h _ hx).elim
theorem Known.selfOk {P : Program} {a : Ans} (h : Known P a) : SelfOk P a.self := fun t o ht => let ⟨x, h1, h2⟩ := Ans.self_iff.1 ht; (h t x o h1 h2).1
theorem Known.loopOk {P : Program} {a : Ans} (h : Known P a) : LoopOk P a.self := fun _ _ _ _ _ hc hb => let ⟨x, h1, h2⟩ := Ans.self_iff.1 hc; (h _ x _ h1 h2).2 hb
theorem Known.nothing (P : Program) : Known P (fun _ => none) := fun _ _ _ h => nomatch h

def Ans.or (p a : Ans) : Ans := fun t => match p t with
  | some r => some r
  | none => a t
def Ans.below (p : Ans) (mes : Task → Nat) (m : Nat) : Ans := fun t => match p t with
  | some x => some (.br (Nat.blt (mes t) m) x .no)
  | none => none
theorem Known.or {P : Program} {p a : Ans} (hp : Known P p) (ha : Known P a) : Known P (p.or a) := by
  intro t x o h
  unfold Ans.or at h
  split at h
  · rename_i r hr; rw [h] at hr; exact hp t x o hr
  · exact ha t x o h

/-- The frame behind. -/
def frOf : Option Out → List Value
  | some (.ex _ s) => s.t
  | _ => []

section
variable {P : Program}
/-- The shape of an answer, with what is not told of it handed in. -/
abbrev Shape := Task → Option (List Value → AT)
def Shape.ans (s : Shape) (J : Task → List Value) : Ans := fun t => match s t with
  | some f => some (f (J t))
  | none => none

theorem Known.junk {a : Ans} (hk : Known P a) (mes : Task → Nat) (s : Shape)
    (hh : ∀ (J : Task → List Value) (t : Task) (f : List Value → AT), s t = some f → Known P (((s.ans J).below mes (mes t)).or a) → ∃ j, ∀ o, (f j).out = some o → Fact P t o) :
    ∃ J, Known P (s.ans J) := by
  classical
  let J : Task → List Value := fun t => if h : ∃ j, ∃ f, s t = some f ∧ ∀ o, (f j).out = some o → Fact P t o then Classical.choose h else []
  refine ⟨J, ?_⟩
  have main : ∀ m t, mes t < m → ∀ f, s t = some f → ∀ o, (f (J t)).out = some o → Fact P t o := by
    intro m
    induction m with
    | zero => intro t ht; exact absurd ht (Nat.not_lt_zero _)
    | succ m ih =>
      intro t ht f hf
      have hkn : Known P (((s.ans J).below mes (mes t)).or a) := by
        refine Known.or ?_ hk
        intro t' x o h ho
        unfold Ans.below at h
        split at h
        · rename_i x' hb
          simp only [Option.some.injEq] at h
          subst h
          simp only [AT.out] at ho
          obtain ⟨h2, ho⟩ := cond_some ho
          unfold Shape.ans at hb
          split at hb
          · rename_i f' hs
            simp only [Option.some.injEq] at hb
            subst hb
            rw [Nat.blt_eq] at h2
            exact ih t' (by omega) f' hs o ho
          · cases hb
        · cases h
      obtain ⟨j, h1⟩ := hh J t f hf hkn
      have hex : ∃ j, ∃ f, s t = some f ∧ ∀ o, (f j).out = some o → Fact P t o := ⟨j, f, hf, h1⟩
      have : J t = Classical.choose hex := by show dite _ _ _ = _; rw [dif_pos hex]
      obtain ⟨f', h2, h3⟩ := Classical.choose_spec hex
      rw [hf] at h2
      cases h2
      rw [this]; exact h3
  intro t x o h ho
  unfold Shape.ans at h
  split at h
  · rename_i f hs
    simp only [Option.some.injEq] at h
    subst h
    exact main _ t (Nat.lt_succ_self _) f hs o ho
  · cases h

end

section
variable {P : Program} (hN : NoNG P) (hm : P.follows .mixedOrders = true)
include hN hm
theorem Known.fact {a : Ans} (hk : Known P a) {n : Nat} {t : Task} {o : Out} (h : evC P a.c n t some = some o) : Fact P t o := by
  obtain ⟨o', h1, h2⟩ := evC_ok (P := P) a.oc n t some o h
  cases h2
  have hh := iterO_ok (drawn := drawn) hN (fun self hs rd id os s o h => drawn_ok hN hm self hs rd id os s o h) hk.selfOk hk.loopOk n
  refine ⟨hh.1 _ _ h1, ?_⟩
  unfold LoopFact
  split
  · exact fun hb => hh.2 _ _ _ _ _ h1 hb
  · trivial

/-- The first step is walked, whatever is known. -/
def evS (P : Program) (a : Ans) (n : Nat) : SelfC := stepC P (evC P a.c n)
theorem Known.step {a : Ans} (hk : Known P a) {n : Nat} {t : Task} {o : Out} (h : evS P a n t some = some o) : Fact P t o := by
  obtain ⟨o', h1, h2⟩ := stepC_ok (evC_ok (P := P) a.oc n) t some o h
  cases h2
  have hd : DrawnOk P drawn := fun self hs rd id os s o h => drawn_ok hN hm self hs rd id os s o h
  have hh := iterO_ok (drawn := drawn) hN hd hk.selfOk hk.loopOk n
  refine ⟨step_ok hN hd hh.1 hh.2 t _ h1, ?_⟩
  unfold LoopFact
  split
  · obtain ⟨e1, s1, he, h3⟩ := loop_sound (drawn := drawn) hh.1 hh.2 h1
    cases he
    exact fun hb => (h3 hb).2
  · trivial

/-- A call that does not call itself. -/
theorem Known.call {a : Ans} (hk : Known P a) (p : Ans) (hh : ∀ t x, p t = some x → ∀ o, x.out = some o → Fact P t o ∨ ∃ n, evC P a.c n t some = some o) : Known P (p.or a) :=
  Known.or (fun t x o h ho => (hh t x h o ho).elim id fun ⟨_, h1⟩ => hk.fact hN hm h1) hk
end

/-! ### Is it this code? Is it so? -/
def eqCode (c c' : Code) : Bool := @decide (c = c') (Classical.propDecidable _)
theorem eqCode_self (c : Code) : eqCode c c = true := by simp [eqCode]
theorem eqCode_eq {c c' : Code} (h : eqCode c c' = true) : c = c' := by simpa [eqCode] using h
def dec (p : Prop) : Bool := @decide p (Classical.propDecidable _)
theorem dec_iff {p : Prop} : dec p = true ↔ p := by simp [dec]

/-! ### A frame of which some slots are told -/
def junkFrom (j : List Value) : Nat → Nat → List Value
  | 0, _ => []
  | m + 1, i => lget j i :: junkFrom j m (i + 1)
def junkF (n : Nat) (j : List Value) : List Value := junkFrom j n 0
end
end Go.Gh
