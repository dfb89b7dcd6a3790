/- Frames of which some slots are told; the loops of a function, by their number. Conditions: none. -/
import Derived.Test.YtplejmmkcfmdcaaGhCc
import Derived.Test.YtplejmmkcfmdcaaGhV
namespace Go.Gh
open Go.RowKit
noncomputable section

def sets (t : List Value) : List (Nat × Value) → List Value
  | [] => t
  | (k, v) :: r => sets (lset t k v) r

theorem slotRs_lo (n : Nat) : ∀ L : List Value, SlotRs n L (L.map lo)
  | [] => .nil
  | _ :: L => .cons (.inl rfl) (slotRs_lo n L)
theorem slotRs_set {n : Nat} {v : Value} (hv : scT n v = true) : ∀ {L T : List Value}, SlotRs n L T → ∀ k, L[k]? = some v → SlotRs n L (lset T k v)
  | _, _, .nil, k, h => by simp at h
  | _, _, .cons (l := L) (l0 := T) h r, 0, hk => by
    simp only [List.getElem?_cons_zero, Option.some.injEq] at hk
    subst hk
    exact .cons (.inr (.inr ⟨rfl, hv⟩)) r
  | _, _, .cons (l := L) (l0 := T) h r, k + 1, hk => by
    simp only [List.getElem?_cons_succ] at hk
    exact .cons h (slotRs_set hv r k hk)
theorem slotRs_sets {n : Nat} {L : List Value} {known : List (Nat × Value)} : ∀ {T : List Value}, SlotRs n L T → (∀ kv ∈ known, L[kv.1]? = some kv.2 ∧ scT n kv.2 = true) → SlotRs n L (sets T known) := by
  induction known with
  | nil => intro T h _; exact h
  | cons kv r ih =>
    intro T h hk
    have h1 := hk kv (List.mem_cons_self ..)
    exact ih (slotRs_set h1.2 h kv.1 h1.1) fun kv hm => hk kv (List.mem_cons_of_mem _ hm)

theorem junkFrom_eq (j : List Value) : ∀ (m i : Nat), i + m = j.length → junkFrom j m i = j.drop i
  | 0, i, h => by simp only [junkFrom]; rw [List.drop_eq_nil_of_le (by omega)]
  | m + 1, i, h => by
    simp only [junkFrom]
    rw [junkFrom_eq j m (i + 1) (by omega), lget_eq, Array.getD_eq_getD_getElem?, List.getElem?_toArray, List.getElem?_eq_getElem (by omega)]
    simp only [Option.getD_some]
    exact (List.drop_eq_getElem_cons (by omega)).symm
theorem junkF_eq {n : Nat} {j : List Value} (h : j.length = n) : junkF n j = j := by
  unfold junkF
  rw [junkFrom_eq j n 0 (by omega)]; rfl

theorem slotRs_known {n m : Nat} {L : List Value} {known : List (Nat × Value)} (hl : L.length = m) (hk : ∀ kv ∈ known, L[kv.1]? = some kv.2 ∧ scT n kv.2 = true) : SlotRs n L (sets (junkF m (L.map lo)) known) := by
  rw [junkF_eq (by simpa using hl)]
  exact slotRs_sets (slotRs_lo n L) hk
theorem slotRs_head {n : Nat} {L : List Value} {known : List (Nat × Value)} (hk : ∀ kv ∈ known, L[kv.1]? = some kv.2 ∧ scT n kv.2 = true) : SlotRs n L (sets (L.map lo) known) :=
  slotRs_sets (slotRs_lo n L) hk

/-! ### Loops by their number -/
def loopsIn : Code → List Code
  | .seq a b => loopsIn a ++ loopsIn b
  | .cond _ a b => loopsIn a ++ loopsIn b
  | .block _ c => loopsIn c
  | .loop c => c :: loopsIn c
  | .rangeFunc _ _ a b => loopsIn a ++ loopsIn b
  | _ => []
def theLoop (P : Program) (f k : Nat) : Code :=
  match P.funcs[f]? with
  | some fn => (match fn.body with
    | some c => (match (loopsIn c)[k]? with | some c => c | none => .skip)
    | none => .skip)
  | none => .skip

/-- The number of the first region. -/
def firstReg : Code → Nat
  | .seq a _ => firstReg a
  | .block _ c => firstReg c
  | .loop c => firstReg c
  | .region id _ _ => id
  | _ => 9999
/-- The answer of a loop: how it ends, and what is told of its frame. -/
def loopEnd (n : Nat) (e : Ex) (known : List (Nat × Value)) (h : Hp) (j : List Value) : AT := .leaf (.ex e { t := sets (junkF n j) known, d := [], h := h })

/-- What is looked at behind a piece of code: some slots, the first blocks. -/
def sumK (n0 N : Nat) (pick : Ex → List Nat) : Kn
  | .ex e s => (match s.d with
    | [] => (match lenIs s.t N with
      | true => some (.ex e { t := (pick e).map (lget s.t), d := [], h := { bl := s.h.bl.take n0, base := N, wr := s.h.wr } })
      | false => none)
    | _ => none)
  | _ => none

def notU (v : Value) : Bool := match v with | .tuple _ => false | _ => true
theorem getElem_of_lget {L : List Value} {k : Nat} {v : Value} (h : lget L k = v) (hn : notU v = true) : L[k]? = some v := by
  rw [lget_eq, Array.getD_eq_getD_getElem?, List.getElem?_toArray] at h
  cases hc : L[k]? with
  | none => rw [hc] at h; subst h; cases hn
  | some u => rw [hc] at h; simp at h; rw [h]

theorem ex_guard {Q : Out → Prop} {b : Bool} {g : List Value → AT} (h : b = true → ∃ j, ∀ o, (g j).out = some o → Q o) : ∃ j, ∀ o, (AT.br b (g j) .no).out = some o → Q o := by
  cases b with
  | true => exact h rfl
  | false => exact ⟨[], fun o ho => by cases ho⟩

theorem wrap64_id {x : Int} (h1 : -9223372036854775808 ≤ x) (h2 : x < 9223372036854775808) : IntKind.i64.wrap x = x := by
  unfold IntKind.wrap
  simp [IntKind.bits, IntKind.signed]
  split <;> omega
theorem sc1_g0 {n : Nat} {v : Value} (h : g0 v = true) : sc1 n v = true := by
  cases v with
  | pointer a => cases a with | none => rfl | some a => simp [g0] at h
  | slice a l c => cases a with | none => exact h | some a => simp [g0] at h
  | map a => cases a with | none => rfl | some a => simp [g0] at h
  | func f a b => simp [g0] at h
  | _ => first | rfl | (simp [g0] at h)
theorem obSc_g0 {n : Nat} {c : Array Value} {r : Bool} (h : c.toList.all g0 = true) : obSc n (.cells c r) = true := by
  rw [List.all_eq_true] at h
  simp only [obSc, List.all_eq_true]
  exact fun x hx => sc1_g0 (h x hx)

theorem zip_same {α : Type} {x y : α} : ∀ {l : List α}, (x, y) ∈ l.zip l → x = y
  | [], h => by simp at h
  | z :: r, h => by
    simp only [List.zip_cons_cons, List.mem_cons] at h
    rcases h with h | h
    · cases h; rfl
    · exact zip_same h

section
variable {P : Program} (hN : NoNG P) (hm : P.follows .mixedOrders = true)
include hN hm
theorem Known.stepK {a : Ans} (hk : Known P a) {n : Nat} {t : Task} {k : Kn} {r : Out} (h : evS P a n t k = some r) : ∃ o, k o = some r ∧ Fact P t o := by
  obtain ⟨o', h1, h2⟩ := stepC_ok (evC_ok (P := P) a.oc n) t k r h
  have hd : DrawnOk P drawn := fun self hs rd id os s o h => drawn_ok hN hm self hs rd id os s o h
  have hh := iterO_ok (drawn := drawn) hN hd hk.selfOk hk.loopOk n
  refine ⟨o', h2, step_ok hN hd hh.1 hh.2 t _ h1, ?_⟩
  unfold LoopFact
  split
  · obtain ⟨e1, s1, he, h3⟩ := loop_sound (drawn := drawn) hh.1 hh.2 h1
    cases he
    exact fun hb => (h3 hb).2
  · trivial

theorem Known.loopLeaf {a : Ans} (hkn : Known P a) {n N0 N : Nat} {c : Code} {t : List Value} {live : List (Nat × Value)} {H0 H1 G : List Ob} {base : Nat} {wr wr1 : List Nat} {pick : Ex → List Nat} {e : Ex} {vs : List Value}
    (hev : evS P a n (.code none (.loop c) ⟨sets (junkF N0 (t.map lo)) live, [], ⟨H0, base, wr⟩⟩) (sumK H0.length N pick) = some (.ex e ⟨vs, [], ⟨H1, N, wr1⟩⟩))
    (hl : t.length = N0) (hlive : ∀ kv ∈ live, lget t kv.1 = kv.2 ∧ notU kv.2 = true ∧ scT H0.length kv.2 = true) (hb : base ≤ H0.length) (hsc : H0.all (obSc H0.length) = true) (hk : ObsKept H0.length H0 H1) (he : noPanic e = true)
    (hvs : vs.all (fun v => notU v && scT H0.length v) = true) :
    ∃ j, ∀ o, (loopEnd N e ((pick e).zip vs) ⟨H1 ++ G, base, wr1⟩ j).out = some o → Fact P (.code none (.loop c) ⟨t, [], ⟨H0 ++ G, base, wr⟩⟩) o := by
  obtain ⟨o1, h1, hf⟩ := hkn.stepK hN hm hev
  unfold sumK at h1
  split at h1
  · rename_i e' s
    split at h1
    · rename_i hd
      split at h1
      case h_2 => cases h1
      rename_i hlen
      simp only [Option.some.injEq, Out.ex.injEq, St.mk.injEq, Hp.mk.injEq] at h1
      obtain ⟨rfl, h2, _, h3, _, h5⟩ := h1
      have h4 := lenIs_eq _ _ hlen
      obtain ⟨L, d, bl, base1, wr2⟩ := s
      simp only at hd h2 h3 h4 h5
      subst hd h5
      refine ⟨L.map lo, fun o ho => ?_⟩
      simp only [loopEnd, AT.out, Option.some.injEq] at ho
      subst ho
      have hbl : bl = H1 ++ bl.drop H0.length := by rw [← h3, List.take_append_drop]
      rw [hbl] at hf
      refine hf.forget hb hk hsc (slotRs_known hl fun kv hm => ?_) (slotRs_known h4 fun kv hm => ?_) he
      · obtain ⟨k1, k2, k3⟩ := hlive kv hm
        exact ⟨getElem_of_lget k1 k2, k3⟩
      · subst h2
        rw [List.zip_map_right] at hm
        obtain ⟨⟨x, y⟩, hxy, rfl⟩ := List.mem_map.1 hm
        have := zip_same hxy
        subst this
        simp only [Prod.map, id]
        have hmem : lget L x ∈ (pick e').map (lget L) := List.mem_map.2 ⟨x, (List.of_mem_zip hxy).1, rfl⟩
        rw [List.all_eq_true] at hvs
        have := hvs _ hmem
        rw [Bool.and_eq_true] at this
        exact ⟨getElem_of_lget rfl this.1, this.2⟩
    · cases h1
  · cases h1
end
end
end Go.Gh
