/- Code, calls, rounds, what comes behind them handed in; known answers are asked first. Conditions: none. -/
import Derived.Test.YtplejmmkcfmdcaaGhBh
namespace Go.Gh
open Go.RowKit
noncomputable section

/-! ### Known answers first -/
def iterO (orc : Self) (drawn : Program → Self → Option Nat → Nat → Array Oper → St → Option Out) (P : Program) : Nat → Self
  | 0 => orc
  | n + 1 => fun t => match orc t with
    | some o => some o
    | none => stepF drawn P (iterO orc drawn P n) t

theorem iterO_ok {P : Program} {orc : Self} {drawn : Program → Self → Option Nat → Nat → Array Oper → St → Option Out} (hN : NoNG P) (hdr : DrawnOk P drawn) (ho : SelfOk P orc) (hl : LoopOk P orc) :
    ∀ n, SelfOk P (iterO orc drawn P n) ∧ LoopOk P (iterO orc drawn P n)
  | 0 => ⟨ho, hl⟩
  | n + 1 => by
    obtain ⟨h1, h2⟩ := iterO_ok hN hdr ho hl n
    constructor
    · intro t o h
      simp only [iterO] at h
      split at h
      · rename_i o' ho'
        cases h
        exact ho _ _ ho'
      · exact step_ok hN hdr h1 h2 t o h
    · intro rd c s e s' hc hb
      simp only [iterO] at hc
      split at hc
      · rename_i o' ho'
        cases hc
        exact hl _ _ _ _ _ ho' hb
      · obtain ⟨e1, s1, he, hh⟩ := loop_sound (drawn := drawn) h1 h2 hc
        cases he
        exact (hh hb).2

/-! ### Leaving a function -/
def resC (P : Program) (H : List Ob) (t : List Value) : List ResultVar → (List Value → Option Out) → Option Out
  | [], k => k []
  | .tmp x :: r, k => headK (lget t x) fun v => resC P H t r fun vs => k (v :: vs)
  | .cell a ty :: r, k =>
    match symLoad P H ty (lget t a) with
    | some (b, v) => cond b (headK v fun v => resC P H t r fun vs => k (v :: vs)) none
    | none => none
theorem resC_ok {P : Program} {H : List Ob} {t : List Value} : ∀ {rs : List ResultVar} {k : List Value → Option Out} {r : Out}, resC P H t rs k = some r → ∃ vs, resL P H t.toArray rs = some vs ∧ k vs = some r
  | [], k, r, h => ⟨_, rfl, h⟩
  | .tmp x :: l, k, r, h => by
    simp only [resC, headK_eq] at h
    obtain ⟨vs, h1, h2⟩ := resC_ok h
    exact ⟨_, by simp only [resL, h1, Option.map_some, ← lget_eq], h2⟩
  | .cell a ty :: l, k, r, h => by
    simp only [resC] at h
    split at h
    · rename_i b v hs
      obtain ⟨h1, h⟩ := cond_some h
      rw [headK_eq] at h
      obtain ⟨vs, h2, h3⟩ := resC_ok h
      exact ⟨_, by simp only [resL, ← lget_eq, symLoad_ok hs h1, h2], h3⟩
    · cases h

def one (vs : List Value) : Value := match vs with | [v] => v | vs => .tuple ⟨vs⟩

def exitK (h hf : Hp) (v : Value) (k : Hp → Option Out) : Option Out :=
  if scT h.bl.length v && hf.wr.isEmpty then k h else heapK (exitH h hf v) k
theorem exitK_eq (h hf : Hp) (v : Value) (k : Hp → Option Out) : exitK h hf v k = k (exitH h hf v) := by
  unfold exitK
  split
  · rename_i hh; unfold exitH; rw [if_pos hh]
  · rw [heapK_eq]

def leaveC (P : Program) (self : SelfC) (fn : Func) (t : List Value) (h : Hp) : List Deferred → Mo → Hp → Kn → Option Out
  | [], .returning, hf, k => resC P hf.bl t fn.results.toList fun vs => headK (one vs) fun v => exitK h hf v fun h => k (.ret v h)
  | [], .panicking v false, hf, k => headK v fun v => exitK h hf v fun h => k (.pan v h)
  | [], .panicking _ true, _, _ => none
  | d :: ds, m, hf, k =>
    match d.target with
    | .collected r =>
      match nthO hf.bl r with
      | some (.dfr false) => heapK (hf.put r (.dfr true)) fun hf => leaveC P self fn t h ds m hf k
      | _ => none
    | .fn (.func g) cap =>
      if bodied P g then
        self (.dcall g (d.args ++ cap) m hf) fun
          | .dret m' h' => leaveC P self fn t h ds (settleM m') h' k
          | _ => none
      else none
    | _ => none

theorem resB_one {P : Program} {H : List Ob} {fn : Func} {t : Array Value} {vs : List Value} (h : resL P H t fn.results.toList = some vs) : resB P H fn t = some (one vs) := by
  unfold resB
  rw [h]
  cases vs with
  | nil => rfl
  | cons v r => cases r with
    | nil => rfl
    | cons _ _ => rfl

section
variable {P : Program} {self : SelfC} {sd : Self}
theorem leaveC_ok (hs : CpsOk self sd) {fn : Func} {t : List Value} {h : Hp} : ∀ {ds : List Deferred} {m : Mo} {hf : Hp} {k : Kn} {r : Out}, leaveC P self fn t h ds m hf k = some r →
    ∃ o, leave P sd fn t h ds m hf = some o ∧ k o = some r
  | [], .returning, hf, k, r, hc => by
    simp only [leaveC] at hc
    obtain ⟨vs, h1, h2⟩ := resC_ok hc
    rw [headK_eq, exitK_eq] at h2
    exact ⟨_, by simp only [leave, resB_one h1, Option.map_some], h2⟩
  | [], .panicking v false, hf, k, r, hc => by
    simp only [leaveC] at hc
    rw [headK_eq, exitK_eq] at hc
    exact ⟨_, rfl, hc⟩
  | [], .panicking v true, hf, k, r, hc => by cases hc
  | d :: ds, m, hf, k, r, hc => by
    simp only [leaveC] at hc
    simp only [leave]
    split at hc
    · rename_i x hx
      rw [hx]
      rw [nthO_eq] at hc
      simp only
      split at hc
      · rename_i hb
        rw [hb]
        rw [heapK_eq] at hc
        exact leaveC_ok hs hc
      · cases hc
    · rename_i g cap hx
      rw [hx]
      simp only
      split at hc
      · rename_i hb
        rw [if_pos hb]
        obtain ⟨o, h1, h2⟩ := hs _ _ _ hc
        rw [h1]
        cases o with
        | dret m' h' => exact leaveC_ok hs h2
        | _ => cases h2
      · cases hc
    · cases hc

/-! ### Ranges over functions -/
def endLoopC (self : SelfC) (rd : Option Nat) (L : Nat) (d : List Deferred) (t : List Value) (k : Kn) : Kn
  | .ret _ h =>
    match nthO h.bl L with
    | some (.loop st pend t' ps a b D) =>
      match st with
      | .busy => none
      | _ =>
      match pend with
      | none => heapK (h.put L (.loop .exhausted none t' ps a b D)) fun h => k (.ex .normal { t := t, d := d, h := h })
      | some c => heapK (h.put L (.loop .exhausted (some c) t' ps a b D)) fun h => self (.code rd c { t := t, d := d, h := h }) fun
        | .ex e s => k (.ex e s)
        | _ => none
    | _ => none
  | _ => none
theorem endLoopC_ok (hs : CpsOk self sd) {rd : Option Nat} {L : Nat} {d : List Deferred} {t : List Value} {k : Kn} {o r : Out} (hc : endLoopC self rd L d t k o = some r) : ∃ o', endLoop sd rd L d t (some o) = some o' ∧ k o' = some r := by
  cases o with
  | ret v h =>
    simp only [endLoopC] at hc
    rw [nthO_eq] at hc
    simp only [endLoop]
    split at hc
    · rename_i st pend t' ps a b D hb
      rw [hb]
      simp only
      split at hc
      · cases hc
      · rename_i hst
        rw [if_neg hst]
        split at hc
        · rw [heapK_eq] at hc
          exact ⟨_, rfl, hc⟩
        · rw [heapK_eq] at hc
          obtain ⟨o', h1, h2⟩ := hs _ _ _ hc
          simp only
          rw [h1]
          cases o' with
          | ex e s => exact ⟨_, rfl, h2⟩
          | _ => cases h2
    · cases hc
  | _ => cases hc

def pushK {β : Type} (h : Hp) (ob : Ob) (k : Hp → β) : β := heapK (h.push ob) k
theorem pushK_eq {β : Type} (h : Hp) (ob : Ob) (k : Hp → β) : pushK h ob k = k (h.push ob) := heapK_eq _ _

/-! ### A step -/
def stepC (P : Program) (self : SelfC) : SelfC
  | .code rd c s, k =>
    match c with
    | .skip | .label _ => k (.ex .normal s)
    | .exit id => k (.ex (.exit id) s)
    | .goto l => k (.ex (.goto l) s)
    | .ret => k (.ex .ret s)
    | .seq a b => self (.code rd a s) fun
      | .ex .normal s' => self (.code rd b s') fun
        | .ex e s2 => k (.ex e s2)
        | _ => none
      | .ex e s' => k (.ex e s')
      | _ => none
    | .cond c x y =>
      if okO c then match c with
        | .tmp d => (match lget s.t d with
          | .bool b => cond b (litK s.t d true fun t => self (.code rd x { t := t, d := s.d, h := s.h }) fun | .ex e s' => k (.ex e s') | _ => none)
              (litK s.t d false fun t => self (.code rd y { t := t, d := s.d, h := s.h }) fun | .ex e s' => k (.ex e s') | _ => none)
          | _ => none)
        | _ => (match evalT s.t c with
          | .bool b => cond b (self (.code rd x s) fun | .ex e s' => k (.ex e s') | _ => none) (self (.code rd y s) fun | .ex e s' => k (.ex e s') | _ => none)
          | _ => none)
      else none
    | .block id c => self (.code rd c s) fun
      | .ex (.exit id') s' => if id' = id then k (.ex .normal s') else k (.ex (.exit id') s')
      | .ex e s' => k (.ex e s')
      | _ => none
    | .loop c => self (.code rd c s) fun
      | .ex .normal s' => self (.code rd (.loop c) s') fun | .ex e s2 => k (.ex e s2) | _ => none
      | .ex e s' => k (.ex e s')
      | _ => none
    | .region _ os dr => (match dr with
      | true => drawnC P self os s fun e s' => k (.ex e s')
      | false => runOpsC P self rd os (List.range os.size) s fun e s' => k (.ex e s'))
    | .rangeFunc g ps assign body =>
      if okO g then match evalT s.t g with
        | .func (.func f) first cap =>
          if bodied P f then
            match rd with
            | none => pushK s.h (.dfr false) fun h1 => pushK h1 (loopNew s ps assign body s.h.bl.length) fun h2 =>
              headsK (first.toList ++ (.func (.yield (s.h.bl.length + 1)) #[] #[] :: cap.toList)) fun args =>
              self (.call f ⟨args⟩ h2) (endLoopC self none (s.h.bl.length + 1) ({ target := .collected s.h.bl.length, args := #[] } :: s.d) s.t k)
            | some l0 => match nthO s.h.bl l0 with
              | some (.loop _ _ _ _ _ _ D) => pushK s.h (loopNew s ps assign body D) fun h2 =>
                headsK (first.toList ++ (.func (.yield s.h.bl.length) #[] #[] :: cap.toList)) fun args =>
                self (.call f ⟨args⟩ h2) (endLoopC self (some l0) s.h.bl.length s.d s.t k)
              | _ => none
          else none
        | _ => none
      else none
    | _ => none
  | .call f args h, k =>
    match P.funcs[f]? with
    | some fn => match fn.body with
      | some c => headsK (frame fn args) fun t => self (.code none c { t := t, d := [], h := enterH h }) fun
        | .ex .normal s | .ex .ret s => leaveC P self fn s.t h s.d .returning s.h k
        | .ex (.panic v) s => leaveC P self fn s.t h s.d (.panicking v false) s.h k
        | _ => none
      | none => none
    | none => none
  | .round l args h, k =>
    match nthO h.bl l with
    | some (.loop .ready _ t ps assign body _) =>
      if args.size = ps.size then
        headsK ((ps.zip args).foldl (fun t (p, a) => t.setIfInBounds p a) t).toList fun t =>
        self (.code (some l) assign { t := t, d := [], h := h }) fun
        | .ex .normal s1 => (match nthO s1.h.bl l with
          | some (.loop .ready pend1 t1 ps1 a1 b1 D1) =>
            heapK (s1.h.put l (.loop .busy pend1 t1 ps1 a1 b1 D1)) fun h =>
            self (.code (some l) body { t := s1.t, d := s1.d, h := h }) fun
            | .ex e s2 => (match jumpOf e, nthO s2.h.bl l with
              | some j, some (.loop _ _ t2 ps2 a2 b2 D2) => heapK (s2.h.put l (.loop (if j.isNone then .ready else .done) j t2 ps2 a2 b2 D2)) fun h => k (.ret (.bool j.isNone) h)
              | _, _ => none)
            | _ => none
          | _ => none)
        | _ => none
      else none
    | _ => none
  | _, _ => none

theorem code_ex (hs : CpsOk self sd) {rd : Option Nat} {c : Code} {s : St} {f : Ex → St → Option Out} {r : Out} (hc : self (.code rd c s) (fun | .ex e s' => f e s' | _ => none) = some r) :
    ∃ e s', sd (.code rd c s) = some (.ex e s') ∧ f e s' = some r := by
  obtain ⟨o, h1, h2⟩ := hs _ _ _ hc
  cases o with
  | ex e s' => exact ⟨e, s', h1, h2⟩
  | _ => cases h2

theorem stepC_code (hs : CpsOk self sd) {rd : Option Nat} {c : Code} {s : St} {k : Kn} {r : Out} (hc : stepC P self (.code rd c s) k = some r) : ∃ o, stepF drawn P sd (.code rd c s) = some o ∧ k o = some r := by
  cases c with
  | skip => exact ⟨_, rfl, hc⟩
  | label l => exact ⟨_, rfl, hc⟩
  | exit id => exact ⟨_, rfl, hc⟩
  | goto l => exact ⟨_, rfl, hc⟩
  | ret => exact ⟨_, rfl, hc⟩
  | seq a b =>
    simp only [stepC] at hc
    obtain ⟨o, h1, h2⟩ := hs _ _ _ hc
    simp only [stepF, h1]
    cases o with
    | ex e s' =>
      cases e with
      | normal =>
        obtain ⟨e, s2, h3, h4⟩ := code_ex hs h2
        simp only [h3]
        exact ⟨_, rfl, h4⟩
      | _ => exact ⟨_, rfl, h2⟩
    | _ => cases h2
  | cond c x y =>
    simp only [stepC] at hc
    split at hc
    · rename_i hk
      simp only [stepF, hk, if_true]
      split at hc
      · rename_i d
        split at hc
        · rename_i b hl
          have he : evalT s.t (.tmp d) = .bool b := hl
          rw [he]
          cases b with
          | true =>
            rw [cond_true, litK_eq hl] at hc
            obtain ⟨e, s2, h3, h4⟩ := code_ex hs hc
            simp only [h3]
            exact ⟨_, rfl, h4⟩
          | false =>
            rw [cond_false, litK_eq hl] at hc
            obtain ⟨e, s2, h3, h4⟩ := code_ex hs hc
            simp only [h3]
            exact ⟨_, rfl, h4⟩
        · cases hc
      · split at hc
        · rename_i b he
          rw [he]
          cases b with
          | true =>
            rw [cond_true] at hc
            obtain ⟨e, s2, h3, h4⟩ := code_ex hs hc
            simp only [h3]
            exact ⟨_, rfl, h4⟩
          | false =>
            rw [cond_false] at hc
            obtain ⟨e, s2, h3, h4⟩ := code_ex hs hc
            simp only [h3]
            exact ⟨_, rfl, h4⟩
        · cases hc
    · cases hc
  | block id c =>
    simp only [stepC] at hc
    obtain ⟨o, h1, h2⟩ := hs _ _ _ hc
    simp only [stepF, h1]
    cases o with
    | ex e s' =>
      cases e with
      | exit id' =>
        simp only at h2 ⊢
        split at h2
        · rename_i he; rw [if_pos he]; exact ⟨_, rfl, h2⟩
        · rename_i he; rw [if_neg he]; exact ⟨_, rfl, h2⟩
      | _ => exact ⟨_, rfl, h2⟩
    | _ => cases h2
  | loop c =>
    simp only [stepC] at hc
    obtain ⟨o, h1, h2⟩ := hs _ _ _ hc
    simp only [stepF, h1]
    cases o with
    | ex e s' =>
      cases e with
      | normal =>
        obtain ⟨e, s2, h3, h4⟩ := code_ex hs h2
        simp only [h3]
        exact ⟨_, rfl, h4⟩
      | _ => exact ⟨_, rfl, h2⟩
    | _ => cases h2
  | region id os dr =>
    cases dr with
    | true =>
      obtain ⟨e, s', h1, h2⟩ := drawnC_ok (rd := rd) (id := id) hs (k := fun e s' => k (.ex e s')) (show drawnC P self os s (fun e s' => k (.ex e s')) = some r from hc)
      exact ⟨_, by simpa only [stepF, if_true] using h1, h2⟩
    | false =>
      obtain ⟨e, s', h1, h2⟩ := runOpsC_ok hs (k := fun e s' => k (.ex e s')) (show runOpsC P self rd os (List.range os.size) s (fun e s' => k (.ex e s')) = some r from hc)
      exact ⟨_, by simpa only [stepF, Bool.false_eq_true, if_false] using h1, h2⟩
  | rangeFunc g ps assign body =>
    simp only [stepC] at hc
    split at hc
    · rename_i hk
      simp only [stepF, hk, if_true]
      split at hc
      · rename_i f first cap hg
        rw [hg]
        simp only
        split at hc
        · rename_i hb
          rw [if_pos hb]
          split at hc
          · simp only [pushK_eq, headsK_eq] at hc
            obtain ⟨o, h1, h2⟩ := hs _ _ _ hc
            obtain ⟨o', h3, h4⟩ := endLoopC_ok hs h2
            refine ⟨o', ?_, h4⟩
            simp only
            rw [← h3, ← h1]
            congr 4
            apply Array.ext'
            simp
          · rename_i l0
            rw [nthO_eq] at hc
            split at hc
            · rename_i hl
              simp only [pushK_eq, headsK_eq] at hc
              obtain ⟨o, h1, h2⟩ := hs _ _ _ hc
              obtain ⟨o', h3, h4⟩ := endLoopC_ok hs h2
              refine ⟨o', ?_, h4⟩
              simp only [hl]
              rw [← h3, ← h1]
              congr 4
              apply Array.ext'
              simp
            · cases hc
        · cases hc
      · cases hc
    · cases hc
  | scope c => cases hc
  | refuse w => cases hc

theorem stepC_ok (hs : CpsOk self sd) : CpsOk (stepC P self) (stepF drawn P sd) := by
  intro t k r hc
  cases t with
  | code rd c s => exact stepC_code hs hc
  | call f args h =>
    simp only [stepC] at hc
    simp only [stepF, forceL1_eq]
    split at hc
    · rename_i fn hf
      rw [hf]
      simp only
      split at hc
      · rename_i c hcb
        rw [hcb]
        simp only
        rw [headsK_eq] at hc
        obtain ⟨o, h1, h2⟩ := hs _ _ _ hc
        rw [h1]
        cases o with
        | ex e s =>
          cases e with
          | normal => exact leaveC_ok hs h2
          | ret => exact leaveC_ok hs h2
          | panic v => exact leaveC_ok hs h2
          | _ => cases h2
        | _ => cases h2
      · cases hc
    · cases hc
  | dcall f args m h => cases hc
  | round l args h =>
    simp only [stepC] at hc
    rw [nthO_eq] at hc
    simp only [stepF]
    split at hc
    · rename_i x t ps assign body D hl
      rw [hl]
      simp only
      split at hc
      · rename_i hz
        rw [if_pos hz]
        rw [headsK_eq] at hc
        obtain ⟨o, h1, h2⟩ := hs _ _ _ hc
        rw [h1]
        cases o with
        | ex e s1 =>
          cases e with
          | normal =>
            simp only at h2 ⊢
            rw [nthO_eq] at h2
            split at h2
            · rename_i pend1 t1 ps1 a1 b1 D1 hl1
              rw [hl1]
              simp only
              rw [heapK_eq] at h2
              obtain ⟨e, s2, h3, h4⟩ := code_ex hs h2
              rw [h3]
              simp only
              rw [nthO_eq] at h4
              split at h4
              · rename_i j q1 q2 t2 ps2 a2 b2 D2 hj hl2
                rw [hj, hl2]
                rw [heapK_eq] at h4
                exact ⟨_, rfl, h4⟩
              · cases h4
            · cases h2
          | _ => cases h2
        | _ => cases h2
      · cases hc
    · cases hc

/-- The run: known answers (handed what comes behind them), then a step. -/
def evC (P : Program) (oc : Task → Kn → Option (Option Out)) : Nat → SelfC
  | 0, _, _ => none
  | n + 1, t, k => match oc t k with
    | some r => r
    | none => stepC P (evC P oc n) t k

def OcOk (oc : Task → Kn → Option (Option Out)) (orc : Self) : Prop :=
  (∀ t k r, oc t k = some (some r) → ∃ o, orc t = some o ∧ k o = some r) ∧ (∀ t k, oc t k = none → orc t = none)

theorem evC_ok {oc : Task → Kn → Option (Option Out)} {orc : Self} (ho : OcOk oc orc) : ∀ n, CpsOk (evC P oc n) (iterO orc drawn P n)
  | 0 => fun _ _ _ h => by cases h
  | n + 1 => by
    intro t k r h
    simp only [evC] at h
    simp only [iterO]
    split at h
    · rename_i r' hr
      subst h
      obtain ⟨o, h1, h2⟩ := ho.1 _ _ _ hr
      rw [h1]; exact ⟨_, rfl, h2⟩
    · rename_i hr
      rw [ho.2 _ _ hr]
      exact stepC_ok (evC_ok ho n) t k r h
end
end
end Go.Gh
