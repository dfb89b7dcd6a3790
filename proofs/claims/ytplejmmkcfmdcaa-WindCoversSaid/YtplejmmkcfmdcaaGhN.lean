/- What a run over the small heap gives carries over to every world: rounds, all code, whatever fuel. Conditions: none. -/
import Derived.Test.YtplejmmkcfmdcaaGhM
namespace Go.Gh
open Go.RowKit
noncomputable section

section
variable {P : Program} {self : Self}

theorem zip_fold {φ : Phi} : ∀ (ps : List Tmp) {l l' : List Value} (_ : VRl φ l l') {t t' : Array Value} (_ : VRs φ t t'), VRs φ ((ps.zip l).foldl (fun t (p, a) => t.setIfInBounds p a) t) ((ps.zip l').foldl (fun t (p, a) => t.setIfInBounds p a) t')
  | [], _, _, _, _, _, ht => ht
  | _ :: _, _, _, .nil, _, _, ht => ht
  | p :: ps, _, _, .cons hv hr, _, _, ht => zip_fold ps hr (ht.set hv p)

theorem zip_tmps {φ : Phi} (ps : Array Tmp) {args args' t t' : Array Value} (ha : VRs φ args args') (ht : VRs φ t t') :
    VRs φ ((ps.zip args).foldl (fun t (p, a) => t.setIfInBounds p a) t) ((ps.zip args').foldl (fun t (p, a) => t.setIfInBounds p a) t') := by
  rw [← Array.foldl_toList, ← Array.foldl_toList, Array.toList_zip, Array.toList_zip]
  exact zip_fold _ ha.toList ht

theorem round_sound (hs : SelfOk P self) (drawn : Program → Self → Option Nat → Nat → Array Oper → St → Option Out) {l : Nat} {args : Array Value} {h : Hp} {o : Out} (hc : stepF drawn P self (.round l args h) = some o) : TaskOk P (.round l args h) o := by
  simp only [stepF] at hc
  split at hc
  case h_2 => cases hc
  rename_i pend t ps assign body D hl
  split at hc
  case isFalse => cases hc
  rename_i hsz
  split at hc
  case h_2 => cases hc
  rename_i s1 hassign
  split at hc
  case h_2 => cases hc
  rename_i pend1 t1 ps1 a1 b1 D1 hl1
  split at hc
  case h_2 => cases hc
  rename_i e s2 hbody
  split at hc
  case h_2 => cases hc
  rename_i j st2 pend2 t2 ps2 a2 b2 D2 hj hl2
  simp only [Option.some.injEq] at hc; subst hc
  intro hb
  obtain ⟨hp1, hh1⟩ := hs _ _ hassign hb
  have hb1 : s1.h.base ≤ s1.h.bl.length := by rw [hp1.base]; exact Nat.le_trans hb hp1.len
  have hpb := Pres.put s1.h l (.loop .busy pend1 t1 ps1 a1 b1 D1)
  obtain ⟨hp2, hh2⟩ := hs _ _ hbody (by rw [hpb.base]; exact Nat.le_trans hb1 hpb.len)
  refine ⟨hp1.trans (hpb.trans (hp2.trans (Pres.put _ _ _))), ?_⟩
  intro K w0 φ w args' B tb n hI hargs hφ
  obtain ⟨B', base', tot', q1, _, fn, tm, D', q2, q3, td, q4⟩ := hI.obs l _ hl rfl
  rw [hφ] at q1; cases q1
  refine ⟨fn, _, assign, body, run_yield q2 (by simp only; rw [← hargs.size]; exact hsz), roundIn_of_wpIn trivial (wpIn_mono (hh1 K w0 φ w _ (Fence.wide.inRound B) n hI (zip_tmps ps hargs q3) .nil ⟨B, tb, hφ, rfl⟩) ?_)⟩
  rintro x a w1 ⟨φ1, hle1, hx, ht1, hd1, hI1⟩
  cases hx
  obtain ⟨B', base', tot', r1, r0, fn1, tm1, D1', r2, r3, td1, r4⟩ := hI1.obs l _ hl1 rfl
  rw [hle1 _ _ hφ] at r1; cases r1
  have hlt : B < w1.heap.size := (Array.getElem?_eq_some_iff.1 r2).1
  refine ⟨_, run_beginRound r2 rfl, ?_⟩
  have hI1' : Inv K w0 φ1 (s1.h.put l (.loop .busy pend1 t1 ps1 a1 b1 D1)).bl (w1.putObj B (.loop { state := .busy, pending := pend1, fn := fn1, tmps := tm1, params := ps1, assign := a1, body := b1, defers := D1' })) :=
    hI1.write hl1 rfl (hle1 _ _ hφ) putObj_frame (by simp) rfl rfl rfl ⟨rfl, fn1, tm1, D1', World.putObj_heap_same hlt, r3, td1, r4⟩
  refine wpIn_mono (hh2 K w0 φ1 _ a (Fence.wide.inRound B) n hI1' ht1 hd1 ⟨B, tb, hle1 _ _ hφ, rfl⟩) ?_
  rintro x a' w2 ⟨φ2, hle2, hx, ht2, hd2, hI2⟩
  obtain ⟨B', base', tot', k1, k0, fn2, tm2, D2', k2, k3, td2, k4⟩ := hI2.obs l _ hl2 rfl
  rw [hle2 _ _ (hle1 _ _ hφ)] at k1; cases k1
  have hlt2 : B < w2.heap.size := (Array.getElem?_eq_some_iff.1 k2).1
  have fin : ∀ jump : Option Code, j = jump → ∃ v w', (Instr.endRound B jump).run P w2 = .ok v w' ∧ RetR K w0 φ (.bool j.isNone) (s2.h.put l (.loop (if j.isNone then .ready else .done) j t2 ps2 a2 b2 D2)) (.returned v) w' := by
    rintro jump rfl
    refine ⟨_, _, run_endRound j k2, φ2, le_trans hle1 hle2, .bool _, ?_⟩
    exact hI2.write hl2 rfl (hle2 _ _ (hle1 _ _ hφ)) putObj_frame (by simp) rfl rfl rfl ⟨rfl, fn2, tm2, D2', World.putObj_heap_same hlt2, k3, td2, k4⟩
  cases hx with
  | normal => simp only [jumpOf, Option.some.injEq] at hj; exact fin none hj.symm
  | ret => simp only [jumpOf, Option.some.injEq] at hj; exact fin _ hj.symm
  | exit id => simp only [jumpOf, Option.some.injEq] at hj; exact fin _ hj.symm
  | goto t => simp only [jumpOf, Option.some.injEq] at hj; exact fin _ hj.symm
  | panic hv => simp [jumpOf] at hj

def DrawnOk (P : Program) (drawn : Program → Self → Option Nat → Nat → Array Oper → St → Option Out) : Prop :=
  ∀ (self : Self), SelfOk P self → ∀ (rd : Option Nat) (id : Nat) (os : Array Oper) (s : St) (o : Out), drawn P self rd id os s = some o → TaskOk P (.code rd (.region id os true) s) o

theorem endLoop_sound (hs : SelfOk P self) {rd : Option Nat} {L : Nat} {d : List Deferred} {t : List Value} {h : Hp} {v : Value} {o : Out} (he : endLoop self rd L d t (some (.ret v h)) = some o) (hb : h.base ≤ h.bl.length) :
    ∃ e s', o = .ex e s' ∧ Pres h s'.h ∧ ∀ (K : Nat → Prop) (w0 : World) (φ : Phi) (w : World) (a : Act) (F : Fence) (n : Nat) (B tb : Nat),
      Inv K w0 φ h.bl w → VRs φ t.toArray a.tmps → DRs φ d a.defers → FenceOk φ rd F → φ L = some (B, 0, tb) →
      ∃ jump w', (Instr.endLoop B).run P w = .ok jump w' ∧ (match jump with | none => CodeR K w0 φ e s' .normal a w' | some c => c.wpIn F n P (CodeR K w0 φ e s') a w') := by
  simp only [endLoop] at he
  split at he
  case h_2 => cases he
  rename_i st pend t' ps as bd D hl
  split at he
  · cases he
  rename_i hst
  have hpp := fun p => Pres.put h L (.loop .exhausted p t' ps as bd D)
  have step : ∀ (K : Nat → Prop) (w0 : World) (φ : Phi) (w : World) (B tb : Nat), Inv K w0 φ h.bl w → φ L = some (B, 0, tb) →
      ∃ w', (Instr.endLoop B).run P w = .ok pend w' ∧ Inv K w0 φ (h.put L (.loop .exhausted pend t' ps as bd D)).bl w' := by
    intro K w0 φ w B tb hI hφ
    obtain ⟨B', base', tot', k1, k0, fn2, tm2, D2', k2, k3, td2, k4⟩ := hI.obs L _ hl rfl
    rw [hφ] at k1; cases k1
    have hlt : B < w.heap.size := (Array.getElem?_eq_some_iff.1 k2).1
    exact ⟨_, run_endLoop k2 hst, hI.write hl rfl hφ putObj_frame (by simp) rfl rfl rfl ⟨rfl, fn2, tm2, D2', World.putObj_heap_same hlt, k3, td2, k4⟩⟩
  cases pend with
  | none =>
    simp only [Option.some.injEq] at he; subst he
    refine ⟨.normal, _, rfl, hpp _, ?_⟩
    intro K w0 φ w a F n B tb hI ht hd hF hφ
    obtain ⟨w', hr, hI'⟩ := step K w0 φ w B tb hI hφ
    exact ⟨none, w', hr, φ, le_refl φ, .normal, ht, hd, hI'⟩
  | some c =>
    simp only at he
    split at he
    · rename_i e s' hc
      simp only [Option.some.injEq] at he; subst he
      obtain ⟨hp, hh⟩ := hs _ _ hc (by simp only; rw [(hpp _).base]; exact Nat.le_trans hb (hpp _).len)
      refine ⟨e, s', rfl, (hpp _).trans hp, ?_⟩
      intro K w0 φ w a F n B tb hI ht hd hF hφ
      obtain ⟨w', hr, hI'⟩ := step K w0 φ w B tb hI hφ
      exact ⟨some c, w', hr, hh K w0 φ w' a F n hI' ht hd hF⟩
    · cases he

theorem endLoop_ret {rd : Option Nat} {L : Nat} {d : List Deferred} {t : List Value} {x : Option Out} {o : Out} (he : endLoop self rd L d t x = some o) : ∃ v h, x = some (.ret v h) := by
  unfold endLoop at he
  split at he
  · exact ⟨_, _, rfl⟩
  · cases he

theorem run_enterLoop_inner {w : World} {l : Nat} {r : Loop} (h : w.heap[l]? = some (.loop r)) (fn : FuncId) (tmps : Array Value) (ps : Array Tmp) (assign body : Code) :
    (Instr.enterLoop fn tmps ps assign body (some l)).run P w = .ok (w.heap.size, []) (w.alloc (.loop { state := .ready, pending := none, fn, tmps, params := ps, assign, body, defers := r.defers })) := by
  unfold Instr.enterLoop
  simp only [Sem.run_bind, run_getLoop h, Result.andThen_ok, Sem.run_pure, run_newObj]
  rfl

theorem rangeFunc_sound (hN : NoNG P) (hs : SelfOk P self) (drawn : Program → Self → Option Nat → Nat → Array Oper → St → Option Out) {rd : Option Nat} {g : Operand} {ps : Array Tmp} {assign body : Code} {s : St} {o : Out}
    (hc : stepF drawn P self (.code rd (.rangeFunc g ps assign body) s) = some o) : TaskOk P (.code rd (.rangeFunc g ps assign body) s) o := by
  simp only [stepF] at hc
  split at hc
  case isFalse => cases hc
  rename_i hg
  split at hc
  case h_2 => cases hc
  rename_i f first cap hv
  split at hc
  case isFalse => cases hc
  rename_i hbd
  -- the value that is ranged over
  have hval : ∀ {φ : Phi} {a : Act}, VRs φ s.t.toArray a.tmps → ∃ first' cap', a.eval g = .func (.func f) first' cap' ∧ VRs φ first first' ∧ VRs φ cap cap' := by
    intro φ a ht
    have hgv := evs_t ht g hg
    rw [hv] at hgv
    generalize a.eval g = x at hgv
    cases hgv with
    | fn _ h1 h2 h3 h4 => exact ⟨_, _, rfl, VRs.of h1 h2, VRs.of h3 h4⟩
  have hargs : ∀ {φ : Phi} {first' cap' : Array Value} {L B tb : Nat}, VRs φ first first' → VRs φ cap cap' → φ L = some (B, 0, tb) → VRs φ (first ++ #[.func (.yield L) #[] #[]] ++ cap) (first' ++ #[.func (.yield B) #[] #[]] ++ cap') :=
    fun h1 h2 h3 => (h1.append (VRs.one (.yield h3))).append h2
  have hres : ∀ {a : Act} {first' cap' : Array Value} {w : World} (l : Nat), a.eval g = .func (.func f) first' cap' → (resolve a.eval (rangeCall g l) 0).run P w = .ok { target := .fn (.func f) cap', args := first' ++ #[.func (.yield l) #[] #[]] } w := by
    intro a first' cap' w l he
    have e : Array.map a.eval #[Operand.const (.func (.yield l) #[] #[])] = #[.func (.yield l) #[] #[]] := by simp [Act.eval]
    simp only [resolve, he, Deferred.ofValue, e, Sem.run_pure]
  cases rd with
  | none =>
    simp only at hc
    obtain ⟨v, h', hcall⟩ := endLoop_ret hc
    rw [hcall] at hc
    have hp0 : ∀ hb : s.h.base ≤ s.h.bl.length, Pres s.h ((s.h.push (.dfr false)).push (loopNew s ps assign body s.h.bl.length)) := fun hb => (Pres.push _ _ hb).trans (Pres.push _ _ (by simp [Hp.push]; omega))
    have hbase0 : s.h.base ≤ s.h.bl.length → ((s.h.push (.dfr false)).push (loopNew s ps assign body s.h.bl.length)).base ≤ ((s.h.push (.dfr false)).push (loopNew s ps assign body s.h.bl.length)).bl.length := fun hb => by simp [Hp.push]; omega
    have hcallok := hs _ _ hcall
    by_cases hb : s.h.base ≤ s.h.bl.length
    · obtain ⟨hp1, hcc⟩ := hcallok (hbase0 hb)
      obtain ⟨e, s', rfl, hp2, hh⟩ := endLoop_sound hs hc (by rw [hp1.base]; exact Nat.le_trans (hbase0 hb) hp1.len)
      refine fun _ => ⟨(hp0 hb).trans (hp1.trans hp2), ?_⟩
      intro K w0 φ w a F n hI ht hd hF
      have hF' : F = Fence.wide := hF
      subst hF'
      obtain ⟨first', cap', he, h1, h2⟩ := hval ht
      refine wpIn_rangeFunc ?_
      intro fn _
      obtain ⟨rec, hrec⟩ : ∃ rec : Loop, rec = { state := .ready, pending := none, fn, tmps := a.tmps, params := ps, assign, body, defers := w.heap.size } := ⟨_, rfl⟩
      have hI1 := hI.alloc (.dfr false) (.deferred (some [])) 0 ⟨rfl, World.alloc_heap_new w _⟩
      have hle1 := hI.le_new (w.heap.size, 0, 0)
      have hlen : (s.h.bl ++ [Ob.dfr false]).length = s.h.bl.length + 1 := by simp
      have hsz1 : (w.alloc (.deferred (some []))).heap.size = w.heap.size + 1 := World.size_alloc _ _
      have hle2 := hI1.le_new ((w.alloc (.deferred (some []))).heap.size, 0, 0)
      have hI2 := hI1.alloc (loopNew s ps assign body s.h.bl.length) (.loop rec) 0
        ⟨rfl, fn, a.tmps, w.heap.size, by rw [World.alloc_heap_new, hrec], (ht.mono hle1).mono hle2, 0, hle2 _ _ (up_same _ _ _)⟩
      rw [hlen, hsz1] at hI2 hle2
      have hφL : up (up φ s.h.bl.length (w.heap.size, 0, 0)) (s.h.bl.length + 1) (w.heap.size + 1, 0, 0) (s.h.bl.length + 1) = some (w.heap.size + 1, 0, 0) := up_same _ _ _
      have hle := le_trans hle1 hle2
      refine ⟨w.heap.size + 1, [{ target := .collected w.heap.size, args := #[] }], (w.alloc (.deferred (some []))).alloc (.loop rec), _, _, f, first' ++ #[.func (.yield (w.heap.size + 1)) #[] #[]] ++ cap', (w.alloc (.deferred (some []))).alloc (.loop rec), by rw [hrec]; exact run_enterLoop_outer _ _ _ _ _, hres _ he, fun _ _ => trivial, ?_, (fun h => nomatch h), ?_⟩
      · simp only [invoke]; exact run_callFunc hN hbd
      · refine (hcc K w0 _ _ _ (n - 1) hI2 (hargs (h1.mono hle) (h2.mono hle) hφL)).mono ?_
        intro en w3 hen
        cases en with
        | returned v' =>
          obtain ⟨φ3, hle3, _, hI3⟩ := hen
          obtain ⟨jump, w4, hr, hj⟩ := hh K w0 φ3 w3 { a with defers := [{ target := .collected w.heap.size, args := #[] }] ++ a.defers } Fence.wide n (w.heap.size + 1) 0 hI3 ((ht.mono hle).mono hle3)
            (.cons (.inr ⟨_, _, 0, rfl, rfl, hle3 _ _ (hle2 _ _ (up_same _ _ _))⟩) ((hd.mono hle).mono hle3)) rfl (hle3 _ _ hφL)
          refine ⟨jump, w4, hr, ?_⟩
          cases jump with
          | none => exact hj.mono (le_trans hle hle3)
          | some c => exact wpIn_mono hj fun _ _ _ hq => hq.mono (le_trans hle hle3)
        | panicked ch => exact hen.elim
        | outgrown => exact hen.elim
    · exact absurd_out hs hc hb
  | some l0 =>
    simp only at hc
    split at hc
    case h_2 => cases hc
    rename_i st0 pend0 t0 ps0 as0 bd0 D hl0
    obtain ⟨v, h', hcall⟩ := endLoop_ret hc
    rw [hcall] at hc
    have hcallok := hs _ _ hcall
    have hbase0 : s.h.base ≤ s.h.bl.length → (s.h.push (loopNew s ps assign body D)).base ≤ (s.h.push (loopNew s ps assign body D)).bl.length := fun hb => by simp [Hp.push]; omega
    by_cases hb : s.h.base ≤ s.h.bl.length
    · obtain ⟨hp1, hcc⟩ := hcallok (hbase0 hb)
      obtain ⟨e, s', rfl, hp2, hh⟩ := endLoop_sound hs hc (by rw [hp1.base]; exact Nat.le_trans (hbase0 hb) hp1.len)
      refine fun _ => ⟨(Pres.push _ _ hb).trans (hp1.trans hp2), ?_⟩
      intro K w0 φ w a F n hI ht hd hF
      have hFF := hF
      obtain ⟨L0, tl0, hφ0, hFe⟩ := hF
      obtain ⟨first', cap', he, h1, h2⟩ := hval ht
      obtain ⟨B', base', tot', q1, _, fn0, tm0, D0, q2, q3, td, q4⟩ := hI.obs l0 _ hl0 rfl
      rw [hφ0] at q1; cases q1
      refine wpIn_rangeFunc ?_
      intro fn _
      obtain ⟨rec, hrec⟩ : ∃ rec : Loop, rec = { state := .ready, pending := none, fn, tmps := a.tmps, params := ps, assign, body, defers := D0 } := ⟨_, rfl⟩
      have hle := hI.le_new (w.heap.size, 0, 0)
      have hI2 := hI.alloc (loopNew s ps assign body D) (.loop rec) 0 ⟨rfl, fn, a.tmps, D0, by rw [World.alloc_heap_new, hrec], ht.mono hle, td, hle _ _ q4⟩
      have hφL : up φ s.h.bl.length (w.heap.size, 0, 0) s.h.bl.length = some (w.heap.size, 0, 0) := up_same _ _ _
      refine ⟨w.heap.size, [], w.alloc (.loop rec), _, _, f, first' ++ #[.func (.yield w.heap.size) #[] #[]] ++ cap', w.alloc (.loop rec), by rw [hrec, hFe]; exact run_enterLoop_inner q2 _ _ _ _ _, hres _ he, fun _ _ => hFF.fn _, ?_, hFF.depth n, ?_⟩
      · simp only [invoke]; exact run_callFunc hN hbd
      · refine (hFF.calls (hcc K w0 _ _ _ (n - 1) hI2 (hargs (h1.mono hle) (h2.mono hle) hφL))).mono ?_
        intro en w3 hen
        cases en with
        | returned v' =>
          obtain ⟨φ3, hle3, _, hI3⟩ := hen
          obtain ⟨jump, w4, hr, hj⟩ := hh K w0 φ3 w3 { a with defers := [] ++ a.defers } F n w.heap.size 0 hI3 ((ht.mono hle).mono hle3) ((hd.mono hle).mono hle3) ((hFF.mono hle).mono hle3) (hle3 _ _ hφL)
          refine ⟨jump, w4, hr, ?_⟩
          cases jump with
          | none => exact hj.mono (le_trans hle hle3)
          | some c => exact wpIn_mono hj fun _ _ _ hq => hq.mono (le_trans hle hle3)
        | panicked ch => exact hen.elim
        | outgrown => exact hen.elim
    · exact absurd_out hs hc hb
where
  absurd_out {self : Self} (hs : SelfOk P self) {rd : Option Nat} {L : Nat} {d : List Deferred} {t : List Value} {v : Value} {h : Hp} {c : Code} {s : St} {o : Out} (he : endLoop self rd L d t (some (.ret v h)) = some o) (hb : ¬ s.h.base ≤ s.h.bl.length) : TaskOk P (.code rd c s) o := by
    have : ∃ e s', o = .ex e s' := by
      simp only [endLoop] at he
      split at he
      · split at he
        · cases he
        · split at he
          · simp only [Option.some.injEq] at he; exact ⟨_, _, he.symm⟩
          · split at he
            · simp only [Option.some.injEq] at he; exact ⟨_, _, he.symm⟩
            · cases he
      · cases he
    obtain ⟨e, s', rfl⟩ := this
    exact fun h => absurd h hb
end
end
end Go.Gh
