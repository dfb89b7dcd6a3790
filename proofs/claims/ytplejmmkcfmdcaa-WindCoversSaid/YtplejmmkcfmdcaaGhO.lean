/- What a run over the small heap gives carries over to every world: all code, whatever fuel. Conditions: none. -/
import Derived.Test.YtplejmmkcfmdcaaGhN
namespace Go.Gh
open Go.RowKit
noncomputable section

section
variable {P : Program} {self : Self} {drawn : Program → Self → Option Nat → Nat → Array Oper → St → Option Out}

theorem self_ex (hs : SelfOk P self) {rd : Option Nat} {c : Code} {s : St} {o : Out} (h : self (.code rd c s) = some o) : ∃ e s', o = .ex e s' := by
  have := hs _ _ h
  cases o with
  | ex e s' => exact ⟨e, s', rfl⟩
  | ret v hp => exact this.elim
  | pan v hp => exact this.elim
  | dret m hp => exact this.elim

theorem base_of {h h' : Hp} (hb : h.base ≤ h.bl.length) (hp : Pres h h') : h'.base ≤ h'.bl.length := by rw [hp.base]; exact Nat.le_trans hb hp.len

theorem seq_sound (hs : SelfOk P self) {rd : Option Nat} {x y : Code} {s : St} {o : Out} (hc : stepF drawn P self (.code rd (.seq x y) s) = some o) : TaskOk P (.code rd (.seq x y) s) o := by
  simp only [stepF] at hc
  split at hc
  · rename_i s1 h1
    split at hc
    · rename_i e s2 h2
      simp only [Option.some.injEq] at hc; subst hc
      intro hb
      obtain ⟨hp1, hh1⟩ := hs _ _ h1 hb
      obtain ⟨hp2, hh2⟩ := hs _ _ h2 (base_of hb hp1)
      refine ⟨hp1.trans hp2, ?_⟩
      intro K w0 φ w a F n hI ht hd hF
      refine wpIn_seq (wpIn_mono (hh1 K w0 φ w a F n hI ht hd hF) ?_)
      rintro x a' w' ⟨φ', hle, hx, ht', hd', hI'⟩
      cases hx
      exact wpIn_mono (hh2 K w0 φ' w' a' F n hI' ht' hd' (hF.mono hle)) fun _ _ _ hq => hq.mono hle
    · cases hc
  · rename_i e s1 hne h1
    simp only [Option.some.injEq] at hc; subst hc
    intro hb
    obtain ⟨hp1, hh1⟩ := hs _ _ h1 hb
    refine ⟨hp1, ?_⟩
    intro K w0 φ w a F n hI ht hd hF
    refine wpIn_seq (wpIn_mono (hh1 K w0 φ w a F n hI ht hd hF) ?_)
    rintro x a' w' ⟨φ', hle, hx, rest⟩
    cases hx with
    | normal => exact (hne rfl).elim
    | exit id => exact ⟨φ', hle, .exit id, rest⟩
    | goto l => exact ⟨φ', hle, .goto l, rest⟩
    | ret => exact ⟨φ', hle, .ret, rest⟩
    | panic hv => exact ⟨φ', hle, .panic hv, rest⟩
  · cases hc

theorem cond_sound (hs : SelfOk P self) {rd : Option Nat} {c : Operand} {x y : Code} {s : St} {o : Out} (hc : stepF drawn P self (.code rd (.cond c x y) s) = some o) : TaskOk P (.code rd (.cond c x y) s) o := by
  simp only [stepF] at hc
  split at hc
  case isFalse => cases hc
  rename_i hok
  split at hc
  · rename_i hv
    split at hc
    · rename_i e s1 h1
      simp only [Option.some.injEq] at hc; subst hc
      intro hb
      obtain ⟨hp1, hh1⟩ := hs _ _ h1 hb
      refine ⟨hp1, ?_⟩
      intro K w0 φ w a F n hI ht hd hF
      have hcv := evs_t ht c hok
      rw [hv] at hcv
      exact wpIn_cond (t := true) (gr_eq (v := .bool true) rfl hcv) (hh1 K w0 φ w a F n hI ht hd hF)
    · cases hc
  · rename_i hv
    split at hc
    · rename_i e s1 h1
      simp only [Option.some.injEq] at hc; subst hc
      intro hb
      obtain ⟨hp1, hh1⟩ := hs _ _ h1 hb
      refine ⟨hp1, ?_⟩
      intro K w0 φ w a F n hI ht hd hF
      have hcv := evs_t ht c hok
      rw [hv] at hcv
      exact wpIn_cond (t := false) (gr_eq (v := .bool false) rfl hcv) (hh1 K w0 φ w a F n hI ht hd hF)
    · cases hc
  · cases hc

theorem block_sound (hs : SelfOk P self) {rd : Option Nat} {id : Nat} {c : Code} {s : St} {o : Out} (hc : stepF drawn P self (.code rd (.block id c) s) = some o) : TaskOk P (.code rd (.block id c) s) o := by
  simp only [stepF] at hc
  split at hc
  · rename_i id' s1 h1
    split at hc
    · rename_i hid
      subst hid
      simp only [Option.some.injEq] at hc; subst hc
      intro hb
      obtain ⟨hp1, hh1⟩ := hs _ _ h1 hb
      refine ⟨hp1, ?_⟩
      intro K w0 φ w a F n hI ht hd hF
      refine wpIn_block (wpIn_mono (hh1 K w0 φ w a F n hI ht hd hF) ?_)
      rintro x a' w' ⟨φ', hle, hx, rest⟩
      cases hx
      simp only [Exit.inBlock, if_true]
      exact ⟨φ', hle, .normal, rest⟩
    · rename_i hid
      simp only [Option.some.injEq] at hc; subst hc
      intro hb
      obtain ⟨hp1, hh1⟩ := hs _ _ h1 hb
      refine ⟨hp1, ?_⟩
      intro K w0 φ w a F n hI ht hd hF
      refine wpIn_block (wpIn_mono (hh1 K w0 φ w a F n hI ht hd hF) ?_)
      rintro x a' w' ⟨φ', hle, hx, rest⟩
      cases hx
      simp only [Exit.inBlock, if_neg hid]
      exact ⟨φ', hle, .exit _, rest⟩
  · rename_i e s1 hne h1
    simp only [Option.some.injEq] at hc; subst hc
    intro hb
    obtain ⟨hp1, hh1⟩ := hs _ _ h1 hb
    refine ⟨hp1, ?_⟩
    intro K w0 φ w a F n hI ht hd hF
    refine wpIn_block (wpIn_mono (hh1 K w0 φ w a F n hI ht hd hF) ?_)
    rintro x a' w' ⟨φ', hle, hx, rest⟩
    cases hx with
    | normal => exact ⟨φ', hle, .normal, rest⟩
    | exit id => exact (hne _ rfl).elim
    | goto l => exact ⟨φ', hle, .goto l, rest⟩
    | ret => exact ⟨φ', hle, .ret, rest⟩
    | panic hv => exact ⟨φ', hle, .panic hv, rest⟩
  · cases hc

/-- What the rounds of a loop owe. -/
def wpLoopIn (F : Fence) (n : Nat) (P : Program) (c : Code) (Q : Exit → Act → World → Prop) (a : Act) (w : World) : Prop :=
  ∀ (b : Frame) (k : List Item) (cs : List Frame), b.roundOf = F.round → F.fn b.fn → F.room (cs.length + 1 + n) →
    ∃ e a' w', Q e a' w' ∧ ArrivesIn (Machine.fenced P F) P (lone (b.atR a (.code c :: .inLoop c :: k)) cs w) b k cs e a' w'

theorem wpLoopIn_mono {F : Fence} {n : Nat} {c : Code} {Q Q' : Exit → Act → World → Prop} {a : Act} {w : World} (h : wpLoopIn F n P c Q a w) (hq : ∀ e a w, Q e a w → Q' e a w) : wpLoopIn F n P c Q' a w :=
  fun b k cs hro hb hr => let ⟨e, a', w', q, r⟩ := h b k cs hro hb hr; ⟨e, a', w', hq _ _ _ q, r⟩

theorem wpIn_of_rounds {F : Fence} {n : Nat} {c : Code} {Q : Exit → Act → World → Prop} {a : Act} {w : World} (h : wpLoopIn F n P c Q a w) : (Code.loop c).wpIn F n P Q a w := by
  intro b k cs hro hb hr
  obtain ⟨e, a', w', hq, harr⟩ := h b k cs hro hb hr
  exact ⟨e, a', w', hq, .of_steps (.one (fenced_calm hb hr rfl) stepR_loop) harr⟩

theorem rounds_of {F : Fence} {n : Nat} {c : Code} {Q : Exit → Act → World → Prop} {a : Act} {w : World} (h : c.wpIn F n P (Exit.then (wpLoopIn F n P c Q) Q) a w) : wpLoopIn F n P c Q a w := by
  intro b k cs hro hb hr
  obtain ⟨e, a₁, w₁, hq, harr⟩ := h b (.inLoop c :: k) cs hro hb hr
  cases e with
  | normal =>
    obtain ⟨e₂, a₂, w₂, hq₂, harr₂⟩ := hq b k cs hro hb hr
    exact ⟨e₂, a₂, w₂, hq₂, .of_steps (StepsIn.trans harr (.one (fenced_calm hb hr rfl) stepR_inLoop)) harr₂⟩
  | exit id => exact ⟨_, a₁, w₁, hq, .pass (x := .inLoop c) rfl (fun _ _ => .inl (by simp)) harr⟩
  | goto l => exact ⟨_, a₁, w₁, hq, .pass (x := .inLoop c) rfl (fun _ _ => .inl (by simp)) harr⟩
  | ret => exact ⟨_, a₁, w₁, hq, .pass (x := .inLoop c) rfl (fun _ _ => .inl (by simp)) harr⟩
  | panic ch => exact ⟨_, a₁, w₁, hq, .pass (x := .inLoop c) rfl (fun _ _ => .inl (by simp)) harr⟩
  | outgrown => exact ⟨_, a₁, w₁, hq, .pass (x := .inLoop c) rfl (fun _ _ => .inl (by simp)) harr⟩

def LoopOk (P : Program) (self : Self) : Prop := ∀ (rd : Option Nat) (c : Code) (s : St) (e : Ex) (s' : St), self (.code rd (.loop c) s) = some (.ex e s') → s.h.base ≤ s.h.bl.length →
  ∀ (K : Nat → Prop) (w0 : World) (φ : Phi) (w : World) (a : Act) (F : Fence) (n : Nat), Inv K w0 φ s.h.bl w → VRs φ s.t.toArray a.tmps → DRs φ s.d a.defers → FenceOk φ rd F → wpLoopIn F n P c (CodeR K w0 φ e s') a w

theorem loop_sound (hs : SelfOk P self) (hl : LoopOk P self) {rd : Option Nat} {c : Code} {s : St} {o : Out} (hc : stepF drawn P self (.code rd (.loop c) s) = some o) :
    ∃ e s', o = .ex e s' ∧ (s.h.base ≤ s.h.bl.length → Pres s.h s'.h ∧ ∀ (K : Nat → Prop) (w0 : World) (φ : Phi) (w : World) (a : Act) (F : Fence) (n : Nat), Inv K w0 φ s.h.bl w → VRs φ s.t.toArray a.tmps → DRs φ s.d a.defers → FenceOk φ rd F → wpLoopIn F n P c (CodeR K w0 φ e s') a w) := by
  simp only [stepF] at hc
  split at hc
  · rename_i s1 h1
    split at hc
    · rename_i e s2 h2
      simp only [Option.some.injEq] at hc; subst hc
      refine ⟨e, s2, rfl, fun hb => ?_⟩
      obtain ⟨hp1, hh1⟩ := hs _ _ h1 hb
      obtain ⟨hp2, _⟩ := hs _ _ h2 (base_of hb hp1)
      refine ⟨hp1.trans hp2, ?_⟩
      intro K w0 φ w a F n hI ht hd hF
      refine rounds_of (wpIn_mono (hh1 K w0 φ w a F n hI ht hd hF) ?_)
      rintro x a' w' ⟨φ', hle, hx, ht', hd', hI'⟩
      cases hx
      exact wpLoopIn_mono (hl _ _ _ _ _ h2 (base_of hb hp1) K w0 φ' w' a' F n hI' ht' hd' (hF.mono hle)) fun _ _ _ hq => hq.mono hle
    · cases hc
  · rename_i e s1 hne h1
    simp only [Option.some.injEq] at hc; subst hc
    refine ⟨e, s1, rfl, fun hb => ?_⟩
    obtain ⟨hp1, hh1⟩ := hs _ _ h1 hb
    refine ⟨hp1, ?_⟩
    intro K w0 φ w a F n hI ht hd hF
    refine rounds_of (wpIn_mono (hh1 K w0 φ w a F n hI ht hd hF) ?_)
    rintro x a' w' ⟨φ', hle, hx, rest⟩
    cases hx with
    | normal => exact (hne rfl).elim
    | exit id => exact ⟨φ', hle, .exit id, rest⟩
    | goto l => exact ⟨φ', hle, .goto l, rest⟩
    | ret => exact ⟨φ', hle, .ret, rest⟩
    | panic hv => exact ⟨φ', hle, .panic hv, rest⟩
  · cases hc

theorem step_ok (hN : NoNG P) (hdr : DrawnOk P drawn) (hs : SelfOk P self) (hl : LoopOk P self) : SelfOk P (stepF drawn P self) := by
  intro t o hc
  cases t with
  | call f args h => exact call_sound hN hs drawn hc
  | dcall f args m h => exact dcall_sound hN hs drawn hc
  | round l args h => exact round_sound hs drawn hc
  | code rd c s =>
    cases c with
    | seq x y => exact seq_sound hs hc
    | cond c x y => exact cond_sound hs hc
    | block id c => exact block_sound hs hc
    | loop c =>
      obtain ⟨e, s', rfl, hh⟩ := loop_sound hs hl hc
      intro hb
      obtain ⟨hp, h2⟩ := hh hb
      exact ⟨hp, fun K w0 φ w a F n hI ht hd hF => wpIn_of_rounds (h2 K w0 φ w a F n hI ht hd hF)⟩
    | rangeFunc g ps assign body => exact rangeFunc_sound hN hs drawn hc
    | region id os dr =>
      simp only [stepF] at hc
      split at hc
      · rename_i hd
        subst hd
        exact hdr self hs rd id os s o hc
      · rename_i hd
        have hd' : dr = false := by cases dr <;> simp_all
        subst hd'
        by_cases hb : s.h.base ≤ s.h.bl.length
        · obtain ⟨e, s', rfl, hp, hh⟩ := runOps_sound hN hs _ s o hc hb
          exact fun _ => ⟨hp, fun K w0 φ w a F n hI ht hd hF => wpIn_region (hh K w0 φ w a F n _ hI ht hd hF (fun _ _ _ hq => hq))⟩
        · obtain ⟨e, s', rfl⟩ := runOps_ex _ _ _ hc
          exact fun h => absurd h hb
    | skip =>
      simp only [stepF, Option.some.injEq] at hc; subst hc
      exact fun _ => ⟨Pres.refl _, fun K w0 φ w a F n hI ht hd hF => wpIn_skip ⟨φ, le_refl φ, .normal, ht, hd, hI⟩⟩
    | label l =>
      simp only [stepF, Option.some.injEq] at hc; subst hc
      exact fun _ => ⟨Pres.refl _, fun K w0 φ w a F n hI ht hd hF => wpIn_label ⟨φ, le_refl φ, .normal, ht, hd, hI⟩⟩
    | exit id =>
      simp only [stepF, Option.some.injEq] at hc; subst hc
      exact fun _ => ⟨Pres.refl _, fun K w0 φ w a F n hI ht hd hF => wpIn_exit ⟨φ, le_refl φ, .exit id, ht, hd, hI⟩⟩
    | goto l =>
      simp only [stepF, Option.some.injEq] at hc; subst hc
      exact fun _ => ⟨Pres.refl _, fun K w0 φ w a F n hI ht hd hF => wpIn_goto ⟨φ, le_refl φ, .goto l, ht, hd, hI⟩⟩
    | ret =>
      simp only [stepF, Option.some.injEq] at hc; subst hc
      exact fun _ => ⟨Pres.refl _, fun K w0 φ w a F n hI ht hd hF => wpIn_ret ⟨φ, le_refl φ, .ret, ht, hd, hI⟩⟩
    | scope c => simp [stepF] at hc
    | refuse w => simp [stepF] at hc
where
  runOps_ex {rd : Option Nat} {os : Array Oper} : ∀ (l : List Nat) (s : St) (o : Out), runOps P self rd os l s = some o → ∃ e s', o = .ex e s'
  | [], s, o, h => by simp only [runOps, Option.some.injEq] at h; exact ⟨_, _, h.symm⟩
  | i :: r, s, o, h => by
    simp only [runOps, putK_eq, forceH_eq] at h
    split at h
    · exact runOps_ex r _ o h
    · split at h
      · split at h
        · exact runOps_ex r _ o h
        · split at h
          · exact runOps_ex r _ o h
          · simp only [Option.some.injEq] at h; exact ⟨_, _, h.symm⟩
          · cases h
        · split at h
          · exact runOps_ex r _ o h
          · cases h
        · split at h
          · exact runOps_ex r _ o h
          · cases h
        · simp only [Option.some.injEq] at h; exact ⟨_, _, h.symm⟩
        · cases h
      · exact runOps_ex r _ o h

def iter (drawn : Program → Self → Option Nat → Nat → Array Oper → St → Option Out) (P : Program) : Nat → Self
  | 0 => fun _ => none
  | n + 1 => stepF drawn P (iter drawn P n)

theorem iter_ok (hN : NoNG P) (hdr : DrawnOk P drawn) : ∀ n, SelfOk P (iter drawn P n) ∧ LoopOk P (iter drawn P n)
  | 0 => ⟨(fun _ _ h => nomatch h), (fun _ _ _ _ _ h => nomatch h)⟩
  | n + 1 => by
    obtain ⟨h1, h2⟩ := iter_ok hN hdr n
    refine ⟨step_ok hN hdr h1 h2, ?_⟩
    intro rd c s e s' hc hb
    obtain ⟨e1, s1, he, hh⟩ := loop_sound (drawn := drawn) h1 h2 hc
    cases he
    exact (hh hb).2

theorem inv_start (w : World) : Inv (· < w.heap.size) w (fun _ => none) [] w :=
  ⟨fun b ob h => by simp at h, fun b b' ob ob' x y _ h => by simp at h, fun b ob x h => by simp at h, fun _ _ => rfl, fun _ h => h, Nat.le_refl _, rfl, rfl, rfl, fun _ _ => rfl⟩

/-- **A CLOSED CALL, RECKONED OVER THE EMPTY SMALL HEAP, RETURNS THE SAME IN EVERY WORLD, and what lay there lies as it lay.** -/
theorem calls_of_iter (hN : NoNG P) (hdr : DrawnOk P drawn) {n : Nat} {f : FuncId} {v : Value} {h : Hp} (hc : iter drawn P n (.call f #[] { bl := [], base := 0, wr := [] }) = some (.ret v h)) (hg : gr v = true) (w : World) :
    Calls P f #[] w fun e w' => e = .returned v ∧ Below w.heap.size w w' := by
  obtain ⟨_, hh⟩ := (iter_ok hN hdr n).1 _ _ hc (Nat.le_refl _)
  refine callsIn_wide.1 ((hh (· < w.heap.size) w (fun _ => none) w #[] 0 (inv_start w) (VRs.nil _)).mono ?_)
  intro e w' he
  cases e with
  | returned v' =>
    obtain ⟨φ', _, hv, hI⟩ := he
    exact ⟨by rw [gr_eq hg hv], hI.below⟩
  | panicked ch => exact he.elim
  | outgrown => exact he.elim
end
end
end Go.Gh
