/- What a run over the small heap gives carries over to every world: operations, leaving a function. Conditions: none. -/
import Derived.Test.YtplejmmkcfmdcaaGhJ
namespace Go.Gh
open Go.RowKit
noncomputable section

inductive ExR (φ : Phi) : Ex → Exit → Prop
  | normal : ExR φ .normal .normal
  | exit (id : Nat) : ExR φ (.exit id) (.exit id)
  | goto (l : Nat) : ExR φ (.goto l) (.goto l)
  | ret : ExR φ .ret .ret
  | panic {v v' : Value} (h : VR φ v v') : ExR φ (.panic v) (.panic [{ v := v', recovered := false }])

theorem ExR.mono {φ ψ : Phi} (hle : le φ ψ) {e : Ex} {x : Exit} (h : ExR φ e x) : ExR ψ e x := by
  cases h with
  | normal => exact .normal
  | exit id => exact .exit id
  | goto l => exact .goto l
  | ret => exact .ret
  | panic h => exact .panic (h.mono hle)

inductive DRs (φ : Phi) : List Deferred → List Deferred → Prop
  | nil : DRs φ [] []
  | cons {d d' : Deferred} {l l' : List Deferred} (h : DR φ d d') (r : DRs φ l l') : DRs φ (d :: l) (d' :: l')

theorem DRs.mono {φ ψ : Phi} (hle : le φ ψ) {l l' : List Deferred} (h : DRs φ l l') : DRs ψ l l' := by
  induction h with
  | nil => exact .nil
  | cons h _ ih => exact .cons (h.mono hle) ih

inductive MoR (φ : Phi) : Mo → FrameMode → Prop
  | returning : MoR φ .returning .returning
  | panicking {v v' : Value} (done : Bool) (h : VR φ v v') : MoR φ (.panicking v done) (.panicking [{ v := v', recovered := done }])

theorem MoR.mono {φ ψ : Phi} (hle : le φ ψ) {m : Mo} {u : FrameMode} (h : MoR φ m u) : MoR ψ m u := by
  cases h with
  | returning => exact .returning
  | panicking d h => exact .panicking d (h.mono hle)

def CodeR (K : Nat → Prop) (w0 : World) (φ : Phi) (e : Ex) (s' : St) (x : Exit) (a : Act) (w' : World) : Prop :=
  ∃ φ', le φ φ' ∧ ExR φ' e x ∧ VRs φ' s'.t.toArray a.tmps ∧ DRs φ' s'.d a.defers ∧ Inv K w0 φ' s'.h.bl w'

theorem CodeR.mono {K : Nat → Prop} {w0 : World} {φ ψ : Phi} (hle : le φ ψ) {e : Ex} {s' : St} {x : Exit} {a : Act} {w' : World} (h : CodeR K w0 ψ e s' x a w') : CodeR K w0 φ e s' x a w' := by
  obtain ⟨φ', h1, h2⟩ := h
  exact ⟨φ', le_trans hle h1, h2⟩

def RetR (K : Nat → Prop) (w0 : World) (φ : Phi) (v : Value) (h : Hp) : Ending → World → Prop
  | .returned v', w' => ∃ φ', le φ φ' ∧ VR φ' v v' ∧ Inv K w0 φ' h.bl w'
  | _, _ => False

def PanR (K : Nat → Prop) (w0 : World) (φ : Phi) (v : Value) (h : Hp) : Ending → World → Prop
  | .panicked chain, w' => ∃ φ' v', chain = [{ v := v', recovered := false }] ∧ le φ φ' ∧ VR φ' v v' ∧ Inv K w0 φ' h.bl w'
  | _, _ => False

def FenceOk (φ : Phi) (rd : Option Nat) (F : Fence) : Prop :=
  match rd with
  | none => F = Fence.wide
  | some l => ∃ L t, φ l = some (L, 0, t) ∧ F = Fence.wide.inRound L

theorem FenceOk.mono {φ ψ : Phi} (hle : le φ ψ) {rd : Option Nat} {F : Fence} (h : FenceOk φ rd F) : FenceOk ψ rd F := by
  cases rd with
  | none => exact h
  | some l => obtain ⟨L, t, h1, h2⟩ := h; exact ⟨L, t, hle _ _ h1, h2⟩

theorem FenceOk.fn {φ : Phi} {rd : Option Nat} {F : Fence} (h : FenceOk φ rd F) (f : FuncId) : F.fn f := by
  cases rd with
  | none => subst h; trivial
  | some l => obtain ⟨L, t, _, rfl⟩ := h; trivial
theorem FenceOk.depth {φ : Phi} {rd : Option Nat} {F : Fence} (h : FenceOk φ rd F) (n : Nat) : F.depth.isSome = true → 1 ≤ n := by
  cases rd with
  | none => subst h; intro h; cases h
  | some l => obtain ⟨L, t, _, rfl⟩ := h; intro h; cases h
theorem FenceOk.calls {φ : Phi} {rd : Option Nat} {F : Fence} (h : FenceOk φ rd F) {n : Nat} {P : Program} {f : FuncId} {args : Array Value} {w : World} {R : Ending → World → Prop} (hc : CallsIn Fence.wide n P f args w R) : CallsIn F n P f args w R := by
  cases rd with
  | none => subst h; exact hc
  | some l => obtain ⟨L, t, _, rfl⟩ := h; exact hc
theorem FenceOk.round {φ : Phi} {rd : Option Nat} {F : Fence} (h : FenceOk φ rd F) {n : Nat} {P : Program} {l : Nat} {f : FuncId} {tm : Array Value} {as bd : Code} {w : World} {R : Ending → World → Prop} (hc : RoundIn Fence.wide n P l f tm as bd w R) : RoundIn F n P l f tm as bd w R := by
  cases rd with
  | none => subst h; exact hc
  | some l => obtain ⟨L, t, _, rfl⟩ := h; exact hc

def TaskOk (P : Program) : Task → Out → Prop
  | .code rd c s, .ex e s' => s.h.base ≤ s.h.bl.length → Pres s.h s'.h ∧ ∀ (K : Nat → Prop) (w0 : World) (φ : Phi) (w : World) (a : Act) (F : Fence) (n : Nat),
      Inv K w0 φ s.h.bl w → VRs φ s.t.toArray a.tmps → DRs φ s.d a.defers → FenceOk φ rd F → c.wpIn F n P (CodeR K w0 φ e s') a w
  | .call f args h, .ret v h' => h.base ≤ h.bl.length → Pres h h' ∧ ∀ (K : Nat → Prop) (w0 : World) (φ : Phi) (w : World) (args' : Array Value) (n : Nat),
      Inv K w0 φ h.bl w → VRs φ args args' → CallsIn Fence.wide n P f args' w (RetR K w0 φ v h')
  | .call f args h, .pan v h' => h.base ≤ h.bl.length → Pres h h' ∧ ∀ (K : Nat → Prop) (w0 : World) (φ : Phi) (w : World) (args' : Array Value) (n : Nat),
      Inv K w0 φ h.bl w → VRs φ args args' → CallsIn Fence.wide n P f args' w (PanR K w0 φ v h')
  | .dcall f args m h, .dret m' h' => h.base ≤ h.bl.length → Pres h h' ∧ ∀ (K : Nat → Prop) (w0 : World) (φ : Phi) (w : World) (args' : Array Value) (u : FrameMode) (n : Nat),
      Inv K w0 φ h.bl w → VRs φ args args' → MoR φ m u → CallsDIn Fence.wide n P f args' u w fun e u' w' => ∃ v, e = .returned v ∧ ∃ φ', le φ φ' ∧ MoR φ' m' u' ∧ Inv K w0 φ' h'.bl w'
  | .round l args h, .ret v h' => h.base ≤ h.bl.length → Pres h h' ∧ ∀ (K : Nat → Prop) (w0 : World) (φ : Phi) (w : World) (args' : Array Value) (B t : Nat) (n : Nat),
      Inv K w0 φ h.bl w → VRs φ args args' → φ l = some (B, 0, t) → ∃ fn tm as bd, (Instr.yield B args').run P w = .ok (.round B fn tm as bd) w ∧ RoundIn Fence.wide n P B fn tm as bd w (RetR K w0 φ v h')
  | _, _ => False

def SelfOk (P : Program) (self : Self) : Prop := ∀ (t : Task) (o : Out), self t = some o → TaskOk P t o

section
variable {P : Program} {self : Self}

theorem put_defers (a : Act) (dst : Option Tmp) (v : Value) : (a.put dst v).defers = a.defers := by cases dst <;> rfl

theorem vrs_put {φ : Phi} {t : List Value} {a : Act} {v v' : Value} (h : VRs φ t.toArray a.tmps) (hv : VR φ v v') (dst : Option Tmp) : VRs φ (put t dst v).toArray (a.put dst v').tmps := by
  cases dst with
  | none => exact h
  | some d =>
    show VRs φ (lset t d v).toArray (a.tmps.setIfInBounds d v')
    rw [lset_eq]; exact h.set hv d

theorem wanted_eq {φ : Phi} {t : List Value} {t' : Array Value} (h : VRs φ t.toArray t') (os : Array Oper) (o : Oper) : Region.wanted o (yielded os t') = wantedT os t o := by
  unfold Region.wanted wantedT
  cases o.guard with
  | none => rfl
  | some g =>
    obtain ⟨j, want⟩ := g
    simp only [yielded]
    cases (os[j]?).bind (·.dst) with
    | none => rfl
    | some d =>
      simp only [Option.bind_some]
      rw [lget_eq, Array.getD_eq_getD_getElem?]
      have := h d
      generalize t.toArray[d]? = x at this
      generalize t'[d]? = y at this
      cases this with
      | none => rfl
      | some hv =>
        cases hv with
        | top _ hb => rename_i b; cases b <;> first | rfl | cases hb
        | _ => rfl

theorem evs_t {φ : Phi} {t : List Value} {a : Act} (h : VRs φ t.toArray a.tmps) : Evs φ (evalT t) a.eval := by
  intro x hx
  cases x with
  | tmp n =>
    show VR φ (lget t n) (a.tmps.getD n undef)
    rw [lget_eq]; exact h.getD n
  | const v => exact gr_refl hx
  | global g => cases hx
  | func f => exact .fn rfl rfl (fun i hi => absurd hi (Nat.not_lt_zero _)) rfl (fun i hi => absurd hi (Nat.not_lt_zero _))

theorem aop_defer {ρ : Operand → Value} {h : Hp} {o : Oper} {nx : Nx} {c : Call} (ho : o.op = .defer c) (ha : aop P ρ h o = some nx) : ∃ d, nx = .defer d := by
  unfold aop at ha
  split at ha
  · rename_i v hv
    unfold aread at hv
    rw [ho] at hv
    simp at hv
  · unfold aloud at ha
    rw [ho] at ha
    simp only at ha
    split at ha <;> first | cases ha; done | skip
    all_goals (repeat' (split at ha)) <;> first | (cases ha; done) | (simp only [Option.some.injEq] at ha; subst ha; exact ⟨_, rfl⟩) | skip
    all_goals simp_all

theorem sem_plain {F : Fence} {ρ : Operand → Value} {o : Oper} (h : (∀ c, o.op ≠ .defer c) ∨ F.round = none) : o.semAt F.round ρ = execOp ρ o := by
  rcases h with h | h
  · exact Oper.semAt_eq _ _ _ h
  · rw [h]; rfl

theorem runOps_sound (hN : NoNG P) (hs : SelfOk P self) {rd : Option Nat} {os : Array Oper} : ∀ (l : List Nat) (s : St) (o : Out), runOps P self rd os l s = some o → s.h.base ≤ s.h.bl.length →
    ∃ e s', o = .ex e s' ∧ Pres s.h s'.h ∧ ∀ (K : Nat → Prop) (w0 : World) (φ : Phi) (w : World) (a : Act) (F : Fence) (n : Nat) (Q : Exit → Act → World → Prop),
      Inv K w0 φ s.h.bl w → VRs φ s.t.toArray a.tmps → DRs φ s.d a.defers → FenceOk φ rd F → (∀ x a w', CodeR K w0 φ e s' x a w' → Q x a w') → wpOpsIn F n P os Q l a w
  | [], s, out, h, _ => by
    simp only [runOps, Option.some.injEq] at h; subst h
    refine ⟨.normal, s, rfl, Pres.refl _, ?_⟩
    intro K w0 φ w a F n Q hI ht hd hF hQ
    exact hQ _ _ _ ⟨φ, le_refl φ, .normal, ht, hd, hI⟩
  | i :: r, s, out, h, hb => by
    simp only [runOps, putK_eq, forceH_eq] at h
    cases ho : os[i]? with
    | none =>
      rw [ho] at h
      obtain ⟨e, s', rfl, hp, hh⟩ := runOps_sound hN hs r s out h hb
      refine ⟨e, s', rfl, hp, ?_⟩
      intro K w0 φ w a F n Q hI ht hd hF hQ
      simp only [wpOpsIn, ho]
      exact hh K w0 φ w a F n Q hI ht hd hF hQ
    | some o =>
      rw [ho] at h
      simp only at h
      by_cases hw : wantedT os s.t o = true
      · rw [if_pos hw] at h
        -- the operation is carried out
        split at h
        · rename_i v h' ha
          have hnx := fun (K : Nat → Prop) (w0 : World) (φ : Phi) (w : World) (a : Act) (hI : Inv K w0 φ s.h.bl w) (ht : VRs φ s.t.toArray a.tmps) => aop_sound hN hb hI (evs_t ht) ha
          have hnd : ∀ c, o.op ≠ .defer c := fun c hc => by obtain ⟨d, hd⟩ := aop_defer hc ha; cases hd
          have hbase : h'.base ≤ h'.bl.length := by
            obtain ⟨p1, p2, _⟩ : Pres s.h h' := aop_pres hb ha
            rw [p1]; omega
          obtain ⟨e, s', rfl, hp, hh⟩ := runOps_sound hN hs r _ out h hbase
          refine ⟨e, s', rfl, (aop_pres hb ha).trans hp, ?_⟩
          intro K w0 φ w a F n Q hI ht hd hF hQ
          obtain ⟨_, φ', v', w', hr, hle, hv, hI'⟩ := hnx K w0 φ w a hI ht
          simp only [wpOpsIn, ho]
          rw [if_pos (by rw [wanted_eq ht]; exact hw)]
          refine ⟨fun f _ => hF.fn f, ?_⟩
          rw [sem_plain (.inl hnd)]
          have hrest : wpOpsIn F n P os Q r (a.put o.dst v') w' := hh K w0 φ' w' _ F n Q hI' (by exact vrs_put (ht.mono hle) hv _) (by rw [put_defers]; exact hd.mono hle) (hF.mono hle) (fun x a w'' hc => hQ x a w'' (hc.mono hle))
          rcases hr with hr | ⟨hr, rfl⟩
          · rw [hr]; exact hrest
          · rw [hr]; exact hrest
        · rename_i f args ha
          have hnd : ∀ c, o.op ≠ .defer c := fun c hc => by obtain ⟨d, hd⟩ := aop_defer hc ha; cases hd
          split at h
          · rename_i v h' hcall
            obtain ⟨hp1, hc⟩ := hs _ _ hcall hb
            have hbase : h'.base ≤ h'.bl.length := by rw [hp1.base]; exact Nat.le_trans hb hp1.len
            obtain ⟨e, s', rfl, hp, hh⟩ := runOps_sound hN hs r _ out h hbase
            refine ⟨e, s', rfl, hp1.trans hp, ?_⟩
            intro K w0 φ w a F n Q hI ht hd hF hQ
            obtain ⟨_, args', hr, hargs⟩ := aop_sound hN hb hI (evs_t ht) ha
            simp only [wpOpsIn, ho]
            rw [if_pos (by rw [wanted_eq ht]; exact hw)]
            refine ⟨fun f _ => hF.fn f, ?_⟩
            rw [sem_plain (.inl hnd), hr]
            refine ⟨hF.depth n, (hF.calls (hc K w0 φ w args' (n - 1) hI hargs)).mono ?_⟩
            intro en w' hen
            cases en with
            | returned v' =>
              obtain ⟨φ', hle, hv, hI'⟩ := hen
              exact hh K w0 φ' w' _ F n Q hI' (by exact vrs_put (ht.mono hle) hv _) (by rw [put_defers]; exact hd.mono hle) (hF.mono hle) (fun x a w'' hc => hQ x a w'' (hc.mono hle))
            | panicked ch => exact hen.elim
            | outgrown => exact hen.elim
          · rename_i v h' hcall
            simp only [Option.some.injEq] at h; subst h
            obtain ⟨hp1, hc⟩ := hs _ _ hcall hb
            refine ⟨.panic v, _, rfl, hp1, ?_⟩
            intro K w0 φ w a F n Q hI ht hd hF hQ
            obtain ⟨_, args', hr, hargs⟩ := aop_sound hN hb hI (evs_t ht) ha
            simp only [wpOpsIn, ho]
            rw [if_pos (by rw [wanted_eq ht]; exact hw)]
            refine ⟨fun f _ => hF.fn f, ?_⟩
            rw [sem_plain (.inl hnd), hr]
            refine ⟨hF.depth n, (hF.calls (hc K w0 φ w args' (n - 1) hI hargs)).mono ?_⟩
            intro en w' hen
            cases en with
            | returned v' => exact hen.elim
            | panicked ch =>
              obtain ⟨φ', v', rfl, hle, hv, hI'⟩ := hen
              exact hQ _ _ _ ⟨φ', hle, .panic hv, ht.mono hle, hd.mono hle, hI'⟩
            | outgrown => exact hen.elim
          · cases h
        · rename_i l args ha
          have hnd : ∀ c, o.op ≠ .defer c := fun c hc => by obtain ⟨d, hd⟩ := aop_defer hc ha; cases hd
          split at h
          · rename_i v h' hcall
            obtain ⟨hp1, hc⟩ := hs _ _ hcall hb
            have hbase : h'.base ≤ h'.bl.length := by rw [hp1.base]; exact Nat.le_trans hb hp1.len
            obtain ⟨e, s', rfl, hp, hh⟩ := runOps_sound hN hs r _ out h hbase
            refine ⟨e, s', rfl, hp1.trans hp, ?_⟩
            intro K w0 φ w a F n Q hI ht hd hF hQ
            obtain ⟨B, tb, args', hφ, hr, hargs⟩ := aop_sound hN hb hI (evs_t ht) ha
            obtain ⟨fn, tm, as, bd, hy, hround⟩ := hc K w0 φ w args' B tb (n - 1) hI hargs hφ
            simp only [wpOpsIn, ho]
            rw [if_pos (by rw [wanted_eq ht]; exact hw)]
            refine ⟨fun f _ => hF.fn f, ?_⟩
            rw [sem_plain (.inl hnd), hr, hy]
            refine ⟨hF.depth n, (hF.round hround).mono ?_⟩
            intro en w' hen
            cases en with
            | returned v' =>
              obtain ⟨φ', hle, hv, hI'⟩ := hen
              exact hh K w0 φ' w' _ F n Q hI' (by exact vrs_put (ht.mono hle) hv _) (by rw [put_defers]; exact hd.mono hle) (hF.mono hle) (fun x a w'' hc => hQ x a w'' (hc.mono hle))
            | panicked ch => exact hen.elim
            | outgrown => exact hen.elim
          · cases h
        · rename_i d ha
          split at h
          · rename_i hrd
            obtain rfl : rd = none := by cases rd <;> first | rfl | cases hrd
            obtain ⟨e, s', rfl, hp, hh⟩ := runOps_sound hN hs r _ out h hb
            refine ⟨e, s', rfl, hp, ?_⟩
            intro K w0 φ w a F n Q hI ht hd hF hQ
            obtain ⟨d', hr, hdr⟩ := aop_sound hN hb hI (evs_t ht) ha
            have hF' : F = Fence.wide := hF
            simp only [wpOpsIn, ho]
            rw [if_pos (by rw [wanted_eq ht]; exact hw)]
            refine ⟨fun f _ => hF.fn f, ?_⟩
            rw [sem_plain (.inr (by rw [hF']; rfl)), hr]
            exact hh K w0 φ w _ F n Q hI (by exact vrs_put (a := { a with defers := d' :: a.defers }) ht (VR.undef φ) _) (by rw [put_defers]; exact .cons hdr hd) hF hQ
          · cases h
        · rename_i v ha
          have hnd : ∀ c, o.op ≠ .defer c := fun c hc => by obtain ⟨d, hd⟩ := aop_defer hc ha; cases hd
          simp only [Option.some.injEq] at h; subst h
          refine ⟨.panic v, s, rfl, Pres.refl _, ?_⟩
          intro K w0 φ w a F n Q hI ht hd hF hQ
          obtain ⟨v', hr, hv⟩ := aop_sound hN hb hI (evs_t ht) ha
          simp only [wpOpsIn, ho]
          rw [if_pos (by rw [wanted_eq ht]; exact hw)]
          refine ⟨fun f _ => hF.fn f, ?_⟩
          rw [sem_plain (.inl hnd), hr]
          exact hQ _ _ _ ⟨φ, le_refl φ, .panic hv, ht, hd, hI⟩
        · cases h
      · rw [if_neg hw] at h
        obtain ⟨e, s', rfl, hp, hh⟩ := runOps_sound hN hs r _ out h hb
        refine ⟨e, s', rfl, hp, ?_⟩
        intro K w0 φ w a F n Q hI ht hd hF hQ
        simp only [wpOpsIn, ho]
        rw [if_neg (by rw [wanted_eq ht]; exact hw)]
        exact ⟨fun f _ => hF.fn f, hh K w0 φ w _ F n Q hI (by exact vrs_put ht (VR.undef φ) _) (by rw [put_defers]; exact hd) hF hQ⟩
where
  aop_pres {ρ : Operand → Value} {h h' : Hp} {o : Oper} {v : Value} (hb : h.base ≤ h.bl.length) (ha : aop P ρ h o = some (.val v h')) : Pres h h' := by
    unfold aop at ha
    split at ha
    · simp only [Option.some.injEq, Nx.val.injEq] at ha
      rw [← ha.2]; exact Pres.refl h
    · unfold aloud at ha
      split at ha
      · rw [Option.map_eq_some_iff] at ha
        obtain ⟨⟨u, k⟩, hl, hh⟩ := ha
        simp only [Nx.val.injEq] at hh; rw [← hh.2]; exact lAlloc_pres hb hl
      · split at ha
        · simp only [Option.some.injEq, Nx.val.injEq] at ha; rw [← ha.2]; exact Pres.push h _ hb
        · cases ha
      · split at ha
        · rw [Option.map_eq_some_iff] at ha
          obtain ⟨⟨u, k⟩, hl, hh⟩ := ha
          simp only [Nx.val.injEq] at hh; rw [← hh.2]; exact lBuildSlice_pres hb hl
        · cases ha
      · split at ha
        · rw [Option.map_eq_some_iff] at ha
          obtain ⟨k, hl, hh⟩ := ha
          simp only [Nx.val.injEq] at hh; rw [← hh.2]; exact lStore_pres hl
        · cases ha
      · split at ha
        · split at ha
          · rw [Option.map_eq_some_iff] at ha
            obtain ⟨⟨u, k⟩, hl, hh⟩ := ha
            simp only [Nx.val.injEq] at hh; rw [← hh.2]; exact lStrBytes_pres hb hl
          · cases ha
        · cases ha
      · split at ha
        · simp only [Option.some.injEq, Nx.val.injEq] at ha; rw [← ha.2]; exact Pres.push h _ hb
        · cases ha
      · split at ha
        · rw [Option.map_eq_some_iff] at ha
          obtain ⟨k, hl, hh⟩ := ha
          simp only [Nx.val.injEq] at hh; rw [← hh.2]; exact lMapUpdate_pres hl
        · cases ha
      · split at ha
        · rw [Option.map_eq_some_iff] at ha
          obtain ⟨k, hl, hh⟩ := ha
          simp only [Nx.val.injEq] at hh; rw [← hh.2]; exact lMapUpdate_pres hl
        · cases ha
      · split at ha
        · split at ha
          · rw [Option.map_eq_some_iff] at ha
            obtain ⟨⟨u, k⟩, hl, hh⟩ := ha
            simp only [Nx.val.injEq] at hh; rw [← hh.2]; exact lAppend_pres hb hl
          · cases ha
        · cases ha
      · cases ha
      · repeat' (split at ha)
        all_goals cases ha
      · repeat' (split at ha)
        all_goals cases ha
      · repeat' (split at ha)
        all_goals cases ha
      · cases ha
end
end
end Go.Gh
