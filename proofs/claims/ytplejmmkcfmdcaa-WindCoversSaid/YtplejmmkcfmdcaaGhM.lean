/- What a run over the small heap gives carries over to every world: deferred functions, rounds, loops over a function, all code. Conditions: none. -/
import Derived.Test.YtplejmmkcfmdcaaGhL
namespace Go.Gh
open Go.RowKit
noncomputable section

section
variable {P : Program} {self : Self}

/-! ### Deferred functions -/
def DQ (K : Nat → Prop) (w0 : World) (φ : Phi) (e : Ex) (s' : St) (m' : Mo) (c0 : Frame) (cs : List Frame) (x : Exit) (a : Act) (cs' : List Frame) (w' : World) : Prop :=
  ∃ φ' u', le φ φ' ∧ ExR φ' e x ∧ VRs φ' s'.t.toArray a.tmps ∧ DRs φ' s'.d a.defers ∧ Inv K w0 φ' s'.h.bl w' ∧ MoR φ' m' u' ∧ cs' = { c0 with mode := u' } :: cs

theorem DQ.mono {K : Nat → Prop} {w0 : World} {φ ψ : Phi} (hle : le φ ψ) {e : Ex} {s' : St} {m' : Mo} {c0 : Frame} {cs : List Frame} {x : Exit} {a : Act} {cs' : List Frame} {w' : World} (h : DQ K w0 ψ e s' m' c0 cs x a cs' w') : DQ K w0 φ e s' m' c0 cs x a cs' w' := by
  obtain ⟨φ', u', h1, h2⟩ := h
  exact ⟨φ', u', le_trans hle h1, h2⟩

theorem wpSIn_mono {F : Fence} {n : Nat} {c : Code} {Q Q' : Exit → Act → List Frame → World → Prop} {a : Act} {cs : List Frame} {w : World} (hq : ∀ e a cs w, Q e a cs w → Q' e a cs w) (h : c.wpSIn F n P Q a cs w) : c.wpSIn F n P Q' a cs w :=
  fun b k hb hr hF hroom => let ⟨e, a', cs', w', l, q, r⟩ := h b k hb hr hF hroom; ⟨e, a', cs', w', l, hq _ _ _ _ q, r⟩

theorem runDOps_sound (hN : NoNG P) {os : Array Oper} : ∀ (l : List Nat) (s : St) (m : Mo) (e : Ex) (s' : St) (m' : Mo), runDOps P os l s m = some (e, s', m') → s.h.base ≤ s.h.bl.length →
    Pres s.h s'.h ∧ ∀ (K : Nat → Prop) (w0 : World) (φ : Phi) (w : World) (a : Act) (c0 : Frame) (cs : List Frame) (u : FrameMode) (n : Nat) (Q : Exit → Act → List Frame → World → Prop),
      Inv K w0 φ s.h.bl w → VRs φ s.t.toArray a.tmps → DRs φ s.d a.defers → MoR φ m u → (∀ x a cs' w', DQ K w0 φ e s' m' c0 cs x a cs' w' → Q x a cs' w') → wpOpsSIn Fence.wide n P os Q l a ({ c0 with mode := u } :: cs) w
  | [], s, m, e, s', m', h, _ => by
    simp only [runDOps, Option.some.injEq, Prod.mk.injEq] at h
    obtain ⟨rfl, rfl, rfl⟩ := h
    refine ⟨Pres.refl _, ?_⟩
    intro K w0 φ w a c0 cs u n Q hI ht hd hm hQ
    exact hQ _ _ _ _ ⟨φ, u, le_refl φ, .normal, ht, hd, hI, hm, rfl⟩
  | i :: r, s, m, e, s', m', h, hb => by
    simp only [runDOps, putK_eq, forceH_eq] at h
    cases ho : os[i]? with
    | none =>
      rw [ho] at h
      obtain ⟨hp, hh⟩ := runDOps_sound hN r s m e s' m' h hb
      refine ⟨hp, ?_⟩
      intro K w0 φ w a c0 cs u n Q hI ht hd hm hQ
      simp only [wpOpsSIn, ho]
      exact hh K w0 φ w a c0 cs u n Q hI ht hd hm hQ
    | some o =>
      rw [ho] at h
      simp only at h
      by_cases hw : wantedT os s.t o = true
      · rw [if_pos hw] at h
        split at h
        · rename_i v h' ha
          have hpr := runOps_sound.aop_pres hb ha
          have hbase : h'.base ≤ h'.bl.length := by rw [hpr.base]; exact Nat.le_trans hb hpr.len
          obtain ⟨hp, hh⟩ := runDOps_sound hN r _ m e s' m' h hbase
          refine ⟨hpr.trans hp, ?_⟩
          intro K w0 φ w a c0 cs u n Q hI ht hd hm hQ
          obtain ⟨_, φ', v', w', hr, hle, hv, hI'⟩ := aop_sound hN hb hI (evs_t ht) ha
          simp only [wpOpsSIn, ho]
          rw [if_pos (by rw [wanted_eq ht]; exact hw)]
          refine ⟨fun f _ => trivial, ?_⟩
          have hrest : wpOpsSIn Fence.wide n P os Q r (a.put o.dst v') ({ c0 with mode := u } :: cs) w' := hh K w0 φ' w' _ c0 cs u n Q hI' (by exact vrs_put (ht.mono hle) hv _) (by rw [put_defers]; exact hd.mono hle) (hm.mono hle) (fun x a cs' w'' hc => hQ x a cs' w'' (hc.mono hle))
          rcases hr with hr | ⟨hr, rfl⟩
          · rw [hr]; exact hrest
          · rw [hr]; exact hrest
        · rename_i ha
          split at h
          · rename_i v
            obtain ⟨hp, hh⟩ := runDOps_sound hN r _ _ e s' m' h hb
            refine ⟨hp, ?_⟩
            intro K w0 φ w a c0 cs u n Q hI ht hd hm hQ
            have hr : (execOp a.eval o).run P w = .ok .recover w := aop_sound hN hb hI (evs_t ht) ha
            cases hm with
            | @panicking _ v' _ hv =>
              simp only [wpOpsSIn, ho]
              rw [if_pos (by rw [wanted_eq ht]; exact hw)]
              refine ⟨fun f _ => trivial, ?_⟩
              rw [hr]
              exact hh K w0 φ w _ c0 cs (.panicking [{ v := v', recovered := true }]) n Q hI (by exact vrs_put ht hv _) (by rw [put_defers]; exact hd) (.panicking true hv) hQ
          · rename_i hne
            obtain ⟨hp, hh⟩ := runDOps_sound hN r _ _ e s' m' h hb
            refine ⟨hp, ?_⟩
            intro K w0 φ w a c0 cs u n Q hI ht hd hm hQ
            have hr : (execOp a.eval o).run P w = .ok .recover w := aop_sound hN hb hI (evs_t ht) ha
            have hrec : recoverD ({ c0 with mode := u } :: cs) = none := by
              cases hm with
              | returning => rfl
              | @panicking v _ done hv =>
                cases done with
                | false => exact absurd rfl (hne v)
                | true => rfl
            simp only [wpOpsSIn, ho]
            rw [if_pos (by rw [wanted_eq ht]; exact hw)]
            refine ⟨fun f _ => trivial, ?_⟩
            rw [hr]
            simp only [hrec]
            exact hh K w0 φ w _ c0 cs u n Q hI (by exact vrs_put ht .nilIface _) (by rw [put_defers]; exact hd) hm hQ
        · cases h
      · rw [if_neg hw] at h
        obtain ⟨hp, hh⟩ := runDOps_sound hN r _ m e s' m' h hb
        refine ⟨hp, ?_⟩
        intro K w0 φ w a c0 cs u n Q hI ht hd hm hQ
        simp only [wpOpsSIn, ho]
        rw [if_neg (by rw [wanted_eq ht]; exact hw)]
        exact ⟨fun f _ => trivial, hh K w0 φ w _ c0 cs u n Q hI (by exact vrs_put ht (VR.undef φ) _) (by rw [put_defers]; exact hd) hm hQ⟩

def DOk (P : Program) (c : Code) (s : St) (m : Mo) (e : Ex) (s' : St) (m' : Mo) : Prop := s.h.base ≤ s.h.bl.length →
    Pres s.h s'.h ∧ ∀ (K : Nat → Prop) (w0 : World) (φ : Phi) (w : World) (a : Act) (c0 : Frame) (cs : List Frame) (u : FrameMode) (n : Nat),
      Inv K w0 φ s.h.bl w → VRs φ s.t.toArray a.tmps → DRs φ s.d a.defers → MoR φ m u → c.wpSIn Fence.wide n P (DQ K w0 φ e s' m' c0 cs) a ({ c0 with mode := u } :: cs) w

theorem dplain (hs : SelfOk P self) {c : Code} {s : St} {m : Mo} {e : Ex} {s' : St} {m' : Mo} (h : (match self (.code none c s) with | some (.ex e s') => some (e, s', m) | _ => none) = some (e, s', m')) : DOk P c s m e s' m' := by
  split at h
  · rename_i e1 s1 hc
    simp only [Option.some.injEq, Prod.mk.injEq] at h
    obtain ⟨rfl, rfl, rfl⟩ := h
    intro hb
    obtain ⟨hp, hh⟩ := hs _ _ hc hb
    refine ⟨hp, ?_⟩
    intro K w0 φ w a c0 cs u n hI ht hd hm
    refine wpSIn_of_wpIn rfl (wpIn_mono (hh K w0 φ w a Fence.wide n hI ht hd rfl) ?_)
    rintro x a' w' ⟨φ', hle, hx, ht', hd', hI'⟩
    exact ⟨φ', u, hle, hx, ht', hd', hI', hm.mono hle, rfl⟩
  · cases h

theorem dcode_sound (hN : NoNG P) (hs : SelfOk P self) : ∀ (c : Code) (s : St) (m : Mo) (e : Ex) (s' : St) (m' : Mo), dcode P self c s m = some (e, s', m') → DOk P c s m e s' m'
  | .seq x y, s, m, e, s', m', h => by
    simp only [dcode] at h
    intro hb
    cases hx : dcode P self x s m with
    | none => rw [hx] at h; cases h
    | some r =>
      obtain ⟨e1, s1, m1⟩ := r
      rw [hx] at h
      obtain ⟨hp1, h1⟩ := dcode_sound hN hs x s m e1 s1 m1 hx hb
      have hb1 : s1.h.base ≤ s1.h.bl.length := by rw [hp1.base]; exact Nat.le_trans hb hp1.len
      by_cases hn : e1 = .normal
      · subst hn
        simp only at h
        obtain ⟨hp2, h2⟩ := dcode_sound hN hs y s1 m1 e s' m' h hb1
        refine ⟨hp1.trans hp2, ?_⟩
        intro K w0 φ w a c0 cs u n hI ht hd hm
        refine wpSIn_seq (wpSIn_mono ?_ (h1 K w0 φ w a c0 cs u n hI ht hd hm))
        rintro x' a' cs' w' ⟨φ', u', hle, hx', ht', hd', hI', hm', rfl⟩
        cases hx'
        exact wpSIn_mono (fun _ _ _ _ hq => hq.mono hle) (h2 K w0 φ' w' a' c0 cs u' n hI' ht' hd' hm')
      · have h' : (e1, s1, m1) = (e, s', m') := by
          cases e1 <;> first | exact absurd rfl hn | (simp only [Option.some.injEq] at h; exact h)
        cases h'
        refine ⟨hp1, ?_⟩
        intro K w0 φ w a c0 cs u n hI ht hd hm
        refine wpSIn_seq (wpSIn_mono ?_ (h1 K w0 φ w a c0 cs u n hI ht hd hm))
        rintro x' a' cs' w' ⟨φ', u', hle, hx', rest⟩
        cases hx' with
        | normal => exact absurd rfl hn
        | exit id => exact ⟨φ', u', hle, .exit id, rest⟩
        | goto l => exact ⟨φ', u', hle, .goto l, rest⟩
        | ret => exact ⟨φ', u', hle, .ret, rest⟩
        | panic hv => exact ⟨φ', u', hle, .panic hv, rest⟩
  | .cond c x y, s, m, e, s', m', h => by
    simp only [dcode] at h
    intro hb
    split at h
    · rename_i hc
      split at h
      · rename_i hv
        obtain ⟨hp, hh⟩ := dcode_sound hN hs x s m e s' m' h hb
        refine ⟨hp, ?_⟩
        intro K w0 φ w a c0 cs u n hI ht hd hm
        have hcv := evs_t ht c hc
        rw [hv] at hcv
        exact wpSIn_cond (t := true) (gr_eq (v := .bool true) rfl hcv) (hh K w0 φ w a c0 cs u n hI ht hd hm)
      · rename_i hv
        obtain ⟨hp, hh⟩ := dcode_sound hN hs y s m e s' m' h hb
        refine ⟨hp, ?_⟩
        intro K w0 φ w a c0 cs u n hI ht hd hm
        have hcv := evs_t ht c hc
        rw [hv] at hcv
        exact wpSIn_cond (t := false) (gr_eq (v := .bool false) rfl hcv) (hh K w0 φ w a c0 cs u n hI ht hd hm)
      · cases h
    · cases h
  | .region id os dr, s, m, e, s', m', h => by
    simp only [dcode] at h
    split at h
    · rename_i hc
      simp only [Bool.and_eq_true, Bool.not_eq_true'] at hc
      obtain ⟨_, rfl⟩ := hc
      intro hb
      obtain ⟨hp, hh⟩ := runDOps_sound hN _ s m e s' m' h hb
      refine ⟨hp, ?_⟩
      intro K w0 φ w a c0 cs u n hI ht hd hm
      exact wpSIn_region (hh K w0 φ w a c0 cs u n _ hI ht hd hm (fun _ _ _ _ hq => hq))
    · exact dplain hs h
  | .skip, s, m, e, s', m', h => dplain hs h
  | .block id c, s, m, e, s', m', h => dplain hs h
  | .loop c, s, m, e, s', m', h => dplain hs h
  | .rangeFunc g ps as bd, s, m, e, s', m', h => dplain hs h
  | .exit id, s, m, e, s', m', h => dplain hs h
  | .scope c, s, m, e, s', m', h => dplain hs h
  | .label l, s, m, e, s', m', h => dplain hs h
  | .goto l, s, m, e, s', m', h => dplain hs h
  | .ret, s, m, e, s', m', h => dplain hs h
  | .refuse w, s, m, e, s', m', h => dplain hs h

theorem dcall_sound (hN : NoNG P) (hs : SelfOk P self) (drawn : Program → Self → Option Nat → Nat → Array Oper → St → Option Out) {f : FuncId} {args : Array Value} {m : Mo} {h : Hp} {o : Out} (hc : stepF drawn P self (.dcall f args m h) = some o) : TaskOk P (.dcall f args m h) o := by
  simp only [stepF, forceL1_eq] at hc
  split at hc
  case h_2 => cases hc
  rename_i fn hfn
  split at hc
  case h_2 => cases hc
  rename_i c hbody
  have main : ∀ (e : Ex) (s : St) (m' : Mo), (e = .normal ∨ e = .ret) → dcode P self c { t := frame fn args, d := [], h := enterH h } m = some (e, s, m') →
      (if s.d.isEmpty then match resB P s.h.bl fn s.t.toArray with | some _ => some (.dret m' (exitH h s.h (moVal m'))) | none => none else none) = some o → TaskOk P (.dcall f args m h) o := by
    intro e s m' he hd ho
    split at ho
    · rename_i hemp
      split at ho
      · rename_i v hv
        simp only [Option.some.injEq] at ho; subst ho
        intro hb
        obtain ⟨hp, hh⟩ := dcode_sound hN hs c _ m e s m' hd (Nat.le_refl _)
        refine ⟨exit_pres hb hp _, ?_⟩
        intro K w0 φ w args' u n hI hargs hm
        refine callsDIn_of_wpSIn hfn hbody trivial ?_
        intro c0 cs hu
        have hc0 : ({ c0 with mode := u } : Frame) = c0 := by subst hu; rfl
        have hw := hh K w0 φ w { tmps := args' ++ Array.replicate (fn.ntmps - args'.size) undef, defers := [] } c0 cs u n hI (vrs_frame fn hargs) .nil hm
        rw [hc0] at hw
        refine wpSIn_mono ?_ hw
        rintro x a cs' w' ⟨φ', u', hle, hx, ht, hdd, hI', hm', rfl⟩
        have hnil : a.defers = [] := by
          have : s.d = [] := List.isEmpty_iff.1 hemp
          rw [this] at hdd
          have key : ∀ l, DRs φ' [] l → l = [] := fun l h => by cases h; rfl
          exact key _ hdd
        obtain ⟨v', hr, hvv⟩ := resB_sound hI' ht hv
        obtain ⟨φ'', k1, hmo, k3⟩ : ∃ φ'', le φ φ'' ∧ MoR φ'' m' u' ∧ Inv K w0 φ'' (exitH h s.h (moVal m')).bl w' := by
          cases hm' with
          | returning =>
            obtain ⟨_, φ'', k1, k2, k3⟩ := exit_sound hb hI hI' hle hp (VR.undef φ')
            exact ⟨φ'', k1, .returning, k3⟩
          | panicking done hvm =>
            obtain ⟨_, φ'', k1, k2, k3⟩ := exit_sound hb hI hI' hle hp hvm
            exact ⟨φ'', k1, .panicking done k2, k3⟩
        rcases he with rfl | rfl
        · cases hx
          exact ⟨hnil, u', rfl, v', hr, v', rfl, φ'', k1, hmo, k3⟩
        · cases hx
          exact ⟨hnil, u', rfl, v', hr, v', rfl, φ'', k1, hmo, k3⟩
      · cases ho
    · cases ho
  split at hc
  · rename_i s m' hd
    exact main .normal s m' (.inl rfl) hd hc
  · rename_i s m' hd
    exact main .ret s m' (.inr rfl) hd hc
  · cases hc
end
end
end Go.Gh
