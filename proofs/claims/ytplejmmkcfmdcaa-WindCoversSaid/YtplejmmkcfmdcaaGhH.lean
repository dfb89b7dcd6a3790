/- One operation of whatever kind: over the small heap and in the world. Conditions: none. -/
import Derived.Test.YtplejmmkcfmdcaaGhG
namespace Go.Gh
open Go.RowKit

inductive Nx where
  | val (v : Value) (h : Hp)
  | enter (f : FuncId) (args : Array Value)
  | yield (l : Nat) (args : Array Value)
  | defer (d : Deferred)
  | panic (v : Value)
  | recover

def bodied (P : Program) (f : FuncId) : Bool :=
  match P.funcs[f]? with
  | some fn => fn.body.isSome
  | none => false

def aloud (P : Program) (ρ : Operand → Value) (h : Hp) (o : Oper) : Option Nx :=
  match o.op with
  | .alloc t => (lAlloc P h t).map fun (v, h') => .val v h'
  | .box _ x => if okO x && notT (ρ x) then some (.val (lBox h (ρ x)).1 (lBox h (ρ x)).2) else none
  | .buildSlice t len ps => if ps.toList.all (fun x => okO x.2 && notT (ρ x.2)) then (lBuildSlice P h t len (ps.toList.map fun (i, x) => (i, ρ x))).map fun (v, h') => .val v h' else none
  | .store t a x => if okO a && okO x then (lStore P h t (ρ a) (ρ x)).map fun h' => .val undef h' else none
  | .convert src dst x => if okO x then (match ρ x with | .string s => (lStrBytes P h src dst s).map fun (v, h') => .val v h' | _ => none) else none
  | .makeMap _ r => if r.isNone then some (.val (lMakeMap h).1 (lMakeMap h).2) else none
  | .mapUpdate t m k x | .insert t m k x => if okO m && okO k && okO x then (lMapUpdate P h t (ρ k) (ρ x) (ρ m)).map fun h' => .val undef h' else none
  | .call { callee := .builtin .append, args, argTypes } =>
    match args.toList, argTypes.toList with
    | [s, x], [ts, tx] => if okO s && okO x then (lAppend P h ts tx (ρ s) (ρ x)).map fun (v, h') => .val v h' else none
    | _, _ => none
  | .call { callee := .builtin .recover, .. } => some .recover
  | .call { callee := .value f, args, .. } =>
    if okO f && args.toList.all okO then
      match ρ f with
      | .func (.func g) first cap => if bodied P g then some (.enter g (first ++ args.map ρ ++ cap)) else none
      | .func (.yield l) first _ => if first.isEmpty then some (.yield l (args.map ρ)) else none
      | _ => none
    else none
  | .defer { callee := .value f, args, .. } =>
    if okO f && args.toList.all okO then
      match ρ f with
      | .func (.func g) first cap => if bodied P g then some (.defer { target := .fn (.func g) cap, args := first ++ args.map ρ }) else none
      | _ => none
    else none
  | .panic x => if okO x then (match ρ x with | .iface t v => some (.panic (.iface t v)) | _ => none) else none
  | _ => none

def aop (P : Program) (ρ : Operand → Value) (h : Hp) (o : Oper) : Option Nx :=
  match aread P ρ h.bl o with
  | some v => some (.val v h)
  | none => aloud P ρ h o

/-- What is kept of the elder heap. -/
structure Pres (h h' : Hp) : Prop where
  base : h'.base = h.base
  len : h.bl.length ≤ h'.bl.length
  same : ∀ b : Nat, b < h.base → b ∉ h'.wr → b ∉ h.wr ∧ h'.bl[b]? = h.bl[b]?
  ro : ∀ (b : Nat) (ob : Ob), h'.bl[b]? = some ob → ob.live = true → ob.rw = false → h.bl[b]? = some ob

theorem Pres.refl (h : Hp) : Pres h h := ⟨rfl, Nat.le_refl _, fun _ _ hn => ⟨hn, rfl⟩, fun _ _ h _ _ => h⟩
theorem Pres.trans {a b c : Hp} (h : Pres a b) (k : Pres b c) : Pres a c :=
  ⟨k.base.trans h.base, Nat.le_trans h.len k.len, fun x hx hn => by
    obtain ⟨h1, h2⟩ := k.same x (by rw [h.base]; exact hx) hn
    obtain ⟨h3, h4⟩ := h.same x hx h1
    exact ⟨h3, h2.trans h4⟩, fun x ob hx hl hr => h.ro x ob (k.ro x ob hx hl hr) hl hr⟩
theorem Pres.push (h : Hp) (ob : Ob) (hb : h.base ≤ h.bl.length) (hrw : (ob.live && !ob.rw) = false := by rfl) : Pres h (h.push ob) :=
  ⟨rfl, by simp [Hp.push], fun b hlt hn => ⟨hn, by simp only [Hp.push]; rw [List.getElem?_append_left (by omega)]⟩, fun b ob' hx hl hr => by
    simp only [Hp.push] at hx
    rcases Nat.lt_or_ge b h.bl.length with hlt | hge
    · rw [List.getElem?_append_left hlt] at hx; exact hx
    · rw [List.getElem?_append_right hge] at hx
      rcases Nat.eq_or_lt_of_le hge with e | hlt
      · subst e; simp at hx; subst hx; rw [hl, hr] at hrw; cases hrw
      · rw [List.getElem?_eq_none (by simp; omega)] at hx; cases hx⟩
theorem Pres.put (h : Hp) (b : Nat) (ob : Ob) (hrw : (ob.live && !ob.rw) = false := by rfl) : Pres h (h.put b ob) :=
  ⟨rfl, by simp [Hp.put], fun c hlt hn => by
    simp only [Hp.put] at hn ⊢
    by_cases e : c = b
    · subst e; rw [if_pos hlt] at hn; simp at hn
    · refine ⟨?_, by rw [List.getElem?_set, if_neg (Ne.symm e)]⟩
      split at hn
      · simp at hn; exact hn.2
      · exact hn, fun c ob' hx hl hr => by
    simp only [Hp.put] at hx
    rw [List.getElem?_set] at hx
    split at hx
    · split at hx
      · simp only [Option.some.injEq] at hx; subst hx; rw [hl, hr] at hrw; cases hrw
      · cases hx
    · exact hx⟩

/-- A deferred call, two by two. -/
def DR (φ : Phi) (d d' : Deferred) : Prop :=
  (∃ g cap cap', d.target = .fn (.func g) cap ∧ d'.target = .fn (.func g) cap' ∧ VRs φ cap cap' ∧ VRs φ d.args d'.args) ∨
  (∃ r B t, d.target = .collected r ∧ d'.target = .collected B ∧ φ r = some (B, 0, t))

theorem DR.mono {φ ψ : Phi} (hle : le φ ψ) {d d' : Deferred} (h : DR φ d d') : DR ψ d d' := by
  rcases h with ⟨g, cap, cap', h1, h2, h3, h4⟩ | ⟨r, B, t, h1, h2, h3⟩
  · exact .inl ⟨g, cap, cap', h1, h2, h3.mono hle, h4.mono hle⟩
  · exact .inr ⟨r, B, t, h1, h2, hle _ _ h3⟩

/-- The names that the model looks at: none of the program's own functions bears one. -/
def NoNG (P : Program) : Prop := ∀ (f : FuncId) (fn : Func), P.funcs[f]? = some fn → fn.body.isSome = true → (fn.name == "runtime.NumGoroutine") = false

section
variable {P : Program} {K : Nat → Prop} {w0 w : World} {φ : Phi} {ρ ρ' : Operand → Value}

def NxR (P : Program) (K : Nat → Prop) (w0 : World) (φ : Phi) (w : World) (h : Hp) (s : Sem Next) : Nx → Prop
  | .val v h' => Pres h h' ∧ ∃ φ' v' w', (s.run P w = .ok (.value v') w' ∨ (s.run P w = .ok .skip w' ∧ v' = undef)) ∧ le φ φ' ∧ VR φ' v v' ∧ Inv K w0 φ' h'.bl w'
  | .enter f args => bodied P f = true ∧ ∃ args', s.run P w = .ok (.enter f args') w ∧ VRs φ args args'
  | .yield l args => ∃ B t args', φ l = some (B, 0, t) ∧ s.run P w = (Instr.yield B args').run P w ∧ VRs φ args args'
  | .defer d => ∃ d', s.run P w = .ok (.defer d') w ∧ DR φ d d'
  | .panic v => ∃ v', s.run P w = .halt (.panic v') w ∧ VR φ v v'
  | .recover => s.run P w = .ok .recover w

theorem nx_loud {h h' : Hp} {s : Sem Value} {v : Value} (hp : Pres h h') (hl : Loud P K w0 φ w s v h'.bl) : NxR P K w0 φ w h (do pure (.value (← s))) (.val v h') := by
  obtain ⟨φ', v', w', hr, hle, hv, hI⟩ := hl
  exact ⟨hp, φ', v', w', .inl (by simp only [Sem.run_bind, hr, Result.andThen_ok, Sem.run_pure]), hle, hv, hI⟩

theorem nx_skip {h h' : Hp} {s : Sem Unit} {w' : World} (hp : Pres h h') (hr : s.run P w = .ok () w') (hI : Inv K w0 φ h'.bl w') : NxR P K w0 φ w h (do s; pure .skip) (.val undef h') :=
  ⟨hp, φ, undef, w', .inr ⟨by simp only [Sem.run_bind, hr, Result.andThen_ok, Sem.run_pure], rfl⟩, le_refl φ, VR.undef φ, hI⟩

theorem lAlloc_pres {h h' : Hp} {t : TypeId} {v : Value} (hb : h.base ≤ h.bl.length) (hl : lAlloc P h t = some (v, h')) : Pres h h' := by
  unfold lAlloc at hl
  split at hl
  · simp only [Option.some.injEq, Prod.mk.injEq] at hl; rw [← hl.2]; exact Pres.push h _ hb
  · cases hl

theorem lBuildSlice_pres {h h' : Hp} {t : TypeId} {len : Nat} {ps : List (Nat × Value)} {v : Value} (hb : h.base ≤ h.bl.length) (hl : lBuildSlice P h t len ps = some (v, h')) : Pres h h' := by
  unfold lBuildSlice at hl
  repeat' (split at hl)
  all_goals first | cases hl; done | (simp only [Option.some.injEq, Prod.mk.injEq] at hl; rw [← hl.2]; exact Pres.push h _ hb)

theorem lStrBytes_pres {h h' : Hp} {src dst : TypeId} {s : ByteArray} {v : Value} (hb : h.base ≤ h.bl.length) (hl : lStrBytes P h src dst s = some (v, h')) : Pres h h' := by
  unfold lStrBytes at hl
  repeat' (split at hl)
  all_goals first | cases hl; done | (simp only [Option.some.injEq, Prod.mk.injEq] at hl; rw [← hl.2]; exact Pres.push h _ hb)

theorem lStore_pres {h h' : Hp} {t : TypeId} {x v : Value} (hl : lStore P h t x v = some h') : Pres h h' := by
  unfold lStore at hl
  repeat' (split at hl)
  all_goals first | cases hl; done | (simp only [Option.some.injEq] at hl; rw [← hl]; exact Pres.put h _ _)

theorem lMapUpdate_pres {h h' : Hp} {t : TypeId} {k v x : Value} (hl : lMapUpdate P h t k v x = some h') : Pres h h' := by
  unfold lMapUpdate at hl
  repeat' (split at hl)
  all_goals first | cases hl; done | (simp only [Option.some.injEq] at hl; rw [← hl]; exact Pres.put h _ _)

theorem lAppend_pres {h h' : Hp} {ts tx : TypeId} {s x v : Value} (hb : h.base ≤ h.bl.length) (hl : lAppend P h ts tx s x = some (v, h')) : Pres h h' := by
  unfold lAppend at hl
  repeat' (split at hl)
  all_goals first
    | cases hl; done
    | (simp only [Option.some.injEq, Prod.mk.injEq] at hl; rw [← hl.2]; exact Pres.refl h)
    | (simp only [Option.some.injEq, Prod.mk.injEq] at hl; rw [← hl.2]; exact Pres.push h _ hb)
    | (simp only [Option.some.injEq, Prod.mk.injEq] at hl; rw [← hl.2]; exact (Pres.put h _ _).trans (Pres.push _ _ (by simp [Hp.put]; exact hb)))

theorem run_callFunc {f : FuncId} {args : Array Value} (hN : NoNG P) (hb : bodied P f = true) : (callFunc f args).run P w = .ok (.enter f args) w := by
  unfold bodied at hb
  cases hf : P.funcs[f]? with
  | none => rw [hf] at hb; cases hb
  | some fn =>
    rw [hf] at hb
    simp only [callFunc, Sem.run_bind, run_program, Result.andThen_ok, hf, hN f fn hf hb, Bool.false_eq_true, if_false]
    have : fn.body.isNone = false := by cases h : fn.body <;> simp_all
    simp only [this, Bool.false_eq_true, if_false, Sem.run_pure]

theorem aloud_sound {h : Hp} {o : Oper} {nx : Nx} (hN : NoNG P) (hb : h.base ≤ h.bl.length) (hI : Inv K w0 φ h.bl w) (hρ : Evs φ ρ ρ') (ha : aloud P ρ h o = some nx) : NxR P K w0 φ w h (execOp ρ' o) nx := by
  unfold aloud at ha
  split at ha
  case h_1 t ho =>
    rw [Option.map_eq_some_iff] at ha
    obtain ⟨⟨v, h'⟩, hl, rfl⟩ := ha
    simp only [execOp, ho]
    exact nx_loud (lAlloc_pres hb hl) (lAlloc_sound hI hl)
  case h_2 t x ho =>
    split at ha
    · rename_i hx
      rw [Bool.and_eq_true] at hx
      simp only [Option.some.injEq] at ha; subst ha
      simp only [execOp, ho]
      exact nx_loud (Pres.push h _ hb) (alloc_sound hI t (hρ x hx.1) hx.2)
    · cases ha
  case h_3 t len ps ho =>
    split at ha
    · rename_i hx
      rw [Option.map_eq_some_iff] at ha
      obtain ⟨⟨v, h'⟩, hl, rfl⟩ := ha
      simp only [execOp, ho]
      have e : ∀ f : Operand → Value, (ps.map fun (i, x) => (i, f x)).toList = ps.toList.map fun (i, x) => (i, f x) := fun f => by simp
      exact nx_loud (lBuildSlice_pres hb hl) (lBuildSlice_sound hI (parts := ps.map fun (i, x) => (i, ρ x)) (by rw [e]; exact hl) (by rw [e, e]; exact parts_of hρ hx))
    · cases ha
  case h_4 t a x ho =>
    split at ha
    · rename_i hx
      simp only [Bool.and_eq_true] at hx
      rw [Option.map_eq_some_iff] at ha
      obtain ⟨h', hl, rfl⟩ := ha
      obtain ⟨w', hr, hI'⟩ := lStore_sound hI hl (hρ a hx.1) (hρ x hx.2)
      simp only [execOp, ho]
      exact nx_skip (lStore_pres hl) hr hI'
    · cases ha
  case h_5 src dst x ho =>
    split at ha
    · rename_i hx
      split at ha
      · rename_i s hs
        rw [Option.map_eq_some_iff] at ha
        obtain ⟨⟨v, h'⟩, hl, rfl⟩ := ha
        have hxv := hρ x hx
        rw [hs] at hxv
        have hx' : ρ' x = .string s := gr_eq (v := .string s) rfl hxv
        simp only [execOp, ho, hx']
        exact nx_loud (lStrBytes_pres hb hl) (lStrBytes_sound hI hl)
      · cases ha
    · cases ha
  case h_6 t r ho =>
    split at ha
    · rename_i hr
      obtain rfl : r = none := by cases r <;> first | rfl | cases hr
      simp only [Option.some.injEq] at ha; subst ha
      simp only [execOp, ho]
      exact nx_loud (Pres.push h _ hb) (lMakeMap_sound hI t)
    · cases ha
  case h_7 t m k x ho =>
    split at ha
    · rename_i hx
      simp only [Bool.and_eq_true] at hx
      rw [Option.map_eq_some_iff] at ha
      obtain ⟨h', hl, rfl⟩ := ha
      obtain ⟨w', hr, hI'⟩ := lMapUpdate_sound hI hl (hρ m hx.1.1) (hρ k hx.1.2) (hρ x hx.2)
      simp only [execOp, ho]
      exact nx_skip (lMapUpdate_pres hl) hr hI'
    · cases ha
  case h_8 t m k x ho =>
    split at ha
    · rename_i hx
      simp only [Bool.and_eq_true] at hx
      rw [Option.map_eq_some_iff] at ha
      obtain ⟨h', hl, rfl⟩ := ha
      obtain ⟨w', hr, hI'⟩ := lMapUpdate_sound hI hl (hρ m hx.1.1) (hρ k hx.1.2) (hρ x hx.2)
      simp only [execOp, ho]
      exact nx_skip (lMapUpdate_pres hl) hr hI'
    · cases ha
  case h_9 args argTypes ho =>
    split at ha
    · rename_i s x ts tx h1 h2
      obtain rfl : args = #[s, x] := by cases args; simp_all
      obtain rfl : argTypes = #[ts, tx] := by cases argTypes; simp_all
      split at ha
      · rename_i hx
        simp only [Bool.and_eq_true] at hx
        rw [Option.map_eq_some_iff] at ha
        obtain ⟨⟨v, h'⟩, hl, rfl⟩ := ha
        have e : Array.map ρ' #[s, x] = #[ρ' s, ρ' x] := by simp
        have := nx_loud (lAppend_pres hb hl) (lAppend_sound (ty := o.type) hI hl (hρ s hx.1) (hρ x hx.2))
        simp only [execOp, ho, resolve, e]
        exact this
      · cases ha
    · cases ha
  case h_10 ho =>
    simp only [Option.some.injEq] at ha; subst ha
    simp only [execOp, ho]
    rfl
  case h_11 f args argTypes ho =>
    split at ha
    · rename_i hx
      simp only [Bool.and_eq_true] at hx
      have hfv := hρ f hx.1
      have hargs := vrs_map hρ hx.2
      split at ha
      · rename_i g first cap hf
        split at ha
        · rename_i hbd
          simp only [Option.some.injEq] at ha; subst ha
          rw [hf] at hfv
          generalize hf' : ρ' f = f' at hfv
          cases hfv with
          | @fn _ _ first' _ cap' hg h1 h2 h3 h4 =>
            refine ⟨hbd, first' ++ args.map ρ' ++ cap', ?_, ((VRs.of h1 h2).append hargs).append (VRs.of h3 h4)⟩
            simp only [execOp, ho, resolve, hf', Deferred.ofValue, Sem.run_bind, Sem.run_pure, Result.andThen_ok, invoke, run_callFunc hN hbd]
        · cases ha
      · rename_i l first cap hf
        split at ha
        · rename_i he
          simp only [Option.some.injEq] at ha; subst ha
          rw [hf] at hfv
          generalize hf' : ρ' f = f' at hfv
          cases hfv with
          | fn hg => cases hg
          | @yield _ B t hφ =>
            refine ⟨B, t, args.map ρ', hφ, ?_, hargs⟩
            simp only [execOp, ho, resolve, hf', Deferred.ofValue, Sem.run_bind, Sem.run_pure, Result.andThen_ok, invoke, Array.empty_append]
        · cases ha
      · cases ha
    · cases ha
  case h_12 f args argTypes ho =>
    split at ha
    · rename_i hx
      simp only [Bool.and_eq_true] at hx
      have hfv := hρ f hx.1
      have hargs := vrs_map hρ hx.2
      split at ha
      · rename_i g first cap hf
        split at ha
        · simp only [Option.some.injEq] at ha; subst ha
          rw [hf] at hfv
          generalize hf' : ρ' f = f' at hfv
          cases hfv with
          | @fn _ _ first' _ cap' hg h1 h2 h3 h4 =>
            refine ⟨{ target := .fn (.func g) cap', args := first' ++ args.map ρ' }, ?_, .inl ⟨g, cap, cap', rfl, rfl, VRs.of h3 h4, (VRs.of h1 h2).append hargs⟩⟩
            simp only [execOp, ho, resolve, hf', Deferred.ofValue, Sem.run_bind, Sem.run_pure, Result.andThen_ok]
        · cases ha
      · cases ha
    · cases ha
  case h_13 x ho =>
    split at ha
    · rename_i hx
      split at ha
      · rename_i t v hv
        simp only [Option.some.injEq] at ha; subst ha
        have hxv := hρ x hx
        rw [hv] at hxv
        generalize hx' : ρ' x = x' at hxv
        cases hxv with
        | iface _ hvv =>
          refine ⟨_, ?_, .iface t hvv⟩
          simp only [execOp, ho, hx', Instr.panic, Sem.run_bind, run_goPanic, Result.andThen_halt]
      · cases ha
    · cases ha
  case h_14 => cases ha

theorem aop_sound {h : Hp} {o : Oper} {nx : Nx} (hN : NoNG P) (hb : h.base ≤ h.bl.length) (hI : Inv K w0 φ h.bl w) (hρ : Evs φ ρ ρ') (ha : aop P ρ h o = some nx) : NxR P K w0 φ w h (execOp ρ' o) nx := by
  unfold aop at ha
  split at ha
  · rename_i v hv
    simp only [Option.some.injEq] at ha; subst ha
    obtain ⟨v', hr, hvv⟩ := aread_sound hI hρ hv
    exact ⟨Pres.refl h, φ, v', w, .inl hr, le_refl φ, hvv, hI⟩
  · exact aloud_sound hN hb hI hρ ha
end
end Go.Gh
