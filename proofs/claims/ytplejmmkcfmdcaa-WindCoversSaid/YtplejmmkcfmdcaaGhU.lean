/- Regions that leave their order open: the rule. Conditions: none. -/
import Derived.Test.YtplejmmkcfmdcaaGhS
namespace Go.Gh
open Go.RowKit
noncomputable section

section
variable {P : Program} {self : Self} {os : Array Oper} {clo : List Nat} {recs : List Rec} {T0 T1 : List Value} {h0 h1 : Hp}

def Shut (clo : List Nat) (D : Nat → Bool) : Prop := ∀ j k, D j = true → cl clo j k = true → D k = true

/-- What may come up is whatever all that it waits for has come before. -/
theorem Plan.ready {listed : Array Bool} {i : Nat} (p : Plan P self os clo recs T0 h0 T1 h1) (hs : Shut clo fun j => listed.getD j false) (hz : listed.size = os.size) (hi : i ∈ Region.ready .any os listed) :
    i < os.size ∧ Good clo (fun j => listed.getD j false) i := by
  rw [mem_ready] at hi
  obtain ⟨hu, o, ho, hall⟩ := hi
  have hlt : i < os.size := (Array.getElem?_eq_some_iff.1 ho).1
  refine ⟨hlt, hs, ?_, ?_⟩
  · have : i < listed.size := by omega
    simp only [Array.getD_eq_getD_getElem?, Array.getElem?_eq_getElem this, Option.getD_some] at hu ⊢
    exact hu
  · intro k hk
    obtain ⟨d, hd, h⟩ := (p.clos i hlt k).1 hk
    rw [ho] at hd
    simp only [Option.map_some, Option.getD_some, depsOf, List.mem_map, List.mem_filter, Array.mem_toList_iff] at hd
    obtain ⟨e, ⟨he, hb⟩, rfl⟩ := hd
    have hl := hall e he hb
    rcases h with rfl | h
    · exact hl
    · exact hs _ _ hl h

/-- Where nothing may come up, all has come. -/
theorem Plan.done {listed : Array Bool} (p : Plan P self os clo recs T0 h0 T1 h1) (hz : listed.size = os.size) (hr : Region.ready .any os listed = []) : ∀ (pre post : List Rec), recs = pre ++ post → ∀ r ∈ pre, listed.getD r.i false = true := by
  intro pre
  induction hn : pre.length generalizing pre with
  | zero => intro post e r hr; rw [List.length_eq_zero_iff] at hn; subst hn; cases hr
  | succ n ih =>
    intro post e r hrm
    rcases List.eq_nil_or_concat pre with rfl | ⟨pre', q, rfl⟩
    · cases hrm
    rw [List.concat_eq_append] at *
    simp only [List.length_append, List.length_cons, List.length_nil, Nat.zero_add, Nat.add_right_cancel_iff] at hn
    have e' : recs = pre' ++ q :: post := by rw [e]; simp
    have hpre := ih pre' hn (q :: post) e'
    rcases List.mem_append.1 hrm with hrm | hrm
    · exact hpre r hrm
    · simp only [List.mem_cons, List.not_mem_nil, or_false] at hrm
      subst hrm
      cases hl : listed.getD r.i false with
      | true => rfl
      | false =>
        have hm : r ∈ recs := by rw [e']; simp
        have hlt := p.lt r hm
        have : r.i ∈ Region.ready .any os listed := by
          rw [mem_ready]
          refine ⟨?_, r.o, (p.tr.recs r hm).1, ?_⟩
          · have : r.i < listed.size := by omega
            simp only [Array.getD_eq_getD_getElem?, Array.getElem?_eq_getElem this, Option.getD_some] at hl ⊢
            exact hl
          · intro ed hed hb
            obtain ⟨s, hs, he⟩ := p.pre pre' r post e' ed.on ((p.clos r.i hlt ed.on).2 ⟨ed.on, by
              rw [(p.tr.recs r hm).1]
              simp only [Option.map_some, Option.getD_some, depsOf, List.mem_map, List.mem_filter, Array.mem_toList_iff]
              exact ⟨ed, ⟨hed, hb⟩, rfl⟩, .inl rfl⟩)
            rw [← he]; exact hpre s hs
        rw [hr] at this; cases this

theorem Plan.run (hN : NoNG P) (hs : SelfOk P self) (p : Plan P self os clo recs T0 h0 T1 h1) (hb : h0.base ≤ h0.bl.length) {rd : Option Nat} {d : List Deferred} {K : Nat → Prop} {w0 : World} {F : Fence} {n : Nat} {Q : Exit → Act → World → Prop} :
    ∀ (fuel : Nat) (listed : Array Bool) (U : List Nat) (φ : Phi) (a : Act) (w : World), listed.size = os.size → Shut clo (fun j => listed.getD j false) →
      (∀ i, i < os.size → listed.getD i false = false → i ∈ U) → U.length ≤ fuel →
      Inv K w0 φ (HD (fun j => listed.getD j false) recs h0).bl w → VRs φ (TD (fun j => listed.getD j false) recs T0).toArray a.tmps → DRs φ d a.defers → FenceOk φ rd F →
      (∀ x a w', CodeR K w0 φ .normal ⟨T1, d, h1⟩ x a w' → Q x a w') → wpAnyIn F n P .any os Q fuel listed a w := by
  intro fuel
  have fin : ∀ (listed : Array Bool) (φ : Phi) (a : Act) (w : World), listed.size = os.size →
      Inv K w0 φ (HD (fun j => listed.getD j false) recs h0).bl w → VRs φ (TD (fun j => listed.getD j false) recs T0).toArray a.tmps → DRs φ d a.defers →
      (∀ x a w', CodeR K w0 φ .normal ⟨T1, d, h1⟩ x a w' → Q x a w') → Region.ready .any os listed = [] → Q .normal a w := by
    intro listed φ a w hz hI ht hd hQ hr
    have hall := p.done hz hr recs [] (by simp)
    obtain ⟨l1, l2⟩ := p.tr.last
    rw [TD_congr (D' := fun _ => true) T0 hall, ← l1] at ht
    rw [HD_congr (D' := fun _ => true) h0 fun r hr _ => hall r hr, ← l2] at hI
    exact hQ _ _ _ ⟨φ, le_refl φ, .normal, ht, hd, hI⟩
  induction fuel with
  | zero =>
    intro listed U φ a w hz hsh hU hf hI ht hd hF hQ
    have hn : Region.ready .any os listed = [] := by
      rw [List.eq_nil_iff_forall_not_mem]
      intro i hi
      obtain ⟨hlt, _, hg, _⟩ := p.ready hsh hz hi
      have := hU i hlt hg
      rw [List.length_eq_zero_iff.1 (Nat.le_zero.1 hf)] at this
      cases this
    exact ⟨hn, fin listed φ a w hz hI ht hd hQ hn⟩
  | succ fuel ih =>
    intro listed U φ a w hz hsh hU hf hI ht hd hF hQ
    refine ⟨fin listed φ a w hz hI ht hd hQ, ?_⟩
    intro i hi
    obtain ⟨hlt, hg⟩ := p.ready hsh hz hi
    obtain ⟨q, hq, rfl⟩ := p.all i hlt
    obtain ⟨pre, post, e⟩ := List.append_of_mem hq
    obtain ⟨ho, hrec⟩ := p.tr.recs q hq
    have hlt' : q.i < listed.size := by omega
    -- the operation is done
    have d1 : (listed.setIfInBounds q.i true).getD q.i false = true := by simp [hlt']
    have d2 : ∀ j, j ≠ q.i → (listed.setIfInBounds q.i true).getD j false = listed.getD j false := fun j hj => getD_set_ne false (Ne.symm hj)
    have nT := p.nextT (D := fun j => listed.getD j false) (D' := fun j => (listed.setIfInBounds q.i true).getD j false) e hg.2.1 d1 d2
    have hsh' : Shut clo fun j => (listed.setIfInBounds q.i true).getD j false := by
      intro j k hj hk
      by_cases hjq : j = q.i
      · subst hjq
        exact getD_set_true (hg.2.2 k hk)
      · simp only [d2 j hjq] at hj
        exact getD_set_true (hsh j k hj hk)
    have goOn : ∀ (φ' : Phi) (a' : Act) (w' : World), le φ φ' → Inv K w0 φ' (HD (fun j => (listed.setIfInBounds q.i true).getD j false) recs h0).bl w' →
        VRs φ' (put (TD (fun j => listed.getD j false) recs T0) q.o.dst q.v).toArray a'.tmps → DRs φ' d a'.defers →
        wpAnyIn F n P .any os Q fuel (listed.setIfInBounds q.i true) a' w' := by
      intro φ' a' w' hle hI' ht' hd'
      rw [← nT] at ht'
      refine ih _ (U.erase q.i) φ' a' w' (by simp [hz]) hsh' ?_ ?_ hI' ht' hd' (hF.mono hle) (fun x a w'' hc => hQ x a w'' (hc.mono hle))
      · intro j hj hl
        have hne : j ≠ q.i := fun he => by rw [he, d1] at hl; cases hl
        rw [d2 j hne] at hl
        exact (List.mem_erase_of_ne hne).2 (hU j hj hl)
      · have := List.length_erase_of_mem (hU q.i hlt hg.2.1)
        omega
    have hwe := p.wanted e hg
    simp only [wpOpIn, ho]
    rw [wanted_eq ht, hwe]
    rcases hrec with ⟨r1, r2, r3, r4⟩ | ⟨r1, r2, r3, r4⟩ | ⟨r1, r2, r3, r4⟩
    · rw [if_neg (by rw [r1]; simp)]
      refine ⟨fun f _ => hF.fn f, ?_⟩
      refine goOn φ _ w (le_refl φ) ?_ ?_ ?_
      · rw [p.nextQuiet hq r4 d2]; exact hI
      · rw [r2]; exact vrs_put ht (VR.undef φ) _
      · rw [put_defers]; exact hd
    · rw [if_pos r1]
      refine ⟨fun f _ => hF.fn f, ?_⟩
      have ha := p.read e hg r4 r1 r2
      rw [← aread_congr (p.eval e hg)] at ha
      have hnd : ∀ c, q.o.op ≠ .defer c := fun c hc => by
        unfold aread at ha
        rw [hc] at ha
        simp at ha
      obtain ⟨v', hr, hv⟩ := aread_sound hI (evs_t ht) ha
      rw [sem_plain (.inl hnd), hr]
      refine goOn φ _ w (le_refl φ) ?_ (vrs_put ht hv _) ?_
      · rw [p.nextQuiet hq r4 d2]; exact hI
      · rw [put_defers]; exact hd
    · rw [if_pos r1]
      refine ⟨fun f _ => hF.fn f, ?_⟩
      have hH := p.atLoud e hg r4
      have hH' := p.nextLoud (D' := fun j => (listed.setIfInBounds q.i true).getD j false) e hg r4 d1 d2
      rw [hH] at hI
      rw [hH'] at goOn
      have hqb : q.hb.base ≤ q.hb.bl.length := (p.tr.pres hs hb).2 q hq
      rw [← aread_congr (p.eval e hg)] at r2
      rw [← dloud_congr (p.eval e hg)] at r3
      have hop : ∀ nx, aloud P (evalT (TD (fun j => listed.getD j false) recs T0)) q.hb q.o = some nx → aop P (evalT (TD (fun j => listed.getD j false) recs T0)) q.hb q.o = some nx := fun nx hh => by unfold aop; rw [r2]; exact hh
      rcases dloud_nx r3 with h | ⟨f, args, h, hc⟩ | ⟨l, args, h, hc⟩
      · have ha := hop _ h
        have hnd : ∀ c, q.o.op ≠ .defer c := fun c hc => by obtain ⟨d, hd⟩ := aop_defer hc ha; cases hd
        obtain ⟨_, φ', v', w', hr, hle, hv, hI'⟩ := aop_sound hN hqb hI (evs_t ht) ha
        rw [sem_plain (.inl hnd)]
        have hrest := goOn φ' (a.put q.o.dst v') w' hle hI' (vrs_put (ht.mono hle) hv _) (by rw [put_defers]; exact hd.mono hle)
        rcases hr with hr | ⟨hr, rfl⟩
        · rw [hr]; exact hrest
        · rw [hr]; exact hrest
      · have ha := hop _ h
        have hnd : ∀ c, q.o.op ≠ .defer c := fun c hc => by obtain ⟨d, hd⟩ := aop_defer hc ha; cases hd
        obtain ⟨_, args', hr, hargs⟩ := aop_sound hN hqb hI (evs_t ht) ha
        obtain ⟨hp1, hcc⟩ := hs _ _ hc hqb
        rw [sem_plain (.inl hnd), hr]
        refine ⟨hF.depth n, (hF.calls (hcc K w0 φ w args' (n - 1) hI hargs)).mono ?_⟩
        intro en w' hen
        cases en with
        | returned v' =>
          obtain ⟨φ', hle, hv, hI'⟩ := hen
          exact goOn φ' (a.put q.o.dst v') w' hle hI' (vrs_put (ht.mono hle) hv _) (by rw [put_defers]; exact hd.mono hle)
        | panicked ch => exact hen.elim
        | outgrown => exact hen.elim
      · have ha := hop _ h
        have hnd : ∀ c, q.o.op ≠ .defer c := fun c hc => by obtain ⟨d, hd⟩ := aop_defer hc ha; cases hd
        obtain ⟨B, tb, args', hφ, hr, hargs⟩ := aop_sound hN hqb hI (evs_t ht) ha
        obtain ⟨hp1, hcc⟩ := hs _ _ hc hqb
        obtain ⟨fn, tm, as, bd, hy, hround⟩ := hcc K w0 φ w args' B tb (n - 1) hI hargs hφ
        rw [sem_plain (.inl hnd), hr, hy]
        refine ⟨hF.depth n, (hF.round hround).mono ?_⟩
        intro en w' hen
        cases en with
        | returned v' =>
          obtain ⟨φ', hle, hv, hI'⟩ := hen
          exact goOn φ' (a.put q.o.dst v') w' hle hI' (vrs_put (ht.mono hle) hv _) (by rw [put_defers]; exact hd.mono hle)
        | panicked ch => exact hen.elim
        | outgrown => exact hen.elim
end

theorem drawn_ok {P : Program} (hN : NoNG P) (hm : P.follows .mixedOrders = true) : DrawnOk P drawn := by
  intro self hs rd id os s o h
  unfold drawn at h
  split at h
  case isFalse => cases h
  rename_i hp
  split at h
  case h_2 => cases h
  rename_i recs T h1 hr
  split at h
  case isFalse => cases h
  rename_i hc
  simp only [Option.some.injEq] at h
  subst h
  have p := plan_of hp hr hc
  intro hb
  refine ⟨(p.tr.pres hs hb).1, ?_⟩
  intro K w0 φ w a F n hI ht hd hF
  refine wpIn_region_any hm ?_
  have h0 : ∀ j, (Array.replicate os.size false).getD j false = false := fun j => by
    simp only [Array.getD_eq_getD_getElem?, Array.getElem?_replicate]
    split <;> rfl
  refine p.run hN hs hb os.size _ (List.range os.size) φ a _ (by simp) ?_ ?_ (by simp) ?_ ?_ hd hF (fun x a w' hc => hc)
  · intro j k hj; simp only [h0] at hj; cases hj
  · intro i hi _; exact List.mem_range.2 hi
  · rw [HD_none _ fun r _ _ => h0 r.i]; exact hI.drew
  · rw [TD_none _ fun r _ => h0 r.i]; exact ht
end
end Go.Gh
