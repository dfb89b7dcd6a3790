/- What a run over the small heap gives carries over to every world: deferred calls, code, calls, rounds. Conditions: none. -/
import Derived.Test.YtplejmmkcfmdcaaGhK
namespace Go.Gh
open Go.RowKit
noncomputable section

section
variable {P : Program} {self : Self}

theorem dr_args {φ : Phi} {d d' : Deferred} {g : FuncId} {cap : Array Value} (h : DR φ d d') (ht : d.target = .fn (.func g) cap) : ∃ cap', d'.target = .fn (.func g) cap' ∧ VRs φ (d.args ++ cap) (d'.args ++ cap') := by
  rcases h with ⟨g', c1, c2, h1, h2, h3, h4⟩ | ⟨r, B, t, h1, _, _⟩
  · rw [h1] at ht; cases ht
    exact ⟨c2, h2, h4.append h3⟩
  · rw [h1] at ht; cases ht

theorem dr_mark {φ : Phi} {d d' : Deferred} {r : Nat} (h : DR φ d d') (ht : d.target = .collected r) : ∃ B t, d'.target = .collected B ∧ φ r = some (B, 0, t) := by
  rcases h with ⟨g', c1, c2, h1, _, _, _⟩ | ⟨r', B, t, h1, h2, h3⟩
  · rw [h1] at ht; cases ht
  · rw [h1] at ht; cases ht
    exact ⟨B, t, h2, h3⟩

theorem settle_ok {φ : Phi} {m : Mo} {u : FrameMode} (h : MoR φ m u) : MoR φ (settleM m) (settle u) := by
  cases h with
  | returning => exact .returning
  | panicking done h =>
    cases done with
    | false => exact .panicking false h
    | true => exact .returning

theorem mo_run {φ : Phi} {m : Mo} {u : FrameMode} (h : MoR φ m u) : u ≠ .run := by cases h <;> intro h <;> cases h

def OutR (K : Nat → Prop) (w0 : World) (φ : Phi) : Out → Ending → World → Prop
  | .ret v h => RetR K w0 φ v h
  | .pan v h => PanR K w0 φ v h
  | _ => fun _ _ => False

theorem OutR.mono {K : Nat → Prop} {w0 : World} {φ ψ : Phi} (hle : le φ ψ) {o : Out} {e : Ending} {w : World} (h : OutR K w0 ψ o e w) : OutR K w0 φ o e w := by
  cases o with
  | ret v hp =>
    cases e with
    | returned v' => obtain ⟨φ', h1, h2⟩ := h; exact ⟨φ', le_trans hle h1, h2⟩
    | panicked ch => exact h
    | outgrown => exact h
  | pan v hp =>
    cases e with
    | returned v' => exact h
    | panicked ch => obtain ⟨φ', v', h0, h1, h2⟩ := h; exact ⟨φ', v', h0, le_trans hle h1, h2⟩
    | outgrown => exact h
  | ex e s => exact h
  | dret m hp => exact h

/-- The heap that a call's end leaves. -/
def outH (h : Hp) : Out → Prop
  | .ret _ h' => Pres h h'
  | .pan _ h' => Pres h h'
  | _ => False

theorem exit_pres {h hf : Hp} (hb : h.base ≤ h.bl.length) (hp : Pres (enterH h) hf) (v : Value) : Pres h (exitH h hf v) := by
  have hsame : ∀ b, b < h.bl.length → b ∉ hf.wr → hf.bl[b]? = h.bl[b]? := fun b hlt hn => (hp.same b hlt hn).2
  have hlen : h.bl.length ≤ hf.bl.length := hp.len
  have hfil : ∀ b, b < h.base → b ∉ (hf.wr.filter (fun b => decide (b < h.base)) ++ h.wr) → b ∉ hf.wr ∧ b ∉ h.wr := by
    intro b hlt hn
    simp only [List.mem_append, List.mem_filter, decide_eq_true_eq, not_or, not_and] at hn
    exact ⟨fun hm => hn.1 hm hlt, hn.2⟩
  unfold exitH
  split
  · exact Pres.refl h
  · split
    · refine ⟨rfl, by simp; omega, ?_, ?_⟩
      · intro b hlt hn
        obtain ⟨n1, n2⟩ := hfil b hlt hn
        refine ⟨n2, ?_⟩
        simp only
        rw [List.getElem?_take, if_pos (by omega)]
        exact hsame b (by omega) n1
      · intro b ob hx hl hr
        simp only at hx
        rw [List.getElem?_take] at hx
        split at hx
        · exact hp.ro b ob hx hl hr
        · cases hx
    · refine ⟨rfl, hlen, ?_, hp.ro⟩
      intro b hlt hn
      obtain ⟨n1, n2⟩ := hfil b hlt hn
      exact ⟨n2, hsame b (by omega) n1⟩


theorem leave_sound (hN : NoNG P) (hs : SelfOk P self) {fn : Func} {t : List Value} {h : Hp} (hb : h.base ≤ h.bl.length) : ∀ (ds : List Deferred) (m : Mo) (hf : Hp) (o : Out), leave P self fn t h ds m hf = some o → Pres (enterH h) hf →
    ((∃ v h', o = .ret v h') ∨ (∃ v h', o = .pan v h')) ∧ outH h o ∧ ∀ (K : Nat → Prop) (w0 : World) (φ0 φ : Phi) (w0' w : World) (t' : Array Value) (ds' : List Deferred) (u : FrameMode) (n : Nat),
      Inv K w0 φ0 h.bl w0' → le φ0 φ → Inv K w0 φ hf.bl w → VRs φ t.toArray t' → DRs φ ds ds' → MoR φ m u → LeavesInM Fence.wide n P fn t' (OutR K w0 φ0 o) ds' u w
  | [], .returning, hf, o, hl, hp => by
    simp only [leave, Option.map_eq_some_iff] at hl
    obtain ⟨v, hv, rfl⟩ := hl
    have hpr : ∀ (K : Nat → Prop) (w0 : World) (φ0 φ : Phi) (w0' w : World) (v' : Value), Inv K w0 φ0 h.bl w0' → Inv K w0 φ hf.bl w → le φ0 φ → VR φ v v' → _ := fun K w0 φ0 φ w0' w v' h1 h2 h3 h4 => exit_sound hb h1 h2 h3 hp h4
    refine ⟨.inl ⟨_, _, rfl⟩, exit_pres hb hp v, ?_⟩
    intro K w0 φ0 φ w0' w t' ds' u n hI0 hle hI ht hd hm
    cases hd
    cases hm
    obtain ⟨v', hr, hvv⟩ := resB_sound hI ht hv
    obtain ⟨_, φ'', h1, h2, h3⟩ := hpr K w0 φ0 φ w0' w v' hI0 hI hle hvv
    exact ⟨v', hr, φ'', h1, h2, h3⟩
  | [], .panicking v false, hf, o, hl, hp => by
    simp only [leave, Option.some.injEq] at hl
    subst hl
    refine ⟨.inr ⟨_, _, rfl⟩, exit_pres hb hp v, ?_⟩
    intro K w0 φ0 φ w0' w t' ds' u n hI0 hle hI ht hd hm
    cases hd
    cases hm with
    | panicking _ hv =>
      obtain ⟨_, φ'', h1, h2, h3⟩ := exit_sound hb hI0 hI hle hp hv
      exact ⟨φ'', _, rfl, h1, h2, h3⟩
  | [], .panicking v true, hf, o, hl, hp => by simp [leave] at hl
  | d :: ds, m, hf, o, hl, hp => by
    simp only [leave] at hl
    have hbf : hf.base ≤ hf.bl.length := by rw [hp.base]; exact hp.len
    split at hl
    · rename_i r ht
      split at hl
      · rename_i hr
        obtain ⟨h1, h2, h3⟩ := leave_sound hN hs hb ds m _ o hl (hp.trans (Pres.put hf r _))
        refine ⟨h1, h2, ?_⟩
        intro K w0 φ0 φ w0' w t' ds' u n hI0 hle hI htt hd hm
        cases hd with
        | @cons _ d' _ ds'' hdr hds =>
          obtain ⟨B, tb, ht', hφ⟩ := dr_mark hdr ht
          obtain ⟨B', base', tot', q1, _, q3⟩ := hI.obs r _ hr rfl
          rw [hφ] at q1; cases q1
          have hlt : B < w.heap.size := (Array.getElem?_eq_some_iff.1 q3).1
          refine ⟨mo_run hm, .inl ⟨B, _, ht', run_takeDeferred q3, ?_⟩⟩
          exact h3 K w0 φ0 φ w0' _ t' ds'' u n hI0 hle (hI.write hr rfl hφ putObj_frame (by simp) rfl rfl rfl ⟨rfl, World.putObj_heap_same hlt⟩) htt hds hm
      · cases hl
    · rename_i g cap ht
      split at hl
      · rename_i hbd
        split at hl
        · rename_i m' h' hc
          obtain ⟨hp1, hcc⟩ := hs _ _ hc hbf
          obtain ⟨h1, h2, h3⟩ := leave_sound hN hs hb ds _ h' o hl (hp.trans hp1)
          refine ⟨h1, h2, ?_⟩
          intro K w0 φ0 φ w0' w t' ds' u n hI0 hle hI htt hd hm
          cases hd with
          | @cons _ d' _ ds'' hdr hds =>
            obtain ⟨cap', ht', hargs⟩ := dr_args hdr ht
            refine ⟨mo_run hm, .inr ⟨(fun h => nomatch h), .func g, cap', g, d'.args ++ cap', ht', ?_, fun _ _ => trivial, ?_⟩⟩
            · rw [ht']; simp only [invoke]; exact run_callFunc hN hbd
            · refine (hcc K w0 φ w _ u (n - 1) hI hargs hm).mono ?_
              rintro e u' w' ⟨v, rfl, φ', hle', hm', hI'⟩
              exact h3 K w0 φ0 φ' w0' w' t' ds'' (settle u') n hI0 (le_trans hle hle') hI' (htt.mono hle') (hds.mono hle') (settle_ok hm')
        · cases hl
      · cases hl
    · cases hl
theorem vrs_frame {φ : Phi} (fn : Func) {args args' : Array Value} (h : VRs φ args args') : VRs φ (frame fn args).toArray (args' ++ Array.replicate (fn.ntmps - args'.size) undef) := by
  have e : (frame fn args).toArray = args ++ Array.replicate (fn.ntmps - args.size) undef := by
    unfold frame
    apply Array.ext'
    simp
  rw [e, ← h.size]
  exact h.append (VRs.replicate φ _ (VR.undef φ))

theorem call_sound (hN : NoNG P) (hs : SelfOk P self) (drawn : Program → Self → Option Nat → Nat → Array Oper → St → Option Out) {f : FuncId} {args : Array Value} {h : Hp} {o : Out} (hc : stepF drawn P self (.call f args h) = some o) : TaskOk P (.call f args h) o := by
  simp only [stepF, forceL1_eq] at hc
  split at hc
  case h_2 => cases hc
  rename_i fn hfn
  split at hc
  case h_2 => cases hc
  rename_i c hbody
  have main : ∀ (e : Ex) (s : St) (m : Mo), self (.code none c { t := frame fn args, d := [], h := enterH h }) = some (.ex e s) →
      (∀ (φ : Phi) (x : Exit) (a : Act) (w : World) (R : Ending → World → Prop) (n : Nat), ExR φ e x → (∀ u, MoR φ m u → LeavesInM Fence.wide n P fn a.tmps R a.defers u w) → bodyPostM Fence.wide n P fn R x a w) →
      leave P self fn s.t h s.d m s.h = some o → TaskOk P (.call f args h) o := by
    intro e s m hcode hpost hl
    have htask := hs _ _ hcode
    have key : h.base ≤ h.bl.length → ((∃ v h', o = .ret v h') ∨ (∃ v h', o = .pan v h')) ∧ outH h o ∧ ∀ (K : Nat → Prop) (w0 : World) (φ : Phi) (w : World) (args' : Array Value) (n : Nat), Inv K w0 φ h.bl w → VRs φ args args' → CallsIn Fence.wide n P f args' w (OutR K w0 φ o) := by
      intro hb
      obtain ⟨hp, hcc⟩ := htask (Nat.le_refl _)
      obtain ⟨h1, h2, h3⟩ := leave_sound hN hs hb s.d m s.h o hl hp
      refine ⟨h1, h2, ?_⟩
      intro K w0 φ w args' n hI hargs
      refine callsIn_of_wp_marks hfn hbody trivial (wpIn_mono (hcc K w0 φ w _ Fence.wide n hI (vrs_frame fn hargs) .nil rfl) ?_) rfl
      rintro x a w' ⟨φ', hle, hx, ht, hd, hI'⟩
      exact hpost φ' x a w' _ n hx (fun u hu => h3 K w0 φ φ' w w' a.tmps a.defers u n hI hle hI' ht hd hu)
    cases o with
    | ret v h' => exact fun hb => let ⟨_, h2, h3⟩ := key hb; ⟨h2, h3⟩
    | pan v h' => exact fun hb => let ⟨_, h2, h3⟩ := key hb; ⟨h2, h3⟩
    | ex e1 s1 =>
      exfalso
      have := (leave_shape s.d m s.h _ hl)
      rcases this with ⟨_, _, h⟩ | ⟨_, _, h⟩ <;> cases h
    | dret m' h' =>
      exfalso
      have := (leave_shape s.d m s.h _ hl)
      rcases this with ⟨_, _, h⟩ | ⟨_, _, h⟩ <;> cases h
  split at hc
  · rename_i s hcode
    exact main .normal s .returning hcode (fun φ x a w R n hx hl => by cases hx; exact hl _ .returning) hc
  · rename_i s hcode
    exact main .ret s .returning hcode (fun φ x a w R n hx hl => by cases hx; exact hl _ .returning) hc
  · rename_i v s hcode
    exact main (.panic v) s (.panicking v false) hcode (fun φ x a w R n hx hl => by cases hx with | panic hv => exact hl _ (.panicking false hv)) hc
  · cases hc
where
  leave_shape {fn : Func} {t : List Value} {h : Hp} : ∀ (ds : List Deferred) (m : Mo) (hf : Hp) (o : Out), leave P self fn t h ds m hf = some o → (∃ v h', o = .ret v h') ∨ (∃ v h', o = .pan v h')
  | [], .returning, hf, o, hl => by
    simp only [leave, Option.map_eq_some_iff] at hl
    obtain ⟨v, _, rfl⟩ := hl
    exact .inl ⟨_, _, rfl⟩
  | [], .panicking v false, hf, o, hl => by
    simp only [leave, Option.some.injEq] at hl
    subst hl
    exact .inr ⟨_, _, rfl⟩
  | [], .panicking v true, hf, o, hl => by simp [leave] at hl
  | d :: ds, m, hf, o, hl => by
    simp only [leave] at hl
    split at hl
    · split at hl
      · exact leave_shape ds _ _ o hl
      · cases hl
    · split at hl
      · split at hl
        · exact leave_shape ds _ _ o hl
        · cases hl
      · cases hl
    · cases hl
end
end
end Go.Gh
