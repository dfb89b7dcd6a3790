/- What a call leaves behind: results, and which blocks may be forgotten. Conditions: none. -/
import Derived.Test.YtplejmmkcfmdcaaGhH
namespace Go.Gh
open Go.RowKit

/-! ### Values whose places all lie below a number -/
def sc0 (n : Nat) : Value → Bool
  | .pointer (some a) => decide (a.block < n)
  | .slice (some a) _ _ => decide (a.block < n)
  | .map (some r) => decide (r < n)
  | v => g0 v
def sc1 (n : Nat) : Value → Bool
  | .iface _ v => gA v
  | .func (.yield l) _ _ => decide (l < n)
  | .func _ first cap => first.toList.all (sc0 n) && cap.toList.all (sc0 n)
  | v => sc0 n v
def scA (n : Nat) : Value → Bool
  | .agg cs => cs.toList.all (sc1 n)
  | v => sc1 n v
def scT (n : Nat) : Value → Bool
  | .tuple vs => vs.toList.all (scA n)
  | v => scA n v

def cut (φ : Phi) (n : Nat) : Phi := fun b => if b < n then φ b else none
theorem cut_lt {φ : Phi} {n b : Nat} (h : b < n) : cut φ n b = φ b := by simp [cut, h]
theorem cut_ge {φ : Phi} {n b : Nat} (h : n ≤ b) : cut φ n b = none := by simp [cut]; omega
theorem cut_le (φ : Phi) (n : Nat) : le (cut φ n) φ := by
  intro b x h
  by_cases hb : b < n
  · rwa [cut_lt hb] at h
  · rw [cut_ge (by omega)] at h; cases h

theorem all_getD {p : Value → Bool} {cs : Array Value} (h : cs.toList.all p = true) {i : Nat} (hi : i < cs.size) : p (cs.getD i undef) = true := by
  rw [List.all_eq_true] at h
  rw [Array.getD_eq_getD_getElem?, Array.getElem?_eq_getElem hi]
  exact h _ (by simp)

theorem sc0_cut {φ : Phi} {n : Nat} {v v' : Value} (h : sc0 n v = true) (hv : VR φ v v') : VR (cut φ n) v v' := by
  cases hv with
  | ptr hφ => simp [sc0] at h; exact .ptr ((cut_lt h).trans hφ)
  | sliceZ hφ a' c => simp [sc0] at h; exact .sliceZ ((cut_lt h).trans hφ) a' c
  | slice hφ hl hc => simp [sc0] at h; exact .slice ((cut_lt h).trans hφ) hl hc
  | map hφ => simp [sc0] at h; exact .map ((cut_lt h).trans hφ)
  | bool b => exact .bool b
  | int k n => exact .int k n
  | float k n => exact .float k n
  | complex k n m => exact .complex k n m
  | string s => exact .string s
  | ptrN => exact .ptrN
  | sliceN => exact .sliceN
  | mapN => exact .mapN
  | nilFunc => exact .nilFunc
  | nilIface => exact .nilIface
  | fn => simp [sc0, g0] at h
  | yield => simp [sc0, g0] at h
  | iface => simp [sc0, g0] at h
  | agg => simp [sc0, g0] at h
  | tuple => simp [sc0, g0] at h
  | top => simp [sc0, g0] at h

theorem sc1_fn {n : Nat} {g : Fn} (hg : plainFn g = true) (first cap : Array Value) : sc1 n (.func g first cap) = (first.toList.all (sc0 n) && cap.toList.all (sc0 n)) := by
  cases g with
  | yield l => cases hg
  | _ => rfl

theorem sc1_cut {φ : Phi} {n : Nat} {v v' : Value} (h : sc1 n v = true) (hv : VR φ v v') : VR (cut φ n) v v' := by
  cases hv with
  | iface t hv =>
    simp only [sc1] at h
    rw [gA_eq h hv]
    exact .iface t (gA_refl h)
  | yield hφ => simp [sc1] at h; exact .yield ((cut_lt h).trans hφ)
  | @fn g _ _ _ _ hg h1 h2 h3 h4 =>
    have hh : ∀ {xs : Array Value}, xs.toList.all (sc0 n) = true → ∀ i, i < xs.size → sc0 n (xs.getD i undef) = true := fun h i hi => all_getD h hi
    rw [sc1_fn hg, Bool.and_eq_true] at h
    exact .fn hg h1 (fun i hi => sc0_cut (hh h.1 i hi) (h2 i hi)) h3 (fun i hi => sc0_cut (hh h.2 i hi) (h4 i hi))
  | ptr hφ => exact sc0_cut h (.ptr hφ)
  | sliceZ hφ a' c => exact sc0_cut h (.sliceZ hφ a' c)
  | slice hφ hl hc => exact sc0_cut h (.slice hφ hl hc)
  | map hφ => exact sc0_cut h (.map hφ)
  | bool b => exact .bool b
  | int k n => exact .int k n
  | float k n => exact .float k n
  | complex k n m => exact .complex k n m
  | string s => exact .string s
  | ptrN => exact .ptrN
  | sliceN => exact .sliceN
  | mapN => exact .mapN
  | nilFunc => exact .nilFunc
  | nilIface => exact .nilIface
  | agg => simp [sc1, sc0, g0] at h
  | tuple => simp [sc1, sc0, g0] at h
  | top => simp [sc1, sc0, g0] at h

theorem scA_cut {φ : Phi} {n : Nat} {v v' : Value} (h : scA n v = true) (hv : VR φ v v') : VR (cut φ n) v v' := by
  unfold scA at h
  split at h
  · cases hv with
    | agg h1 h2 => exact .agg h1 fun i hi => sc1_cut (all_getD h hi) (h2 i hi)
  · exact sc1_cut h hv

theorem scT_cut {φ : Phi} {n : Nat} {v v' : Value} (h : scT n v = true) (hv : VR φ v v') : VR (cut φ n) v v' := by
  unfold scT at h
  split at h
  · cases hv with
    | tuple h1 h2 => exact .tuple h1 fun i hi => scA_cut (all_getD h hi) (h2 i hi)
    | top _ hb => exact .top _ hb
  · exact scA_cut h hv

/-- A value that was in reach under fewer places still is. -/
theorem VR.scope {φ φ' : Phi} {n : Nat} (ht : ∀ b, n ≤ b → φ b = none) {v x : Value} (h : VR φ v x) : ∀ {v' : Value}, VR φ' v v' → VR (cut φ' n) v v' := by
  have hin : ∀ {b : Nat} {y : Nat × Nat × Nat}, φ b = some y → b < n := fun {b} {y} hb => by
    rcases Nat.lt_or_ge b n with h | h
    · exact h
    · rw [ht b h] at hb; cases hb
  induction h with
  | ptr hφ => intro v' hv; cases hv with | ptr h' => exact .ptr ((cut_lt (hin hφ)).trans h')
  | sliceZ hφ a' c =>
    intro v' hv
    cases hv with
    | sliceZ h' a'' c => exact .sliceZ ((cut_lt (hin hφ)).trans h') _ _
    | slice h' hl hc => exact .slice ((cut_lt (hin hφ)).trans h') hl hc
  | slice hφ hl hc =>
    intro v' hv
    cases hv with
    | sliceZ h' a'' c => exact .sliceZ ((cut_lt (hin hφ)).trans h') _ _
    | slice h' hl hc => exact .slice ((cut_lt (hin hφ)).trans h') hl hc
  | map hφ => intro v' hv; cases hv with | map h' => exact .map ((cut_lt (hin hφ)).trans h')
  | yield hφ =>
    intro v' hv
    cases hv with
    | fn hg => cases hg
    | yield h' => exact .yield ((cut_lt (hin hφ)).trans h')
  | fn hg h1 h2 h3 h4 ih2 ih4 =>
    intro v' hv
    cases hv with
    | fn hg' k1 k2 k3 k4 => exact .fn hg' k1 (fun i hi => ih2 i hi (k2 i hi)) k3 (fun i hi => ih4 i hi (k4 i hi))
    | yield => cases hg
  | iface t _ ih => intro v' hv; cases hv with | iface _ h' => exact .iface t (ih h')
  | agg h1 _ ih => intro v' hv; cases hv with | agg k1 k2 => exact .agg k1 fun i hi => ih i hi (k2 i hi)
  | tuple h1 _ ih =>
    intro v' hv
    cases hv with
    | tuple k1 k2 => exact .tuple k1 fun i hi => ih i hi (k2 i hi)
    | top _ hb => exact .top _ hb
  | top x hx =>
    intro v' hv
    cases hv with
    | tuple k1 k2 => exact .tuple k1 fun i hi => absurd hi (Nat.not_lt_zero _)
    | top _ hb => exact .top _ hb
  | bool b => intro v' hv; cases hv; exact .bool b
  | int k n => intro v' hv; cases hv; exact .int k n
  | float k n => intro v' hv; cases hv; exact .float k n
  | complex k n m => intro v' hv; cases hv; exact .complex k n m
  | string s => intro v' hv; cases hv; exact .string s
  | ptrN => intro v' hv; cases hv; exact .ptrN
  | sliceN => intro v' hv; cases hv; exact .sliceN
  | mapN => intro v' hv; cases hv; exact .mapN
  | nilFunc => intro v' hv; cases hv; exact .nilFunc
  | nilIface => intro v' hv; cases hv; exact .nilIface

theorem VRs.scope {φ φ' : Phi} {n : Nat} (ht : ∀ b, n ≤ b → φ b = none) {xs ys zs : Array Value} (h : VRs φ xs ys) (k : VRs φ' xs zs) : VRs (cut φ' n) xs zs :=
  VRs.of k.size fun i _ => VR.scope ht (h.getD i) (k.getD i)

theorem ObR.scope {φ φ' : Phi} {n : Nat} (ht : ∀ b, n ≤ b → φ b = none) {w w' : World} {ob : Ob} {B1 b1 t1 B base tot : Nat} (h : ObR φ w ob B1 b1 t1) (k : ObR φ' w' ob B base tot) : ObR (cut φ' n) w' ob B base tot := by
  have hin : ∀ {b : Nat} {y : Nat × Nat × Nat}, φ b = some y → b < n := fun {b} {y} hb => by
    rcases Nat.lt_or_ge b n with h | h
    · exact h
    · rw [ht b h] at hb; cases hb
  cases ob with
  | dead => trivial
  | cells c ro =>
    obtain ⟨C, el, fr, h1, h2, h3⟩ := h
    obtain ⟨C', el', fr', k1, k2, k3⟩ := k
    refine ⟨C', el', fr', k1, fun i v hv => ?_, k3⟩
    obtain ⟨v1, _, r1⟩ := h2 i v hv
    obtain ⟨v', hv', r⟩ := k2 i v hv
    exact ⟨v', hv', VR.scope ht r1 r⟩
  | map es =>
    obtain ⟨h0, E, clock, h1, h2, h3⟩ := h
    obtain ⟨k0, E', clock', k1, k2, k3⟩ := k
    refine ⟨k0, E', clock', k1, k2, fun i key v hv => ?_⟩
    obtain ⟨_, _, _, r1⟩ := h3 i key v hv
    obtain ⟨en, he, hk, r⟩ := k3 i key v hv
    exact ⟨en, he, hk, VR.scope ht r1 r⟩
  | loop st pend tmps ps assign body dfr =>
    obtain ⟨h0, fn, tmps', D', h1, h2, td, h3⟩ := h
    obtain ⟨k0, fn', tmps'', D'', k1, k2, td', k3⟩ := k
    exact ⟨k0, fn', tmps'', D'', k1, VRs.scope ht h2 k2, td', (cut_lt (hin h3)).trans k3⟩
  | dfr shut => exact k

def obSc (n : Nat) : Ob → Bool
  | .dead => true
  | .cells c _ => c.toList.all (sc1 n)
  | .map es => es.all fun e => sc1 n e.2
  | .loop _ _ t _ _ _ d => t.toList.all (scT n) && decide (d < n)
  | .dfr _ => true

theorem all_get? {p : Value → Bool} {cs : Array Value} (h : cs.toList.all p = true) {i : Nat} {v : Value} (hv : cs[i]? = some v) : p v = true := by
  rw [List.all_eq_true] at h
  exact h v (by rw [Array.mem_toList_iff]; exact Array.mem_of_getElem? hv)

theorem obSc_cut {φ : Phi} {n : Nat} {w : World} {ob : Ob} {B base tot : Nat} (h : obSc n ob = true) (k : ObR φ w ob B base tot) : ObR (cut φ n) w ob B base tot := by
  cases ob with
  | dead => trivial
  | cells c ro =>
    obtain ⟨C', el', fr', k1, k2, k3⟩ := k
    refine ⟨C', el', fr', k1, fun i v hv => ?_, k3⟩
    obtain ⟨v', hv', r⟩ := k2 i v hv
    exact ⟨v', hv', sc1_cut (all_get? h hv) r⟩
  | map es =>
    obtain ⟨k0, E', clock', k1, k2, k3⟩ := k
    refine ⟨k0, E', clock', k1, k2, fun i key v hv => ?_⟩
    obtain ⟨en, he, hk, r⟩ := k3 i key v hv
    simp only [obSc, List.all_eq_true] at h
    exact ⟨en, he, hk, sc1_cut (h (key, v) (List.mem_of_getElem? hv)) r⟩
  | loop st pend tmps ps assign body dfr =>
    simp only [obSc, Bool.and_eq_true, decide_eq_true_eq] at h
    obtain ⟨k0, fn', tmps'', D'', k1, k2, td', k3⟩ := k
    exact ⟨k0, fn', tmps'', D'', k1, VRs.of k2.size (fun i hi => scT_cut (all_getD h.1 hi) (k2.getD i)), td', (cut_lt h.2).trans k3⟩
  | dfr shut => exact k

/-! ### The heap behind a call -/
def enterH (h : Hp) : Hp := { bl := h.bl, base := h.bl.length, wr := [] }

def exitH (h hf : Hp) (v : Value) : Hp :=
  if scT h.bl.length v && hf.wr.isEmpty then h
  else if scT h.bl.length v && hf.wr.all (fun b => (hf.bl[b]?).all (obSc h.bl.length)) then { bl := hf.bl.take h.bl.length, base := h.base, wr := hf.wr.filter (fun b => decide (b < h.base)) ++ h.wr }
  else { bl := hf.bl, base := h.base, wr := hf.wr.filter (fun b => decide (b < h.base)) ++ h.wr }

theorem exit_sound {K : Nat → Prop} {w0 w w' : World} {φ φ' : Phi} {h hf : Hp} {v v' : Value} (hb : h.base ≤ h.bl.length) (hI : Inv K w0 φ h.bl w) (hF : Inv K w0 φ' hf.bl w') (hle : le φ φ') (hp : Pres (enterH h) hf) (hv : VR φ' v v') :
    Pres h (exitH h hf v) ∧ ∃ φ'', le φ φ'' ∧ VR φ'' v v' ∧ Inv K w0 φ'' (exitH h hf v).bl w' := by
  have hin : ∀ {b : Nat} {y : Nat × Nat × Nat}, φ b = some y → b < h.bl.length := fun {b} {y} hb => by
    rcases Nat.lt_or_ge b h.bl.length with h1 | h1
    · exact h1
    · rw [hI.top b h1] at hb; cases hb
  have hlec : le φ (cut φ' h.bl.length) := fun b x hx => (cut_lt (hin hx)).trans (hle b x hx)
  have hsame : ∀ b, b < h.bl.length → b ∉ hf.wr → hf.bl[b]? = h.bl[b]? := fun b hlt hn => (hp.same b hlt hn).2
  have hlen : h.bl.length ≤ hf.bl.length := hp.len
  -- the heap that has been cut short
  have short : (∀ b ∈ hf.wr, (hf.bl[b]?).all (obSc h.bl.length) = true) → Inv K w0 (cut φ' h.bl.length) (hf.bl.take h.bl.length) w' := by
    intro hw
    have hget : ∀ {b : Nat} {ob : Ob}, (hf.bl.take h.bl.length)[b]? = some ob → b < h.bl.length ∧ hf.bl[b]? = some ob := by
      intro b ob hb
      rw [List.getElem?_take] at hb
      split at hb
      · rename_i hlt; exact ⟨hlt, hb⟩
      · cases hb
    refine ⟨?_, ?_, ?_, hF.keep, hF.klt, hF.size, hF.os, hF.tape, hF.output, ?_⟩
    · intro b ob hb' hl
      obtain ⟨hlt, hb1⟩ := hget hb'
      obtain ⟨B, base, tot, h1, h2⟩ := hF.obs b ob hb1 hl
      refine ⟨B, base, tot, (cut_lt hlt).trans h1, ?_⟩
      by_cases hm : b ∈ hf.wr
      · have := hw b hm
        rw [hb1] at this
        exact obSc_cut (by simpa using this) h2
      · rw [hsame b hlt hm] at hb1
        obtain ⟨B1, base1, tot1, _, h3⟩ := hI.obs b ob hb1 hl
        exact ObR.scope hI.top h3 h2
    · intro b b' ob ob' x y hne hb1 hb2 hrw hl hx hy
      obtain ⟨hlt1, hb1⟩ := hget hb1
      obtain ⟨hlt2, hb2⟩ := hget hb2
      rw [cut_lt hlt1] at hx
      rw [cut_lt hlt2] at hy
      exact hF.sep b b' ob ob' x y hne hb1 hb2 hrw hl hx hy
    · intro b ob x hb1 hrw hx
      obtain ⟨hlt1, hb1⟩ := hget hb1
      rw [cut_lt hlt1] at hx
      exact hF.prot b ob x hb1 hrw hx
    · intro b hge
      rw [List.length_take, Nat.min_eq_left hlen] at hge
      exact cut_ge hge
  have hfil : ∀ b, b < h.base → b ∉ (hf.wr.filter (fun b => decide (b < h.base)) ++ h.wr) → b ∉ hf.wr ∧ b ∉ h.wr := by
    intro b hlt hn
    simp only [List.mem_append, List.mem_filter, decide_eq_true_eq, not_or, not_and] at hn
    exact ⟨fun hm => hn.1 hm hlt, hn.2⟩
  unfold exitH
  split
  · rename_i hc
    simp only [Bool.and_eq_true, List.isEmpty_iff] at hc
    refine ⟨Pres.refl h, cut φ' h.bl.length, hlec, scT_cut hc.1 hv, ?_⟩
    have := short (by rw [hc.2]; intro b hb; cases hb)
    have e : hf.bl.take h.bl.length = h.bl := by
      apply List.ext_getElem?
      intro b
      rw [List.getElem?_take]
      split
      · rename_i hlt; exact hsame b hlt (by rw [hc.2]; exact List.not_mem_nil)
      · rename_i hge; rw [List.getElem?_eq_none (by omega)]
    rw [e] at this
    exact this
  · split
    · rename_i hc
      simp only [Bool.and_eq_true, List.all_eq_true] at hc
      refine ⟨⟨rfl, by simp; omega, ?_, ?_⟩, cut φ' h.bl.length, hlec, scT_cut hc.1 hv, short hc.2⟩
      · intro b hlt hn
        obtain ⟨n1, n2⟩ := hfil b hlt hn
        refine ⟨n2, ?_⟩
        simp only
        rw [List.getElem?_take, if_pos (by omega)]
        exact hsame b (by omega) n1
      · intro b ob hx hl hr
        simp only at hx
        rw [List.getElem?_take] at hx
        split at hx
        · exact hp.ro b ob hx hl hr
        · cases hx
    · refine ⟨⟨rfl, hlen, ?_, hp.ro⟩, φ', hle, hv, hF⟩
      intro b hlt hn
      obtain ⟨n1, n2⟩ := hfil b hlt hn
      exact ⟨n2, hsame b (by omega) n1⟩

/-! ### Results -/
def resL (P : Program) (H : List Ob) (t : Array Value) : List ResultVar → Option (List Value)
  | [] => some []
  | .tmp x :: r => (resL P H t r).map (t.getD x undef :: ·)
  | .cell a ty :: r => match rLoad P H ty (t.getD a undef), resL P H t r with
    | some v, some vs => some (v :: vs)
    | _, _ => none

def resB (P : Program) (H : List Ob) (fn : Func) (t : Array Value) : Option Value :=
  match resL P H t fn.results.toList with
  | some [v] => some v
  | some vs => some (.tuple vs.toArray)
  | none => none

section
variable {P : Program} {K : Nat → Prop} {w0 w : World} {φ : Phi} {H : List Ob}

def resOne (t : Array Value) : ResultVar → Sem Value
  | .tmp x => pure (t.getD x undef)
  | .cell a ty => do loadVar ty (← asAddr (t.getD a undef))

theorem results_eq (fn : Func) (t : Array Value) : results fn t = (do let vs ← fn.results.mapM (resOne t); pure (if h : vs.size = 1 then vs[0] else .tuple vs)) := by
  unfold results
  congr 1

theorem resL_sound (hI : Inv K w0 φ H w) {t t' : Array Value} (ht : VRs φ t t') : ∀ {rs : List ResultVar} {vs : List Value}, resL P H t rs = some vs →
    ∃ vs', (rs.mapM (resOne t')).run P w = .ok vs' w ∧ VRl φ vs vs'
  | [], vs, h => by simp only [resL, Option.some.injEq] at h; subst h; exact ⟨[], rfl, .nil⟩
  | .tmp x :: r, vs, h => by
    simp only [resL, Option.map_eq_some_iff] at h
    obtain ⟨us, hu, rfl⟩ := h
    obtain ⟨us', hr, hv⟩ := resL_sound hI ht hu
    refine ⟨t'.getD x undef :: us', ?_, .cons (ht.getD x) hv⟩
    simp only [List.mapM_cons, resOne, Sem.run_bind, Sem.run_pure, Result.andThen_ok, hr]
  | .cell a ty :: r, vs, h => by
    simp only [resL] at h
    split at h
    · rename_i v us h1 hu
      simp only [Option.some.injEq] at h; subst h
      obtain ⟨us', hr, hv⟩ := resL_sound hI ht hu
      have hta := ht.getD a
      obtain ⟨v', hl, hvv⟩ := rLoad_sound hI h1 hta
      refine ⟨v' :: us', ?_, .cons hvv hv⟩
      have : (resOne t' (.cell a ty)).run P w = .ok v' w := by
        show (do loadVar ty (← asAddr (t'.getD a undef)) : Sem Value).run P w = .ok v' w
        unfold rLoad at h1
        split at h1
        · rename_i b off heq
          rw [heq] at hta
          generalize t'.getD a undef = x' at hta hl
          cases hta with
          | ptr hφ => exact hl
        · cases h1
      simp only [List.mapM_cons, Sem.run_bind, this, Result.andThen_ok, hr, Sem.run_pure]
    · cases h

theorem resB_sound (hI : Inv K w0 φ H w) {fn : Func} {t t' : Array Value} {v : Value} (ht : VRs φ t t') (h : resB P H fn t = some v) : ∃ v', (results fn t').run P w = .ok v' w ∧ VR φ v v' := by
  unfold resB at h
  have key : ∀ {vs : List Value}, resL P H t fn.results.toList = some vs → ∃ vs' : List Value, (results fn t').run P w = .ok (if h : vs'.toArray.size = 1 then vs'.toArray[0] else .tuple vs'.toArray) w ∧ VRl φ vs vs' := by
    intro vs hvs
    obtain ⟨vs', hr, hv⟩ := resL_sound hI ht hvs
    refine ⟨vs', ?_, hv⟩
    rw [results_eq, Array.mapM_eq_mapM_toList]
    simp only [Sem.run_bind, Sem.run_map, Sem.run_pure, hr, Result.andThen_ok]
  have hlist : ∀ {vs vs' : List Value}, VRl φ vs vs' → VRs φ vs.toArray vs'.toArray := by
    intro vs vs' hv i
    have := vrl_get hv i
    simpa using this
  split at h
  · rename_i u hu
    simp only [Option.some.injEq] at h; subst h
    obtain ⟨vs', hr, hv⟩ := key hu
    cases hv with
    | cons h1 h2 => cases h2; exact ⟨_, hr, h1⟩
  · rename_i vs hne hu
    simp only [Option.some.injEq] at h; subst h
    obtain ⟨vs', hr, hv⟩ := key hu
    refine ⟨.tuple vs'.toArray, ?_, (hlist hv).tuple⟩
    rw [hr, dif_neg]
    have hl := vrl_len hv
    intro h1
    simp at h1
    rw [h1] at hl
    match vs, hl with
    | [v], _ => exact hne v rfl
  · cases h
end
end Go.Gh
