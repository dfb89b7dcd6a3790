/- Every operation that writes nothing: over the small heap and in the world. Conditions: none. -/
import Derived.Test.YtplejmmkcfmdcaaGhC
namespace Go.Gh
open Go.RowKit

def rNil : Value → Option Value
  | .pointer (some a) => some (.pointer (some a))
  | .func (.func f) fi ca => some (.func (.func f) fi ca)
  | _ => none

def rLen (P : Program) (H : List Ob) (t : TypeId) : Value → Option Value
  | .slice _ n _ => match P.underlying t with | some (.slice _) => some (goInt n) | _ => none
  | .map (some r) => match P.underlying t, H[r]? with | some (.map _ _), some (.map es) => some (goInt es.length) | _, _ => none
  | _ => none

/-- Operations on two integers of one kind. -/
def fastBin (op : BinOp) (x y : Value) : Option Value :=
  match x, y with
  | .int k a, .int k' b =>
    if k = k' then
      match op with
      | .add => some (.int k (k.wrap (a + b)))
      | .sub => some (.int k (k.wrap (a - b)))
      | .mul => some (.int k (k.wrap (a * b)))
      | .eql => some (.bool (a == b))
      | .neq => some (.bool (a != b))
      | .lss => some (.bool (decide (a < b)))
      | .leq => some (.bool (decide (a ≤ b)))
      | .gtr => some (.bool (decide (a > b)))
      | .geq => some (.bool (decide (a ≥ b)))
      | _ => none
    else none
  | _, _ => none

theorem fastBin_sound {P : Program} {op : BinOp} {x y v : Value} (h : fastBin op x y = some v) (t : TypeId) (ox oy : Operand) (w : World) : (do eqGuard op t ox oy x y; binOp op t x y : Sem Value).run P w = .ok v w ∧ gr v = true := by
  unfold fastBin at h
  split at h
  · split at h
    · rename_i k a k' b hk
      subst hk
      have hg : (eqGuard op t ox oy (.int k a) (.int k b)).run P w = .ok () w := by
        unfold eqGuard
        cases op <;> rfl
      simp only [Sem.run_bind, hg, Result.andThen_ok]
      cases op <;> simp only [Option.some.injEq] at h <;> first | (cases h; done) | (subst h; simp [binOp, Op.intArith, Op.intCmp, gr, gA, g0])
    · cases h
  · cases h

def numB : Builtin → Bool
  | .len | .min | .max => true
  | _ => false

def aread (P : Program) (ρ : Operand → Value) (H : List Ob) (o : Oper) : Option Value :=
  match o.op with
  | .move x | .assign x => if okO x then some (ρ x) else none
  | .pick c a b => if okO c && okO a && okO b then (match ρ c with | .bool t => some (if t then ρ a else ρ b) | _ => none) else none
  | .load t x => if okO x then rLoad P H t (ρ x) else none
  | .nilCheck x => if okO x then rNil (ρ x) else none
  | .binOp op _ x y _ => if okO x && okO y && gr (ρ x) && gr (ρ y) then (match fastBin op (ρ x) (ρ y) with | some v => some v | none => pureVal P (execOp ρ o)) else none
  | .unOp _ _ x => if okO x && gr (ρ x) then pureVal P (execOp ρ o) else none
  | .convert src dst x => if okO x then (if gr (ρ x) then pureVal P (execOp ρ o) else match ρ x with | .slice (some a) (n + 1) c => rBytes P H src dst (.slice (some a) (n + 1) c) | _ => none) else none
  | .makeInterface t x => if okO x then (match P.underlying t with | some (.interface _) | none => none | some _ => some (.iface t (ρ x))) else none
  | .makeFunc fn fi ca => if plainFn fn && fi.toList.all okO && ca.toList.all okO then some (.func fn (fi.map ρ) (ca.map ρ)) else none
  | .slice t x lo hi mx => if okO x && lo.all okO && hi.all okO && mx.isNone then
      (if gr (ρ x) && lo.all (fun x => gr (ρ x)) && hi.all (fun x => gr (ρ x)) then pureVal P (execOp ρ o) else rSlice P t (lo.map ρ) (hi.map ρ) (ρ x)) else none
  | .fieldAddr s x f => if okO x then rFieldAddr P s f (ρ x) else none
  | .field t x f => if okO x then rField P t f (ρ x) else none
  | .indexAddr t x ix => if okO x && okO ix then rIndexAddr P t (ρ x) (ρ ix) else none
  | .index _ x ix => if okO x && okO ix && gr (ρ x) && gr (ρ ix) then pureVal P (execOp ρ o) else none
  | .lookup t x k ok => if okO x && okO k then (if gr (ρ x) && gr (ρ k) then pureVal P (execOp ρ o) else rLookup P H t ok (ρ k) (ρ x)) else none
  | .extract x i => if okO x then rExtract i (ρ x) else none
  | .build t ps => if ps.toList.all (fun x => okO x.2 && notT (ρ x.2)) then rBuild P t (ps.toList.map fun (i, x) => (i, ρ x)) else none
  | .call { callee := .builtin b, args, argTypes } =>
    if args.toList.all okO then
      if args.toList.all (fun x => gr (ρ x)) && numB b then pureVal P (execOp ρ o)
      else match b, args.toList, argTypes.toList with
        | .len, [x], [t] => rLen P H t (ρ x)
        | _, _, _ => none
    else none
  | _ => none

section
variable {P : Program} {K : Nat → Prop} {w0 w : World} {φ : Phi} {H : List Ob} {ρ ρ' : Operand → Value}

theorem vrs_map (hρ : Evs φ ρ ρ') {xs : Array Operand} (h : xs.toList.all okO = true) : VRs φ (xs.map ρ) (xs.map ρ') := by
  intro i
  rw [Array.getElem?_map, Array.getElem?_map]
  cases hx : xs[i]? with
  | none => exact .none
  | some x =>
    rw [List.all_eq_true] at h
    exact .some (hρ x (h x (by rw [Array.mem_toList_iff]; exact Array.mem_of_getElem? hx)))

theorem map_gr (hρ : Evs φ ρ ρ') {xs : Array Operand} (h : xs.toList.all okO = true) (hg : xs.toList.all (fun x => gr (ρ x)) = true) : xs.map ρ' = xs.map ρ := by
  apply Array.ext_getElem?
  intro i
  rw [Array.getElem?_map, Array.getElem?_map]
  cases hx : xs[i]? with
  | none => rfl
  | some x =>
    rw [List.all_eq_true] at h hg
    have hm : x ∈ xs.toList := by rw [Array.mem_toList_iff]; exact Array.mem_of_getElem? hx
    simp only [Option.map_some]
    rw [gr_eq (hg x hm) (hρ x (h x hm))]

theorem opt_gr (hρ : Evs φ ρ ρ') {x : Option Operand} (h : x.all okO = true) (hg : x.all (fun x => gr (ρ x)) = true) : x.map ρ' = x.map ρ := by
  cases x with
  | none => rfl
  | some x => simp only [Option.all_some] at h hg; simp only [Option.map_some]; rw [gr_eq hg (hρ x h)]

theorem opt_or (hρ : Evs φ ρ ρ') {x : Option Operand} (h : x.all okO = true) : OR (VR φ) (x.map ρ) (x.map ρ') := by
  cases x with
  | none => exact .none
  | some x => exact .some (hρ x h)

theorem ground_case {o : Oper} {v : Value} (he : execOp ρ' o = execOp ρ o) (h : pureVal P (execOp ρ o) = some v) : ∃ v', (execOp ρ' o).run P w = .ok (.value v') w ∧ VR φ v v' := by
  rw [he]; exact ⟨v, pureVal_sound h φ w⟩

theorem value_case {s : Sem Value} {v' : Value} (h : s.run P w = .ok v' w) : (do pure (.value (← s)) : Sem Next).run P w = .ok (.value v') w := by
  simp only [Sem.run_bind, h, Result.andThen_ok, Sem.run_pure]

theorem rNil_sound {o : Oper} {x : Operand} {x' v : Value} (ho : o.op = .nilCheck x) (hx' : ρ' x = x') (h : rNil (ρ x) = some v) (hx : VR φ (ρ x) x') : ∃ v', (execOp ρ' o).run P w = .ok (.value v') w ∧ VR φ v v' := by
  simp only [execOp, ho, hx']
  unfold rNil at h
  split at h
  · rename_i a ha
    rw [ha] at hx
    simp only [Option.some.injEq] at h; subst h
    cases hx with
    | ptr hφ => exact ⟨_, rfl, .ptr hφ⟩
  · rename_i f fi ca ha
    rw [ha] at hx
    simp only [Option.some.injEq] at h; subst h
    cases hx with
    | fn hg h1 h2 h3 h4 => exact ⟨_, rfl, .fn hg h1 h2 h3 h4⟩
  · cases h

theorem rLen_sound (hI : Inv K w0 φ H w) {t ty : TypeId} {x x' v : Value} (h : rLen P H t x = some v) (hx : VR φ x x') : ∃ v', (Builtin.len_ #[t] ty #[x']).run P w = .ok v' w ∧ VR φ v v' := by
  unfold rLen at h
  split at h
  · rename_i a n c
    split at h
    · rename_i e hu
      simp only [Option.some.injEq] at h; subst h
      refine ⟨goInt n, ?_, .int _ _⟩
      cases hx with
      | sliceN => simp [Builtin.len_, run_underlying hu]
      | sliceZ hφ a' c => simp [Builtin.len_, run_underlying hu]
      | slice hφ hl hc => simp [Builtin.len_, run_underlying hu]
    · cases h
  · rename_i r
    split at h
    · rename_i k e es hu hr
      simp only [Option.some.injEq] at h; subst h
      cases hx with
      | @map _ B tot hφ =>
        obtain ⟨B', base', tot', h1, h0, E, clock, h2, h3, _⟩ := hI.obs r _ hr rfl
        rw [hφ] at h1; cases h1
        refine ⟨goInt E.size, ?_, ?_⟩
        · simp [Builtin.len_, run_underlying hu, getObj, Sem.run, h2]
        · rw [h3]; exact .int _ _
    · cases h
  · cases h

theorem aread_sound (hI : Inv K w0 φ H w) (hρ : Evs φ ρ ρ') {o : Oper} {v : Value} (h : aread P ρ H o = some v) : ∃ v', (execOp ρ' o).run P w = .ok (.value v') w ∧ VR φ v v' := by
  unfold aread at h
  split at h
  case h_1 x ho =>
    split at h
    · rename_i hx
      simp only [Option.some.injEq] at h; subst h
      exact ⟨ρ' x, by simp only [execOp, ho]; rfl, hρ x hx⟩
    · cases h
  case h_2 x ho =>
    split at h
    · rename_i hx
      simp only [Option.some.injEq] at h; subst h
      exact ⟨ρ' x, by simp only [execOp, ho]; rfl, hρ x hx⟩
    · cases h
  case h_3 c a b ho =>
    split at h
    · rename_i hx
      simp only [Bool.and_eq_true] at hx
      obtain ⟨⟨hc, ha⟩, hb⟩ := hx
      have hcv := hρ c hc
      split at h
      · rename_i t ht
        rw [ht] at hcv
        generalize hc' : ρ' c = c' at hcv
        cases hcv
        simp only [Option.some.injEq] at h; subst h
        refine ⟨if t then ρ' a else ρ' b, by simp only [execOp, ho, hc', asBool, Sem.run_bind, Sem.run_pure, Result.andThen_ok], ?_⟩
        cases t
        · exact hρ b hb
        · exact hρ a ha
      · cases h
    · cases h
  case h_4 t x ho =>
    split at h
    · rename_i hx
      obtain ⟨v', hr, hv⟩ := rLoad_sound hI h (hρ x hx)
      exact ⟨v', by simp only [execOp, ho]; exact value_case hr, hv⟩
    · cases h
  case h_5 x ho =>
    split at h
    · rename_i hx
      exact rNil_sound ho rfl h (hρ x hx)
    · cases h
  case h_6 op t x y yt ho =>
    split at h
    · rename_i hx
      simp only [Bool.and_eq_true] at hx
      obtain ⟨⟨⟨hx, hy⟩, gx⟩, gy⟩ := hx
      split at h
      · rename_i v' hf
        simp only [Option.some.injEq] at h; subst h
        obtain ⟨q1, q2⟩ := fastBin_sound (P := P) hf t x y w
        refine ⟨_, ?_, gr_refl q2⟩
        simp only [execOp, ho, gr_eq gx (hρ x hx), gr_eq gy (hρ y hy)]
        exact value_case q1
      · exact ground_case (by simp only [execOp, ho, gr_eq gx (hρ x hx), gr_eq gy (hρ y hy)]) h
    · cases h
  case h_7 op t x ho =>
    split at h
    · rename_i hx
      simp only [Bool.and_eq_true] at hx
      exact ground_case (by simp only [execOp, ho, gr_eq hx.2 (hρ x hx.1)]) h
    · cases h
  case h_8 src dst x ho =>
    split at h
    · rename_i hx
      split at h
      · rename_i hg
        exact ground_case (by simp only [execOp, ho, gr_eq hg (hρ x hx)]) h
      · split at h
        · rename_i a n c hv
          have hxv := hρ x hx
          rw [hv] at hxv
          obtain ⟨v', hr, hv⟩ := rBytes_sound hI h hxv (fun a c hh => by injection hh with _ h2 _; cases h2)
          exact ⟨v', by simp only [execOp, ho]; exact value_case hr, hv⟩
        · cases h
    · cases h
  case h_9 t x ho =>
    split at h
    · rename_i hx
      split at h
      · cases h
      · cases h
      · rename_i d hni hu
        simp only [Option.some.injEq] at h; subst h
        refine ⟨.iface t (ρ' x), ?_, .iface t (hρ x hx)⟩
        simp only [execOp, ho]
        refine value_case ?_
        simp only [Instr.makeInterface, Sem.run_bind, run_underlying hu, Result.andThen_ok]
        cases d <;> first | rfl | exact absurd hu (hni _)
    · cases h
  case h_10 fn fi ca ho =>
    split at h
    · rename_i hx
      simp only [Bool.and_eq_true] at hx
      obtain ⟨⟨hp, h1⟩, h2⟩ := hx
      simp only [Option.some.injEq] at h; subst h
      have v1 := vrs_map hρ h1
      have v2 := vrs_map hρ h2
      exact ⟨.func fn (fi.map ρ') (ca.map ρ'), by simp only [execOp, ho]; exact value_case rfl, .fn hp v1.size (fun i _ => v1.getD i) v2.size (fun i _ => v2.getD i)⟩
    · cases h
  case h_11 t x lo hi mx ho =>
    split at h
    · rename_i hx
      simp only [Bool.and_eq_true] at hx
      obtain ⟨⟨⟨hx, hlo⟩, hhi⟩, hmx⟩ := hx
      obtain rfl : mx = none := by cases mx <;> first | rfl | cases hmx
      split at h
      · rename_i hg
        simp only [Bool.and_eq_true] at hg
        exact ground_case (by simp only [execOp, ho, gr_eq hg.1.1 (hρ x hx), opt_gr hρ hlo hg.1.2, opt_gr hρ hhi hg.2, Option.map_none]) h
      · obtain ⟨v', hr, hv⟩ := rSlice_sound (w := w) h (hρ x hx) (opt_or hρ hlo) (opt_or hρ hhi)
        exact ⟨v', by simp only [execOp, ho]; exact value_case hr, hv⟩
    · cases h
  case h_12 s x f ho =>
    split at h
    · rename_i hx
      obtain ⟨v', hr, hv⟩ := rFieldAddr_sound (w := w) h (hρ x hx)
      exact ⟨v', by simp only [execOp, ho]; exact value_case hr, hv⟩
    · cases h
  case h_13 t x f ho =>
    split at h
    · rename_i hx
      obtain ⟨v', hr, hv⟩ := rField_sound (w := w) h (hρ x hx)
      exact ⟨v', by simp only [execOp, ho]; exact value_case hr, hv⟩
    · cases h
  case h_14 t x ix ho =>
    split at h
    · rename_i hx
      simp only [Bool.and_eq_true] at hx
      obtain ⟨v', hr, hv⟩ := rIndexAddr_sound (w := w) h (hρ x hx.1) (hρ ix hx.2)
      exact ⟨v', by simp only [execOp, ho]; exact value_case hr, hv⟩
    · cases h
  case h_15 t x ix ho =>
    split at h
    · rename_i hx
      simp only [Bool.and_eq_true] at hx
      obtain ⟨⟨⟨hx, hy⟩, gx⟩, gy⟩ := hx
      exact ground_case (by simp only [execOp, ho, gr_eq gx (hρ x hx), gr_eq gy (hρ ix hy)]) h
    · cases h
  case h_16 t x k ok ho =>
    split at h
    · rename_i hx
      simp only [Bool.and_eq_true] at hx
      split at h
      · rename_i hg
        simp only [Bool.and_eq_true] at hg
        exact ground_case (by simp only [execOp, ho, gr_eq hg.1 (hρ x hx.1), gr_eq hg.2 (hρ k hx.2)]) h
      · obtain ⟨v', hr, hv⟩ := rLookup_sound hI h (hρ x hx.1) (hρ k hx.2)
        exact ⟨v', by simp only [execOp, ho]; exact value_case hr, hv⟩
    · cases h
  case h_17 x i ho =>
    split at h
    · rename_i hx
      obtain ⟨v', hr, hv⟩ := rExtract_sound (P := P) (w := w) h (hρ x hx)
      exact ⟨v', by simp only [execOp, ho]; exact value_case hr, hv⟩
    · cases h
  case h_18 t ps ho =>
    split at h
    · rename_i hx
      have e : ∀ f : Operand → Value, (ps.map fun (i, x) => (i, f x)).toList = ps.toList.map fun (i, x) => (i, f x) := fun f => by simp
      obtain ⟨v', hr, hv⟩ := rBuild_sound (P := P) (w := w) (parts := ps.map fun (i, x) => (i, ρ x)) (parts' := ps.map fun (i, x) => (i, ρ' x)) (by rw [e]; exact h) (by rw [e, e]; exact parts_of hρ hx)
      exact ⟨v', by simp only [execOp, ho]; exact value_case hr, hv⟩
    · cases h
  case h_19 b args argTypes ho =>
    split at h
    · rename_i hx
      split at h
      · rename_i hg
        simp only [Bool.and_eq_true] at hg
        exact ground_case (by simp only [execOp, ho, resolve, map_gr hρ hx hg.1]) h
      · rename_i hng
        split at h
        · rename_i x t ha ht
          obtain rfl : args = #[x] := by cases args; simp_all
          obtain rfl : argTypes = #[t] := by cases argTypes; simp_all
          simp only [List.all_cons, List.all_nil, Bool.and_true] at hx
          obtain ⟨v', hr, hv⟩ := rLen_sound (ty := o.type) hI h (hρ x hx)
          refine ⟨v', ?_, hv⟩
          have e : Array.map ρ' #[x] = #[ρ' x] := by simp
          simp only [execOp, ho, resolve, Sem.run_bind, Sem.run_pure, Result.andThen_ok, invoke, builtin, e, hr]
        · cases h
    · cases h
  case h_20 => cases h
end
end Go.Gh
