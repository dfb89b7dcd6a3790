/- Operations that write nothing, all of them together: what they give over the small heap carries over to the world. Conditions: none. -/
import Derived.Test.YtplejmmkcfmdcaaGhB
namespace Go.Gh
open Go.RowKit

theorem pureRun_bind {P : Program} {α β : Type} (x : Sem α) (f : α → Sem β) : pureRun P (x >>= f) = (pureRun P x).bind fun a => pureRun P (f a) := by
  show pureRun P (x.bind f) = _
  induction x with
  | pure a => rfl
  | program k ih => simp only [Sem.bind, pureRun, ih]
  | _ => rfl

section
variable {P : Program} {K : Nat → Prop} {w0 w : World} {φ : Phi} {H : List Ob}

/-! ### Slices of slices -/
def bound (v : Option Value) (d : Nat) : Option Nat :=
  match v with
  | none => some d
  | some (.int _ i) => if 0 ≤ i then some i.toNat else none
  | some _ => none

def rSlice (P : Program) (t : TypeId) (lo hi : Option Value) : Value → Option Value
  | .slice (some ⟨b, off, none⟩) len sz =>
    match P.underlying t with
    | some (.slice e) => match sizeB P e, bound lo 0, bound hi len with
      | some n, some l, some h => if l ≤ h ∧ h ≤ len ∧ n = sz then some (.slice (some ⟨b, off + l * n, none⟩) (h - l) sz) else none
      | _, _, _ => none
    | _ => none
  | _ => none

theorem run_sliceBound {v v' : Value} {d n y : Nat} (code : BoundsCode) (h : bound (some v) d = some n) (hv : VR φ v v') (hle : n ≤ y) : (Instr.sliceBound v' y code).run P w = .ok n w := by
  cases hv <;> simp [bound] at h
  obtain ⟨h0, rfl⟩ := h
  simp only [Instr.sliceBound, asIntOf, Sem.run_bind, Sem.run_pure, Result.andThen_ok]
  rw [if_pos ⟨h0, by omega⟩]
  rfl

theorem run_sliceBounds {lo lo' hi hi' : Option Value} {len cap l h : Nat} (hlo : bound lo 0 = some l) (hhi : bound hi len = some h) (hl : OR (VR φ) lo lo') (hh : OR (VR φ) hi hi') (h1 : l ≤ h) (h2 : h ≤ len) (h3 : len ≤ cap) :
    (Instr.sliceBounds true len cap lo' hi' none).run P w = .ok (l, h, cap) w := by
  cases hl with
  | none =>
    simp [bound] at hlo; subst hlo
    cases hh with
    | none => simp [bound] at hhi; subst hhi; rfl
    | some hv =>
      have e := run_sliceBound (w := w) (P := P) BoundsCode.sliceAcap hhi hv (show h ≤ cap by omega)
      unfold Instr.sliceBounds
      simp only [Sem.run_bind, Sem.run_pure, Result.andThen_ok, if_true, e]
  | some hu =>
    have e0 := run_sliceBound (w := w) (P := P) BoundsCode.sliceB hlo hu h1
    cases hh with
    | none =>
      simp [bound] at hhi; subst hhi
      show (Instr.sliceBound _ len BoundsCode.sliceB >>= fun l => pure (l, len, cap)).run P w = _
      simp only [Sem.run_bind, e0, Result.andThen_ok, Sem.run_pure]
    | some hv =>
      have e := run_sliceBound (w := w) (P := P) BoundsCode.sliceAcap hhi hv (show h ≤ cap by omega)
      show (Instr.sliceBound _ cap BoundsCode.sliceAcap >>= fun h => (Instr.sliceBound _ h BoundsCode.sliceB >>= fun l => pure (l, h, cap))).run P w = _
      simp only [Sem.run_bind, e, e0, Result.andThen_ok, Sem.run_pure]

theorem rSlice_sound {t : TypeId} {lo lo' hi hi' : Option Value} {x x' v : Value} (h : rSlice P t lo hi x = some v) (hx : VR φ x x') (hl : OR (VR φ) lo lo') (hh : OR (VR φ) hi hi') :
    ∃ v', (Instr.sliceAt t x' lo' hi' none).run P w = .ok v' w ∧ VR φ v v' := by
  unfold rSlice at h
  split at h
  · rename_i b off len sz
    split at h
    · rename_i e hu
      split at h
      · rename_i n l hh' hn hlo hhi
        split at h
        · rename_i hle
          simp only [Option.some.injEq] at h
          subst h
          cases hx with
          | sliceZ hφ a' c =>
            have hb := run_sliceBounds (P := P) (w := w) hlo hhi hl hh hle.1 hle.2.1 (Nat.zero_le 0)
            have e1 : hh' = 0 := by omega
            subst e1
            have e2 : l = 0 := by omega
            subst e2
            refine ⟨.slice (some a') 0 0, ?_, .sliceZ (a := ⟨b, off + 0 * n, none⟩) hφ _ _⟩
            simp only [Instr.sliceAt, Sem.run_bind, run_underlying hu, Result.andThen_ok, Instr.slice, hb, run_size hn, Sem.run_pure, if_true]
          | @slice _ _ _ _ cap' B base tot hφ hl1 hl2 =>
            have hb := run_sliceBounds (P := P) (w := w) hlo hhi hl hh hle.1 hle.2.1 hl1
            refine ⟨.slice (if cap' = l then some ⟨B, base + off, none⟩ else some ⟨B, base + off + l * n, none⟩) (hh' - l) (cap' - l), ?_, ?_⟩
            · simp only [Instr.sliceAt, Sem.run_bind, run_underlying hu, Result.andThen_ok, Instr.slice, hb, run_size hn, Sem.run_pure, Option.map, add_none]
            · split
              · have e : hh' - l = 0 := by omega
                have e' : cap' - l = 0 := by omega
                rw [e, e']
                exact .sliceZ (a := ⟨b, off + l * n, none⟩) hφ _ _
              · rw [Nat.add_assoc]
                obtain ⟨q1, q2, rfl⟩ := hle
                refine .slice hφ (by omega) ?_
                have : l * n + (cap' - l) * n = cap' * n := by rw [← Nat.add_mul]; congr 1; omega
                omega
        · cases h
      · cases h
    · cases h
  · cases h

/-! ### Bytes to a string -/
def bytesTail (arr : Array Value) : Sem Value := do
  let mut s := ByteArray.empty
  for c in arr do
    let .int .u8 n := c | stuck "bytesToString: byte expected"
    s := s.push (UInt8.ofNat n.toNat)
  pure (.string s)

theorem bytesToString_eq (a : Addr) (len cap : Nat) : Conv.bytesToString (.slice (some a) len cap) = (loadCells a len >>= bytesTail) := rfl

def rBytes (P : Program) (H : List Ob) (src dst : TypeId) : Value → Option Value
  | .slice (some ⟨b, off, none⟩) len _ =>
    match P.underlying src, P.underlying dst, H[b]? with
    | some (.slice e), some .string, some (.cells c _) =>
      match P.underlying e with
      | some (.int .u8) =>
        if off + len ≤ c.size ∧ (c.extract off (off + len)).toList.all g0 = true then
          match pureRun P (bytesTail (c.extract off (off + len))) with
          | some v => if gr v then some v else none
          | none => none
        else none
      | _ => none
    | _, _, _ => none
  | _ => none

theorem rBytes_sound (hI : Inv K w0 φ H w) {src dst : TypeId} {x x' v : Value} (h : rBytes P H src dst x = some v) (hx : VR φ x x') (hlen : ∀ a c, x ≠ .slice (some a) 0 c) :
    ∃ v', (convert src dst x').run P w = .ok v' w ∧ VR φ v v' := by
  unfold rBytes at h
  split at h
  · rename_i b off len cap
    split at h
    · rename_i e c ro hs hd hc
      split at h
      · rename_i he
        split at h
        · rename_i hle
          split at h
          · rename_i v0 hv0
            split at h
            · rename_i hg
              simp only [Option.some.injEq] at h
              subst h
              refine ⟨v0, ?_, gr_refl hg⟩
              cases hx with
              | sliceZ hφ a' c => exact absurd rfl (hlen _ _)
              | @slice _ _ _ _ cap' B base tot hφ hl1 hl2 =>
                obtain ⟨B', base', tot', h1, C, el, fr, h2, h3, _⟩ := hI.obs b _ hc rfl
                rw [hφ] at h1; cases h1
                have hcell : ∀ j, j < len → w.cell? ((⟨B, base + off, none⟩ : Addr).add j) = some (c.getD (off + j) undef) := by
                  intro j hj
                  rw [add_none, cell_at h2]
                  obtain ⟨v', hv', r⟩ := h3 (off + j) c[off + j] (Array.getElem?_eq_getElem (by omega))
                  rw [← Nat.add_assoc] at hv'
                  rw [hv', Array.getD_eq_getD_getElem?, Array.getElem?_eq_getElem (show off + j < c.size by omega)]
                  have hall := hle.2
                  rw [List.all_eq_true] at hall
                  have := hall c[off + j] (by
                    rw [Array.mem_toList_iff]
                    refine Array.mem_of_getElem? (i := j) ?_
                    rw [Array.getElem?_extract, if_pos (by omega), Array.getElem?_eq_getElem (by omega)])
                  rw [g0_eq this r]; rfl
                have earr : ((List.range len).map fun j => c.getD (off + j) undef).toArray = c.extract off (off + len) := by
                  apply Array.ext_getElem?
                  intro i
                  have e : ∀ l : List Value, l.toArray[i]? = l[i]? := fun l => by simp
                  rw [e, List.getElem?_map, Array.getElem?_extract]
                  by_cases hi : i < len
                  · rw [List.getElem?_range hi, if_pos (by omega)]
                    simp only [Option.map_some, Array.getD_eq_getD_getElem?, Array.getElem?_eq_getElem (show off + i < c.size by omega), Option.getD_some]
                  · rw [List.getElem?_eq_none (by simp; omega), if_neg (by omega)]; rfl
                have hrun := run_loadCells (P := P) w ⟨B, base + off, none⟩ len _ hcell
                rw [earr] at hrun
                simp only [convert, Sem.run_bind, run_underlying hs, run_underlying hd, Result.andThen_ok, run_underlying he, bytesToString_eq, hrun, pureRun_run hv0]
            · cases h
          · cases h
        · cases h
      · cases h
    · cases h
  · cases h

/-! ### Maps -/
def aFind (P : Program) (kt : TypeId) (k : Value) : List Value → Nat → Option (Option Nat)
  | [], _ => some none
  | key :: r, i =>
    match pureRun P (Op.equal kt k key) with
    | some true => some (some i)
    | some false => aFind P kt k r (i + 1)
    | none => none

theorem pure_underlying {kt : TypeId} {kind : TypeDesc} (hk : P.underlying kt = some kind) : pureRun P (underlying kt) = some kind := by
  simp only [underlying, pureRun_bind]
  show (Option.bind (some P) fun p => _) = _
  simp only [Option.bind_some, hk]; rfl
theorem equalIn_int (d : Nat) {kt : TypeId} {q : IntKind} (hk : P.underlying kt = some (.int q)) (k : IntKind) (a b : Int) : pureRun P (Op.equalIn (d + 1) kt (.int k a) (.int k b)) = some (a == b) := by
  simp only [Op.equalIn, pureRun_bind, pure_underlying hk, Option.bind_some, if_true]; rfl
theorem equalIn_string (d : Nat) {kt : TypeId} (hk : P.underlying kt = some .string) (a b : ByteArray) : pureRun P (Op.equalIn (d + 1) kt (.string a) (.string b)) = some (a == b) := by
  simp only [Op.equalIn, pureRun_bind, pure_underlying hk, Option.bind_some]; rfl
theorem equalIn_bool (d : Nat) {kt : TypeId} (hk : P.underlying kt = some .bool) (a b : Bool) : pureRun P (Op.equalIn (d + 1) kt (.bool a) (.bool b)) = some (a == b) := by
  simp only [Op.equalIn, pureRun_bind, pure_underlying hk, Option.bind_some]; rfl

theorem sameNow_eq {kt : TypeId} {kind : TypeDesc} (hk : P.underlying kt = some kind) {k key : Value} {b : Bool} (h : Instr.sameNow kind k key = some b) : pureRun P (Op.equal kt k key) = some b := by
  unfold Instr.sameNow at h
  split at h
  · split at h
    · rename_i e
      simp only [Option.some.injEq] at h; subst h; subst e
      exact equalIn_int 9999 hk _ _ _
    · cases h
  · simp only [Option.some.injEq] at h; subst h
    exact equalIn_string 9999 hk _ _
  · simp only [Option.some.injEq] at h; subst h
    exact equalIn_bool 9999 hk _ _
  · cases h

theorem findNow_eq {kt : TypeId} {kind : TypeDesc} (hk : P.underlying kt = some kind) (k : Value) : ∀ (es : List MapEntry) (i : Nat) (r : Option (Nat × Value)) (q : Option Nat), Instr.findNow kind k es i = some r →
    aFind P kt k (es.map (·.key)) i = some q → r = q.map fun j => (j, ((es[j - i]?).map (·.val)).getD undef)
  | [], i, r, q, h1, h2 => by
    simp only [Instr.findNow, Option.some.injEq, List.map_nil, aFind] at h1 h2
    subst h1; subst h2; rfl
  | e :: es, i, r, q, h1, h2 => by
    simp only [Instr.findNow] at h1
    simp only [List.map_cons, aFind] at h2
    split at h1
    · rename_i hs
      rw [sameNow_eq hk hs] at h2
      simp only [Option.some.injEq] at h1 h2
      subst h1; subst h2
      simp
    · rename_i hs
      rw [sameNow_eq hk hs] at h2
      simp only at h2
      have ih := findNow_eq hk k es (i + 1) r q h1 h2
      rw [ih]
      cases q with
      | none => rfl
      | some j =>
        have hj : i + 1 ≤ j := aFind_ge k _ _ _ h2
        simp only [Option.map_some, Option.some.injEq, Prod.mk.injEq, true_and]
        rw [show j - i = (j - (i + 1)) + 1 by omega, List.getElem?_cons_succ]
    · cases h1
where
  aFind_ge (k : Value) : ∀ (l : List Value) (i j : Nat), aFind P kt k l i = some (some j) → i ≤ j
  | [], i, j, h => by simp [aFind] at h
  | key :: r, i, j, h => by
    simp only [aFind] at h
    split at h
    · simp only [Option.some.injEq] at h; omega
    · have := aFind_ge k r (i + 1) j h; omega
    · cases h

theorem findAsking_run {kt : TypeId} (k : Value) (w : World) : ∀ (es : List MapEntry) (i : Nat) (q : Option Nat), aFind P kt k (es.map (·.key)) i = some q →
    (Instr.findAsking kt k es i).run P w = .ok (q.map fun j => (j, ((es[j - i]?).map (·.val)).getD undef)) w
  | [], i, q, h => by
    simp only [List.map_nil, aFind, Option.some.injEq] at h
    subst h; rfl
  | e :: es, i, q, h => by
    simp only [List.map_cons, aFind] at h
    simp only [Instr.findAsking, Sem.run_bind]
    split at h
    · rename_i hs
      simp only [Option.some.injEq] at h
      subst h
      simp only [pureRun_run hs, Result.andThen_ok, if_true, Sem.run_pure]
      simp
    · rename_i hs
      simp only [pureRun_run hs, Result.andThen_ok, Bool.false_eq_true, if_false]
      rw [findAsking_run k w es (i + 1) q h]
      cases q with
      | none => rfl
      | some j =>
        have hj : i + 1 ≤ j := findNow_eq.aFind_ge k _ _ _ h
        simp only [Option.map_some, Result.ok.injEq, Option.some.injEq, Prod.mk.injEq, true_and, and_true]
        rw [show j - i = (j - (i + 1)) + 1 by omega, List.getElem?_cons_succ]
    · cases h

theorem findKey_run {kt : TypeId} {k : Value} {es : List MapEntry} {q : Option Nat} (w : World) (hk : (P.underlying kt).isSome = true) (h : aFind P kt k (es.map (·.key)) 0 = some q) :
    (Instr.findKey kt k es).run P w = .ok (q.map fun j => (j, ((es[j]?).map (·.val)).getD undef)) w := by
  obtain ⟨kind, hu⟩ := Option.isSome_iff_exists.1 hk
  simp only [Instr.findKey, Sem.run_bind, run_underlying hu, Result.andThen_ok]
  cases hf : Instr.findNow kind k es 0 with
  | some r => simp only [Sem.run_pure]; rw [findNow_eq hu k es 0 r q hf h]; rfl
  | none => simp only; exact findAsking_run k w es 0 q h

def rLookup (P : Program) (H : List Ob) (t : TypeId) (ok : Bool) (k : Value) : Value → Option Value
  | .map (some r) =>
    match P.underlying t, H[r]? with
    | some (.map kt et), some (.map es) =>
      if gr k = true ∧ pureRun P (Instr.checkKey es.isEmpty 10000 kt k) = some () ∧ (P.underlying kt).isSome = true then
        match aFind P kt k (es.map (·.1)) 0 with
        | some (some j) => match es[j]? with
          | some (_, v) => some (if ok then .tuple #[v, .bool true] else v)
          | none => none
        | some none => match zeroB P et with
          | some z => some (if ok then .tuple #[z, .bool false] else z)
          | none => none
        | none => none
      else none
    | _, _ => none
  | _ => none

theorem keys_eq {es : List (Value × Value)} {E : Array MapEntry} (hs : E.size = es.length) (h : ∀ (i : Nat) (k v : Value), es[i]? = some (k, v) → ∃ en : MapEntry, E[i]? = some en ∧ en.key = k ∧ VR φ v en.val) :
    E.toList.map (·.key) = es.map (·.1) := by
  apply List.ext_getElem?
  intro i
  rw [List.getElem?_map, List.getElem?_map, Array.getElem?_toList]
  cases he : es[i]? with
  | none =>
    rw [List.getElem?_eq_none_iff] at he
    rw [Array.getElem?_eq_none (by omega)]
    rfl
  | some kv =>
    obtain ⟨k, v⟩ := kv
    obtain ⟨en, h1, h2, _⟩ := h i k v he
    rw [h1]; simp [h2]

theorem rLookup_sound (hI : Inv K w0 φ H w) {t : TypeId} {ok : Bool} {k k' x x' v : Value} (h : rLookup P H t ok k x = some v) (hx : VR φ x x') (hkk : VR φ k k') :
    ∃ v', (Instr.lookup t x' k' ok).run P w = .ok v' w ∧ VR φ v v' := by
  unfold rLookup at h
  split at h
  · rename_i r
    cases hx with
    | @map _ B tot hφ =>
      split at h
      · rename_i kt et es hu hr
        split at h
        · rename_i hc
          obtain ⟨hg, hck, hks⟩ := hc
          obtain rfl := gr_eq hg hkk
          obtain ⟨B', base', tot', h1, h0, E, clock, h2, h3, h4⟩ := hI.obs r _ hr rfl
          rw [hφ] at h1; cases h1
          have hget : (getObj B).run P w = .ok (.map E clock) w := by simp [getObj, Sem.run, h2]
          have hemp : E.isEmpty = es.isEmpty := by
            rw [Bool.eq_iff_iff, Array.isEmpty_iff_size_eq_zero, h3, List.isEmpty_iff, List.length_eq_zero_iff]
          have hkeys := keys_eq h3 h4
          split at h
          · rename_i j hj
            rw [← hkeys] at hj
            have hf := findKey_run w hks hj
            split at h
            · rename_i k0 v0 hv0
              simp only [Option.some.injEq] at h
              subst h
              obtain ⟨en, he1, _, he3⟩ := h4 j k0 v0 hv0
              refine ⟨if ok then .tuple #[en.val, .bool true] else en.val, ?_, ?_⟩
              · simp only [Instr.lookup, Sem.run_bind, run_underlying hu, Result.andThen_ok, hget, Sem.run_pure, hemp, pureRun_run hck, hf, Option.map_some, Array.getElem?_toList, he1, Option.getD_some]
              · cases ok
                · exact he3
                · exact ((VRs.one he3).push (.bool true)).tuple
            · cases h
          · rename_i hj
            rw [← hkeys] at hj
            have hf := findKey_run w hks hj
            split at h
            · rename_i z hz
              simp only [Option.some.injEq] at h
              subst h
              obtain ⟨hz1, hz2⟩ := run_zero hz w
              refine ⟨if ok then .tuple #[z, .bool false] else z, ?_, ?_⟩
              · simp only [Instr.lookup, Sem.run_bind, run_underlying hu, Result.andThen_ok, hget, Sem.run_pure, hemp, pureRun_run hck, hf, Option.map_none, hz1]
              · cases ok
                · exact gA_refl hz2
                · exact ((VRs.one (gA_refl hz2)).push (.bool false)).tuple
            · cases h
          · cases h
        · cases h
      · cases h
  · cases h
end
end Go.Gh
