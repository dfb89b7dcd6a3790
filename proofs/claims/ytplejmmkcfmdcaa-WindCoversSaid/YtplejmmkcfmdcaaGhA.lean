/- The relation between a run over a small heap with block numbers of its own and a run in a world. Conditions: none. -/
import Derived.RangeFuncLeaves
import Derived.RangeFuncRecord
import Derived.RecoverIn
import Derived.Below
import Derived.Laws.World
import Derived.Laws.Cells
import Derived.Laws.Append
namespace Go.Gh
open Go.RowKit

/-! ### Places: an own block number leads to a block of the world, a first cell in it, and how many cells from there on are one's own -/
abbrev Phi := Nat → Option (Nat × Nat × Nat)
def le (φ ψ : Phi) : Prop := ∀ b x, φ b = some x → ψ b = some x
theorem le_refl (φ : Phi) : le φ φ := fun _ _ h => h
theorem le_trans {φ ψ χ : Phi} (h : le φ ψ) (k : le ψ χ) : le φ χ := fun b x hb => k b x (h b x hb)

inductive OR {α β : Type} (R : α → β → Prop) : Option α → Option β → Prop
  | none : OR R none none
  | some {a : α} {b : β} (h : R a b) : OR R (some a) (some b)

theorem OR.mono {α β : Type} {R S : α → β → Prop} (hRS : ∀ a b, R a b → S a b) {x : Option α} {y : Option β} (h : OR R x y) : OR S x y := by
  cases h with
  | none => exact .none
  | some h => exact .some (hRS _ _ h)

def plainFn : Fn → Bool
  | .yield _ => false
  | _ => true

def notB : Value → Bool
  | .bool _ => false
  | _ => true

inductive VR (φ : Phi) : Value → Value → Prop
  | bool (b : Bool) : VR φ (.bool b) (.bool b)
  | int (k : IntKind) (n : Int) : VR φ (.int k n) (.int k n)
  | float (k : FloatKind) (n : Nat) : VR φ (.float k n) (.float k n)
  | complex (k : FloatKind) (n m : Nat) : VR φ (.complex k n m) (.complex k n m)
  | string (s : ByteArray) : VR φ (.string s) (.string s)
  | ptrN : VR φ (.pointer none) (.pointer none)
  | ptr {b off B base tot : Nat} (h : φ b = some (B, base, tot)) : VR φ (.pointer (some ⟨b, off, none⟩)) (.pointer (some ⟨B, base + off, none⟩))
  | sliceN : VR φ (.slice none 0 0) (.slice none 0 0)
  | sliceZ {a : Addr} {x : Nat × Nat × Nat} (h : φ a.block = some x) (a' : Addr) (c : Nat) : VR φ (.slice (some a) 0 c) (.slice (some a') 0 0)
  | slice {b off len sz cap' B base tot : Nat} (h : φ b = some (B, base, tot)) (hl : len ≤ cap') (hc : off + cap' * sz ≤ tot) :
      VR φ (.slice (some ⟨b, off, none⟩) len sz) (.slice (some ⟨B, base + off, none⟩) len cap')
  | mapN : VR φ (.map none) (.map none)
  | map {r B tot : Nat} (h : φ r = some (B, 0, tot)) : VR φ (.map (some r)) (.map (some B))
  | fn {g : Fn} {first first' cap cap' : Array Value} (hg : plainFn g = true) (h1 : first.size = first'.size) (h2 : ∀ i, i < first.size → VR φ (first.getD i undef) (first'.getD i undef))
      (h3 : cap.size = cap'.size) (h4 : ∀ i, i < cap.size → VR φ (cap.getD i undef) (cap'.getD i undef)) : VR φ (.func g first cap) (.func g first' cap')
  | yield {l B tot : Nat} (h : φ l = some (B, 0, tot)) : VR φ (.func (.yield l) #[] #[]) (.func (.yield B) #[] #[])
  | nilFunc : VR φ .nilFunc .nilFunc
  | nilIface : VR φ .nilIface .nilIface
  | iface (t : TypeId) {v v' : Value} (h : VR φ v v') : VR φ (.iface t v) (.iface t v')
  | agg {cs cs' : Array Value} (h1 : cs.size = cs'.size) (h2 : ∀ i, i < cs.size → VR φ (cs.getD i undef) (cs'.getD i undef)) : VR φ (.agg cs) (.agg cs')
  | tuple {cs cs' : Array Value} (h1 : cs.size = cs'.size) (h2 : ∀ i, i < cs.size → VR φ (cs.getD i undef) (cs'.getD i undef)) : VR φ (.tuple cs) (.tuple cs')
  | top (v' : Value) (h : notB v' = true) : VR φ (.tuple #[]) v'

theorem VR.mono {φ ψ : Phi} (hle : le φ ψ) {v v' : Value} (h : VR φ v v') : VR ψ v v' := by
  induction h with
  | bool b => exact .bool b
  | int k n => exact .int k n
  | float k n => exact .float k n
  | complex k n m => exact .complex k n m
  | string s => exact .string s
  | ptrN => exact .ptrN
  | ptr h => exact .ptr (hle _ _ h)
  | sliceN => exact .sliceN
  | sliceZ h a' c => exact .sliceZ (hle _ _ h) a' c
  | slice h hl hl' => exact .slice (hle _ _ h) hl hl'
  | mapN => exact .mapN
  | map h => exact .map (hle _ _ h)
  | fn hg h1 _ h3 _ ih2 ih4 => exact .fn hg h1 ih2 h3 ih4
  | yield h => exact .yield (hle _ _ h)
  | nilFunc => exact .nilFunc
  | nilIface => exact .nilIface
  | iface t _ ih => exact .iface t ih
  | agg h1 _ ih => exact .agg h1 ih
  | tuple h1 _ ih => exact .tuple h1 ih
  | top v' h => exact .top v' h

/-- Two rows of values, one by one. -/
def VRs (φ : Phi) (xs ys : Array Value) : Prop := ∀ i : Nat, OR (VR φ) xs[i]? ys[i]?

theorem VRs.size {φ : Phi} {xs ys : Array Value} (h : VRs φ xs ys) : xs.size = ys.size := by
  rcases Nat.lt_trichotomy xs.size ys.size with hlt | he | hgt
  · have h1 := h xs.size
    rw [Array.getElem?_eq_none (Nat.le_refl _), Array.getElem?_eq_getElem hlt] at h1
    cases h1
  · exact he
  · have h1 := h ys.size
    rw [Array.getElem?_eq_none (Nat.le_refl ys.size), Array.getElem?_eq_getElem hgt] at h1
    cases h1

theorem VRs.getD {φ : Phi} {xs ys : Array Value} (h : VRs φ xs ys) (i : Nat) : VR φ (xs.getD i undef) (ys.getD i undef) := by
  have := h i
  rw [Array.getD_eq_getD_getElem?, Array.getD_eq_getD_getElem?]
  generalize xs[i]? = x at this
  generalize ys[i]? = y at this
  cases this with
  | none => exact .tuple rfl (fun i hi => absurd hi (Nat.not_lt_zero _))
  | some h => exact h

theorem VRs.of {φ : Phi} {xs ys : Array Value} (h1 : xs.size = ys.size) (h2 : ∀ i, i < xs.size → VR φ (xs.getD i undef) (ys.getD i undef)) : VRs φ xs ys := by
  intro i
  by_cases hi : i < xs.size
  · have := h2 i hi
    rw [Array.getD_eq_getD_getElem?, Array.getD_eq_getD_getElem?, Array.getElem?_eq_getElem hi, Array.getElem?_eq_getElem (h1 ▸ hi)] at this
    rw [Array.getElem?_eq_getElem hi, Array.getElem?_eq_getElem (h1 ▸ hi)]
    exact .some this
  · rw [Array.getElem?_eq_none (by omega), Array.getElem?_eq_none (by omega)]
    exact .none

theorem VRs.mono {φ ψ : Phi} (hle : le φ ψ) {xs ys : Array Value} (h : VRs φ xs ys) : VRs ψ xs ys := fun i => (h i).mono fun _ _ => VR.mono hle

theorem VRs.agg {φ : Phi} {xs ys : Array Value} (h : VRs φ xs ys) : VR φ (.agg xs) (.agg ys) := .agg h.size (fun i _ => h.getD i)
theorem VRs.tuple {φ : Phi} {xs ys : Array Value} (h : VRs φ xs ys) : VR φ (.tuple xs) (.tuple ys) := .tuple h.size (fun i _ => h.getD i)
theorem VR.agg_inv {φ : Phi} {xs : Array Value} {v' : Value} (h : VR φ (.agg xs) v') : ∃ ys, v' = .agg ys ∧ VRs φ xs ys := by
  cases h with
  | agg h1 h2 => exact ⟨_, rfl, .of h1 h2⟩
theorem VR.tuple_inv {φ : Phi} {xs : Array Value} {v' : Value} (h : VR φ (.tuple xs) v') (hn : xs.toList.isEmpty = false) : ∃ ys, v' = .tuple ys ∧ VRs φ xs ys := by
  cases h with
  | tuple h1 h2 => exact ⟨_, rfl, .of h1 h2⟩
  | top v' h => cases hn
/-- No tuple: what may be laid into memory. -/
def notT : Value → Bool
  | .tuple _ => false
  | _ => true

theorem VR.undef (φ : Phi) : VR φ undef undef := .tuple rfl (fun _ hi => absurd hi (Nat.not_lt_zero _))

theorem VRs.nil (φ : Phi) : VRs φ #[] #[] := fun i => by simp; exact .none
theorem VRs.push {φ : Phi} {xs ys : Array Value} {v v' : Value} (h : VRs φ xs ys) (hv : VR φ v v') : VRs φ (xs.push v) (ys.push v') := by
  intro i
  rw [Array.getElem?_push, Array.getElem?_push, ← h.size]
  split
  · exact .some hv
  · exact h i
theorem VRs.append {φ : Phi} {xs ys us vs : Array Value} (h : VRs φ xs ys) (k : VRs φ us vs) : VRs φ (xs ++ us) (ys ++ vs) := by
  intro i
  rw [Array.getElem?_append, Array.getElem?_append, ← h.size]
  split
  · exact h i
  · exact k _
theorem VRs.set {φ : Phi} {xs ys : Array Value} {v v' : Value} (h : VRs φ xs ys) (hv : VR φ v v') (j : Nat) : VRs φ (xs.setIfInBounds j v) (ys.setIfInBounds j v') := by
  intro i
  rw [Array.getElem?_setIfInBounds, Array.getElem?_setIfInBounds, ← h.size]
  split
  · split
    · exact .some hv
    · exact .none
  · exact h i
theorem VRs.extract {φ : Phi} {xs ys : Array Value} (h : VRs φ xs ys) (a b : Nat) : VRs φ (xs.extract a b) (ys.extract a b) := by
  intro i
  rw [Array.getElem?_extract, Array.getElem?_extract, ← h.size]
  split
  · exact h _
  · exact .none
theorem VRs.replicate (φ : Phi) (n : Nat) {v v' : Value} (h : VR φ v v') : VRs φ (Array.replicate n v) (Array.replicate n v') := by
  intro i
  rw [Array.getElem?_replicate, Array.getElem?_replicate]
  split
  · exact .some h
  · exact .none
theorem VRs.one {φ : Phi} {v v' : Value} (h : VR φ v v') : VRs φ #[v] #[v'] := (VRs.nil φ).push h

theorem VR.cells {φ : Phi} {v v' : Value} (h : VR φ v v') (hn : notT v = true) : VRs φ v.cells v'.cells := by
  cases h with
  | top v' _ => cases hn
  | tuple _ _ => cases hn
  | agg h1 h2 => exact .of h1 h2
  | _ => refine VRs.one ?_; first | (constructor; done) | (constructor <;> assumption)

/-! ### Values without places -/
def g0 : Value → Bool
  | .bool _ | .int _ _ | .float _ _ | .complex _ _ _ | .string _ | .pointer none | .map none | .nilFunc | .nilIface => true
  | .slice none l c => l == 0 && c == 0
  | _ => false
def gA : Value → Bool
  | .agg cs => cs.toList.all g0
  | v => g0 v
def gr : Value → Bool
  | .tuple vs => !vs.toList.isEmpty && vs.toList.all gA
  | .iface _ v => gA v
  | v => gA v

theorem g0_refl {φ : Phi} {v : Value} (h : g0 v = true) : VR φ v v := by
  unfold g0 at h
  split at h <;> first | constructor | skip
  · simp at h; obtain ⟨rfl, rfl⟩ := h; exact .sliceN
  · cases h
theorem g0_eq {φ : Phi} {v v' : Value} (h : g0 v = true) (hv : VR φ v v') : v' = v := by
  cases hv <;> first | rfl | (simp [g0] at h)

theorem gAll {φ : Phi} {p : Value → Bool} (hp : ∀ v, p v = true → VR φ v v) {cs : Array Value} (h : cs.toList.all p = true) : VRs φ cs cs := by
  intro i
  cases hc : cs[i]? with
  | none => exact .none
  | some v =>
    refine .some (hp v ?_)
    rw [List.all_eq_true] at h
    exact h v (by rw [Array.mem_toList_iff]; exact Array.mem_of_getElem? hc)
theorem gAllEq {φ : Phi} {p : Value → Bool} (hp : ∀ v v', p v = true → VR φ v v' → v' = v) {cs cs' : Array Value} (h : cs.toList.all p = true) (hv : VRs φ cs cs') : cs' = cs := by
  apply Array.ext_getElem?
  intro i
  have hi := hv i
  cases hc : cs[i]? with
  | none => rw [hc] at hi; generalize cs'[i]? = y at hi; cases hi; rfl
  | some v =>
    rw [hc] at hi
    generalize cs'[i]? = y at hi
    cases hi with
    | some hv => rw [hp _ _ ?_ hv]; rw [List.all_eq_true] at h; exact h v (by rw [Array.mem_toList_iff]; exact Array.mem_of_getElem? hc)

theorem gA_notT {v : Value} (h : gA v = true) : notT v = true := by
  cases v <;> first | rfl | (simp [gA, g0] at h)
theorem gA_refl {φ : Phi} {v : Value} (h : gA v = true) : VR φ v v := by
  unfold gA at h
  split at h
  · exact (gAll (fun _ => g0_refl) h).agg
  · exact g0_refl h
theorem gA_eq {φ : Phi} {v v' : Value} (h : gA v = true) (hv : VR φ v v') : v' = v := by
  unfold gA at h
  split at h
  · obtain ⟨ys, rfl, hs⟩ := hv.agg_inv
    rw [gAllEq (fun _ _ => g0_eq) h hs]
  · exact g0_eq h hv
theorem gr_refl {φ : Phi} {v : Value} (h : gr v = true) : VR φ v v := by
  unfold gr at h
  split at h
  · rw [Bool.and_eq_true] at h; exact (gAll (fun _ => gA_refl) h.2).tuple
  · exact .iface _ (gA_refl h)
  · exact gA_refl h
theorem gr_eq {φ : Phi} {v v' : Value} (h : gr v = true) (hv : VR φ v v') : v' = v := by
  unfold gr at h
  split at h
  · rw [Bool.and_eq_true] at h
    obtain ⟨ys, rfl, hs⟩ := hv.tuple_inv (by simpa using h.1)
    rw [gAllEq (fun _ _ => gA_eq) h.2 hs]
  · cases hv with
    | iface t hv => rw [gA_eq h hv]
  · exact gA_eq h hv

/-! ### Objects -/
inductive Ob where
  | dead
  | cells (c : Array Value) (ro : Bool)
  | map (es : List (Value × Value))
  | loop (st : LoopState) (pend : Option Code) (tmps : Array Value) (ps : Array Tmp) (assign body : Code) (dfr : Nat)
  | dfr (shut : Bool)
  deriving Inhabited

def Ob.live : Ob → Bool
  | .dead => false
  | _ => true
def Ob.rw : Ob → Bool
  | .dead => false
  | .cells _ ro => !ro
  | _ => true

def ObR (φ : Phi) (w : World) : Ob → Nat → Nat → Nat → Prop
  | .dead, _, _, _ => True
  | .cells c ro, B, base, tot => ∃ C el fr, w.heap[B]? = some (.cells C el fr) ∧ (∀ (i : Nat) (v : Value), c[i]? = some v → ∃ v', C[base + i]? = some v' ∧ VR φ v v') ∧
      (ro = false → c.size ≤ tot ∧ base + tot ≤ C.size ∧ ∀ i : Nat, i < tot → ¬ (fr.1 ≤ base + i ∧ base + i < fr.2))
  | .map es, B, base, _ => base = 0 ∧ ∃ (E : Array MapEntry) (clock : Nat), w.heap[B]? = some (.map E clock) ∧ E.size = es.length ∧ ∀ (i : Nat) (k v : Value), es[i]? = some (k, v) → ∃ en : MapEntry, (E : Array MapEntry)[i]? = some en ∧ en.key = k ∧ VR φ v en.val
  | .loop st pend tmps ps assign body dfr, B, base, _ => base = 0 ∧ ∃ fn tmps' D', w.heap[B]? = some (.loop { state := st, pending := pend, fn, tmps := tmps', params := ps, assign, body, defers := D' }) ∧ VRs φ tmps tmps' ∧ ∃ td, φ dfr = some (D', 0, td)
  | .dfr shut, B, base, _ => base = 0 ∧ w.heap[B]? = some (.deferred (if shut then none else some []))

theorem ObR.keep {φ ψ : Phi} {w w' : World} {ob : Ob} {B base tot : Nat} (h : ObR φ w ob B base tot) (hle : le φ ψ) (hw : w'.heap[B]? = w.heap[B]?) : ObR ψ w' ob B base tot := by
  cases ob with
  | dead => trivial
  | cells c ro =>
    obtain ⟨C, el, fr, h1, h2, h3⟩ := h
    exact ⟨C, el, fr, hw.trans h1, fun i v hv => let ⟨v', hv', r⟩ := h2 i v hv; ⟨v', hv', r.mono hle⟩, h3⟩
  | map es =>
    obtain ⟨h0, E, clock, h1, h2, h3⟩ := h
    exact ⟨h0, E, clock, hw.trans h1, h2, fun i k v hv => let ⟨en, he, hk, r⟩ := h3 i k v hv; ⟨en, he, hk, r.mono hle⟩⟩
  | loop st pend tmps ps assign body dfr =>
    obtain ⟨h0, fn, tmps', D', h1, h2, td, h3⟩ := h
    exact ⟨h0, fn, tmps', D', hw.trans h1, h2.mono hle, td, hle _ _ h3⟩
  | dfr shut =>
    obtain ⟨h0, h1⟩ := h
    exact ⟨h0, hw.trans h1⟩

theorem ObR.lt {φ : Phi} {w : World} {ob : Ob} {B base tot : Nat} (h : ObR φ w ob B base tot) (hl : ob.live = true) : B < w.heap.size := by
  have key : ∀ {o : Obj}, w.heap[B]? = some o → B < w.heap.size := fun h => (Array.getElem?_eq_some_iff.1 h).1
  cases ob with
  | dead => cases hl
  | cells c ro => obtain ⟨C, el, fr, h1, _⟩ := h; exact key h1
  | map es => obtain ⟨_, E, clock, h1, _⟩ := h; exact key h1
  | loop st pend tmps ps assign body dfr => obtain ⟨_, fn, tmps', D', h1, _⟩ := h; exact key h1
  | dfr shut => obtain ⟨_, h1⟩ := h; exact key h1

theorem Ob.live_of_rw {ob : Ob} (h : ob.rw = true) : ob.live = true := by cases ob <;> first | rfl | cases h

/-! ### The whole heap -/
structure Inv (K : Nat → Prop) (w0 : World) (φ : Phi) (H : List Ob) (w : World) : Prop where
  obs : ∀ b ob, H[b]? = some ob → ob.live = true → ∃ B base tot, φ b = some (B, base, tot) ∧ ObR φ w ob B base tot
  sep : ∀ b b' ob ob' x y, b ≠ b' → H[b]? = some ob → H[b']? = some ob' → ob.rw = true → ob'.live = true → φ b = some x → φ b' = some y → x.1 ≠ y.1
  prot : ∀ b ob x, H[b]? = some ob → ob.rw = true → φ b = some x → ¬ K x.1
  keep : ∀ k, K k → w.heap[k]? = w0.heap[k]?
  klt : ∀ k, K k → k < w0.heap.size
  size : w0.heap.size ≤ w.heap.size
  os : w.os = w0.os
  tape : w.tape = w0.tape
  output : w.output = w0.output
  top : ∀ b, H.length ≤ b → φ b = none

def up (φ : Phi) (n : Nat) (x : Nat × Nat × Nat) : Phi := fun b => if b = n then some x else φ b
theorem up_same (φ : Phi) (n : Nat) (x : Nat × Nat × Nat) : up φ n x n = some x := by simp [up]
theorem up_other (φ : Phi) {n b : Nat} (x : Nat × Nat × Nat) (h : b ≠ n) : up φ n x b = φ b := by simp [up, h]
theorem le_up {φ : Phi} {n : Nat} {x : Nat × Nat × Nat} (h : φ n = none) : le φ (up φ n x) := by
  intro b y hb
  by_cases e : b = n
  · subst e; rw [h] at hb; cases hb
  · rw [up_other φ x e]; exact hb

variable {K : Nat → Prop} {w0 w : World} {φ : Phi} {H : List Ob}

theorem Inv.drew (h : Inv K w0 φ H w) : Inv K w0 φ H w.drew := ⟨fun b ob hb hl => let ⟨B, base, tot, h1, h2⟩ := h.obs b ob hb hl; ⟨B, base, tot, h1, h2.keep (le_refl _) rfl⟩, h.sep, h.prot, h.keep, h.klt, h.size, h.os, h.tape, h.output, h.top⟩

/-- A new block. -/
theorem Inv.alloc (h : Inv K w0 φ H w) (ob : Ob) (o : Obj) (tot : Nat)
    (hob : ObR (up φ H.length (w.heap.size, 0, tot)) (w.alloc o) ob w.heap.size 0 tot) : Inv K w0 (up φ H.length (w.heap.size, 0, tot)) (H ++ [ob]) (w.alloc o) := by
  have hnone : φ H.length = none := h.top _ (Nat.le_refl _)
  have hle := le_up (x := (w.heap.size, 0, tot)) hnone
  have hnew : ∀ {b : Nat} {ob' : Ob}, (H ++ [ob])[b]? = some ob' → (b < H.length ∧ H[b]? = some ob') ∨ (b = H.length ∧ ob' = ob) := by
    intro b ob' hb
    rcases Nat.lt_or_ge b H.length with hlt | hge
    · rw [List.getElem?_append_left hlt] at hb; exact .inl ⟨hlt, hb⟩
    · rw [List.getElem?_append_right hge] at hb
      rcases Nat.eq_or_lt_of_le hge with e | hlt
      · subst e; simp at hb; exact .inr ⟨rfl, hb.symm⟩
      · rw [List.getElem?_eq_none (by simp; omega)] at hb; cases hb
  have hold : ∀ {b : Nat} {ob' : Ob} {x : Nat × Nat × Nat}, H[b]? = some ob' → ob'.live = true → φ b = some x → x.1 < w.heap.size := by
    intro b ob' x hb hl hx
    obtain ⟨B, base, tot', h1, h2⟩ := h.obs b ob' hb hl
    rw [h1] at hx; cases hx
    exact h2.lt hl
  refine ⟨?_, ?_, ?_, ?_, h.klt, Nat.le_trans h.size (by simp), h.os, h.tape, h.output, ?_⟩
  · intro b ob' hb hl
    rcases hnew hb with ⟨hlt, hb'⟩ | ⟨rfl, rfl⟩
    · obtain ⟨B, base, tot', h1, h2⟩ := h.obs b ob' hb' hl
      exact ⟨B, base, tot', hle _ _ h1, h2.keep hle (Below.heap_alloc w o B (h2.lt hl))⟩
    · exact ⟨_, _, _, up_same _ _ _, hob⟩
  · intro b b' ob1 ob2 x y hne hb hb' hrw hl hx hy
    rcases hnew hb with ⟨hlt, hb1⟩ | ⟨rfl, rfl⟩
    · rcases hnew hb' with ⟨hlt', hb2⟩ | ⟨rfl, rfl⟩
      · rw [up_other _ _ (by omega)] at hx hy
        exact h.sep b b' ob1 ob2 x y hne hb1 hb2 hrw hl hx hy
      · rw [up_same] at hy; cases hy
        rw [up_other _ _ (by omega)] at hx
        have := hold hb1 (Ob.live_of_rw hrw) hx
        simp only; omega
    · rcases hnew hb' with ⟨hlt', hb2⟩ | ⟨rfl, _⟩
      · rw [up_same] at hx; cases hx
        rw [up_other _ _ (by omega)] at hy
        have := hold hb2 hl hy
        simp only; omega
      · exact absurd rfl hne
  · intro b ob' x hb hrw hx
    rcases hnew hb with ⟨hlt, hb'⟩ | ⟨rfl, rfl⟩
    · rw [up_other _ _ (by omega)] at hx
      exact h.prot b ob' x hb' hrw hx
    · rw [up_same] at hx; cases hx
      intro hk
      have := h.klt _ hk
      have := h.size
      simp only at *; omega
  · intro k hk
    have := h.klt k hk
    have := h.size
    exact (Below.heap_alloc w o k (by omega)).trans (h.keep k hk)
  · intro b hb
    simp at hb
    rw [up_other _ _ (by omega)]
    exact h.top b (by omega)

/-- A block of one's own turns. -/
theorem Inv.write (h : Inv K w0 φ H w) {b : Nat} {ob ob' : Ob} {B base tot : Nat} {w' : World} (hb : H[b]? = some ob) (hrw : ob.rw = true) (hφ : φ b = some (B, base, tot))
    (hw : ∀ k, k ≠ B → w'.heap[k]? = w.heap[k]?) (hsz : w'.heap.size = w.heap.size) (hos : w'.os = w.os) (htape : w'.tape = w.tape) (hout : w'.output = w.output)
    (hob : ObR φ w' ob' B base tot) : Inv K w0 φ (H.set b ob') w' := by
  have hset : ∀ {c : Nat} {o : Ob}, (H.set b ob')[c]? = some o → (c = b ∧ o = ob') ∨ (c ≠ b ∧ H[c]? = some o) := by
    intro c o hc
    rw [List.getElem?_set] at hc
    split at hc
    · rename_i e; subst e
      split at hc
      · simp at hc; exact .inl ⟨rfl, hc.symm⟩
      · cases hc
    · rename_i e; exact .inr ⟨fun h => e h.symm, hc⟩
  refine ⟨?_, ?_, ?_, ?_, h.klt, by rw [hsz]; exact h.size, hos.trans h.os, htape.trans h.tape, hout.trans h.output, by intro c hc; rw [List.length_set] at hc; exact h.top c hc⟩
  · intro c o hc hl
    rcases hset hc with ⟨rfl, rfl⟩ | ⟨hne, hc'⟩
    · exact ⟨B, base, tot, hφ, hob⟩
    · obtain ⟨B', base', tot', h1, h2⟩ := h.obs c o hc' hl
      have hsep := h.sep b c ob o _ _ (Ne.symm hne) hb hc' hrw hl hφ h1
      exact ⟨B', base', tot', h1, h2.keep (le_refl _) (hw B' (fun e => hsep e.symm))⟩
  · intro c c' o o' x y hne hc hc' hrw' hl' hx hy
    rcases hset hc with ⟨rfl, rfl⟩ | ⟨hne1, hc1⟩
    · rcases hset hc' with ⟨rfl, rfl⟩ | ⟨hne2, hc2⟩
      · exact absurd rfl hne
      · exact h.sep c c' ob o' x y hne hb hc2 hrw hl' hx hy
    · rcases hset hc' with ⟨rfl, rfl⟩ | ⟨hne2, hc2⟩
      · exact h.sep c c' o ob x y hne hc1 hb hrw' (Ob.live_of_rw hrw) hx hy
      · exact h.sep c c' o o' x y hne hc1 hc2 hrw' hl' hx hy
  · intro c o x hc hrw' hx
    rcases hset hc with ⟨rfl, rfl⟩ | ⟨_, hc'⟩
    · exact h.prot c ob x hb hrw hx
    · exact h.prot c o x hc' hrw' hx
  · intro k hk
    have hne : k ≠ B := fun e => h.prot b ob _ hb hrw hφ (e ▸ hk)
    exact (hw k hne).trans (h.keep k hk)

/-- What is known of a block may be forgotten. -/
theorem Inv.forget (h : Inv K w0 φ H w) (b : Nat) : Inv K w0 φ (H.set b .dead) w := by
  have hset : ∀ {c : Nat} {o : Ob}, (H.set b .dead)[c]? = some o → o.live = true → c ≠ b ∧ H[c]? = some o := by
    intro c o hc hl
    rw [List.getElem?_set] at hc
    split at hc
    · split at hc
      · simp at hc; subst hc; cases hl
      · cases hc
    · rename_i e; exact ⟨fun h => e h.symm, hc⟩
  refine ⟨fun c o hc hl => h.obs c o (hset hc hl).2 hl, ?_, ?_, h.keep, h.klt, h.size, h.os, h.tape, h.output, by intro c hc; rw [List.length_set] at hc; exact h.top c hc⟩
  · intro c c' o o' x y hne hc hc' hrw hl hx hy
    exact h.sep c c' o o' x y hne (hset hc (Ob.live_of_rw hrw)).2 (hset hc' hl).2 hrw hl hx hy
  · intro c o x hc hrw hx
    exact h.prot c o x (hset hc (Ob.live_of_rw hrw)).2 hrw hx

theorem Inv.below (h : Inv (· < w0.heap.size) w0 φ H w) : Below w0.heap.size w0 w := ⟨h.os, h.tape, h.output, h.size, fun k hk => h.keep k hk⟩

end Go.Gh
