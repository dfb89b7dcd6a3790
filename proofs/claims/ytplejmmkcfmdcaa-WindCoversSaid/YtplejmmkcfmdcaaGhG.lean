/- append, and every operation that makes or turns memory: over the small heap and in the world. Conditions: none. -/
import Derived.Test.YtplejmmkcfmdcaaGhF
namespace Go.Gh
open Go.RowKit

def intB : TypeDesc → Bool
  | .int _ => true
  | _ => false

def lenB : Value → Option Nat
  | .slice _ n _ => some n
  | .string s => some s.size
  | _ => none

def newB (H : List Ob) (size n : Nat) : Value → Option (Array Value)
  | .slice (some ⟨b, off, none⟩) _ _ =>
    match H[b]? with
    | some (.cells c _) => if off + n * size ≤ c.size then some (c.extract off (off + n * size)) else none
    | _ => none
  | .string s => some (strBytes (s.extract 0 n))
  | _ => none

def lAppend (P : Program) (h : Hp) (ts tx : TypeId) (s x : Value) : Option (Value × Hp) :=
  match P.underlying ts, P.underlying tx with
  | some (.slice e), some d =>
    if intB d = true then none else
    match P.info? e, zeroB P e with
    | some inf, some z =>
      match s, lenB x with
      | .slice base sl sz, some n =>
        if n = 0 then some (.slice base sl sz, h) else
        match newB h.bl inf.size n x with
        | some news =>
          if (sl + n) * inf.bytes ≤ 140737488355328 ∧ sl + n ≤ 4611686018427387904 ∧ news.size = n * inf.size ∧ news.toList.all (·.oneCell') = true ∧ z.cells.size = inf.size then
            match base with
            | none => if sl = 0 then some (.slice (some ⟨h.bl.length, 0, none⟩) n inf.size, h.push (.cells news false)) else none
            | some ⟨b, off, none⟩ =>
              match h.bl[b]? with
              | some (.cells c false) =>
                if (sz = inf.size ∧ off + sl * inf.size ≤ c.size) ∧ off + sl * inf.size ≤ c.size then
                  some (.slice (some ⟨h.bl.length, 0, none⟩) (sl + n) inf.size, (h.put b .dead).push (.cells (c.extract off (off + sl * inf.size) ++ news) false))
                else none
              | _ => none
            | _ => none
          else none
        | none => none
      | _, _ => none
    | _, _ => none
  | _, _ => none

section
variable {P : Program} {K : Nat → Prop} {w0 w : World} {φ : Phi} {H : List Ob}

theorem run_append_fits {ts tx ty e : TypeId} {d : TypeDesc} {inf : TypeInfo} {base : Option Addr} {sl cap n : Nat} {x : Value} {news : Array Value} (hs : P.underlying ts = some (.slice e)) (hx : P.underlying tx = some d) (hd : intB d = false) (hi : P.info? e = some inf)
    (hlen : (Builtin.lenOf x).run P w = .ok n w) (hnew : (Builtin.firstCells inf.size n x).run P w = .ok news w) (hfit : sl + n ≤ cap) :
    (Builtin.append_ #[ts, tx] ty #[.slice base sl cap, x]).run P w =
      ((match base with | some a => storeCells (a.add (sl * inf.size)) news.toList | none => pure () : Sem Unit).run P w).andThen fun _ w' => .ok (.slice base (sl + n) cap) w' := by
  have hsz : (sizeOf e).run P w = .ok inf.size w := run_size (by simp [sizeB, hi]) w
  cases d <;> first | cases hd | skip
  all_goals
    simp only [Builtin.append_, List.getElem?_toArray, List.getElem?_cons_zero, List.getElem?_cons_succ, Sem.run_bind, run_underlying hs, run_underlying hx, Result.andThen_ok, hsz, Sem.run_pure, Bool.false_eq_true, if_false, hlen, if_pos hfit, Bool.not_false, if_true, hnew]
    cases base <;> simp only [Sem.run_bind, Sem.run_pure, Result.andThen_ok]

theorem run_append_grows {ts tx ty e : TypeId} {d : TypeDesc} {inf : TypeInfo} {z : Value} {base : Option Addr} {sl cap n : Nat} {x : Value} {news old : Array Value} (hs : P.underlying ts = some (.slice e)) (hx : P.underlying tx = some d) (hd : intB d = false) (hi : P.info? e = some inf)
    (hz : ∀ w : World, (zeroValue e).run P w = .ok z w) (hlen : (Builtin.lenOf x).run P w = .ok n w) (hnew : (Builtin.firstCells inf.size n x).run P w.drew = .ok news w.drew) (hold : (Builtin.firstCells inf.size sl (.slice base sl cap)).run P w.drew = .ok old w.drew)
    (hfit : cap < sl + n) (hb : (sl + n) * inf.bytes ≤ 140737488355328) (hsm : sl + n ≤ 4611686018427387904) :
    ∃ newCap, sl + n ≤ newCap ∧ (Builtin.append_ #[ts, tx] ty #[.slice base sl cap, x]).run P w =
      .ok (.slice (some ⟨w.heap.size, 0, none⟩) (sl + n) newCap) (w.drew.alloc (.cells (old ++ news ++ Builtin.zeroCells z.cells (newCap - (sl + n))) e)) := by
  have hsz : ∀ w : World, (sizeOf e).run P w = .ok inf.size w := run_size (by simp [sizeB, hi])
  have hti : ∀ w : World, (typeInfo e).run P w = .ok inf w := fun w => by simp [typeInfo, hi]
  have hg := Builtin_growslice hfit hb
  refine ⟨_, cut_ge (sl + n) cap e (w.tape w.drawn (.appendCap (sl + n) cap e)), ?_⟩
  have hmax : ¬ (((sl + n : Nat) : Int) > IntKind.i64.max ∧ (False ∨ inf.bytes = 0)) := by
    rintro ⟨h1, _⟩
    have : (IntKind.i64.max : Int) = 9223372036854775807 := by decide
    omega
  cases d <;> first | cases hd | skip
  all_goals
    simp only [Builtin.append_, List.getElem?_toArray, List.getElem?_cons_zero, List.getElem?_cons_succ, Sem.run_bind, run_underlying hs, run_underlying hx, Result.andThen_ok, hsz, Sem.run_pure, Bool.false_eq_true, if_false, hlen, if_neg (show ¬ sl + n ≤ cap by omega), Bool.not_false, if_true, hti, if_neg hmax, if_neg hg,
      run_choose, Question.forced, run_askRoom, newRow, run_newObj]
    rw [show ({ w with drawn := w.drawn + 1 } : World) = w.drew from rfl]
    simp only [hold, Result.andThen_ok, hnew, hz]
    rfl
where
  Builtin_growslice {sl n cap : Nat} {bytes : Nat} (h : cap < sl + n) (hb : (sl + n) * bytes ≤ 140737488355328) : ¬ Builtin.nextslicecap (sl + n) cap * bytes > 2 ^ 48 := by
    have := growslice_fits h hb
    omega
  cut_ge (need old : Nat) (e : TypeId) (t : Nat) : need ≤ Question.cut (.appendCap need old e) t := by
    simp only [Question.cut]; exact Nat.le_add_right _ _

/-- A block of one's own goes over into a new number. -/
theorem Inv.move (h : Inv K w0 φ H w) {b : Nat} {ob ob' : Ob} {B base tot base' tot' : Nat} {w' : World} (hb : H[b]? = some ob) (hrw : ob.rw = true) (hφ : φ b = some (B, base, tot))
    (hw : ∀ k, k ≠ B → w'.heap[k]? = w.heap[k]?) (hsz : w'.heap.size = w.heap.size) (hos : w'.os = w.os) (htape : w'.tape = w.tape) (hout : w'.output = w.output)
    (hob : ObR (up φ H.length (B, base', tot')) w' ob' B base' tot') : Inv K w0 (up φ H.length (B, base', tot')) (H.set b .dead ++ [ob']) w' := by
  have hnone : φ H.length = none := h.top _ (Nat.le_refl _)
  have hle := le_up (x := (B, base', tot')) hnone
  have hnew : ∀ {c : Nat} {o : Ob}, (H.set b .dead ++ [ob'])[c]? = some o → o.live = true → (c < H.length ∧ c ≠ b ∧ H[c]? = some o) ∨ (c = H.length ∧ o = ob') := by
    intro c o hc hl
    rcases Nat.lt_or_ge c H.length with hlt | hge
    · rw [List.getElem?_append_left (by rw [List.length_set]; exact hlt), List.getElem?_set] at hc
      split at hc
      · split at hc
        · simp at hc; subst hc; cases hl
        · cases hc
      · rename_i e; exact .inl ⟨hlt, fun h => e h.symm, hc⟩
    · rw [List.getElem?_append_right (by rw [List.length_set]; exact hge), List.length_set] at hc
      rcases Nat.eq_or_lt_of_le hge with e | hlt
      · subst e; simp at hc; exact .inr ⟨rfl, hc.symm⟩
      · rw [List.getElem?_eq_none (by simp; omega)] at hc; cases hc
  have hne : ∀ {c : Nat} {o : Ob} {x : Nat × Nat × Nat}, c ≠ b → H[c]? = some o → o.live = true → φ c = some x → x.1 ≠ B :=
    fun hcb hc hl hx => (h.sep b _ ob _ _ _ (Ne.symm hcb) hb hc hrw hl hφ hx).symm
  refine ⟨?_, ?_, ?_, ?_, h.klt, by rw [hsz]; exact h.size, hos.trans h.os, htape.trans h.tape, hout.trans h.output, ?_⟩
  · intro c o hc hl
    rcases hnew hc hl with ⟨hlt, hcb, hc'⟩ | ⟨rfl, rfl⟩
    · obtain ⟨B', base1, tot1, h1, h2⟩ := h.obs c o hc' hl
      exact ⟨B', base1, tot1, hle _ _ h1, h2.keep hle (hw B' (hne hcb hc' hl h1))⟩
    · exact ⟨_, _, _, up_same _ _ _, hob⟩
  · intro c c' o o' x y hcc hc hc' hrw' hl' hx hy
    rcases hnew hc (Ob.live_of_rw hrw') with ⟨hlt, hcb, hc1⟩ | ⟨rfl, rfl⟩
    · rcases hnew hc' hl' with ⟨hlt', hcb', hc1'⟩ | ⟨rfl, rfl⟩
      · rw [up_other _ _ (by omega)] at hx hy
        exact h.sep c c' o o' x y hcc hc1 hc1' hrw' hl' hx hy
      · rw [up_same] at hy; cases hy
        rw [up_other _ _ (by omega)] at hx
        exact hne hcb hc1 (Ob.live_of_rw hrw') hx
    · rcases hnew hc' hl' with ⟨hlt', hcb', hc1'⟩ | ⟨rfl, _⟩
      · rw [up_same] at hx; cases hx
        rw [up_other _ _ (by omega)] at hy
        exact (hne hcb' hc1' hl' hy).symm
      · exact absurd rfl hcc
  · intro c o x hc hrw' hx
    rcases hnew hc (Ob.live_of_rw hrw') with ⟨hlt, hcb, hc1⟩ | ⟨rfl, rfl⟩
    · rw [up_other _ _ (by omega)] at hx
      exact h.prot c o x hc1 hrw' hx
    · rw [up_same] at hx; cases hx
      exact (h.prot b ob (B, base, tot) hb hrw hφ : ¬ K B)
  · intro k hk
    have hkB : k ≠ B := fun e => h.prot b ob _ hb hrw hφ (e ▸ hk)
    exact (hw k hkB).trans (h.keep k hk)
  · intro c hc
    simp at hc
    rw [up_other _ _ (by omega)]
    exact h.top c (by omega)

theorem lenB_run {x x' : Value} {n : Nat} (h : lenB x = some n) (hx : VR φ x x') : (Builtin.lenOf x').run P w = .ok n w := by
  unfold lenB at h
  split at h
  · simp only [Option.some.injEq] at h; subst h
    cases hx <;> rfl
  · simp only [Option.some.injEq] at h; subst h
    cases hx; rfl
  · cases h

theorem firstNone {x x' : Value} (size : Nat) (hn : lenB x = some 0) (hx : VR φ x x') : (Builtin.firstCells size 0 x').run P w = .ok #[] w := by
  cases hx <;> first | cases hn | skip
  · simp only [Builtin.firstCells, Sem.run_pure]
    congr 1
    apply Array.ext_getElem?
    intro i
    simp
  · rfl
  · simp only [Builtin.firstCells, Nat.zero_mul]; rfl
  · simp only [Builtin.firstCells, Nat.zero_mul]; rfl

theorem newB_sound (hI : Inv K w0 φ H w) {x x' : Value} {size n : Nat} {news : Array Value} (h : newB H size n x = some news) (hn : lenB x = some n) (h0 : n ≠ 0) (hx : VR φ x x') :
    ∃ news', (Builtin.firstCells size n x').run P w = .ok news' w ∧ VRs φ news news' := by
  unfold newB at h
  split at h
  · rename_i b off m sz
    simp only [lenB, Option.some.injEq] at hn
    subst hn
    split at h
    · rename_i c ro hc
      split at h
      · rename_i hle
        simp only [Option.some.injEq] at h; subst h
        cases hx with
        | sliceZ => exact absurd rfl h0
        | slice hφ _ _ => exact loadRow_sound hI hc hφ hle
      · cases h
    · cases h
  · rename_i s
    simp only [Option.some.injEq] at h; subst h
    cases hx
    exact ⟨strBytes (s.extract 0 n), rfl, gBytes _⟩
  · cases h

theorem zeroCells_size (z : Array Value) (n : Nat) : (Builtin.zeroCells z n).size = n * z.size := by simp [Builtin.zeroCells]

theorem lAppend_sound {h h' : Hp} (hI : Inv K w0 φ h.bl w) {ts tx ty : TypeId} {s s' x x' v : Value} (hl : lAppend P h ts tx s x = some (v, h')) (hs : VR φ s s') (hx : VR φ x x') :
    Loud P K w0 φ w (Builtin.append_ #[ts, tx] ty #[s', x']) v h'.bl := by
  unfold lAppend at hl
  split at hl
  case h_2 => cases hl
  rename_i e d hus hux
  split at hl
  · cases hl
  rename_i hd
  have hd' : intB d = false := by cases hdd : intB d <;> simp_all
  split at hl
  case h_2 => cases hl
  rename_i inf z hi hz
  have hzr := run_zero hz
  split at hl
  case h_2 => cases hl
  rename_i base sl sz n hn
  have hlen : ∀ w : World, (Builtin.lenOf x').run P w = .ok n w := fun w => lenB_run hn hx
  by_cases h0 : n = 0
  · subst h0
    rw [if_pos rfl] at hl
    simp only [Option.some.injEq, Prod.mk.injEq] at hl
    obtain ⟨rfl, rfl⟩ := hl
    have key : ∀ (base' : Option Addr) (cap' : Nat), sl ≤ cap' → (Builtin.append_ #[ts, tx] ty #[.slice base' sl cap', x']).run P w = .ok (.slice base' sl cap') w := by
      intro base' cap' hc
      rw [run_append_fits hus hux hd' hi (hlen w) (firstNone inf.size hn hx) (by omega)]
      cases base' <;> rfl
    cases hs with
    | sliceN => exact ⟨φ, _, w, key _ _ (Nat.le_refl _), le_refl φ, .sliceN, hI⟩
    | sliceZ hφ a' c => exact ⟨φ, _, w, key _ _ (Nat.le_refl _), le_refl φ, .sliceZ hφ _ _, hI⟩
    | slice hφ hl1 hc => exact ⟨φ, _, w, key _ _ hl1, le_refl φ, .slice hφ hl1 hc, hI⟩
  · rw [if_neg h0] at hl
    split at hl
    case h_2 => cases hl
    rename_i news hnew
    split at hl
    case isFalse => cases hl
    rename_i hcond
    obtain ⟨hb, hsm, hns, h1c, hzs⟩ := hcond
    split at hl
    · -- nil
      split at hl
      case isFalse => cases hl
      rename_i hsl
      subst hsl
      simp only [Option.some.injEq, Prod.mk.injEq] at hl
      obtain ⟨rfl, rfl⟩ := hl
      cases hs
      obtain ⟨news', hnr, hnv⟩ := newB_sound (P := P) hI.drew hnew hn h0 hx
      obtain ⟨newCap, hge, hrun⟩ := run_append_grows (P := P) (w := w) (ty := ty) hus hux hd' hi (fun w => (hzr w).1) (hlen w) hnr (old := #[]) (base := none) (sl := 0) (cap := 0) (by rfl) (by omega) hb hsm
      have hnsz := hnv.size
      refine ⟨_, _, _, hrun, hI.le_new (w.heap.size, 0, newCap * inf.size), ?_, ?_⟩
      · rw [Nat.zero_add]
        refine .slice (up_same _ _ _) (by omega) (by omega)
      · have hmul : n * inf.size ≤ newCap * inf.size := Nat.mul_le_mul_right _ (by omega)
        refine hI.drew.cells (newCap * inf.size) (fun i v hv => ?_) (by omega) ?_
        · obtain ⟨v', q1, q2⟩ := vrs_some hnv hv
          refine ⟨v', ?_, q2⟩
          rw [Array.getElem?_append_left (by rw [Array.size_append]; rw [Array.getElem?_eq_some_iff] at hv; have := hv.1; simp; omega)]
          simpa using q1
        · rw [Array.size_append, Array.size_append, zeroCells_size, hzs, ← hnsz, hns]
          have : n * inf.size + (newCap - n) * inf.size = newCap * inf.size := by rw [← Nat.add_mul]; congr 1; omega
          simp; omega
    · rename_i b off
      split at hl
      case h_2 => cases hl
      rename_i c hc
      split at hl
      case isFalse => cases hl
      rename_i hcond2
      obtain ⟨⟨hsz, hoff⟩, _⟩ := hcond2
      subst hsz
      simp only [Option.some.injEq, Prod.mk.injEq] at hl
      obtain ⟨rfl, rfl⟩ := hl
      have hlen' : (h.put b .dead).bl.length = h.bl.length := by simp [Hp.put]
      -- the block that grows is laid anew
      have grows : ∀ (base' : Option Addr) (cap' : Nat) (old' : Array Value), cap' < sl + n → (Builtin.firstCells inf.size sl (.slice base' sl cap')).run P w.drew = .ok old' w.drew → VRs φ (c.extract off (off + sl * inf.size)) old' →
          Loud P K w0 φ w (Builtin.append_ #[ts, tx] ty #[.slice base' sl cap', x']) (.slice (some ⟨h.bl.length, 0, none⟩) (sl + n) inf.size) ((h.put b .dead).push (.cells (c.extract off (off + sl * inf.size) ++ news) false)).bl := by
        intro base' cap' old' hlt hold hov
        obtain ⟨news', hnr, hnv⟩ := newB_sound (P := P) hI.drew hnew hn h0 hx
        obtain ⟨newCap, hge, hrun⟩ := run_append_grows (P := P) (w := w) (ty := ty) hus hux hd' hi (fun w => (hzr w).1) (hlen w) hnr hold hlt hb hsm
        have hnsz := hnv.size
        have hosz := hov.size
        have hcs : (c.extract off (off + sl * inf.size)).size = sl * inf.size := by rw [Array.size_extract]; omega
        have hmul : (sl + n) * inf.size ≤ newCap * inf.size := Nat.mul_le_mul_right _ (by omega)
        have hadd : (sl + n) * inf.size = sl * inf.size + n * inf.size := Nat.add_mul _ _ _
        have hI2 := hI.drew.forget b
        have hbl : ((h.put b .dead).push (.cells (c.extract off (off + sl * inf.size) ++ news) false)).bl = h.bl.set b .dead ++ [.cells (c.extract off (off + sl * inf.size) ++ news) false] := rfl
        have hnn : (h.bl.set b Ob.dead).length = h.bl.length := List.length_set
        refine ⟨_, _, _, hrun, hI2.le_new (w.heap.size, 0, newCap * inf.size), ?_, ?_⟩
        · refine .slice (by rw [← hnn]; exact up_same _ _ _) hge (by omega)
        · rw [hbl]
          refine hI2.cells (newCap * inf.size) (fun i v hv => ?_) (by rw [Array.size_append]; omega) ?_
          · obtain ⟨v', q1, q2⟩ := vrs_some (hov.append hnv) hv
            refine ⟨v', ?_, q2⟩
            rw [Array.getElem?_append_left (by rw [Array.getElem?_eq_some_iff] at q1; exact q1.1)]
            exact q1
          · rw [Array.size_append, Array.size_append, zeroCells_size, hzs, ← hnsz, ← hosz, hns, hcs]
            have : (sl + n) * inf.size + (newCap - (sl + n)) * inf.size = newCap * inf.size := by rw [← Nat.add_mul]; congr 1; omega
            omega
      cases hs with
      | sliceZ hφ a' c' =>
        refine grows (some a') 0 #[] (by omega) (by simp only [Builtin.firstCells, Nat.zero_mul]; rfl) ?_
        intro i
        rw [Array.getElem?_extract, if_neg (by omega)]
        simp; exact .none
      | @slice _ _ _ _ cap' B base tot hφ hl1 hc1 =>
        by_cases hfit : sl + n ≤ cap'
        · -- there is room: in place
          obtain ⟨news', hnr, hnv⟩ := newB_sound (P := P) hI hnew hn h0 hx
          obtain ⟨B', base1, tot1, q1, C, el, fr, q2, q3, q4⟩ := hI.obs b _ hc rfl
          rw [hφ] at q1; cases q1
          obtain ⟨q4, q5, q6⟩ := q4 rfl
          have hnsz := hnv.size
          have hmul : (sl + n) * inf.size ≤ cap' * inf.size := Nat.mul_le_mul_right _ hfit
          have hadd : (sl + n) * inf.size = sl * inf.size + n * inf.size := Nat.add_mul _ _ _
          have hnl : news'.toList.length = n * inf.size := by rw [Array.length_toList, ← hnsz, hns]
          obtain ⟨w', C', r1, r2, r3, r4, r5, r6, r7, r8, r9⟩ := run_storeCells (P := P) (n := base + off + sl * inf.size) news'.toList 0 w C q2 (by omega)
            (fun j g1 g2 => by have := q6 (j - base) (by omega); rwa [show base + (j - base) = j by omega] at this) (vrl_one hnv.toList h1c)
          have hcs : (c.extract off (off + sl * inf.size)).size = sl * inf.size := by rw [Array.size_extract]; omega
          refine ⟨_, .slice (some ⟨B, base + off, none⟩) (sl + n) cap', w', ?_, hI.le_new (B, base + off, tot - off), ?_, hI.move hc rfl hφ r5 r6 r7 r8 r9 ⟨C', el, fr, r2, ?_, fun _ => ⟨by rw [Array.size_append]; omega, by omega, fun i hi => by have := q6 (off + i) (by omega); rwa [← Nat.add_assoc] at this⟩⟩⟩
          · rw [run_append_fits hus hux hd' hi (hlen w) hnr hfit]
            simp only [add_none, r1, Result.andThen_ok]
          · exact .slice (off := 0) (up_same _ _ _) hfit (by omega)
          · intro i v hv
            rw [Array.getElem?_append, hcs] at hv
            rw [r4 (base + off + i)]
            split at hv
            · rename_i hlt
              rw [if_neg (by omega)]
              rw [Array.getElem?_extract, if_pos (by omega)] at hv
              obtain ⟨v', g1, g2⟩ := q3 (off + i) v hv
              rw [← Nat.add_assoc] at g1
              exact ⟨v', g1, g2.mono (hI.le_new _)⟩
            · rename_i hlt
              have hil : i - sl * inf.size < news.size := by rw [Array.getElem?_eq_some_iff] at hv; exact hv.1
              rw [if_pos (by omega), show base + off + i - (base + off + sl * inf.size + 0) = i - sl * inf.size by omega, Array.getElem?_toList]
              obtain ⟨v', g1, g2⟩ := vrs_some hnv hv
              exact ⟨v', g1, g2.mono (hI.le_new _)⟩
        · obtain ⟨old', ho1, ho2⟩ := loadRow_sound (P := P) (n := sl * inf.size) hI.drew hc hφ (by omega)
          exact grows _ cap' old' (by omega) (by simp only [Builtin.firstCells]; exact ho1) ho2
    · cases hl
end
end Go.Gh
