/- append, literals of slices, maps, and bytes of strings: over the small heap and in the world. Conditions: none. -/
import Derived.Test.YtplejmmkcfmdcaaGhE
namespace Go.Gh
open Go.RowKit

section
variable {P : Program} {K : Nat → Prop} {w0 w : World} {φ : Phi} {H : List Ob}

theorem loadRow_sound (hI : Inv K w0 φ H w) {b off n B base tot : Nat} {c : Array Value} {ro : Bool} (hc : H[b]? = some (.cells c ro)) (hφ : φ b = some (B, base, tot)) (hle : off + n ≤ c.size) :
    ∃ arr, (loadCells ⟨B, base + off, none⟩ n).run P w = .ok arr w ∧ VRs φ (c.extract off (off + n)) arr := by
  obtain ⟨B', base', tot', h1, C, el, fr, h2, h3, _⟩ := hI.obs b _ hc rfl
  rw [hφ] at h1; cases h1
  have hcell : ∀ j, j < n → w.cell? ((⟨B, base + off, none⟩ : Addr).add j) = some (C.getD (base + off + j) undef) := by
    intro j hj
    rw [add_none, cell_at h2]
    obtain ⟨v', hv', _⟩ := h3 (off + j) c[off + j] (Array.getElem?_eq_getElem (by omega))
    rw [← Nat.add_assoc] at hv'
    rw [Array.getD_eq_getD_getElem?, hv']; rfl
  refine ⟨_, run_loadCells w _ n _ hcell, ?_⟩
  intro i
  have e : ∀ l : List Value, l.toArray[i]? = l[i]? := fun l => by simp
  rw [Array.getElem?_extract, e, List.getElem?_map]
  by_cases hi : i < n
  · rw [List.getElem?_range hi, if_pos (by omega), Array.getElem?_eq_getElem (show off + i < c.size by omega)]
    obtain ⟨v', hv', r⟩ := h3 (off + i) c[off + i] (Array.getElem?_eq_getElem (by omega))
    rw [← Nat.add_assoc] at hv'
    refine .some ?_
    show VR φ _ (C.getD (base + off + i) undef)
    rw [Array.getD_eq_getD_getElem?, hv']
    exact r
  · rw [List.getElem?_eq_none (by simp; omega), if_neg (by omega)]; exact .none

/-! ### Literals of slices -/
def zeroRow (z : Array Value) (n : Nat) : Array Value := (Array.range n).map (z[· % z.size]!)

def lBuildSlice (P : Program) (h : Hp) (t : TypeId) (len : Nat) (parts : List (Nat × Value)) : Option (Value × Hp) :=
  match P.underlying t with
  | some (.slice e) =>
    match sizeB P e, (if len = 0 then some (.agg #[]) else zeroB P e) with
    | some n, some z =>
      if len * n ≤ 16777216 ∧ (len * n = 0 → z.cells = #[]) ∧ (zeroRow z.cells (len * n)).toList.all g0 = true then
        match Instr.fill (fun i => some (i * n, n)) (zeroRow z.cells (len * n)) parts with
        | some cells => if cells.size = len * n then some (.slice (some ⟨h.bl.length, 0, none⟩) len n, h.push (.cells cells false)) else none
        | none => none
      else none
    | _, _ => none
  | _ => none

theorem lBuildSlice_sound {h h' : Hp} (hI : Inv K w0 φ h.bl w) {t : TypeId} {len : Nat} {parts parts' : Array (Nat × Value)} {v : Value} (hl : lBuildSlice P h t len parts.toList = some (v, h')) (hp : Parts φ parts.toList parts'.toList) :
    Loud P K w0 φ w (Instr.buildSlice t len parts') v h'.bl := by
  unfold lBuildSlice at hl
  split at hl
  · rename_i e hu
    split at hl
    · rename_i n z hn hz
      split at hl
      · rename_i hc
        obtain ⟨c1, c2, c3⟩ := hc
        split at hl
        · rename_i cells hf
          split at hl
          · rename_i hsz
            simp only [Option.some.injEq, Prod.mk.injEq] at hl
            obtain ⟨rfl, rfl⟩ := hl
            obtain ⟨cells', hf', hv⟩ := fill_sound _ hp (gAll (fun _ => g0_refl) c3 : VRs φ _ _) hf
            have hrow := hI.row (el := e) hv
            refine ⟨_, .slice (some ⟨w.heap.size, 0, none⟩) len len, _, ?_, hI.le_new _, .slice (up_same _ _ _) (Nat.le_refl _) (by omega), hrow⟩
            unfold zeroRow at hf'
            simp only [Instr.buildSlice, Sem.run_bind, run_underlying hu, Result.andThen_ok, run_size hn]
            rw [if_neg (show ¬ len * n > 2 ^ 24 by omega)]
            by_cases h0 : len * n = 0
            · rw [c2 h0] at hf'
              rw [if_pos h0]
              simp only [Sem.run_bind, Sem.run_pure, Result.andThen_ok, hf', newRow, run_newObj]
              rfl
            · have : len ≠ 0 := fun e0 => h0 (by simp [e0])
              rw [if_neg this] at hz
              rw [if_neg h0]
              simp only [Sem.run_bind, (run_zero hz w).1, Result.andThen_ok, Sem.run_pure, hf', newRow, run_newObj]
              rfl
          · cases hl
        · cases hl
      · cases hl
    · cases hl
  · cases hl

/-! ### Maps -/
def lMakeMap (h : Hp) : Value × Hp := (.map (some h.bl.length), h.push (.map []))

theorem lMakeMap_sound {h : Hp} (hI : Inv K w0 φ h.bl w) (t : TypeId) : Loud P K w0 φ w (Instr.makeMap t none) (lMakeMap h).1 (lMakeMap h).2.bl := by
  refine ⟨_, .map (some w.heap.size), w.alloc (.map #[] 0), ?_, hI.le_new (w.heap.size, 0, 0), .map (up_same _ _ _), hI.alloc (.map []) (.map #[] 0) 0 ?_⟩
  · simp only [Instr.makeMap, Sem.run_bind, Sem.run_pure, run_newObj, Result.andThen_ok]; rfl
  · exact ⟨rfl, #[], 0, World.alloc_heap_new w _, rfl, fun i k v hkv => by simp at hkv⟩

def lMapUpdate (P : Program) (h : Hp) (t : TypeId) (k v : Value) : Value → Option Hp
  | .map (some r) =>
    match P.underlying t, h.bl[r]? with
    | some (.map kt _), some (.map es) =>
      if gr k = true ∧ pureRun P (Instr.checkKey false 10000 kt k) = some () ∧ (P.underlying kt).isSome = true then
        match aFind P kt k (es.map (·.1)) 0 with
        | some (some j) => match es[j]? with
          | some (k0, _) => match pureRun P (Instr.keyThatStays k0 k) with
            | some k1 => some (h.put r (.map (es.set j (k1, v))))
            | none => none
          | none => none
        | some none => some (h.put r (.map (es ++ [(k, v)])))
        | none => none
      else none
    | _, _ => none
  | _ => none

theorem putObj_frame {B : Nat} {o : Obj} : ∀ k, k ≠ B → (w.putObj B o).heap[k]? = w.heap[k]? := fun _ hk => World.putObj_heap_other hk

theorem lMapUpdate_sound {h h' : Hp} (hI : Inv K w0 φ h.bl w) {t : TypeId} {k k' v v' x x' : Value} (hl : lMapUpdate P h t k v x = some h') (hx : VR φ x x') (hkk : VR φ k k') (hv : VR φ v v') :
    ∃ w', (Instr.mapUpdate t x' k' v').run P w = .ok () w' ∧ Inv K w0 φ h'.bl w' := by
  unfold lMapUpdate at hl
  split at hl
  · rename_i r
    cases hx with
    | @map _ B tot hφ =>
      split at hl
      · rename_i kt et es hu hr
        split at hl
        · rename_i hc
          obtain ⟨hg, hck, hks⟩ := hc
          obtain rfl := gr_eq hg hkk
          obtain ⟨B', base', tot', h1, h0, E, clock, h2, h3, h4⟩ := hI.obs r _ hr rfl
          rw [hφ] at h1; cases h1
          have hlt : B < w.heap.size := (Array.getElem?_eq_some_iff.1 h2).1
          have hget : (getObj B).run P w = .ok (.map E clock) w := by simp [getObj, Sem.run, h2]
          have hset : ∀ o : Obj, (setObj B o).run P w = .ok () (w.putObj B o) := fun o => by simp [setObj, Sem.run, h2, World.putObj]
          have hkeys := keys_eq h3 h4
          split at hl
          · rename_i j hj
            rw [← hkeys] at hj
            have hf := findKey_run w hks hj
            split at hl
            · rename_i k0 u0 hu0
              split at hl
              · rename_i k1 hk1
                simp only [Option.some.injEq] at hl
                subst hl
                obtain ⟨en, he1, he2, he3⟩ := h4 j k0 u0 hu0
                refine ⟨w.putObj B (.map (E.modify j fun e => { e with key := k1, val := v' }) clock), ?_, hI.write hr rfl hφ putObj_frame (by simp) rfl rfl rfl ?_⟩
                · simp only [Instr.mapUpdate, Sem.run_bind, run_underlying hu, Result.andThen_ok, hget, pureRun_run hck, hf, Option.map_some, he1, Option.getD_some, he2, pureRun_run hk1, hset]
                · refine ⟨rfl, _, clock, World.putObj_heap_same hlt, by simp [h3], ?_⟩
                  intro i ki vi hkv
                  rw [List.getElem?_set] at hkv
                  rw [Array.getElem?_modify]
                  split at hkv
                  · rename_i e; subst e
                    split at hkv
                    · simp only [Option.some.injEq, Prod.mk.injEq] at hkv
                      obtain ⟨rfl, rfl⟩ := hkv
                      rw [if_pos rfl, he1]
                      exact ⟨_, rfl, rfl, hv⟩
                    · cases hkv
                  · rename_i e
                    rw [if_neg e]
                    exact h4 i ki vi hkv
              · cases hl
            · cases hl
          · rename_i hj
            rw [← hkeys] at hj
            have hf := findKey_run w hks hj
            simp only [Option.some.injEq] at hl
            subst hl
            refine ⟨w.putObj B (.map (E.push { key := k', val := v', born := clock }) (clock + 1)), ?_, hI.write hr rfl hφ putObj_frame (by simp) rfl rfl rfl ?_⟩
            · simp only [Instr.mapUpdate, Sem.run_bind, run_underlying hu, Result.andThen_ok, hget, pureRun_run hck, hf, Option.map_none, hset]
            · refine ⟨rfl, _, _, World.putObj_heap_same hlt, by simp [h3], ?_⟩
              intro i ki vi hkv
              rw [Array.getElem?_push, h3]
              rcases Nat.lt_trichotomy i es.length with hlt' | he | hgt
              · rw [List.getElem?_append_left hlt'] at hkv
                rw [if_neg (by omega)]
                exact h4 i ki vi hkv
              · subst he
                simp at hkv
                obtain ⟨rfl, rfl⟩ := hkv
                rw [if_pos rfl]
                exact ⟨_, rfl, rfl, hv⟩
              · rw [List.getElem?_eq_none (by simp; omega)] at hkv; cases hkv
          · cases hl
        · cases hl
      · cases hl
  · cases hl

/-! ### The bytes of a string -/
def strBytes (s : ByteArray) : Array Value := s.data.map fun b => .int .u8 b.toNat

theorem gBytes (s : ByteArray) : VRs φ (strBytes s) (strBytes s) := by
  intro i
  unfold strBytes
  rw [Array.getElem?_map]
  cases s.data[i]? with
  | none => exact .none
  | some b => exact .some (.int _ _)

def lStrBytes (P : Program) (h : Hp) (src dst : TypeId) (s : ByteArray) : Option (Value × Hp) :=
  match P.underlying src, P.underlying dst with
  | some .string, some (.slice e) => match P.underlying e with
    | some (.int .u8) => some (.slice (some ⟨h.bl.length, 0, none⟩) s.size 1, h.push (.cells (strBytes s) false))
    | _ => none
  | _, _ => none

theorem lStrBytes_sound {h h' : Hp} (hI : Inv K w0 φ h.bl w) {src dst : TypeId} {s : ByteArray} {v : Value} (hl : lStrBytes P h src dst s = some (v, h')) : Loud P K w0 φ w (convert src dst (.string s)) v h'.bl := by
  unfold lStrBytes at hl
  split at hl
  · rename_i e hs hd
    split at hl
    · rename_i he
      simp only [Option.some.injEq, Prod.mk.injEq] at hl
      obtain ⟨rfl, rfl⟩ := hl
      obtain ⟨cap, hcap, hle⟩ : ∃ cap, (Question.cut (.appendCap s.size 0 e) (w.tape w.drawn (.appendCap s.size 0 e))) = cap ∧ s.size ≤ cap := ⟨_, rfl, by simp only [Question.cut]; exact Nat.le_add_right _ _⟩
      have hsz : (strBytes s).size = s.size := by simp [strBytes]
      obtain ⟨C, hC⟩ : ∃ C : Array Value, strBytes s ++ Array.replicate (cap - s.size) (.int .u8 0) = C := ⟨_, rfl⟩
      have hCs : C.size = cap := by rw [← hC]; simp [hsz]; omega
      have hnew : ((w.drew.alloc (.cells C e)).freeze ⟨w.heap.size, C.size, none⟩ 1).heap[w.heap.size]? = some (.cells C e (C.size, C.size + 1)) := by
        have := World.alloc_heap_new w.drew (.cells C e)
        simp only [World.freeze, Nat.one_ne_zero, if_false, Array.getElem?_modify]
        rw [show w.drew.heap.size = w.heap.size from rfl] at this
        rw [if_pos trivial, this]; simp
      refine ⟨up φ h.bl.length (w.heap.size, 0, cap), .slice (some ⟨w.heap.size, 0, none⟩) s.size cap, (w.drew.alloc (.cells C e)).freeze ⟨w.heap.size, C.size, none⟩ 1, ?_, hI.le_new _, .slice (up_same _ _ _) hle (by omega), ?_⟩
      · simp only [convert, Sem.run_bind, run_underlying hs, run_underlying hd, Result.andThen_ok, run_underlying he, Conv.stringToBytes, run_choose, Question.forced, Bool.false_eq_true, if_false, hcap]
        have hC' : (s.data.map fun b => Value.int .u8 b.toNat) ++ Array.replicate (cap - s.size) (.int .u8 0) = C := hC
        simp only [hC', newRow, Sem.run_bind, run_newObj, Result.andThen_ok, Sem.run_pure, markStringish, run_shape, World.shape?, Array.getElem?_push_size, run_freeze]
        rfl
      · have hI1 : Inv K w0 (up φ h.bl.length (w.heap.size, 0, cap)) (h.bl ++ [.cells (strBytes s) false]) (w.drew.alloc (.cells C e)) :=
          hI.drew.cells cap (fun i v hv => by
            obtain ⟨v', h1, h2⟩ := vrs_some (gBytes (φ := φ) s) hv
            refine ⟨v', ?_, h2⟩
            rw [← hC, Array.getElem?_append_left (by rw [Array.getElem?_eq_some_iff] at hv; exact hv.1)]; exact h1) (by omega) (by omega)
        have hfin := hI1.write (b := h.bl.length) (ob := .cells (strBytes s) false) (ob' := .cells (strBytes s) false) (w' := (w.drew.alloc (.cells C e)).freeze ⟨w.heap.size, C.size, none⟩ 1) (by simp) rfl (up_same _ _ _)
          (fun k hk => by simp only [World.freeze, Nat.one_ne_zero, if_false, Array.getElem?_modify]; rw [if_neg (Ne.symm hk)]) (by simp [World.freeze]) rfl rfl rfl
          ⟨C, e, (C.size, C.size + 1), hnew, fun i v hv => by
            obtain ⟨v', h1, h2⟩ := vrs_some (gBytes (φ := up φ h.bl.length (w.heap.size, 0, cap)) s) hv
            refine ⟨v', ?_, h2⟩
            rw [Nat.zero_add, ← hC, Array.getElem?_append_left (by rw [Array.getElem?_eq_some_iff] at hv; exact hv.1)]; exact h1,
            fun _ => ⟨by omega, by omega, fun i hi => by simp only; omega⟩⟩
        have hset : (h.bl ++ [Ob.cells (strBytes s) false]).set h.bl.length (Ob.cells (strBytes s) false) = h.bl ++ [Ob.cells (strBytes s) false] := by
          simp
        rw [hset] at hfin
        exact hfin
    · cases hl
  · cases hl
end
end Go.Gh
