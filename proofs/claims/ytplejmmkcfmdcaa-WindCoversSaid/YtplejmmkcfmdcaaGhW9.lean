/- What Over and Covers return, the program's and the reference's. Conditions: none. -/
import Derived.Test.YtplejmmkcfmdcaaGhW8
namespace Go.Proofs.Ytplejmmkcfmdcaa
open Go.Gh Go.RowKit
noncomputable section
set_option maxRecDepth 100000

theorem fst_iff {p : Nat → Bool} : ∀ {m i : Nat}, (fst p m i).isSome = true ↔ ∃ k, i ≤ k ∧ k < i + m ∧ p k = true
  | 0, i => by simp only [fst, Option.isSome_none]; constructor
               · intro h; cases h
               · rintro ⟨k, h1, h2, _⟩; omega
  | m + 1, i => by
    simp only [fst]
    split
    · rename_i h; simp only [Option.isSome_some, true_iff]; exact ⟨i, Nat.le_refl i, by omega, h⟩
    · rename_i h
      rw [fst_iff]
      constructor
      · rintro ⟨k, h1, h2, h3⟩; exact ⟨k, by omega, by omega, h3⟩
      · rintro ⟨k, h1, h2, h3⟩
        refine ⟨k, ?_, by omega, h3⟩
        rcases Nat.eq_or_lt_of_le h1 with e | e
        · subst e; exact absurd h3 h
        · exact e
theorem ow_ov {c : Array Value} {off n : Nat} {h : Int} (hb : Bands c off n) : ∀ {m i : Nat}, i + m = n → (0 < m → getInt c (off + i * 6) ≤ h) → fst (owP c off h) m i = fst (ovP c off h) m i
  | 0, _, _, _ => rfl
  | m + 1, i, hi, hle => by
    have hle := hle (by omega)
    simp only [fst]
    have e : owP c off h i = ovP c off h i := by
      unfold owP ovP
      simp [hle]
    rw [e]
    cases hp : ovP c off h i with
    | true => rfl
    | false =>
      simp only [Bool.false_eq_true, if_false]
      refine ow_ov hb (by omega) fun hm => ?_
      rw [hb.from_ i (by omega)]
      have : ¬ h < getInt c (off + i * 6 + 1) := of_decide_eq_false hp
      omega
theorem cw_cv {c : Array Value} {off n : Nat} {d : Array Value} {e n2 : Nat} (hb : Bands c off n) (hd : Bands d e n2) : cwB2 c off d e n2 n 0 = cvB2 c off n d e n2 0 := by
  rw [Bool.eq_iff_iff]
  unfold cwB2 cvB2
  rw [fst_iff, fst_iff]
  have key : ∀ i k, i < n → k < n2 → (cwP c (off + i * 6) d e k = true ↔ cvP c off (getInt d (e + k * 6)) (getInt d (e + k * 6 + 1)) (getInt d (e + k * 6 + 2)) (getInt d (e + k * 6 + 3)) (getInt d (e + k * 6 + 4)) (getInt d (e + k * 6 + 5)) i = true) := by
    intro i k hi hk
    have h1 := hb.up i hi
    have h2 := hd.up k hk
    unfold cwP cvP
    simp only [Bool.and_eq_true, decide_eq_true_eq, Bool.not_eq_true', Bool.and_eq_false_iff, decide_eq_false_iff_not]
    constructor
    · rintro ⟨h3, h4⟩; exact ⟨by omega, by omega, h4⟩
    · rintro ⟨h3, h5, h4⟩; exact ⟨by omega, h4⟩
  constructor
  · rintro ⟨i, _, hi, h⟩
    unfold cwP2 cwB at h
    rw [fst_iff] at h
    obtain ⟨k, _, hk, h⟩ := h
    refine ⟨k, Nat.zero_le _, hk, ?_⟩
    unfold cvP2 cvB
    rw [fst_iff]
    exact ⟨i, Nat.zero_le _, hi, (key i k (by omega) (by omega)).1 h⟩
  · rintro ⟨k, _, hk, h⟩
    unfold cvP2 cvB at h
    rw [fst_iff] at h
    obtain ⟨i, _, hi, h⟩ := h
    refine ⟨i, Nat.zero_le _, hi, ?_⟩
    unfold cwP2 cwB
    rw [fst_iff]
    exact ⟨k, Nat.zero_le _, hk, (key i k (by omega) (by omega)).2 h⟩
theorem ovE_zero (c : Array Value) (off : Nat) (h : Int) : ovE c off 0 h = 3 := by unfold ovE; rw [cbR2_zero]; rfl
theorem ovV_zero (c : Array Value) (off : Nat) (h : Int) (j : Nat) : ovV c off 0 h j = 0 := by unfold ovV; rw [ovE_zero]; rfl
theorem okS_zero (a : Option Addr) (sz : Nat) (H : List Ob) : okS a 0 sz H = true := dec_iff.2 (.inl rfl)
theorem tree27c (J : Task → List Value) (off : Nat) (c : Array Value) (n : Nat) (x : Int) :
    evC Try.prog ((sh27.ans J).or (p25 25)).c 60 (.call 27 ⟨[.slice (some ⟨0, off, none⟩) n 6, .int .i64 x]⟩ ⟨[.cells c true], 1, []⟩) some =
    cond (okS (Option.some (Addr.mk 0 off Option.none)) n 6 [(Ob.cells c true), (Ob.cells ⟨[(Value.int .i64 (0 : Int)), (Value.int .i64 (0 : Int))]⟩ false), (Ob.cells ⟨[(Value.int .i64 (0 : Int)), (Value.int .i64 (0 : Int))]⟩ false)])
    (cond (not (decide ((cbR2 c off n) = (0 : Int))))
     (some (Out.ret (Value.tuple ⟨[(Value.agg ⟨[(Value.int .i64 (0 : Int)), (Value.int .i64 (0 : Int))]⟩), (Value.agg ⟨[(Value.int .i64 (0 : Int)), (Value.int .i64 (0 : Int))]⟩), (Value.int .i64 (cbR2 c off n))]⟩) (Hp.mk [(Ob.cells c true)] 1 [])))
     (cond (decide ((0 : Int) ≤ x))
      (cond (not (decide (x < (100000000 : Int))))
       (some (Out.ret (Value.tuple ⟨[(Value.agg ⟨[(Value.int .i64 (0 : Int)), (Value.int .i64 (0 : Int))]⟩), (Value.agg ⟨[(Value.int .i64 (0 : Int)), (Value.int .i64 (0 : Int))]⟩), (Value.int .i64 (7 : Int))]⟩) (Hp.mk [(Ob.cells c true)] 1 [])))
       (cond (eqCode (theLoop Try.prog 27 0) (theLoop Try.prog 27 0))
        (cond (okZ ⟨[(Value.int .i64 (0 : Int)), (Value.int .i64 (0 : Int))]⟩ ⟨[(Value.int .i64 (0 : Int)), (Value.int .i64 (0 : Int))]⟩)
         (cond (ok27 off c n (0 : Int) (Int.ofNat n))
          (cond (ovB c off x (n - 0) 0)
           (some (Out.ret (Value.tuple ⟨[(Value.agg ⟨[(Value.int .i64 (getInt c ((off + ((ovI c off x (n - 0) 0) * 6)) + 2))), (Value.int .i64 (getInt c (((off + ((ovI c off x (n - 0) 0) * 6)) + 2) + 1)))]⟩), (Value.agg ⟨[(Value.int .i64 (getInt c ((off + ((ovI c off x (n - 0) 0) * 6)) + 4))), (Value.int .i64 (getInt c (((off + ((ovI c off x (n - 0) 0) * 6)) + 4) + 1)))]⟩), (Value.int .i64 (0 : Int))]⟩) (Hp.mk [(Ob.cells c true)] 1 [])))
           (some (Out.ret (Value.tuple ⟨[(Value.agg ⟨[(Value.int .i64 (0 : Int)), (Value.int .i64 (0 : Int))]⟩), (Value.agg ⟨[(Value.int .i64 (0 : Int)), (Value.int .i64 (0 : Int))]⟩), (Value.int .i64 (4 : Int))]⟩) (Hp.mk [(Ob.cells c true)] 1 []))))
          (none))
         (none))
        (none)))
      (some (Out.ret (Value.tuple ⟨[(Value.agg ⟨[(Value.int .i64 (0 : Int)), (Value.int .i64 (0 : Int))]⟩), (Value.agg ⟨[(Value.int .i64 (0 : Int)), (Value.int .i64 (0 : Int))]⟩), (Value.int .i64 (7 : Int))]⟩) (Hp.mk [(Ob.cells c true)] 1 [])))))
    (none) := by kernel_rfl
theorem tree27z (a : Option Addr) (sz : Nat) (x : Int) :
    evC Try.prog (p25 25).c 60 (.call 27 ⟨[.slice a 0 sz, .int .i64 x]⟩ ⟨[.dead], 1, []⟩) some =
    cond (okS a 0 sz [Ob.dead, (Ob.cells ⟨[(Value.int .i64 (0 : Int)), (Value.int .i64 (0 : Int))]⟩ false), (Ob.cells ⟨[(Value.int .i64 (0 : Int)), (Value.int .i64 (0 : Int))]⟩ false)])
    (some (Out.ret (Value.tuple ⟨[(Value.agg ⟨[(Value.int .i64 (0 : Int)), (Value.int .i64 (0 : Int))]⟩), (Value.agg ⟨[(Value.int .i64 (0 : Int)), (Value.int .i64 (0 : Int))]⟩), (Value.int .i64 (3 : Int))]⟩) (Hp.mk [Ob.dead] 1 [])))
    (none) := by kernel_rfl
theorem tree28c (J : Task → List Value) (off : Nat) (c : Array Value) (n : Nat) (x : Int) :
    evC Try.prog ((sh28.ans J).or (p25 26)).c 60 (.call 28 ⟨[.slice (some ⟨0, off, none⟩) n 6, .int .i64 x]⟩ ⟨[.cells c true], 1, []⟩) some =
    cond (okS (Option.some (Addr.mk 0 off Option.none)) n 6 [(Ob.cells c true), (Ob.cells ⟨[(Value.int .i64 (0 : Int)), (Value.int .i64 (0 : Int))]⟩ false), (Ob.cells ⟨[(Value.int .i64 (0 : Int)), (Value.int .i64 (0 : Int))]⟩ false)])
    (cond (decide ((cbR2 c off n) = (0 : Int)))
     (cond (decide ((0 : Int) ≤ x))
      (cond (not (decide (x ≤ (99999999 : Int))))
       (some (Out.ret (Value.tuple ⟨[(Value.agg ⟨[(Value.int .i64 (0 : Int)), (Value.int .i64 (0 : Int))]⟩), (Value.agg ⟨[(Value.int .i64 (0 : Int)), (Value.int .i64 (0 : Int))]⟩), (Value.int .i64 (7 : Int))]⟩) (Hp.mk [(Ob.cells c true)] 1 [])))
       (cond (not (decide ((cbR2 c off n) = (0 : Int))))
        (some (Out.ret (Value.tuple ⟨[(Value.agg ⟨[(Value.int .i64 (0 : Int)), (Value.int .i64 (0 : Int))]⟩), (Value.agg ⟨[(Value.int .i64 (0 : Int)), (Value.int .i64 (0 : Int))]⟩), (Value.int .i64 (cbR2 c off n))]⟩) (Hp.mk [(Ob.cells c true)] 1 [])))
        (cond (eqCode (theLoop Try.prog 28 0) (theLoop Try.prog 28 0))
         (cond (okZ ⟨[(Value.int .i64 (0 : Int)), (Value.int .i64 (0 : Int))]⟩ ⟨[(Value.int .i64 (0 : Int)), (Value.int .i64 (0 : Int))]⟩)
          (cond (ok28 off c n (0 : Int))
           (cond (owB c off x (n - 0) 0)
            (some (Out.ret (Value.tuple ⟨[(Value.agg ⟨[(Value.int .i64 (getInt c ((off + ((owI c off x (n - 0) 0) * 6)) + 2))), (Value.int .i64 (getInt c (((off + ((owI c off x (n - 0) 0) * 6)) + 2) + 1)))]⟩), (Value.agg ⟨[(Value.int .i64 (getInt c ((off + ((owI c off x (n - 0) 0) * 6)) + 4))), (Value.int .i64 (getInt c (((off + ((owI c off x (n - 0) 0) * 6)) + 4) + 1)))]⟩), (Value.int .i64 (0 : Int))]⟩) (Hp.mk [(Ob.cells c true)] 1 [])))
            (some (Out.ret (Value.tuple ⟨[(Value.agg ⟨[(Value.int .i64 (0 : Int)), (Value.int .i64 (0 : Int))]⟩), (Value.agg ⟨[(Value.int .i64 (0 : Int)), (Value.int .i64 (0 : Int))]⟩), (Value.int .i64 (4 : Int))]⟩) (Hp.mk [(Ob.cells c true)] 1 []))))
           (none))
          (none))
         (none))))
      (some (Out.ret (Value.tuple ⟨[(Value.agg ⟨[(Value.int .i64 (0 : Int)), (Value.int .i64 (0 : Int))]⟩), (Value.agg ⟨[(Value.int .i64 (0 : Int)), (Value.int .i64 (0 : Int))]⟩), (Value.int .i64 (7 : Int))]⟩) (Hp.mk [(Ob.cells c true)] 1 []))))
     (cond (not (decide ((cbR2 c off n) = (0 : Int))))
      (some (Out.ret (Value.tuple ⟨[(Value.agg ⟨[(Value.int .i64 (0 : Int)), (Value.int .i64 (0 : Int))]⟩), (Value.agg ⟨[(Value.int .i64 (0 : Int)), (Value.int .i64 (0 : Int))]⟩), (Value.int .i64 (cbR2 c off n))]⟩) (Hp.mk [(Ob.cells c true)] 1 [])))
      (cond (eqCode (theLoop Try.prog 28 0) (theLoop Try.prog 28 0))
       (cond (okZ ⟨[(Value.int .i64 (0 : Int)), (Value.int .i64 (0 : Int))]⟩ ⟨[(Value.int .i64 (0 : Int)), (Value.int .i64 (0 : Int))]⟩)
        (cond (ok28 off c n (0 : Int))
         (cond (owB c off x (n - 0) 0)
          (some (Out.ret (Value.tuple ⟨[(Value.agg ⟨[(Value.int .i64 (getInt c ((off + ((owI c off x (n - 0) 0) * 6)) + 2))), (Value.int .i64 (getInt c (((off + ((owI c off x (n - 0) 0) * 6)) + 2) + 1)))]⟩), (Value.agg ⟨[(Value.int .i64 (getInt c ((off + ((owI c off x (n - 0) 0) * 6)) + 4))), (Value.int .i64 (getInt c (((off + ((owI c off x (n - 0) 0) * 6)) + 4) + 1)))]⟩), (Value.int .i64 (0 : Int))]⟩) (Hp.mk [(Ob.cells c true)] 1 [])))
          (some (Out.ret (Value.tuple ⟨[(Value.agg ⟨[(Value.int .i64 (0 : Int)), (Value.int .i64 (0 : Int))]⟩), (Value.agg ⟨[(Value.int .i64 (0 : Int)), (Value.int .i64 (0 : Int))]⟩), (Value.int .i64 (4 : Int))]⟩) (Hp.mk [(Ob.cells c true)] 1 []))))
         (none))
        (none))
       (none))))
    (none) := by kernel_rfl
theorem tree28z (a : Option Addr) (sz : Nat) (x : Int) :
    evC Try.prog (p25 26).c 60 (.call 28 ⟨[.slice a 0 sz, .int .i64 x]⟩ ⟨[.dead], 1, []⟩) some =
    cond (okS a 0 sz [Ob.dead, (Ob.cells ⟨[(Value.int .i64 (0 : Int)), (Value.int .i64 (0 : Int))]⟩ false), (Ob.cells ⟨[(Value.int .i64 (0 : Int)), (Value.int .i64 (0 : Int))]⟩ false)])
    (some (Out.ret (Value.tuple ⟨[(Value.agg ⟨[(Value.int .i64 (0 : Int)), (Value.int .i64 (0 : Int))]⟩), (Value.agg ⟨[(Value.int .i64 (0 : Int)), (Value.int .i64 (0 : Int))]⟩), (Value.int .i64 (3 : Int))]⟩) (Hp.mk [Ob.dead] 1 [])))
    (none) := by kernel_rfl

theorem known27c : Known Try.prog (p27 27) := by
  obtain ⟨J, hJ⟩ := known27
  intro t xx o h ho
  unfold p27 at h
  split at h
  case h_2 => cases h
  rename_i g a n sz x hp
  split at h
  case h_2 => cases h
  rename_i hg
  obtain rfl := Nat.eq_of_beq_eq_true hg
  simp only [Option.some.injEq] at h
  subst h
  simp only [AT.out] at ho
  obtain ⟨hok, ho⟩ := cond_some ho
  simp only [Option.some.injEq] at ho
  subst ho
  rcases dec_iff.1 hok with rfl | ⟨b, off, rfl, rfl, hc, hgood⟩
  · simp only [ovE_zero, ovV_zero]
    have hf : ∀ a, Fact Try.prog (.call 27 ⟨[.slice a 0 sz, .int .i64 x]⟩ ⟨[.dead], 1, []⟩) (.ret (.tuple ⟨[.agg ⟨[.int .i64 0, .int .i64 0]⟩, .agg ⟨[.int .i64 0, .int .i64 0]⟩, .int .i64 3]⟩) ⟨[.dead], 1, []⟩) := fun a =>
      known25c.fact noNG mixed (n := 60) (by rw [tree27z, okS_zero]; rfl)
    cases a with
    | none => exact frame0 (args1 := ⟨[.slice none 0 sz, .int .i64 x]⟩) 0 (hf _) rfl (by simp [ren1, ren0, renA]) rfl
    | some y => exact frame0 (args1 := ⟨[.slice (some ⟨0, y.off, y.spot⟩) 0 sz, .int .i64 x]⟩) y.block (hf _) rfl (by simp [ren1, ren0, renA]) rfl
  · refine frame1 (args1 := ⟨[.slice (some ⟨0, off, none⟩) n 6, .int .i64 x]⟩) b ((hJ.or known25c).fact noNG mixed (n := 60) ?_) rfl hgood.1 (cells_ok hc) (by simp [ren1, ren0, renA]) rfl
    rw [tree27c]
    simp only [arrOf, offOf]
    generalize cellsAt hp.bl b = c at hgood ⊢
    rw [okS_at (c := c) (r := true) hgood (by simp), cond_true]
    simp only [eqCode_self, cond_true, Nat.sub_zero, Int.ofNat_eq_natCast]
    have hz : okZ Z2 Z2 = true := dec_iff.2 ⟨rfl, rfl⟩
    rw [hz, cond_true]
    by_cases h0 : cbR2 c off n = 0
    · have hb := bands_of h0
      have hk : ok27 off c n 0 n = true := dec_iff.2 ⟨hgood, by omega, hb.few, rfl⟩
      simp only [h0, decide_true, Bool.not_true, cond_false, hk, cond_true]
      by_cases h1 : 0 ≤ x
      · by_cases h2 : x < 100000000
        · have hE : ovE c off n x = if ovB c off x n 0 = true then 0 else 4 := by
            unfold ovE; rw [if_neg (by rw [h0]; simp), if_neg (by omega)]
          cases hv : ovB c off x n 0 with
          | true =>
            rw [hv, if_pos rfl] at hE
            simp only [h1, h2, decide_true, Bool.not_true, cond_true, cond_false, ovV, hE, if_true]
          | false =>
            rw [hv, if_neg (by simp)] at hE
            simp only [h1, h2, decide_true, Bool.not_true, cond_true, cond_false, ovV, hE]
            rfl
        · have hE : ovE c off n x = 7 := by unfold ovE; rw [if_neg (by rw [h0]; simp), if_pos (by omega)]
          simp only [h1, h2, decide_true, decide_false, Bool.not_false, cond_true, ovV, hE]
          rfl
      · have hE : ovE c off n x = 7 := by unfold ovE; rw [if_neg (by rw [h0]; simp), if_pos (by omega)]
        simp only [h1, decide_false, cond_false, ovV, hE]
        rfl
    · have hE : ovE c off n x = cbR2 c off n := by unfold ovE; rw [if_pos h0]
      simp only [h0, decide_false, Bool.not_false, cond_true, ovV, hE, if_false]

theorem known28c : Known Try.prog (p27 28) := by
  obtain ⟨J, hJ⟩ := known28
  intro t xx o h ho
  unfold p27 at h
  split at h
  case h_2 => cases h
  rename_i g a n sz x hp
  split at h
  case h_2 => cases h
  rename_i hg
  obtain rfl := Nat.eq_of_beq_eq_true hg
  simp only [Option.some.injEq] at h
  subst h
  simp only [AT.out] at ho
  obtain ⟨hok, ho⟩ := cond_some ho
  simp only [Option.some.injEq] at ho
  subst ho
  rcases dec_iff.1 hok with rfl | ⟨b, off, rfl, rfl, hc, hgood⟩
  · simp only [ovE_zero, ovV_zero]
    have hf : ∀ a, Fact Try.prog (.call 28 ⟨[.slice a 0 sz, .int .i64 x]⟩ ⟨[.dead], 1, []⟩) (.ret (.tuple ⟨[.agg ⟨[.int .i64 0, .int .i64 0]⟩, .agg ⟨[.int .i64 0, .int .i64 0]⟩, .int .i64 3]⟩) ⟨[.dead], 1, []⟩) := fun a =>
      known26c.fact noNG mixed (n := 60) (by rw [tree28z, okS_zero]; rfl)
    cases a with
    | none => exact frame0 (args1 := ⟨[.slice none 0 sz, .int .i64 x]⟩) 0 (hf _) rfl (by simp [ren1, ren0, renA]) rfl
    | some y => exact frame0 (args1 := ⟨[.slice (some ⟨0, y.off, y.spot⟩) 0 sz, .int .i64 x]⟩) y.block (hf _) rfl (by simp [ren1, ren0, renA]) rfl
  · refine frame1 (args1 := ⟨[.slice (some ⟨0, off, none⟩) n 6, .int .i64 x]⟩) b ((hJ.or known26c).fact noNG mixed (n := 60) ?_) rfl hgood.1 (cells_ok hc) (by simp [ren1, ren0, renA]) rfl
    rw [tree28c]
    simp only [arrOf, offOf]
    generalize cellsAt hp.bl b = c at hgood ⊢
    rw [okS_at (c := c) (r := true) hgood (by simp), cond_true]
    simp only [eqCode_self, cond_true, Nat.sub_zero]
    have hz : okZ Z2 Z2 = true := dec_iff.2 ⟨rfl, rfl⟩
    rw [hz, cond_true]
    by_cases h0 : cbR2 c off n = 0
    · have hb := bands_of h0
      have hk : ok28 off c n 0 = true := dec_iff.2 ⟨hgood, by omega, hb.few⟩
      simp only [h0, decide_true, Bool.not_true, cond_false, hk, cond_true]
      by_cases h1 : 0 ≤ x
      · have hw := ow_ov (h := x) hb (m := n) (i := 0) (by omega) (fun _ => by simp [hb.low, h1])
        have hwB : owB c off x n 0 = ovB c off x n 0 := by unfold owB ovB; rw [hw]
        have hwI : owI c off x n 0 = ovI c off x n 0 := by unfold owI ovI; rw [hw]
        rw [hwB, hwI]
        by_cases h2 : x ≤ 99999999
        · have hE : ovE c off n x = if ovB c off x n 0 = true then 0 else 4 := by
            unfold ovE; rw [if_neg (by rw [h0]; simp), if_neg (by omega)]
          cases hv : ovB c off x n 0 with
          | true =>
            rw [hv, if_pos rfl] at hE
            simp only [h1, h2, decide_true, Bool.not_true, cond_true, cond_false, ovV, hE, if_true]
          | false =>
            rw [hv, if_neg (by simp)] at hE
            simp only [h1, h2, decide_true, Bool.not_true, cond_true, cond_false, ovV, hE]
            rfl
        · have hE : ovE c off n x = 7 := by unfold ovE; rw [if_neg (by rw [h0]; simp), if_pos (by omega)]
          simp only [h1, h2, decide_true, decide_false, Bool.not_false, cond_true, ovV, hE]
          rfl
      · have hE : ovE c off n x = 7 := by unfold ovE; rw [if_neg (by rw [h0]; simp), if_pos (by omega)]
        simp only [h1, decide_false, cond_false, ovV, hE]
        rfl
    · have hE : ovE c off n x = cbR2 c off n := by unfold ovE; rw [if_pos h0]
      simp only [h0, decide_false, Bool.not_false, cond_true, cond_false, ovV, hE, if_false]
end
end Go.Proofs.Ytplejmmkcfmdcaa
