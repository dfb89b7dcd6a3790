/- What Covers returns, the program's and the reference's. Conditions: none. -/
import Derived.Test.YtplejmmkcfmdcaaGhW9
namespace Go.Proofs.Ytplejmmkcfmdcaa
open Go.Gh Go.RowKit
noncomputable section
set_option maxRecDepth 100000
theorem tree29c (J : Task → List Value) (c : Array Value) (off n : Nat) (d : Array Value) (e n2 : Nat) :
    evC Try.prog ((sh29.ans J).or (p25 25)).c 60 (.call 29 ⟨[.slice (some ⟨0, off, none⟩) n 6, .slice (some ⟨1, e, none⟩) n2 6]⟩ ⟨[.cells c true, .cells d true], 2, []⟩) some =
    cond (okS (Option.some (Addr.mk 0 off Option.none)) n 6 [(Ob.cells c true), (Ob.cells d true)])
    (cond (not (decide ((cbR2 c off n) = (0 : Int))))
     (some (Out.ret (Value.tuple ⟨[(Value.bool false), (Value.int .i64 (cbR2 c off n))]⟩) (Hp.mk [(Ob.cells c true), (Ob.cells d true)] 2 [])))
     (cond (okS (Option.some (Addr.mk 1 e Option.none)) n2 6 [(Ob.cells c true), (Ob.cells d true)])
      (cond (not (decide ((cbR2 d e n2) = (0 : Int))))
       (some (Out.ret (Value.tuple ⟨[(Value.bool false), (Value.int .i64 (cbR2 d e n2))]⟩) (Hp.mk [(Ob.cells c true), (Ob.cells d true)] 2 [])))
       (cond (and (decide ((0 : Int) ≤ (IntKind.wrap .i64 ((Int.ofNat n) - (1 : Int))))) (decide ((IntKind.wrap .i64 ((Int.ofNat n) - (1 : Int))) < (Int.ofNat n))))
        (cond (and true (isInt .i64 c ((off + ((Int.toNat (IntKind.wrap .i64 ((Int.ofNat n) - (1 : Int)))) * 6)) + 1)))
         (cond (and (decide ((0 : Int) ≤ (IntKind.wrap .i64 ((Int.ofNat n2) - (1 : Int))))) (decide ((IntKind.wrap .i64 ((Int.ofNat n2) - (1 : Int))) < (Int.ofNat n2))))
          (cond (and true (isInt .i64 d ((e + ((Int.toNat (IntKind.wrap .i64 ((Int.ofNat n2) - (1 : Int)))) * 6)) + 1)))
           (cond (decide ((getInt c ((off + ((Int.toNat (IntKind.wrap .i64 ((Int.ofNat n) - (1 : Int)))) * 6)) + 1)) < (getInt d ((e + ((Int.toNat (IntKind.wrap .i64 ((Int.ofNat n2) - (1 : Int)))) * 6)) + 1))))
            (some (Out.ret (Value.tuple ⟨[(Value.bool false), (Value.int .i64 (0 : Int))]⟩) (Hp.mk [(Ob.cells c true), (Ob.cells d true)] 2 [])))
            (cond (eqCode (theLoop Try.prog 29 0) (theLoop Try.prog 29 0))
             (cond (ok29 c off n d e n2 (0 : Int) (Int.ofNat n2))
              (cond (cvB2 c off n d e (n2 - 0) 0)
               (some (Out.ret (Value.tuple ⟨[(Value.bool false), (Value.int .i64 (0 : Int))]⟩) (Hp.mk [(Ob.cells c true), (Ob.cells d true)] 2 [])))
               (some (Out.ret (Value.tuple ⟨[(Value.bool true), (Value.int .i64 (0 : Int))]⟩) (Hp.mk [(Ob.cells c true), (Ob.cells d true)] 2 []))))
              (none))
             (none)))
           (none))
          (none))
         (none))
        (none)))
      (none)))
    (none) := by kernel_rfl
theorem tree29y (a a2 : Option Addr) (sz sz2 n : Nat) (h : Hp) :
    evC Try.prog (p25v 25).c 60 (.call 29 ⟨[.slice a n sz, .slice a2 0 sz2]⟩ h) some =
    cond (okS a n sz h.1)
    (cond (decide ((cbR2 (arrOf a h.1) (offOf a) n) = (0 : Int)))
     (cond (okS a2 0 sz2 h.1)
      (some (Out.ret (Value.tuple ⟨[(Value.bool false), (Value.int .i64 (3 : Int))]⟩) h))
      (none))
     (cond (decide ((cbR2 (arrOf a h.1) (offOf a) n) = (2 : Int)))
      (some (Out.ret (Value.tuple ⟨[(Value.bool false), (Value.int .i64 (2 : Int))]⟩) h))
      (cond (decide ((cbR2 (arrOf a h.1) (offOf a) n) = (3 : Int)))
       (some (Out.ret (Value.tuple ⟨[(Value.bool false), (Value.int .i64 (3 : Int))]⟩) h))
       (some (Out.ret (Value.tuple ⟨[(Value.bool false), (Value.int .i64 (7 : Int))]⟩) h)))))
    (none) := by kernel_rfl
theorem tree29z (a a2 : Option Addr) (sz sz2 n2 : Nat) (h : Hp) :
    evC Try.prog (p25v 25).c 60 (.call 29 ⟨[.slice a 0 sz, .slice a2 n2 sz2]⟩ h) some =
    cond (okS a 0 sz h.1)
    (some (Out.ret (Value.tuple ⟨[(Value.bool false), (Value.int .i64 (3 : Int))]⟩) h))
    (none) := by kernel_rfl
theorem tree30c (J : Task → List Value) (c : Array Value) (off n : Nat) (d : Array Value) (e n2 : Nat) :
    evC Try.prog ((sh31.ans J).or (p25 26)).c 60 (.call 30 ⟨[.slice (some ⟨0, off, none⟩) n 6, .slice (some ⟨1, e, none⟩) n2 6]⟩ ⟨[.cells c true, .cells d true], 2, []⟩) some =
    cond (okS (Option.some (Addr.mk 0 off Option.none)) n 6 [(Ob.cells c true), (Ob.cells d true)])
    (cond (decide ((cbR2 c off n) = (0 : Int)))
     (cond (okS (Option.some (Addr.mk 1 e Option.none)) n2 6 [(Ob.cells c true), (Ob.cells d true)])
      (cond (not (decide ((cbR2 d e n2) = (0 : Int))))
       (some (Out.ret (Value.tuple ⟨[(Value.bool false), (Value.int .i64 (cbR2 d e n2))]⟩) (Hp.mk [(Ob.cells c true), (Ob.cells d true)] 2 [])))
       (cond (and (decide ((0 : Int) ≤ (IntKind.wrap .i64 ((Int.ofNat n) - (1 : Int))))) (decide ((IntKind.wrap .i64 ((Int.ofNat n) - (1 : Int))) < (Int.ofNat n))))
        (cond (and true (isInt .i64 c ((off + ((Int.toNat (IntKind.wrap .i64 ((Int.ofNat n) - (1 : Int)))) * 6)) + 1)))
         (cond (and (decide ((0 : Int) ≤ (IntKind.wrap .i64 ((Int.ofNat n2) - (1 : Int))))) (decide ((IntKind.wrap .i64 ((Int.ofNat n2) - (1 : Int))) < (Int.ofNat n2))))
          (cond (and true (isInt .i64 d ((e + ((Int.toNat (IntKind.wrap .i64 ((Int.ofNat n2) - (1 : Int)))) * 6)) + 1)))
           (cond (decide ((getInt c ((off + ((Int.toNat (IntKind.wrap .i64 ((Int.ofNat n) - (1 : Int)))) * 6)) + 1)) < (getInt d ((e + ((Int.toNat (IntKind.wrap .i64 ((Int.ofNat n2) - (1 : Int)))) * 6)) + 1))))
            (some (Out.ret (Value.tuple ⟨[(Value.bool false), (Value.int .i64 (0 : Int))]⟩) (Hp.mk [(Ob.cells c true), (Ob.cells d true)] 2 [])))
            (cond (eqCode (theLoop Try.prog 30 0) (theLoop Try.prog 30 0))
             (cond (ok31 c off n d e n2 (0 : Int))
              (cond (cwB2 c off d e n2 (n - 0) 0)
               (some (Out.ret (Value.tuple ⟨[(Value.bool false), (Value.int .i64 (0 : Int))]⟩) (Hp.mk [(Ob.cells c true), (Ob.cells d true)] 2 [])))
               (some (Out.ret (Value.tuple ⟨[(Value.bool true), (Value.int .i64 (0 : Int))]⟩) (Hp.mk [(Ob.cells c true), (Ob.cells d true)] 2 []))))
              (none))
             (none)))
           (none))
          (none))
         (none))
        (none)))
      (none))
     (cond (not (decide ((cbR2 c off n) = (0 : Int))))
      (some (Out.ret (Value.tuple ⟨[(Value.bool false), (Value.int .i64 (cbR2 c off n))]⟩) (Hp.mk [(Ob.cells c true), (Ob.cells d true)] 2 [])))
      (cond (and (decide ((0 : Int) ≤ (IntKind.wrap .i64 ((Int.ofNat n) - (1 : Int))))) (decide ((IntKind.wrap .i64 ((Int.ofNat n) - (1 : Int))) < (Int.ofNat n))))
       (cond (and true (isInt .i64 c ((off + ((Int.toNat (IntKind.wrap .i64 ((Int.ofNat n) - (1 : Int)))) * 6)) + 1)))
        (cond (and (decide ((0 : Int) ≤ (IntKind.wrap .i64 ((Int.ofNat n2) - (1 : Int))))) (decide ((IntKind.wrap .i64 ((Int.ofNat n2) - (1 : Int))) < (Int.ofNat n2))))
         (cond (and true (isInt .i64 d ((e + ((Int.toNat (IntKind.wrap .i64 ((Int.ofNat n2) - (1 : Int)))) * 6)) + 1)))
          (cond (decide ((getInt c ((off + ((Int.toNat (IntKind.wrap .i64 ((Int.ofNat n) - (1 : Int)))) * 6)) + 1)) < (getInt d ((e + ((Int.toNat (IntKind.wrap .i64 ((Int.ofNat n2) - (1 : Int)))) * 6)) + 1))))
           (some (Out.ret (Value.tuple ⟨[(Value.bool false), (Value.int .i64 (0 : Int))]⟩) (Hp.mk [(Ob.cells c true), (Ob.cells d true)] 2 [])))
           (cond (eqCode (theLoop Try.prog 30 0) (theLoop Try.prog 30 0))
            (cond (ok31 c off n d e n2 (0 : Int))
             (cond (cwB2 c off d e n2 (n - 0) 0)
              (some (Out.ret (Value.tuple ⟨[(Value.bool false), (Value.int .i64 (0 : Int))]⟩) (Hp.mk [(Ob.cells c true), (Ob.cells d true)] 2 [])))
              (some (Out.ret (Value.tuple ⟨[(Value.bool true), (Value.int .i64 (0 : Int))]⟩) (Hp.mk [(Ob.cells c true), (Ob.cells d true)] 2 []))))
             (none))
            (none)))
          (none))
         (none))
        (none))
       (none))))
    (none) := by kernel_rfl
theorem tree30y (a a2 : Option Addr) (sz sz2 n : Nat) (h : Hp) :
    evC Try.prog (p25v 26).c 60 (.call 30 ⟨[.slice a n sz, .slice a2 0 sz2]⟩ h) some =
    cond (okS a n sz h.1)
    (cond (decide ((cbR2 (arrOf a h.1) (offOf a) n) = (0 : Int)))
     (cond (okS a2 0 sz2 h.1)
      (some (Out.ret (Value.tuple ⟨[(Value.bool false), (Value.int .i64 (3 : Int))]⟩) h))
      (none))
     (cond (decide ((cbR2 (arrOf a h.1) (offOf a) n) = (2 : Int)))
      (some (Out.ret (Value.tuple ⟨[(Value.bool false), (Value.int .i64 (2 : Int))]⟩) h))
      (cond (decide ((cbR2 (arrOf a h.1) (offOf a) n) = (3 : Int)))
       (some (Out.ret (Value.tuple ⟨[(Value.bool false), (Value.int .i64 (3 : Int))]⟩) h))
       (some (Out.ret (Value.tuple ⟨[(Value.bool false), (Value.int .i64 (7 : Int))]⟩) h)))))
    (none) := by kernel_rfl
theorem tree30z (a a2 : Option Addr) (sz sz2 n2 : Nat) (h : Hp) :
    evC Try.prog (p25v 26).c 60 (.call 30 ⟨[.slice a 0 sz, .slice a2 n2 sz2]⟩ h) some =
    cond (okS a 0 sz h.1)
    (some (Out.ret (Value.tuple ⟨[(Value.bool false), (Value.int .i64 (3 : Int))]⟩) h))
    (none) := by kernel_rfl

theorem cvT_err {c : Array Value} {off n : Nat} {d : Array Value} {e n2 : Nat} (h : cvE c off n d e n2 ≠ 0) : cvT c off n d e n2 = false := by
  unfold cvT; simp [h]
/-- The bands are there: how the two lists compare. -/
theorem cvT_ok {c : Array Value} {off n : Nat} {d : Array Value} {e n2 : Nat} (h : cbR2 c off n = 0) (h2 : cbR2 d e n2 = 0) : cvE c off n d e n2 = 0 ∧
    cvT c off n d e n2 = (decide (getInt d (e + (n2 - 1) * 6 + 1) ≤ getInt c (off + (n - 1) * 6 + 1)) && !(cvB2 c off n d e n2 0)) := by
  have : cvE c off n d e n2 = 0 := by unfold cvE; rw [if_neg (by rw [h]; simp), h2]
  exact ⟨this, by unfold cvT; rw [this]; rfl⟩
theorem covZ {f : Nat} {a a2 : Option Addr} {sz sz2 n2 : Nat} {c : Array Value} {off : Nat} {d : Array Value} {e : Nat} {hp : Hp} (h : Fact Try.prog (.call f ⟨[.slice a 0 sz, .slice a2 n2 sz2]⟩ hp) (.ret (.tuple ⟨[.bool false, .int .i64 3]⟩) hp)) :
    Fact Try.prog (.call f ⟨[.slice a 0 sz, .slice a2 n2 sz2]⟩ hp) (.ret (.tuple ⟨[.bool (cvT c off 0 d e n2), .int .i64 (cvE c off 0 d e n2)]⟩) hp) := by
  have h1 : cvE c off 0 d e n2 = 3 := by unfold cvE; rw [cbR2_zero]; rfl
  rw [cvT_err (by rw [h1]; decide), h1]; exact h

theorem known29c : Known Try.prog (p29 29) := by
  obtain ⟨J, hJ⟩ := known29 known72c
  intro t xx o h ho
  unfold p29 at h
  split at h
  case h_2 => cases h
  rename_i g a n sz a2 n2 sz2 hp
  split at h
  case h_2 => cases h
  rename_i hg
  obtain rfl := Nat.eq_of_beq_eq_true hg
  simp only [Option.some.injEq] at h
  subst h
  simp only [AT.out] at ho
  obtain ⟨hok, ho⟩ := cond_some ho
  obtain ⟨hok2, ho⟩ := cond_some ho
  simp only [Option.some.injEq] at ho
  subst ho
  rcases dec_iff.1 hok with rfl | ⟨b, off, rfl, rfl, hc, hgood⟩
  · exact covZ ((known25v known25c).fact noNG mixed (n := 60) (by rw [tree29z, hok]; rfl))
  rcases dec_iff.1 hok2 with rfl | ⟨b2, e, rfl, rfl, hc2, hgood2⟩
  · refine (known25v known25c).fact noNG mixed (n := 60) ?_
    rw [tree29y, hok, hok2, cond_true]
    generalize arrOf (some ⟨b, off, none⟩) hp.bl = c
    generalize arrOf a2 hp.bl = d
    generalize offOf a2 = e
    generalize offOf (some ⟨b, off, none⟩) = off
    rcases cbR2_val c off n with h | h | h | h
    · have h1 : cvE c off n d e 0 = 3 := by unfold cvE; rw [if_neg (by rw [h]; simp), cbR2_zero]
      rw [cvT_err (by rw [h1]; decide), h1, h]; rfl
    all_goals
      have h1 : cvE c off n d e 0 = cbR2 c off n := by unfold cvE; rw [if_pos (by rw [h]; simp)]
      rw [cvT_err (by rw [h1, h]; decide), h1, h]; rfl
  · refine frame2 (args1 := ⟨[.slice (some ⟨0, off, none⟩) n 6, .slice (some ⟨1, e, none⟩) n2 6]⟩) b b2 ((hJ.or known25c).fact noNG mixed (n := 60) ?_) rfl hgood.1 hgood2.1 (cells_ok hc) (cells_ok hc2) (by simp [ren1, ren0, renA]) rfl
    rw [tree29c]
    simp only [arrOf, offOf]
    generalize cellsAt hp.bl b = c at hgood ⊢
    generalize cellsAt hp.bl b2 = d at hgood2 ⊢
    rw [okS_at (c := c) (r := true) hgood (by simp), cond_true]
    by_cases h0 : cbR2 c off n = 0
    · rw [okS_at (c := d) (r := true) hgood2 (by simp), cond_true]
      by_cases h2 : cbR2 d e n2 = 0
      · obtain ⟨hE, hT⟩ := cvT_ok h0 h2
        rw [hE, hT]
        have hb := bands_of h0
        have hd := bands_of h2
        have w1 : IntKind.i64.wrap ((n : Int) - 1) = ((n - 1 : Nat) : Int) := by have := hb.pos; have := hb.few; rw [wrap64_id (by omega) (by omega)]; omega
        have w2 : IntKind.i64.wrap ((n2 : Int) - 1) = ((n2 - 1 : Nat) : Int) := by have := hd.pos; have := hd.few; rw [wrap64_id (by omega) (by omega)]; omega
        have l1 : ((n - 1 : Nat) : Int) < n := by have := hb.pos; omega
        have l2 : ((n2 - 1 : Nat) : Int) < n2 := by have := hd.pos; omega
        have x1 := (rd6 (hgood.2 (n - 1) (by omega))).2.1
        have x2 := (rd6 (hgood2.2 (n2 - 1) (by omega))).2.1
        have hk : ok29 c off n d e n2 0 n2 = true := dec_iff.2 ⟨hgood, hgood2, by omega, hb.few, hd.few, rfl⟩
        simp only [h0, h2, decide_true, Bool.not_true, cond_false, Int.ofNat_eq_natCast, w1, w2, l1, l2, x1, x2, Int.natCast_nonneg, Bool.true_and, cond_true, Int.toNat_natCast, eqCode_self, hk, Nat.sub_zero]
        by_cases hlt : getInt c (off + (n - 1) * 6 + 1) < getInt d (e + (n2 - 1) * 6 + 1)
        · have : ¬ getInt d (e + (n2 - 1) * 6 + 1) ≤ getInt c (off + (n - 1) * 6 + 1) := by omega
          simp only [hlt, this, decide_true, decide_false, cond_true, Bool.false_and]
        · have : getInt d (e + (n2 - 1) * 6 + 1) ≤ getInt c (off + (n - 1) * 6 + 1) := by omega
          simp only [hlt, this, decide_true, decide_false, cond_false, Bool.true_and]
          cases cvB2 c off n d e n2 0 <;> rfl
      · have h1 : cvE c off n d e n2 = cbR2 d e n2 := by unfold cvE; rw [if_neg (by rw [h0]; simp)]
        rw [cvT_err (by rw [h1]; exact h2), h1]
        simp only [h0, h2, decide_true, decide_false, Bool.not_true, Bool.not_false, cond_true, cond_false]
    · have h1 : cvE c off n d e n2 = cbR2 c off n := by unfold cvE; rw [if_pos h0]
      rw [cvT_err (by rw [h1]; exact h0), h1]
      simp only [h0, decide_false, Bool.not_false, cond_true]

theorem known30c : Known Try.prog (p29 30) := by
  obtain ⟨J', hJ'⟩ := known30
  obtain ⟨J, hJ⟩ := known31 hJ'
  intro t xx o h ho
  unfold p29 at h
  split at h
  case h_2 => cases h
  rename_i g a n sz a2 n2 sz2 hp
  split at h
  case h_2 => cases h
  rename_i hg
  obtain rfl := Nat.eq_of_beq_eq_true hg
  simp only [Option.some.injEq] at h
  subst h
  simp only [AT.out] at ho
  obtain ⟨hok, ho⟩ := cond_some ho
  obtain ⟨hok2, ho⟩ := cond_some ho
  simp only [Option.some.injEq] at ho
  subst ho
  rcases dec_iff.1 hok with rfl | ⟨b, off, rfl, rfl, hc, hgood⟩
  · exact covZ ((known25v known26c).fact noNG mixed (n := 60) (by rw [tree30z, hok]; rfl))
  rcases dec_iff.1 hok2 with rfl | ⟨b2, e, rfl, rfl, hc2, hgood2⟩
  · refine (known25v known26c).fact noNG mixed (n := 60) ?_
    rw [tree30y, hok, hok2, cond_true]
    generalize arrOf (some ⟨b, off, none⟩) hp.bl = c
    generalize arrOf a2 hp.bl = d
    generalize offOf a2 = e
    generalize offOf (some ⟨b, off, none⟩) = off
    rcases cbR2_val c off n with h | h | h | h
    · have h1 : cvE c off n d e 0 = 3 := by unfold cvE; rw [if_neg (by rw [h]; simp), cbR2_zero]
      rw [cvT_err (by rw [h1]; decide), h1, h]; rfl
    all_goals
      have h1 : cvE c off n d e 0 = cbR2 c off n := by unfold cvE; rw [if_pos (by rw [h]; simp)]
      rw [cvT_err (by rw [h1, h]; decide), h1, h]; rfl
  · refine frame2 (args1 := ⟨[.slice (some ⟨0, off, none⟩) n 6, .slice (some ⟨1, e, none⟩) n2 6]⟩) b b2 ((hJ.or known26c).fact noNG mixed (n := 60) ?_) rfl hgood.1 hgood2.1 (cells_ok hc) (cells_ok hc2) (by simp [ren1, ren0, renA]) rfl
    rw [tree30c]
    simp only [arrOf, offOf]
    generalize cellsAt hp.bl b = c at hgood ⊢
    generalize cellsAt hp.bl b2 = d at hgood2 ⊢
    rw [okS_at (c := c) (r := true) hgood (by simp), cond_true]
    by_cases h0 : cbR2 c off n = 0
    · rw [okS_at (c := d) (r := true) hgood2 (by simp), cond_true]
      by_cases h2 : cbR2 d e n2 = 0
      · obtain ⟨hE, hT⟩ := cvT_ok h0 h2
        rw [hE, hT]
        have hb := bands_of h0
        have hd := bands_of h2
        have w1 : IntKind.i64.wrap ((n : Int) - 1) = ((n - 1 : Nat) : Int) := by have := hb.pos; have := hb.few; rw [wrap64_id (by omega) (by omega)]; omega
        have w2 : IntKind.i64.wrap ((n2 : Int) - 1) = ((n2 - 1 : Nat) : Int) := by have := hd.pos; have := hd.few; rw [wrap64_id (by omega) (by omega)]; omega
        have l1 : ((n - 1 : Nat) : Int) < n := by have := hb.pos; omega
        have l2 : ((n2 - 1 : Nat) : Int) < n2 := by have := hd.pos; omega
        have x1 := (rd6 (hgood.2 (n - 1) (by omega))).2.1
        have x2 := (rd6 (hgood2.2 (n2 - 1) (by omega))).2.1
        have hk : ok31 c off n d e n2 0 = true := dec_iff.2 ⟨hgood, hgood2, by omega, hb.few, hd.few⟩
        simp only [h0, h2, decide_true, Bool.not_true, cond_false, Int.ofNat_eq_natCast, w1, w2, l1, l2, x1, x2, Int.natCast_nonneg, Bool.true_and, cond_true, Int.toNat_natCast, eqCode_self, hk, Nat.sub_zero]
        rw [cw_cv hb hd]
        by_cases hlt : getInt c (off + (n - 1) * 6 + 1) < getInt d (e + (n2 - 1) * 6 + 1)
        · have : ¬ getInt d (e + (n2 - 1) * 6 + 1) ≤ getInt c (off + (n - 1) * 6 + 1) := by omega
          simp only [hlt, this, decide_true, decide_false, cond_true, Bool.false_and]
        · have : getInt d (e + (n2 - 1) * 6 + 1) ≤ getInt c (off + (n - 1) * 6 + 1) := by omega
          simp only [hlt, this, decide_true, decide_false, cond_false, Bool.true_and]
          cases cvB2 c off n d e n2 0 <;> rfl
      · have h1 : cvE c off n d e n2 = cbR2 d e n2 := by unfold cvE; rw [if_neg (by rw [h0]; simp)]
        rw [cvT_err (by rw [h1]; exact h2), h1]
        simp only [h0, h2, decide_true, decide_false, Bool.not_false, cond_true]
    · have h1 : cvE c off n d e n2 = cbR2 c off n := by unfold cvE; rw [if_pos h0]
      rw [cvT_err (by rw [h1]; exact h0), h1]
      simp only [h0, decide_false, Bool.not_false, cond_true, cond_false]
end
end Go.Proofs.Ytplejmmkcfmdcaa
