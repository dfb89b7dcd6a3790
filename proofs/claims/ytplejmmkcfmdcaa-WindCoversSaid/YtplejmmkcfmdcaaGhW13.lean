/- The law WindCovers over a heap of three blocks. Conditions: none. -/
import Derived.Test.YtplejmmkcfmdcaaGhW10
import Derived.Test.YtplejmmkcfmdcaaGhWA
namespace Go.Proofs.Ytplejmmkcfmdcaa
open Go.Gh Go.RowKit
noncomputable section
set_option maxRecDepth 100000

theorem arr3 {a : Option Addr} {oa ob oc : Ob} (h : ∀ x, a = some x → x.block < 3) (X : List Ob) : arrOf a (oa :: ob :: oc :: X) = arrOf a [oa, ob, oc] := by
  cases a with
  | none => rfl
  | some x =>
    have hb := h x rfl
    obtain ⟨b, off, s⟩ := x
    simp only at hb
    unfold arrOf cellsAt
    simp only [nthO_eq]
    rcases b with _ | _ | _ | b
    · rfl
    · rfl
    · rfl
    · omega
theorem okS3 {a : Option Addr} {n sz : Nat} {oa ob oc : Ob} (h : okS a n sz [oa, ob, oc] = true) (X : List Ob) : okS a n sz (oa :: ob :: oc :: X) = true :=
  dec_iff.2 (sliceOk_app (X := X) (dec_iff.1 h))

/-! ### Bands, one behind the other -/
theorem Bands.ord {c : Array Value} {off n : Nat} (hb : Bands c off n) : ∀ {j i : Nat}, i < j → j < n → getInt c (off + i * 6 + 1) ≤ getInt c (off + j * 6)
  | 0, _, h, _ => absurd h (Nat.not_lt_zero _)
  | j + 1, i, h, hj => by
    rw [hb.from_ j hj]
    rcases Nat.eq_or_lt_of_le (Nat.le_of_lt_succ h) with e | e
    · subst e; exact Int.le_refl _
    · have := hb.ord e (by omega)
      have := hb.up j (by omega)
      omega
theorem Bands.last {c : Array Value} {off n : Nat} (hb : Bands c off n) {k : Nat} (hk : k < n) : getInt c (off + k * 6 + 1) ≤ getInt c (off + (n - 1) * 6 + 1) := by
  rcases Nat.lt_or_ge k (n - 1) with h | h
  · have := hb.ord h (by have := hb.pos; omega)
    have := hb.up (n - 1) (by have := hb.pos; omega)
    omega
  · obtain rfl : k = n - 1 := by omega
    exact Int.le_refl _
theorem Bands.at_ {c : Array Value} {off n : Nat} (hb : Bands c off n) {x : Int} (h0 : 0 ≤ x) : ∀ {m : Nat}, m < n → x < getInt c (off + m * 6 + 1) → ∃ k, k < n ∧ getInt c (off + k * 6) ≤ x ∧ x < getInt c (off + k * 6 + 1)
  | 0, hm, hx => ⟨0, hm, by have := hb.low; simp only [Nat.zero_mul, Nat.add_zero]; omega, hx⟩
  | m + 1, hm, hx => by
    by_cases h : x < getInt c (off + m * 6 + 1)
    · exact hb.at_ h0 (by omega) h
    · exact ⟨m + 1, hm, by rw [hb.from_ m hm]; omega, hx⟩
theorem Bands.ge0 {c : Array Value} {off n : Nat} (hb : Bands c off n) {k : Nat} (hk : k < n) : 0 ≤ getInt c (off + k * 6) := by
  cases k with
  | zero => have := hb.low; simp only [Nat.zero_mul, Nat.add_zero]; omega
  | succ k =>
    have h1 : getInt c (off + 0 * 6 + 1) ≤ getInt c (off + (k + 1) * 6) := hb.ord (Nat.succ_pos k) hk
    have h2 := hb.up 0 (by omega)
    have := hb.low
    simp only [Nat.zero_mul, Nat.add_zero] at h1 h2
    omega

/-- The spans of the second band lie in those of the first. -/
def LiesIn (c : Array Value) (x : Nat) (d : Array Value) (y : Nat) : Prop := getInt c (x + 2) ≤ getInt d (y + 2) ∧ getInt d (y + 3) ≤ getInt c (x + 3) ∧ getInt c (x + 4) ≤ getInt d (y + 4) ∧ getInt d (y + 5) ≤ getInt c (x + 5)
theorem cov_iff {c : Array Value} {off n : Nat} {d : Array Value} {e n2 : Nat} (h : cbR2 c off n = 0) (h2 : cbR2 d e n2 = 0) : cvT c off n d e n2 = true ↔
    getInt d (e + (n2 - 1) * 6 + 1) ≤ getInt c (off + (n - 1) * 6 + 1) ∧
    ∀ i k, i < n → k < n2 → getInt c (off + i * 6) < getInt d (e + k * 6 + 1) → getInt d (e + k * 6) < getInt c (off + i * 6 + 1) → LiesIn c (off + i * 6) d (e + k * 6) := by
  rw [(cvT_ok h h2).2, Bool.and_eq_true, decide_eq_true_eq]
  refine and_congr Iff.rfl ?_
  have key : ∀ i k, cvP c off (getInt d (e + k * 6)) (getInt d (e + k * 6 + 1)) (getInt d (e + k * 6 + 2)) (getInt d (e + k * 6 + 3)) (getInt d (e + k * 6 + 4)) (getInt d (e + k * 6 + 5)) i = true ↔
      ¬ (getInt c (off + i * 6) < getInt d (e + k * 6 + 1) → getInt d (e + k * 6) < getInt c (off + i * 6 + 1) → LiesIn c (off + i * 6) d (e + k * 6)) := by
    intro i k
    unfold cvP LiesIn
    simp only [Bool.and_eq_true, decide_eq_true_eq, Bool.not_eq_true', Bool.and_eq_false_iff, decide_eq_false_iff_not]
    grind
  rw [Bool.not_eq_true']
  constructor
  · intro hf i k hi hk
    by_cases hc : cvP c off (getInt d (e + k * 6)) (getInt d (e + k * 6 + 1)) (getInt d (e + k * 6 + 2)) (getInt d (e + k * 6 + 3)) (getInt d (e + k * 6 + 4)) (getInt d (e + k * 6 + 5)) i = true
    · have : cvB2 c off n d e n2 0 = true := by
        unfold cvB2; rw [fst_iff]
        refine ⟨k, Nat.zero_le _, by omega, ?_⟩
        unfold cvP2 cvB; rw [fst_iff]
        exact ⟨i, Nat.zero_le _, by omega, hc⟩
      rw [hf] at this; cases this
    · rw [key] at hc
      exact Classical.not_not.1 hc
  · intro hf
    cases hb : cvB2 c off n d e n2 0 with
    | false => rfl
    | true =>
      unfold cvB2 at hb; rw [fst_iff] at hb
      obtain ⟨k, _, hk, hb⟩ := hb
      unfold cvP2 cvB at hb; rw [fst_iff] at hb
      obtain ⟨i, _, hi, hb⟩ := hb
      rw [key] at hb
      exact absurd (hf i k (by omega) (by omega)) hb
theorem cvE_zero {c : Array Value} {off n : Nat} {d : Array Value} {e n2 : Nat} (h : cvE c off n d e n2 = 0) : cbR2 c off n = 0 ∧ cbR2 d e n2 = 0 := by
  unfold cvE at h
  split at h
  · rename_i hn; exact absurd h hn
  · rename_i hn; exact ⟨by simpa using hn, h⟩
theorem cov_self {c : Array Value} {off n : Nat} (h : cbR2 c off n = 0) : cvT c off n c off n = true := by
  have hb := bands_of h
  rw [cov_iff h h]
  refine ⟨Int.le_refl _, fun i k hi hk h1 h2 => ?_⟩
  rcases Nat.lt_trichotomy i k with hlt | rfl | hlt
  · have := hb.ord hlt hk; omega
  · exact ⟨Int.le_refl _, Int.le_refl _, Int.le_refl _, Int.le_refl _⟩
  · have := hb.ord hlt hi; omega
theorem cov_trans {c : Array Value} {off n : Nat} {d : Array Value} {e n2 : Nat} {g : Array Value} {q n3 : Nat} (h : cbR2 c off n = 0) (h2 : cbR2 d e n2 = 0) (h3 : cbR2 g q n3 = 0) (p : cvT c off n d e n2 = true) (r : cvT d e n2 g q n3 = true) : cvT c off n g q n3 = true := by
  have hb := bands_of h
  have hd := bands_of h2
  have hg := bands_of h3
  rw [cov_iff h h2] at p
  rw [cov_iff h2 h3] at r
  rw [cov_iff h h3]
  refine ⟨Int.le_trans r.1 p.1, fun i m hi hm h4 h5 => ?_⟩
  have u1 := hb.up i hi
  have u2 := hg.up m hm
  have l2 := hg.last hm
  have g1 := hb.ge0 hi
  have hx : ∃ x, getInt c (off + i * 6) ≤ x ∧ x < getInt c (off + i * 6 + 1) ∧ getInt g (q + m * 6) ≤ x ∧ x < getInt g (q + m * 6 + 1) := by
    by_cases hc : getInt c (off + i * 6) ≤ getInt g (q + m * 6)
    · exact ⟨getInt g (q + m * 6), hc, h5, Int.le_refl _, u2⟩
    · exact ⟨getInt c (off + i * 6), Int.le_refl _, u1, by omega, h4⟩
  obtain ⟨x, x1, x2, x3, x4⟩ := hx
  obtain ⟨k, hk, k1, k2⟩ := hd.at_ (x := x) (by omega) (m := n2 - 1) (by have := hd.pos; omega) (by have := r.1; omega)
  have a1 := p.2 i k hi hk (by omega) (by omega)
  have a2 := r.2 k m hk hm (by omega) (by omega)
  unfold LiesIn at a1 a2 ⊢
  omega
theorem fst_some {p : Nat → Bool} : ∀ {m i k : Nat}, fst p m i = some k → i ≤ k ∧ k < i + m ∧ p k = true
  | 0, _, _, h => by cases h
  | m + 1, i, k, h => by
    simp only [fst] at h
    split at h
    · rename_i hp; cases h; exact ⟨Nat.le_refl _, by omega, hp⟩
    · have := fst_some h; exact ⟨by omega, by omega, this.2.2⟩
/-- Where there is a band, it is the one that is told. -/
theorem over_at {c : Array Value} {off n : Nat} {x : Int} (hb : Bands c off n) (h0 : 0 ≤ x) (hv : ovB c off x n 0 = true) : ovI c off x n 0 < n ∧ getInt c (off + ovI c off x n 0 * 6) ≤ x ∧ x < getInt c (off + ovI c off x n 0 * 6 + 1) := by
  have hw := ow_ov (h := x) hb (m := n) (i := 0) (by omega) (fun _ => by simp [hb.low, h0])
  unfold ovB at hv
  rw [← hw] at hv
  obtain ⟨k, hk⟩ := Option.isSome_iff_exists.1 hv
  have hI : ovI c off x n 0 = k := by unfold ovI; rw [← hw, hk]; rfl
  obtain ⟨_, h2, h3⟩ := fst_some hk
  unfold owP at h3
  simp only [Bool.and_eq_true, decide_eq_true_eq] at h3
  rw [hI]
  exact ⟨by omega, h3⟩
theorem over_cov {c : Array Value} {off n : Nat} {d : Array Value} {e n2 : Nat} {x : Int} (h : cbR2 c off n = 0) (h2 : cbR2 d e n2 = 0) (p : cvT c off n d e n2 = true) (hv : ovE d e n2 x = 0) :
    ovE c off n x = 0 ∧ ovV c off n x 2 ≤ ovV d e n2 x 2 ∧ ovV d e n2 x 3 ≤ ovV c off n x 3 ∧ ovV c off n x 4 ≤ ovV d e n2 x 4 ∧ ovV d e n2 x 5 ≤ ovV c off n x 5 := by
  have hb := bands_of h
  have hd := bands_of h2
  have hx : 0 ≤ x ∧ x ≤ 99999999 ∧ ovB d e x n2 0 = true := by
    unfold ovE at hv
    rw [if_neg (by rw [h2]; simp)] at hv
    split at hv
    · cases hv
    · split at hv
      · rename_i h1 h3; exact ⟨by omega, by omega, h3⟩
      · cases hv
  obtain ⟨hx0, hx1, hx2⟩ := hx
  obtain ⟨k1, k2, k3⟩ := over_at hd hx0 hx2
  have hl := hd.last k1
  rw [cov_iff h h2] at p
  obtain ⟨i, i1, i2, i3⟩ := hb.at_ hx0 (m := n - 1) (by have := hb.pos; omega) (by have := p.1; omega)
  have hv1 : ovB c off x n 0 = true := by
    unfold ovB; rw [fst_iff]
    exact ⟨i, Nat.zero_le _, by omega, by unfold ovP; simpa using i3⟩
  obtain ⟨j1, j2, j3⟩ := over_at hb hx0 hv1
  have hE : ovE c off n x = 0 := by unfold ovE; rw [if_neg (by rw [h]; simp), if_neg (by omega), if_pos hv1]
  have := p.2 _ _ j1 k1 (by omega) (by omega)
  unfold LiesIn at this
  refine ⟨hE, ?_⟩
  unfold ovV
  simp only [hE, hv, if_true]
  exact this
theorem tree18 (a b c : Option Addr) (n sz n2 sz2 n3 sz3 : Nat) (x : Int) (oa ob oc : Ob) :
    evC Try.prog ((p27 27).or ((p29 29).or p24)).c 60 (.call 18 ⟨[.agg ⟨[.slice a n sz, .slice b n2 sz2, .slice c n3 sz3]⟩, .int .i64 x]⟩ ⟨[oa, ob, oc], 3, []⟩) some =
    cond (okS a n sz [oa, ob, oc, (Ob.cells ⟨[(Value.slice a n sz), (Value.slice b n2 sz2), (Value.slice c n3 sz3)]⟩ false)])
    (cond (okS b n2 sz2 [oa, ob, oc, (Ob.cells ⟨[(Value.slice a n sz), (Value.slice b n2 sz2), (Value.slice c n3 sz3)]⟩ false)])
     (cond (okS b n2 sz2 [oa, ob, oc, (Ob.cells ⟨[(Value.slice a n sz), (Value.slice b n2 sz2), (Value.slice c n3 sz3)]⟩ false)])
      (cond (okS c n3 sz3 [oa, ob, oc, (Ob.cells ⟨[(Value.slice a n sz), (Value.slice b n2 sz2), (Value.slice c n3 sz3)]⟩ false)])
       (cond (okS a n sz [oa, ob, oc, (Ob.cells ⟨[(Value.slice a n sz), (Value.slice b n2 sz2), (Value.slice c n3 sz3)]⟩ false)])
        (cond (okS c n3 sz3 [oa, ob, oc, (Ob.cells ⟨[(Value.slice a n sz), (Value.slice b n2 sz2), (Value.slice c n3 sz3)]⟩ false)])
         (cond (okS a n sz [oa, ob, oc, (Ob.cells ⟨[(Value.slice a n sz), (Value.slice b n2 sz2), (Value.slice c n3 sz3)]⟩ false)])
          (cond (okS a n sz [oa, ob, oc, (Ob.cells ⟨[(Value.slice a n sz), (Value.slice b n2 sz2), (Value.slice c n3 sz3)]⟩ false)])
           (cond (not (decide ((cvE (arrOf a [oa, ob, oc, (Ob.cells ⟨[(Value.slice a n sz), (Value.slice b n2 sz2), (Value.slice c n3 sz3)]⟩ false)]) (offOf a) n (arrOf b [oa, ob, oc, (Ob.cells ⟨[(Value.slice a n sz), (Value.slice b n2 sz2), (Value.slice c n3 sz3)]⟩ false)]) (offOf b) n2) = (0 : Int))))
            (cond (decide ((cvE (arrOf a [oa, ob, oc, (Ob.cells ⟨[(Value.slice a n sz), (Value.slice b n2 sz2), (Value.slice c n3 sz3)]⟩ false)]) (offOf a) n (arrOf b [oa, ob, oc, (Ob.cells ⟨[(Value.slice a n sz), (Value.slice b n2 sz2), (Value.slice c n3 sz3)]⟩ false)]) (offOf b) n2) = (0 : Int)))
             (cond (decide ((cvE (arrOf b [oa, ob, oc, (Ob.cells ⟨[(Value.slice a n sz), (Value.slice b n2 sz2), (Value.slice c n3 sz3)]⟩ false)]) (offOf b) n2 (arrOf c [oa, ob, oc, (Ob.cells ⟨[(Value.slice a n sz), (Value.slice b n2 sz2), (Value.slice c n3 sz3)]⟩ false)]) (offOf c) n3) = (0 : Int)))
              (some (Out.ret (Value.bool true) (Hp.mk [oa, ob, oc] 3 [])))
              (cond (not (cvT (arrOf b [oa, ob, oc, (Ob.cells ⟨[(Value.slice a n sz), (Value.slice b n2 sz2), (Value.slice c n3 sz3)]⟩ false)]) (offOf b) n2 (arrOf c [oa, ob, oc, (Ob.cells ⟨[(Value.slice a n sz), (Value.slice b n2 sz2), (Value.slice c n3 sz3)]⟩ false)]) (offOf c) n3))
               (some (Out.ret (Value.bool true) (Hp.mk [oa, ob, oc] 3 [])))
               (some (Out.ret (Value.bool false) (Hp.mk [oa, ob, oc] 3 [])))))
             (cond (not (cvT (arrOf a [oa, ob, oc, (Ob.cells ⟨[(Value.slice a n sz), (Value.slice b n2 sz2), (Value.slice c n3 sz3)]⟩ false)]) (offOf a) n (arrOf b [oa, ob, oc, (Ob.cells ⟨[(Value.slice a n sz), (Value.slice b n2 sz2), (Value.slice c n3 sz3)]⟩ false)]) (offOf b) n2))
              (cond (decide ((cvE (arrOf b [oa, ob, oc, (Ob.cells ⟨[(Value.slice a n sz), (Value.slice b n2 sz2), (Value.slice c n3 sz3)]⟩ false)]) (offOf b) n2 (arrOf c [oa, ob, oc, (Ob.cells ⟨[(Value.slice a n sz), (Value.slice b n2 sz2), (Value.slice c n3 sz3)]⟩ false)]) (offOf c) n3) = (0 : Int)))
               (some (Out.ret (Value.bool true) (Hp.mk [oa, ob, oc] 3 [])))
               (cond (not (cvT (arrOf b [oa, ob, oc, (Ob.cells ⟨[(Value.slice a n sz), (Value.slice b n2 sz2), (Value.slice c n3 sz3)]⟩ false)]) (offOf b) n2 (arrOf c [oa, ob, oc, (Ob.cells ⟨[(Value.slice a n sz), (Value.slice b n2 sz2), (Value.slice c n3 sz3)]⟩ false)]) (offOf c) n3))
                (some (Out.ret (Value.bool true) (Hp.mk [oa, ob, oc] 3 [])))
                (some (Out.ret (Value.bool false) (Hp.mk [oa, ob, oc] 3 [])))))
              (some (Out.ret (Value.bool false) (Hp.mk [oa, ob, oc] 3 [])))))
            (cond (not (decide ((cvE (arrOf b [oa, ob, oc, (Ob.cells ⟨[(Value.slice a n sz), (Value.slice b n2 sz2), (Value.slice c n3 sz3)]⟩ false)]) (offOf b) n2 (arrOf c [oa, ob, oc, (Ob.cells ⟨[(Value.slice a n sz), (Value.slice b n2 sz2), (Value.slice c n3 sz3)]⟩ false)]) (offOf c) n3) = (0 : Int))))
             (cond (decide ((cvE (arrOf a [oa, ob, oc, (Ob.cells ⟨[(Value.slice a n sz), (Value.slice b n2 sz2), (Value.slice c n3 sz3)]⟩ false)]) (offOf a) n (arrOf b [oa, ob, oc, (Ob.cells ⟨[(Value.slice a n sz), (Value.slice b n2 sz2), (Value.slice c n3 sz3)]⟩ false)]) (offOf b) n2) = (0 : Int)))
              (cond (decide ((cvE (arrOf b [oa, ob, oc, (Ob.cells ⟨[(Value.slice a n sz), (Value.slice b n2 sz2), (Value.slice c n3 sz3)]⟩ false)]) (offOf b) n2 (arrOf c [oa, ob, oc, (Ob.cells ⟨[(Value.slice a n sz), (Value.slice b n2 sz2), (Value.slice c n3 sz3)]⟩ false)]) (offOf c) n3) = (0 : Int)))
               (some (Out.ret (Value.bool true) (Hp.mk [oa, ob, oc] 3 [])))
               (cond (not (cvT (arrOf b [oa, ob, oc, (Ob.cells ⟨[(Value.slice a n sz), (Value.slice b n2 sz2), (Value.slice c n3 sz3)]⟩ false)]) (offOf b) n2 (arrOf c [oa, ob, oc, (Ob.cells ⟨[(Value.slice a n sz), (Value.slice b n2 sz2), (Value.slice c n3 sz3)]⟩ false)]) (offOf c) n3))
                (some (Out.ret (Value.bool true) (Hp.mk [oa, ob, oc] 3 [])))
                (some (Out.ret (Value.bool false) (Hp.mk [oa, ob, oc] 3 [])))))
              (cond (not (cvT (arrOf a [oa, ob, oc, (Ob.cells ⟨[(Value.slice a n sz), (Value.slice b n2 sz2), (Value.slice c n3 sz3)]⟩ false)]) (offOf a) n (arrOf b [oa, ob, oc, (Ob.cells ⟨[(Value.slice a n sz), (Value.slice b n2 sz2), (Value.slice c n3 sz3)]⟩ false)]) (offOf b) n2))
               (cond (decide ((cvE (arrOf b [oa, ob, oc, (Ob.cells ⟨[(Value.slice a n sz), (Value.slice b n2 sz2), (Value.slice c n3 sz3)]⟩ false)]) (offOf b) n2 (arrOf c [oa, ob, oc, (Ob.cells ⟨[(Value.slice a n sz), (Value.slice b n2 sz2), (Value.slice c n3 sz3)]⟩ false)]) (offOf c) n3) = (0 : Int)))
                (some (Out.ret (Value.bool true) (Hp.mk [oa, ob, oc] 3 [])))
                (cond (not (cvT (arrOf b [oa, ob, oc, (Ob.cells ⟨[(Value.slice a n sz), (Value.slice b n2 sz2), (Value.slice c n3 sz3)]⟩ false)]) (offOf b) n2 (arrOf c [oa, ob, oc, (Ob.cells ⟨[(Value.slice a n sz), (Value.slice b n2 sz2), (Value.slice c n3 sz3)]⟩ false)]) (offOf c) n3))
                 (some (Out.ret (Value.bool true) (Hp.mk [oa, ob, oc] 3 [])))
                 (some (Out.ret (Value.bool false) (Hp.mk [oa, ob, oc] 3 [])))))
               (some (Out.ret (Value.bool false) (Hp.mk [oa, ob, oc] 3 [])))))
             (cond (not (decide ((cvE (arrOf a [oa, ob, oc, (Ob.cells ⟨[(Value.slice a n sz), (Value.slice b n2 sz2), (Value.slice c n3 sz3)]⟩ false)]) (offOf a) n (arrOf c [oa, ob, oc, (Ob.cells ⟨[(Value.slice a n sz), (Value.slice b n2 sz2), (Value.slice c n3 sz3)]⟩ false)]) (offOf c) n3) = (0 : Int))))
              (some (Out.ret (Value.bool false) (Hp.mk [oa, ob, oc] 3 [])))
              (cond (not (decide ((cvE (arrOf a [oa, ob, oc, (Ob.cells ⟨[(Value.slice a n sz), (Value.slice b n2 sz2), (Value.slice c n3 sz3)]⟩ false)]) (offOf a) n (arrOf a [oa, ob, oc, (Ob.cells ⟨[(Value.slice a n sz), (Value.slice b n2 sz2), (Value.slice c n3 sz3)]⟩ false)]) (offOf a) n) = (0 : Int))))
               (some (Out.ret (Value.bool false) (Hp.mk [oa, ob, oc] 3 [])))
               (cond (not (cvT (arrOf a [oa, ob, oc, (Ob.cells ⟨[(Value.slice a n sz), (Value.slice b n2 sz2), (Value.slice c n3 sz3)]⟩ false)]) (offOf a) n (arrOf a [oa, ob, oc, (Ob.cells ⟨[(Value.slice a n sz), (Value.slice b n2 sz2), (Value.slice c n3 sz3)]⟩ false)]) (offOf a) n))
                (some (Out.ret (Value.bool false) (Hp.mk [oa, ob, oc] 3 [])))
                (cond (cvT (arrOf a [oa, ob, oc, (Ob.cells ⟨[(Value.slice a n sz), (Value.slice b n2 sz2), (Value.slice c n3 sz3)]⟩ false)]) (offOf a) n (arrOf b [oa, ob, oc, (Ob.cells ⟨[(Value.slice a n sz), (Value.slice b n2 sz2), (Value.slice c n3 sz3)]⟩ false)]) (offOf b) n2)
                 (cond (cvT (arrOf b [oa, ob, oc, (Ob.cells ⟨[(Value.slice a n sz), (Value.slice b n2 sz2), (Value.slice c n3 sz3)]⟩ false)]) (offOf b) n2 (arrOf c [oa, ob, oc, (Ob.cells ⟨[(Value.slice a n sz), (Value.slice b n2 sz2), (Value.slice c n3 sz3)]⟩ false)]) (offOf c) n3)
                  (cond (not (cvT (arrOf a [oa, ob, oc, (Ob.cells ⟨[(Value.slice a n sz), (Value.slice b n2 sz2), (Value.slice c n3 sz3)]⟩ false)]) (offOf a) n (arrOf c [oa, ob, oc, (Ob.cells ⟨[(Value.slice a n sz), (Value.slice b n2 sz2), (Value.slice c n3 sz3)]⟩ false)]) (offOf c) n3))
                   (some (Out.ret (Value.bool false) (Hp.mk [oa, ob, oc] 3 [])))
                   (cond (okS a n sz [oa, ob, oc, (Ob.cells ⟨[(Value.slice a n sz), (Value.slice b n2 sz2), (Value.slice c n3 sz3)]⟩ false)])
                    (cond (okS b n2 sz2 [oa, ob, oc, (Ob.cells ⟨[(Value.slice a n sz), (Value.slice b n2 sz2), (Value.slice c n3 sz3)]⟩ false), (Ob.cells ⟨[(Value.int .i64 (ovV (arrOf a [oa, ob, oc, (Ob.cells ⟨[(Value.slice a n sz), (Value.slice b n2 sz2), (Value.slice c n3 sz3)]⟩ false)]) (offOf a) n x 2)), (Value.int .i64 (ovV (arrOf a [oa, ob, oc, (Ob.cells ⟨[(Value.slice a n sz), (Value.slice b n2 sz2), (Value.slice c n3 sz3)]⟩ false)]) (offOf a) n x 3))]⟩ false), (Ob.cells ⟨[(Value.int .i64 (ovV (arrOf a [oa, ob, oc, (Ob.cells ⟨[(Value.slice a n sz), (Value.slice b n2 sz2), (Value.slice c n3 sz3)]⟩ false)]) (offOf a) n x 4)), (Value.int .i64 (ovV (arrOf a [oa, ob, oc, (Ob.cells ⟨[(Value.slice a n sz), (Value.slice b n2 sz2), (Value.slice c n3 sz3)]⟩ false)]) (offOf a) n x 5))]⟩ false)])
                     (cond (not (cvT (arrOf a [oa, ob, oc, (Ob.cells ⟨[(Value.slice a n sz), (Value.slice b n2 sz2), (Value.slice c n3 sz3)]⟩ false)]) (offOf a) n (arrOf b [oa, ob, oc, (Ob.cells ⟨[(Value.slice a n sz), (Value.slice b n2 sz2), (Value.slice c n3 sz3)]⟩ false)]) (offOf b) n2))
                      (some (Out.ret (Value.bool true) (Hp.mk [oa, ob, oc] 3 [])))
                      (cond (not (decide ((ovE (arrOf b [oa, ob, oc, (Ob.cells ⟨[(Value.slice a n sz), (Value.slice b n2 sz2), (Value.slice c n3 sz3)]⟩ false), (Ob.cells ⟨[(Value.int .i64 (ovV (arrOf a [oa, ob, oc, (Ob.cells ⟨[(Value.slice a n sz), (Value.slice b n2 sz2), (Value.slice c n3 sz3)]⟩ false)]) (offOf a) n x 2)), (Value.int .i64 (ovV (arrOf a [oa, ob, oc, (Ob.cells ⟨[(Value.slice a n sz), (Value.slice b n2 sz2), (Value.slice c n3 sz3)]⟩ false)]) (offOf a) n x 3))]⟩ false), (Ob.cells ⟨[(Value.int .i64 (ovV (arrOf a [oa, ob, oc, (Ob.cells ⟨[(Value.slice a n sz), (Value.slice b n2 sz2), (Value.slice c n3 sz3)]⟩ false)]) (offOf a) n x 4)), (Value.int .i64 (ovV (arrOf a [oa, ob, oc, (Ob.cells ⟨[(Value.slice a n sz), (Value.slice b n2 sz2), (Value.slice c n3 sz3)]⟩ false)]) (offOf a) n x 5))]⟩ false)]) (offOf b) n2 x) = (0 : Int))))
                       (some (Out.ret (Value.bool true) (Hp.mk [oa, ob, oc] 3 [])))
                       (cond (decide ((ovE (arrOf a [oa, ob, oc, (Ob.cells ⟨[(Value.slice a n sz), (Value.slice b n2 sz2), (Value.slice c n3 sz3)]⟩ false)]) (offOf a) n x) = (0 : Int)))
                        (cond (decide ((ovV (arrOf a [oa, ob, oc, (Ob.cells ⟨[(Value.slice a n sz), (Value.slice b n2 sz2), (Value.slice c n3 sz3)]⟩ false)]) (offOf a) n x 2) ≤ (ovV (arrOf b [oa, ob, oc, (Ob.cells ⟨[(Value.slice a n sz), (Value.slice b n2 sz2), (Value.slice c n3 sz3)]⟩ false), (Ob.cells ⟨[(Value.int .i64 (ovV (arrOf a [oa, ob, oc, (Ob.cells ⟨[(Value.slice a n sz), (Value.slice b n2 sz2), (Value.slice c n3 sz3)]⟩ false)]) (offOf a) n x 2)), (Value.int .i64 (ovV (arrOf a [oa, ob, oc, (Ob.cells ⟨[(Value.slice a n sz), (Value.slice b n2 sz2), (Value.slice c n3 sz3)]⟩ false)]) (offOf a) n x 3))]⟩ false), (Ob.cells ⟨[(Value.int .i64 (ovV (arrOf a [oa, ob, oc, (Ob.cells ⟨[(Value.slice a n sz), (Value.slice b n2 sz2), (Value.slice c n3 sz3)]⟩ false)]) (offOf a) n x 4)), (Value.int .i64 (ovV (arrOf a [oa, ob, oc, (Ob.cells ⟨[(Value.slice a n sz), (Value.slice b n2 sz2), (Value.slice c n3 sz3)]⟩ false)]) (offOf a) n x 5))]⟩ false)]) (offOf b) n2 x 2)))
                         (cond (decide ((ovV (arrOf b [oa, ob, oc, (Ob.cells ⟨[(Value.slice a n sz), (Value.slice b n2 sz2), (Value.slice c n3 sz3)]⟩ false), (Ob.cells ⟨[(Value.int .i64 (ovV (arrOf a [oa, ob, oc, (Ob.cells ⟨[(Value.slice a n sz), (Value.slice b n2 sz2), (Value.slice c n3 sz3)]⟩ false)]) (offOf a) n x 2)), (Value.int .i64 (ovV (arrOf a [oa, ob, oc, (Ob.cells ⟨[(Value.slice a n sz), (Value.slice b n2 sz2), (Value.slice c n3 sz3)]⟩ false)]) (offOf a) n x 3))]⟩ false), (Ob.cells ⟨[(Value.int .i64 (ovV (arrOf a [oa, ob, oc, (Ob.cells ⟨[(Value.slice a n sz), (Value.slice b n2 sz2), (Value.slice c n3 sz3)]⟩ false)]) (offOf a) n x 4)), (Value.int .i64 (ovV (arrOf a [oa, ob, oc, (Ob.cells ⟨[(Value.slice a n sz), (Value.slice b n2 sz2), (Value.slice c n3 sz3)]⟩ false)]) (offOf a) n x 5))]⟩ false)]) (offOf b) n2 x 3) ≤ (ovV (arrOf a [oa, ob, oc, (Ob.cells ⟨[(Value.slice a n sz), (Value.slice b n2 sz2), (Value.slice c n3 sz3)]⟩ false)]) (offOf a) n x 3)))
                          (cond (decide ((ovV (arrOf a [oa, ob, oc, (Ob.cells ⟨[(Value.slice a n sz), (Value.slice b n2 sz2), (Value.slice c n3 sz3)]⟩ false)]) (offOf a) n x 4) ≤ (ovV (arrOf b [oa, ob, oc, (Ob.cells ⟨[(Value.slice a n sz), (Value.slice b n2 sz2), (Value.slice c n3 sz3)]⟩ false), (Ob.cells ⟨[(Value.int .i64 (ovV (arrOf a [oa, ob, oc, (Ob.cells ⟨[(Value.slice a n sz), (Value.slice b n2 sz2), (Value.slice c n3 sz3)]⟩ false)]) (offOf a) n x 2)), (Value.int .i64 (ovV (arrOf a [oa, ob, oc, (Ob.cells ⟨[(Value.slice a n sz), (Value.slice b n2 sz2), (Value.slice c n3 sz3)]⟩ false)]) (offOf a) n x 3))]⟩ false), (Ob.cells ⟨[(Value.int .i64 (ovV (arrOf a [oa, ob, oc, (Ob.cells ⟨[(Value.slice a n sz), (Value.slice b n2 sz2), (Value.slice c n3 sz3)]⟩ false)]) (offOf a) n x 4)), (Value.int .i64 (ovV (arrOf a [oa, ob, oc, (Ob.cells ⟨[(Value.slice a n sz), (Value.slice b n2 sz2), (Value.slice c n3 sz3)]⟩ false)]) (offOf a) n x 5))]⟩ false)]) (offOf b) n2 x 4)))
                           (cond (decide ((ovV (arrOf b [oa, ob, oc, (Ob.cells ⟨[(Value.slice a n sz), (Value.slice b n2 sz2), (Value.slice c n3 sz3)]⟩ false), (Ob.cells ⟨[(Value.int .i64 (ovV (arrOf a [oa, ob, oc, (Ob.cells ⟨[(Value.slice a n sz), (Value.slice b n2 sz2), (Value.slice c n3 sz3)]⟩ false)]) (offOf a) n x 2)), (Value.int .i64 (ovV (arrOf a [oa, ob, oc, (Ob.cells ⟨[(Value.slice a n sz), (Value.slice b n2 sz2), (Value.slice c n3 sz3)]⟩ false)]) (offOf a) n x 3))]⟩ false), (Ob.cells ⟨[(Value.int .i64 (ovV (arrOf a [oa, ob, oc, (Ob.cells ⟨[(Value.slice a n sz), (Value.slice b n2 sz2), (Value.slice c n3 sz3)]⟩ false)]) (offOf a) n x 4)), (Value.int .i64 (ovV (arrOf a [oa, ob, oc, (Ob.cells ⟨[(Value.slice a n sz), (Value.slice b n2 sz2), (Value.slice c n3 sz3)]⟩ false)]) (offOf a) n x 5))]⟩ false)]) (offOf b) n2 x 5) ≤ (ovV (arrOf a [oa, ob, oc, (Ob.cells ⟨[(Value.slice a n sz), (Value.slice b n2 sz2), (Value.slice c n3 sz3)]⟩ false)]) (offOf a) n x 5)))
                            (some (Out.ret (Value.bool true) (Hp.mk [oa, ob, oc] 3 [])))
                            (some (Out.ret (Value.bool false) (Hp.mk [oa, ob, oc] 3 []))))
                           (some (Out.ret (Value.bool false) (Hp.mk [oa, ob, oc] 3 []))))
                          (some (Out.ret (Value.bool false) (Hp.mk [oa, ob, oc] 3 []))))
                         (some (Out.ret (Value.bool false) (Hp.mk [oa, ob, oc] 3 []))))
                        (some (Out.ret (Value.bool false) (Hp.mk [oa, ob, oc] 3 []))))))
                     (none))
                    (none)))
                  (cond (okS a n sz [oa, ob, oc, (Ob.cells ⟨[(Value.slice a n sz), (Value.slice b n2 sz2), (Value.slice c n3 sz3)]⟩ false)])
                   (cond (okS b n2 sz2 [oa, ob, oc, (Ob.cells ⟨[(Value.slice a n sz), (Value.slice b n2 sz2), (Value.slice c n3 sz3)]⟩ false), (Ob.cells ⟨[(Value.int .i64 (ovV (arrOf a [oa, ob, oc, (Ob.cells ⟨[(Value.slice a n sz), (Value.slice b n2 sz2), (Value.slice c n3 sz3)]⟩ false)]) (offOf a) n x 2)), (Value.int .i64 (ovV (arrOf a [oa, ob, oc, (Ob.cells ⟨[(Value.slice a n sz), (Value.slice b n2 sz2), (Value.slice c n3 sz3)]⟩ false)]) (offOf a) n x 3))]⟩ false), (Ob.cells ⟨[(Value.int .i64 (ovV (arrOf a [oa, ob, oc, (Ob.cells ⟨[(Value.slice a n sz), (Value.slice b n2 sz2), (Value.slice c n3 sz3)]⟩ false)]) (offOf a) n x 4)), (Value.int .i64 (ovV (arrOf a [oa, ob, oc, (Ob.cells ⟨[(Value.slice a n sz), (Value.slice b n2 sz2), (Value.slice c n3 sz3)]⟩ false)]) (offOf a) n x 5))]⟩ false)])
                    (cond (not (cvT (arrOf a [oa, ob, oc, (Ob.cells ⟨[(Value.slice a n sz), (Value.slice b n2 sz2), (Value.slice c n3 sz3)]⟩ false)]) (offOf a) n (arrOf b [oa, ob, oc, (Ob.cells ⟨[(Value.slice a n sz), (Value.slice b n2 sz2), (Value.slice c n3 sz3)]⟩ false)]) (offOf b) n2))
                     (some (Out.ret (Value.bool true) (Hp.mk [oa, ob, oc] 3 [])))
                     (cond (not (decide ((ovE (arrOf b [oa, ob, oc, (Ob.cells ⟨[(Value.slice a n sz), (Value.slice b n2 sz2), (Value.slice c n3 sz3)]⟩ false), (Ob.cells ⟨[(Value.int .i64 (ovV (arrOf a [oa, ob, oc, (Ob.cells ⟨[(Value.slice a n sz), (Value.slice b n2 sz2), (Value.slice c n3 sz3)]⟩ false)]) (offOf a) n x 2)), (Value.int .i64 (ovV (arrOf a [oa, ob, oc, (Ob.cells ⟨[(Value.slice a n sz), (Value.slice b n2 sz2), (Value.slice c n3 sz3)]⟩ false)]) (offOf a) n x 3))]⟩ false), (Ob.cells ⟨[(Value.int .i64 (ovV (arrOf a [oa, ob, oc, (Ob.cells ⟨[(Value.slice a n sz), (Value.slice b n2 sz2), (Value.slice c n3 sz3)]⟩ false)]) (offOf a) n x 4)), (Value.int .i64 (ovV (arrOf a [oa, ob, oc, (Ob.cells ⟨[(Value.slice a n sz), (Value.slice b n2 sz2), (Value.slice c n3 sz3)]⟩ false)]) (offOf a) n x 5))]⟩ false)]) (offOf b) n2 x) = (0 : Int))))
                      (some (Out.ret (Value.bool true) (Hp.mk [oa, ob, oc] 3 [])))
                      (cond (decide ((ovE (arrOf a [oa, ob, oc, (Ob.cells ⟨[(Value.slice a n sz), (Value.slice b n2 sz2), (Value.slice c n3 sz3)]⟩ false)]) (offOf a) n x) = (0 : Int)))
                       (cond (decide ((ovV (arrOf a [oa, ob, oc, (Ob.cells ⟨[(Value.slice a n sz), (Value.slice b n2 sz2), (Value.slice c n3 sz3)]⟩ false)]) (offOf a) n x 2) ≤ (ovV (arrOf b [oa, ob, oc, (Ob.cells ⟨[(Value.slice a n sz), (Value.slice b n2 sz2), (Value.slice c n3 sz3)]⟩ false), (Ob.cells ⟨[(Value.int .i64 (ovV (arrOf a [oa, ob, oc, (Ob.cells ⟨[(Value.slice a n sz), (Value.slice b n2 sz2), (Value.slice c n3 sz3)]⟩ false)]) (offOf a) n x 2)), (Value.int .i64 (ovV (arrOf a [oa, ob, oc, (Ob.cells ⟨[(Value.slice a n sz), (Value.slice b n2 sz2), (Value.slice c n3 sz3)]⟩ false)]) (offOf a) n x 3))]⟩ false), (Ob.cells ⟨[(Value.int .i64 (ovV (arrOf a [oa, ob, oc, (Ob.cells ⟨[(Value.slice a n sz), (Value.slice b n2 sz2), (Value.slice c n3 sz3)]⟩ false)]) (offOf a) n x 4)), (Value.int .i64 (ovV (arrOf a [oa, ob, oc, (Ob.cells ⟨[(Value.slice a n sz), (Value.slice b n2 sz2), (Value.slice c n3 sz3)]⟩ false)]) (offOf a) n x 5))]⟩ false)]) (offOf b) n2 x 2)))
                        (cond (decide ((ovV (arrOf b [oa, ob, oc, (Ob.cells ⟨[(Value.slice a n sz), (Value.slice b n2 sz2), (Value.slice c n3 sz3)]⟩ false), (Ob.cells ⟨[(Value.int .i64 (ovV (arrOf a [oa, ob, oc, (Ob.cells ⟨[(Value.slice a n sz), (Value.slice b n2 sz2), (Value.slice c n3 sz3)]⟩ false)]) (offOf a) n x 2)), (Value.int .i64 (ovV (arrOf a [oa, ob, oc, (Ob.cells ⟨[(Value.slice a n sz), (Value.slice b n2 sz2), (Value.slice c n3 sz3)]⟩ false)]) (offOf a) n x 3))]⟩ false), (Ob.cells ⟨[(Value.int .i64 (ovV (arrOf a [oa, ob, oc, (Ob.cells ⟨[(Value.slice a n sz), (Value.slice b n2 sz2), (Value.slice c n3 sz3)]⟩ false)]) (offOf a) n x 4)), (Value.int .i64 (ovV (arrOf a [oa, ob, oc, (Ob.cells ⟨[(Value.slice a n sz), (Value.slice b n2 sz2), (Value.slice c n3 sz3)]⟩ false)]) (offOf a) n x 5))]⟩ false)]) (offOf b) n2 x 3) ≤ (ovV (arrOf a [oa, ob, oc, (Ob.cells ⟨[(Value.slice a n sz), (Value.slice b n2 sz2), (Value.slice c n3 sz3)]⟩ false)]) (offOf a) n x 3)))
                         (cond (decide ((ovV (arrOf a [oa, ob, oc, (Ob.cells ⟨[(Value.slice a n sz), (Value.slice b n2 sz2), (Value.slice c n3 sz3)]⟩ false)]) (offOf a) n x 4) ≤ (ovV (arrOf b [oa, ob, oc, (Ob.cells ⟨[(Value.slice a n sz), (Value.slice b n2 sz2), (Value.slice c n3 sz3)]⟩ false), (Ob.cells ⟨[(Value.int .i64 (ovV (arrOf a [oa, ob, oc, (Ob.cells ⟨[(Value.slice a n sz), (Value.slice b n2 sz2), (Value.slice c n3 sz3)]⟩ false)]) (offOf a) n x 2)), (Value.int .i64 (ovV (arrOf a [oa, ob, oc, (Ob.cells ⟨[(Value.slice a n sz), (Value.slice b n2 sz2), (Value.slice c n3 sz3)]⟩ false)]) (offOf a) n x 3))]⟩ false), (Ob.cells ⟨[(Value.int .i64 (ovV (arrOf a [oa, ob, oc, (Ob.cells ⟨[(Value.slice a n sz), (Value.slice b n2 sz2), (Value.slice c n3 sz3)]⟩ false)]) (offOf a) n x 4)), (Value.int .i64 (ovV (arrOf a [oa, ob, oc, (Ob.cells ⟨[(Value.slice a n sz), (Value.slice b n2 sz2), (Value.slice c n3 sz3)]⟩ false)]) (offOf a) n x 5))]⟩ false)]) (offOf b) n2 x 4)))
                          (cond (decide ((ovV (arrOf b [oa, ob, oc, (Ob.cells ⟨[(Value.slice a n sz), (Value.slice b n2 sz2), (Value.slice c n3 sz3)]⟩ false), (Ob.cells ⟨[(Value.int .i64 (ovV (arrOf a [oa, ob, oc, (Ob.cells ⟨[(Value.slice a n sz), (Value.slice b n2 sz2), (Value.slice c n3 sz3)]⟩ false)]) (offOf a) n x 2)), (Value.int .i64 (ovV (arrOf a [oa, ob, oc, (Ob.cells ⟨[(Value.slice a n sz), (Value.slice b n2 sz2), (Value.slice c n3 sz3)]⟩ false)]) (offOf a) n x 3))]⟩ false), (Ob.cells ⟨[(Value.int .i64 (ovV (arrOf a [oa, ob, oc, (Ob.cells ⟨[(Value.slice a n sz), (Value.slice b n2 sz2), (Value.slice c n3 sz3)]⟩ false)]) (offOf a) n x 4)), (Value.int .i64 (ovV (arrOf a [oa, ob, oc, (Ob.cells ⟨[(Value.slice a n sz), (Value.slice b n2 sz2), (Value.slice c n3 sz3)]⟩ false)]) (offOf a) n x 5))]⟩ false)]) (offOf b) n2 x 5) ≤ (ovV (arrOf a [oa, ob, oc, (Ob.cells ⟨[(Value.slice a n sz), (Value.slice b n2 sz2), (Value.slice c n3 sz3)]⟩ false)]) (offOf a) n x 5)))
                           (some (Out.ret (Value.bool true) (Hp.mk [oa, ob, oc] 3 [])))
                           (some (Out.ret (Value.bool false) (Hp.mk [oa, ob, oc] 3 []))))
                          (some (Out.ret (Value.bool false) (Hp.mk [oa, ob, oc] 3 []))))
                         (some (Out.ret (Value.bool false) (Hp.mk [oa, ob, oc] 3 []))))
                        (some (Out.ret (Value.bool false) (Hp.mk [oa, ob, oc] 3 []))))
                       (some (Out.ret (Value.bool false) (Hp.mk [oa, ob, oc] 3 []))))))
                    (none))
                   (none)))
                 (cond (okS a n sz [oa, ob, oc, (Ob.cells ⟨[(Value.slice a n sz), (Value.slice b n2 sz2), (Value.slice c n3 sz3)]⟩ false)])
                  (cond (okS b n2 sz2 [oa, ob, oc, (Ob.cells ⟨[(Value.slice a n sz), (Value.slice b n2 sz2), (Value.slice c n3 sz3)]⟩ false), (Ob.cells ⟨[(Value.int .i64 (ovV (arrOf a [oa, ob, oc, (Ob.cells ⟨[(Value.slice a n sz), (Value.slice b n2 sz2), (Value.slice c n3 sz3)]⟩ false)]) (offOf a) n x 2)), (Value.int .i64 (ovV (arrOf a [oa, ob, oc, (Ob.cells ⟨[(Value.slice a n sz), (Value.slice b n2 sz2), (Value.slice c n3 sz3)]⟩ false)]) (offOf a) n x 3))]⟩ false), (Ob.cells ⟨[(Value.int .i64 (ovV (arrOf a [oa, ob, oc, (Ob.cells ⟨[(Value.slice a n sz), (Value.slice b n2 sz2), (Value.slice c n3 sz3)]⟩ false)]) (offOf a) n x 4)), (Value.int .i64 (ovV (arrOf a [oa, ob, oc, (Ob.cells ⟨[(Value.slice a n sz), (Value.slice b n2 sz2), (Value.slice c n3 sz3)]⟩ false)]) (offOf a) n x 5))]⟩ false)])
                   (cond (not (cvT (arrOf a [oa, ob, oc, (Ob.cells ⟨[(Value.slice a n sz), (Value.slice b n2 sz2), (Value.slice c n3 sz3)]⟩ false)]) (offOf a) n (arrOf b [oa, ob, oc, (Ob.cells ⟨[(Value.slice a n sz), (Value.slice b n2 sz2), (Value.slice c n3 sz3)]⟩ false)]) (offOf b) n2))
                    (some (Out.ret (Value.bool true) (Hp.mk [oa, ob, oc] 3 [])))
                    (cond (not (decide ((ovE (arrOf b [oa, ob, oc, (Ob.cells ⟨[(Value.slice a n sz), (Value.slice b n2 sz2), (Value.slice c n3 sz3)]⟩ false), (Ob.cells ⟨[(Value.int .i64 (ovV (arrOf a [oa, ob, oc, (Ob.cells ⟨[(Value.slice a n sz), (Value.slice b n2 sz2), (Value.slice c n3 sz3)]⟩ false)]) (offOf a) n x 2)), (Value.int .i64 (ovV (arrOf a [oa, ob, oc, (Ob.cells ⟨[(Value.slice a n sz), (Value.slice b n2 sz2), (Value.slice c n3 sz3)]⟩ false)]) (offOf a) n x 3))]⟩ false), (Ob.cells ⟨[(Value.int .i64 (ovV (arrOf a [oa, ob, oc, (Ob.cells ⟨[(Value.slice a n sz), (Value.slice b n2 sz2), (Value.slice c n3 sz3)]⟩ false)]) (offOf a) n x 4)), (Value.int .i64 (ovV (arrOf a [oa, ob, oc, (Ob.cells ⟨[(Value.slice a n sz), (Value.slice b n2 sz2), (Value.slice c n3 sz3)]⟩ false)]) (offOf a) n x 5))]⟩ false)]) (offOf b) n2 x) = (0 : Int))))
                     (some (Out.ret (Value.bool true) (Hp.mk [oa, ob, oc] 3 [])))
                     (cond (decide ((ovE (arrOf a [oa, ob, oc, (Ob.cells ⟨[(Value.slice a n sz), (Value.slice b n2 sz2), (Value.slice c n3 sz3)]⟩ false)]) (offOf a) n x) = (0 : Int)))
                      (cond (decide ((ovV (arrOf a [oa, ob, oc, (Ob.cells ⟨[(Value.slice a n sz), (Value.slice b n2 sz2), (Value.slice c n3 sz3)]⟩ false)]) (offOf a) n x 2) ≤ (ovV (arrOf b [oa, ob, oc, (Ob.cells ⟨[(Value.slice a n sz), (Value.slice b n2 sz2), (Value.slice c n3 sz3)]⟩ false), (Ob.cells ⟨[(Value.int .i64 (ovV (arrOf a [oa, ob, oc, (Ob.cells ⟨[(Value.slice a n sz), (Value.slice b n2 sz2), (Value.slice c n3 sz3)]⟩ false)]) (offOf a) n x 2)), (Value.int .i64 (ovV (arrOf a [oa, ob, oc, (Ob.cells ⟨[(Value.slice a n sz), (Value.slice b n2 sz2), (Value.slice c n3 sz3)]⟩ false)]) (offOf a) n x 3))]⟩ false), (Ob.cells ⟨[(Value.int .i64 (ovV (arrOf a [oa, ob, oc, (Ob.cells ⟨[(Value.slice a n sz), (Value.slice b n2 sz2), (Value.slice c n3 sz3)]⟩ false)]) (offOf a) n x 4)), (Value.int .i64 (ovV (arrOf a [oa, ob, oc, (Ob.cells ⟨[(Value.slice a n sz), (Value.slice b n2 sz2), (Value.slice c n3 sz3)]⟩ false)]) (offOf a) n x 5))]⟩ false)]) (offOf b) n2 x 2)))
                       (cond (decide ((ovV (arrOf b [oa, ob, oc, (Ob.cells ⟨[(Value.slice a n sz), (Value.slice b n2 sz2), (Value.slice c n3 sz3)]⟩ false), (Ob.cells ⟨[(Value.int .i64 (ovV (arrOf a [oa, ob, oc, (Ob.cells ⟨[(Value.slice a n sz), (Value.slice b n2 sz2), (Value.slice c n3 sz3)]⟩ false)]) (offOf a) n x 2)), (Value.int .i64 (ovV (arrOf a [oa, ob, oc, (Ob.cells ⟨[(Value.slice a n sz), (Value.slice b n2 sz2), (Value.slice c n3 sz3)]⟩ false)]) (offOf a) n x 3))]⟩ false), (Ob.cells ⟨[(Value.int .i64 (ovV (arrOf a [oa, ob, oc, (Ob.cells ⟨[(Value.slice a n sz), (Value.slice b n2 sz2), (Value.slice c n3 sz3)]⟩ false)]) (offOf a) n x 4)), (Value.int .i64 (ovV (arrOf a [oa, ob, oc, (Ob.cells ⟨[(Value.slice a n sz), (Value.slice b n2 sz2), (Value.slice c n3 sz3)]⟩ false)]) (offOf a) n x 5))]⟩ false)]) (offOf b) n2 x 3) ≤ (ovV (arrOf a [oa, ob, oc, (Ob.cells ⟨[(Value.slice a n sz), (Value.slice b n2 sz2), (Value.slice c n3 sz3)]⟩ false)]) (offOf a) n x 3)))
                        (cond (decide ((ovV (arrOf a [oa, ob, oc, (Ob.cells ⟨[(Value.slice a n sz), (Value.slice b n2 sz2), (Value.slice c n3 sz3)]⟩ false)]) (offOf a) n x 4) ≤ (ovV (arrOf b [oa, ob, oc, (Ob.cells ⟨[(Value.slice a n sz), (Value.slice b n2 sz2), (Value.slice c n3 sz3)]⟩ false), (Ob.cells ⟨[(Value.int .i64 (ovV (arrOf a [oa, ob, oc, (Ob.cells ⟨[(Value.slice a n sz), (Value.slice b n2 sz2), (Value.slice c n3 sz3)]⟩ false)]) (offOf a) n x 2)), (Value.int .i64 (ovV (arrOf a [oa, ob, oc, (Ob.cells ⟨[(Value.slice a n sz), (Value.slice b n2 sz2), (Value.slice c n3 sz3)]⟩ false)]) (offOf a) n x 3))]⟩ false), (Ob.cells ⟨[(Value.int .i64 (ovV (arrOf a [oa, ob, oc, (Ob.cells ⟨[(Value.slice a n sz), (Value.slice b n2 sz2), (Value.slice c n3 sz3)]⟩ false)]) (offOf a) n x 4)), (Value.int .i64 (ovV (arrOf a [oa, ob, oc, (Ob.cells ⟨[(Value.slice a n sz), (Value.slice b n2 sz2), (Value.slice c n3 sz3)]⟩ false)]) (offOf a) n x 5))]⟩ false)]) (offOf b) n2 x 4)))
                         (cond (decide ((ovV (arrOf b [oa, ob, oc, (Ob.cells ⟨[(Value.slice a n sz), (Value.slice b n2 sz2), (Value.slice c n3 sz3)]⟩ false), (Ob.cells ⟨[(Value.int .i64 (ovV (arrOf a [oa, ob, oc, (Ob.cells ⟨[(Value.slice a n sz), (Value.slice b n2 sz2), (Value.slice c n3 sz3)]⟩ false)]) (offOf a) n x 2)), (Value.int .i64 (ovV (arrOf a [oa, ob, oc, (Ob.cells ⟨[(Value.slice a n sz), (Value.slice b n2 sz2), (Value.slice c n3 sz3)]⟩ false)]) (offOf a) n x 3))]⟩ false), (Ob.cells ⟨[(Value.int .i64 (ovV (arrOf a [oa, ob, oc, (Ob.cells ⟨[(Value.slice a n sz), (Value.slice b n2 sz2), (Value.slice c n3 sz3)]⟩ false)]) (offOf a) n x 4)), (Value.int .i64 (ovV (arrOf a [oa, ob, oc, (Ob.cells ⟨[(Value.slice a n sz), (Value.slice b n2 sz2), (Value.slice c n3 sz3)]⟩ false)]) (offOf a) n x 5))]⟩ false)]) (offOf b) n2 x 5) ≤ (ovV (arrOf a [oa, ob, oc, (Ob.cells ⟨[(Value.slice a n sz), (Value.slice b n2 sz2), (Value.slice c n3 sz3)]⟩ false)]) (offOf a) n x 5)))
                          (some (Out.ret (Value.bool true) (Hp.mk [oa, ob, oc] 3 [])))
                          (some (Out.ret (Value.bool false) (Hp.mk [oa, ob, oc] 3 []))))
                         (some (Out.ret (Value.bool false) (Hp.mk [oa, ob, oc] 3 []))))
                        (some (Out.ret (Value.bool false) (Hp.mk [oa, ob, oc] 3 []))))
                       (some (Out.ret (Value.bool false) (Hp.mk [oa, ob, oc] 3 []))))
                      (some (Out.ret (Value.bool false) (Hp.mk [oa, ob, oc] 3 []))))))
                   (none))
                  (none))))))))
           (none))
          (none))
         (none))
        (none))
       (none))
      (none))
     (none))
    (none) := by kernel_rfl

theorem law18 {a b c : Option Addr} {n sz n2 sz2 n3 sz3 : Nat} {x : Int} {oa ob oc : Ob} (ha : ∀ y, a = some y → y.block < 3) (hb : ∀ y, b = some y → y.block < 3) (hc : ∀ y, c = some y → y.block < 3)
    (h1 : okS a n sz [oa, ob, oc] = true) (h2 : okS b n2 sz2 [oa, ob, oc] = true) (h3 : okS c n3 sz3 [oa, ob, oc] = true) :
    Fact Try.prog (.call 18 ⟨[.agg ⟨[.slice a n sz, .slice b n2 sz2, .slice c n3 sz3]⟩, .int .i64 x]⟩ ⟨[oa, ob, oc], 3, []⟩) (.ret (.bool true) ⟨[oa, ob, oc], 3, []⟩) := by
  refine (known27c.or (known29c.or known24)).fact noNG mixed (n := 60) ?_
  rw [tree18]
  simp only [arr3 ha, arr3 hb, arr3 hc, okS3 h1, okS3 h2, okS3 h3, cond_true]
  generalize arrOf a [oa, ob, oc] = A
  generalize arrOf b [oa, ob, oc] = B
  generalize arrOf c [oa, ob, oc] = C
  generalize offOf a = fa
  generalize offOf b = fb
  generalize offOf c = fc
  by_cases e1 : cvE A fa n B fb n2 = 0
  · obtain ⟨zA, zB⟩ := cvE_zero e1
    by_cases e2 : cvE B fb n2 C fc n3 = 0
    · obtain ⟨_, zC⟩ := cvE_zero e2
      have e3 : cvE A fa n C fc n3 = 0 := (cvT_ok zA zC).1
      have e4 : cvE A fa n A fa n = 0 := (cvT_ok zA zA).1
      have s := cov_self zA
      cases p : cvT A fa n B fb n2 with
      | true =>
        cases q : cvT B fb n2 C fc n3 with
        | true =>
          have r := cov_trans zA zB zC p q
          by_cases v : ovE B fb n2 x = 0
          · obtain ⟨v1, v2, v3, v4, v5⟩ := over_cov zA zB p v
            simp only [e1, e2, e3, e4, s, r, v, v1, v2, v3, v4, v5, decide_true, Bool.not_true, cond_true, cond_false]
          · simp only [e1, e2, e3, e4, s, r, v, decide_true, decide_false, Bool.not_true, Bool.not_false, cond_true, cond_false]
        | false =>
          by_cases v : ovE B fb n2 x = 0
          · obtain ⟨v1, v2, v3, v4, v5⟩ := over_cov zA zB p v
            simp only [e1, e2, e3, e4, s, v, v1, v2, v3, v4, v5, decide_true, Bool.not_true, cond_true, cond_false]
          · simp only [e1, e2, e3, e4, s, v, decide_true, decide_false, Bool.not_true, Bool.not_false, cond_true, cond_false]
      | false =>
        simp only [e1, e2, e3, e4, s, decide_true, Bool.not_true, Bool.not_false, cond_true, cond_false]
    · have t2 := cvT_err e2
      simp only [e1, e2, t2, decide_true, decide_false, Bool.not_true, Bool.not_false, cond_true, cond_false]
  · have t1 := cvT_err e1
    by_cases e2 : cvE B fb n2 C fc n3 = 0
    · simp only [e1, e2, t1, decide_true, decide_false, Bool.not_false, cond_true, cond_false]
    · have t2 := cvT_err e2
      simp only [e1, e2, t1, t2, decide_false, Bool.not_false, cond_true, cond_false]
end
end Go.Proofs.Ytplejmmkcfmdcaa
