/- WindAges proved: if the sources agree for a tick that is not before now, they do for each later one, and no span is narrower. Conditions: none. -/
import Derived.Test.YtjdidbnmkogflaaMg12
import Derived.Test.YtjdidbnmkogflaaMg6
import Derived.Test.YtjdidbnmkogflaaMg11
import Derived.Test.YtjdidbnmkogflaaMg10
import Derived.Test.YtjdidbnmkogflaaMg8
namespace Go.Proofs.Ytjdidbnmkogflaa
open Go.Gi Go.RowKit Go.Proofs.Ytjdidbnmkogflaa.Old
noncomputable section
set_option maxRecDepth 100000
set_option linter.unusedVariables false
set_option linter.unusedSimpArgs false
theorem cellsB (L : List Bd) {i : Nat} (h : i < L.length) : ∀ j, lget (arrB L).toList (0 + i * 6 + j) = lget ((L[i]).row ++ (rowsB L).drop (i * 6 + 6)) j := by
  obtain ⟨r, e⟩ := drop_rows L i h
  intro j
  have hr : (rowsB L).drop (i * 6 + 6) = r := by
    rw [← List.drop_drop, e]; rfl
  rw [hr, ← e, lget_drop, Nat.zero_add]; rfl
theorem getB (L : List Bd) {i : Nat} (h : i < L.length) : getInt (arrB L) (0 + i * 6) = L[i].f ∧ getInt (arrB L) (0 + i * 6 + 1) = L[i].t ∧ getInt (arrB L) (0 + i * 6 + 1 + 1) = L[i].xl ∧
    getInt (arrB L) (0 + i * 6 + 1 + 1 + 1) = L[i].xh ∧ getInt (arrB L) (0 + i * 6 + 1 + 1 + 1 + 1) = L[i].yl ∧ getInt (arrB L) (0 + i * 6 + 1 + 1 + 1 + 1 + 1) = L[i].yh := by
  have g := cellsB L h
  have g0 := g 0
  have g1 := g 1
  have g2 := g 2
  have g3 := g 3
  have g4 := g 4
  have g5 := g 5
  simp only [Nat.add_zero, Nat.add_assoc, Nat.reduceAdd] at g0 g1 g2 g3 g4 g5
  simp only [getInt, Nat.add_assoc, Nat.reduceAdd, g0, g1, g2, g3, g4, g5]
  exact ⟨rfl, rfl, rfl, rfl, rfl, rfl⟩
theorem isB1 (L : List Bd) {i : Nat} (h : i < L.length) : isInt .i64 (arrB L) (0 + i * 6 + 1) = true := by
  have g1 := cellsB L h 1
  simp only [isInt, g1]
  rfl
def spW (a b : Int) : Prop := a ≤ b ∧ -20000 ≤ a ∧ a ≤ 20000 ∧ -20000 ≤ b ∧ b ≤ 20000
def okBd (b : Bd) (from_ : Int) : Prop := b.f = from_ ∧ b.f < b.t ∧ b.t ≤ 100000000 ∧ spW b.xl b.xh ∧ spW b.yl b.yh
def valF : Int → List Bd → Prop
  | _, [] => True
  | f, b :: r => okBd b f ∧ valF b.t r
theorem F105_of {a : Int} (h1 : -20000 ≤ a) (h2 : a ≤ 20000) : F105_ok a = true ∧ F105_0 a = true := by
  have e : F105 a = some ⟨true⟩ := by
    unfold F105 rt105
    simp only [RT.val, h1, h2, decide_true, cond_true]
  exact ⟨by simp only [F105_ok, e]; rfl, by simp only [F105_0, e]⟩
theorem F108_of {a b : Int} (h : spW a b) : F108_ok a b = true ∧ F108_0 a b = true := by
  obtain ⟨h1, h2, h3, h4, h5⟩ := h
  have e : F108 a b = some ⟨true⟩ := by
    unfold F108 rt108
    simp only [RT.val, h1, (F105_of h2 h3).1, (F105_of h2 h3).2, (F105_of h4 h5).1, (F105_of h4 h5).2, decide_true, cond_true]
  exact ⟨by simp only [F108_ok, e]; rfl, by simp only [F108_0, e]⟩
theorem F68_of {b : Bd} {f : Int} (h : okBd b f) : F68_ok b.f b.t b.xl b.xh b.yl b.yh f = true ∧ F68_0 b.f b.t b.xl b.xh b.yl b.yh f = 0 := by
  obtain ⟨h1, h2, h3, h4, h5⟩ := h
  obtain ⟨x1, x2⟩ := F108_of h4
  obtain ⟨y1, y2⟩ := F108_of h5
  have e : F68 b.f b.t b.xl b.xh b.yl b.yh f = some ⟨0⟩ := by
    unfold F68 rt68
    simp only [RT.val, h1, decide_eq_false (show ¬ b.t ≤ f by omega), decide_eq_false (show ¬ (100000000 : Int) < b.t by omega), x1, x2, y1, y2, decide_true, Bool.not_true, cond_true, cond_false]
  exact ⟨by simp only [F68_ok, e]; rfl, by simp only [F68_0, e]⟩
theorem loop25 (L : List Bd) (hn : L.length ≤ 1000) : ∀ (m i : Nat) (f : Int), i + m = L.length → valF f (L.drop i) →
    loopR rd25_0 ⟨f, arrB L, 0, L.length, (L.length : Int), (i : Int)⟩ = some .k1
  | 0, i, f, e, h => loopR_done (by
      have h1 : ¬ ((i : Int) < (L.length : Int)) := by omega
      simp only [rd25_0, RT.val, h1, decide_false, cond_false])
  | m + 1, i, f, e, h => by
    have hi : i < L.length := by omega
    rw [List.drop_eq_getElem_cons hi] at h
    obtain ⟨ho, hr⟩ := h
    refine (loopR_next ?_).trans (loop25 L hn m (i + 1) (L[i]).t (by omega) hr)
    have hki : (i : Int) < (L.length : Int) := by omega
    have h0 : (0 : Int) ≤ (i : Int) := by omega
    have h3 : IntKind.wrap .i64 ((i : Int) + 1) = ((i + 1 : Nat) : Int) := by rw [wrap64_id (by omega) (by omega)]; omega
    have hr := rdOk_arrB L hi
    obtain ⟨b1, b2, b3, b4, b5, b6⟩ := getB L hi
    obtain ⟨k1, k2⟩ := F68_of ho
    simp only [rd25_0, RT.val, Int.ofNat_eq_natCast, hki, h0, Int.toNat_natCast, hr, b1, b2, b3, b4, b5, b6, k1, k2, h3, decide_true, Bool.and_self, Bool.not_true, cond_true, cond_false]
theorem F25_of {L : List Bd} (h1 : 1 ≤ L.length) (h2 : L.length ≤ 20) (h : valF 0 L) : F25_ok (arrB L) 0 L.length = true ∧ F25_0 (arrB L) 0 L.length = 0 ∧ F25_1 (arrB L) 0 L.length = 0 := by
  have hL := loop25 L (by omega) L.length 0 0 (by omega) h
  have hL' : L25_0 ⟨0, arrB L, 0, L.length, Int.ofNat L.length, 0⟩ = _ := hL
  have e : F25 (arrB L) 0 L.length = some ⟨0, 0⟩ := by
    unfold F25 rt25
    simp only [RT.val, decide_eq_false (show ¬ Int.ofNat L.length < 1 by simp only [Int.ofNat_eq_natCast]; omega), decide_eq_false (show ¬ (20 : Int) < Int.ofNat L.length by simp only [Int.ofNat_eq_natCast]; omega), eqCode_self, L25_0_k0, L25_0_k1, hL', cond_true, cond_false]
  exact ⟨by simp only [F25_ok, e]; rfl, by simp only [F25_0, e], by simp only [F25_1, e]⟩
def covB (y x : Bd) : Prop := y.f < x.t → x.f < y.t → y.xl ≤ x.xl ∧ x.xh ≤ y.xh ∧ y.yl ≤ x.yl ∧ x.yh ≤ y.yh
theorem F109_eq (a b c d : Int) : F109_ok a b c d = true ∧ F109_0 a b c d = (decide (c ≤ a) && decide (b ≤ d)) := by
  have e : F109 a b c d = some ⟨decide (c ≤ a) && decide (b ≤ d)⟩ := by
    unfold F109 rt109
    by_cases h : c ≤ a <;> simp [RT.val, h]
  exact ⟨by simp [F109_ok, e], by simp [F109_0, e]⟩
theorem loop72 (L : List Bd) (x : Bd) (hn : L.length ≤ 1000) (h : ∀ i (hi : i < L.length), covB L[i] x) : ∀ (m i : Nat), i + m = L.length →
    loopR rd72_0 ⟨arrB L, 0, L.length, (L.length : Int), (i : Int), x.f, x.t, x.xl, x.xh, x.yl, x.yh⟩ = some (.k1 x.f x.t x.xl x.xh x.yl x.yh)
  | 0, i, e => loopR_done (by
      have h1 : ¬ ((i : Int) < (L.length : Int)) := by omega
      simp only [rd72_0, RT.val, h1, decide_false, cond_false])
  | m + 1, i, e => by
    have hi : i < L.length := by omega
    refine (loopR_next ?_).trans (loop72 L x hn h m (i + 1) (by omega))
    have hki : (i : Int) < (L.length : Int) := by omega
    have h0 : (0 : Int) ≤ (i : Int) := by omega
    have h3 : IntKind.wrap .i64 ((i : Int) + 1) = ((i + 1 : Nat) : Int) := by rw [wrap64_id (by omega) (by omega)]; omega
    have hr := rdOk_arrB L hi
    obtain ⟨b1, b2, b3, b4, b5, b6⟩ := getB L hi
    have hc := h i hi
    unfold covB at hc
    by_cases m1 : (L[i]).f < x.t
    · by_cases m2 : x.f < (L[i]).t
      · obtain ⟨q1, q2, q3, q4⟩ := hc m1 m2
        simp only [rd72_0, RT.val, Int.ofNat_eq_natCast, hki, h0, Int.toNat_natCast, hr, b1, b2, b3, b4, b5, b6, m1, m2, (F109_eq _ _ _ _).1, (F109_eq _ _ _ _).2, q1, q2, q3, q4, h3, decide_true, Bool.and_self, Bool.not_true, cond_true, cond_false]
      · simp only [rd72_0, RT.val, Int.ofNat_eq_natCast, hki, h0, Int.toNat_natCast, hr, b1, b2, m1, m2, h3, decide_true, decide_false, Bool.and_self, cond_true, cond_false]
    · simp only [rd72_0, RT.val, Int.ofNat_eq_natCast, hki, h0, Int.toNat_natCast, hr, b1, b2, m1, h3, decide_true, decide_false, Bool.and_self, cond_true, cond_false]
theorem F72_of {L : List Bd} {x : Bd} (hn : L.length ≤ 1000) (h : ∀ i (hi : i < L.length), covB L[i] x) : F72_ok (arrB L) 0 L.length x.f x.t x.xl x.xh x.yl x.yh = true ∧ F72_0 (arrB L) 0 L.length x.f x.t x.xl x.xh x.yl x.yh = true := by
  have hL := loop72 L x hn h L.length 0 (by omega)
  have hL' : L72_0 ⟨arrB L, 0, L.length, Int.ofNat L.length, 0, x.f, x.t, x.xl, x.xh, x.yl, x.yh⟩ = _ := hL
  have e : F72 (arrB L) 0 L.length x.f x.t x.xl x.xh x.yl x.yh = some ⟨true⟩ := by
    unfold F72 rt72
    simp only [RT.val, eqCode_self, L72_0_k0, L72_0_k1, hL', cond_true, cond_false]
  exact ⟨by simp only [F72_ok, e]; rfl, by simp only [F72_0, e]⟩
theorem loop29 (A B : List Bd) (hn : A.length ≤ 1000) (hm : B.length ≤ 1000) (h : ∀ i (hi : i < A.length) j (hj : j < B.length), covB A[i] B[j]) : ∀ (m j : Nat), j + m = B.length →
    loopR rd29_0 ⟨arrB A, 0, A.length, arrB B, 0, B.length, (B.length : Int), (j : Int)⟩ = some .k1
  | 0, j, e => loopR_done (by
      have h1 : ¬ ((j : Int) < (B.length : Int)) := by omega
      simp only [rd29_0, RT.val, h1, decide_false, cond_false])
  | m + 1, j, e => by
    have hj : j < B.length := by omega
    refine (loopR_next ?_).trans (loop29 A B hn hm h m (j + 1) (by omega))
    have hki : (j : Int) < (B.length : Int) := by omega
    have h0 : (0 : Int) ≤ (j : Int) := by omega
    have h3 : IntKind.wrap .i64 ((j : Int) + 1) = ((j + 1 : Nat) : Int) := by rw [wrap64_id (by omega) (by omega)]; omega
    have hr := rdOk_arrB B hj
    obtain ⟨b1, b2, b3, b4, b5, b6⟩ := getB B hj
    obtain ⟨k1, k2⟩ := F72_of (L := A) (x := B[j]) hn (fun i hi => h i hi j hj)
    simp only [rd29_0, RT.val, Int.ofNat_eq_natCast, hki, h0, Int.toNat_natCast, hr, b1, b2, b3, b4, b5, b6, k1, k2, h3, decide_true, Bool.and_self, Bool.not_true, cond_true, cond_false]
theorem F29_of {A B : List Bd} (a1 : 1 ≤ A.length) (a2 : A.length ≤ 20) (a3 : valF 0 A) (b1 : 1 ≤ B.length) (b2 : B.length ≤ 20) (b3 : valF 0 B)
    (hl : (B[B.length - 1]'(by omega)).t ≤ (A[A.length - 1]'(by omega)).t) (h : ∀ i (hi : i < A.length) j (hj : j < B.length), covB A[i] B[j]) :
    F29_ok (arrB A) 0 A.length (arrB B) 0 B.length = true ∧ F29_0 (arrB A) 0 A.length (arrB B) 0 B.length = true ∧ F29_1 (arrB A) 0 A.length (arrB B) 0 B.length = 0 := by
  obtain ⟨p1, p2, p3⟩ := F25_of a1 a2 a3
  obtain ⟨q1, q2, q3⟩ := F25_of b1 b2 b3
  have hL := loop29 A B (by omega) (by omega) h B.length 0 (by omega)
  have hL' : L29_0 ⟨arrB A, 0, A.length, arrB B, 0, B.length, Int.ofNat B.length, 0⟩ = _ := hL
  have wa : IntKind.wrap .i64 ((A.length : Int) - 1) = ((A.length - 1 : Nat) : Int) := by rw [wrap64_id (by omega) (by omega)]; omega
  have wb : IntKind.wrap .i64 ((B.length : Int) - 1) = ((B.length - 1 : Nat) : Int) := by rw [wrap64_id (by omega) (by omega)]; omega
  have ia := isB1 A (show A.length - 1 < A.length by omega)
  have ib := isB1 B (show B.length - 1 < B.length by omega)
  have ga := (getB A (show A.length - 1 < A.length by omega)).2.1
  have gb := (getB B (show B.length - 1 < B.length by omega)).2.1
  have ha : (((A.length - 1 : Nat) : Int)) < (A.length : Int) := by omega
  have hb : (((B.length - 1 : Nat) : Int)) < (B.length : Int) := by omega
  have za : (0 : Int) ≤ ((A.length - 1 : Nat) : Int) := by omega
  have zb : (0 : Int) ≤ ((B.length - 1 : Nat) : Int) := by omega
  have e : F29 (arrB A) 0 A.length (arrB B) 0 B.length = some ⟨true, 0⟩ := by
    unfold F29 rt29
    simp only [RT.val, p1, p3, q1, q3, Int.ofNat_eq_natCast, wa, wb, ha, hb, za, zb, Int.toNat_natCast, ia, ib, ga, gb, decide_eq_false (show ¬ (A[A.length - 1]'(by omega)).t < (B[B.length - 1]'(by omega)).t by omega), decide_true, Bool.and_self, Bool.not_true, cond_true, cond_false, eqCode_self]
    simp only [Int.ofNat_eq_natCast] at hL'
    simp only [L29_0_k0, L29_0_k1, hL', cond_true, cond_false]
  exact ⟨by simp only [F29_ok, e]; rfl, by simp only [F29_0, e], by simp only [F29_1, e]⟩
end
end Go.Proofs.Ytjdidbnmkogflaa

namespace Go.Proofs.Ytjdidbnmkogflaa
open Go.Gi Go.RowKit Go.Proofs.Ytjdidbnmkogflaa.Old
noncomputable section
set_option maxRecDepth 100000
set_option linter.unusedVariables false
set_option linter.unusedSimpArgs false
def tkB (x : Int) : Bool := decide (0 ≤ x) && decide (x ≤ 100000)
section
variable {c0 c c3 : Array Value} {n n2 n3 : Nat} {age shear h x y : Int}
def bnS (c0 c c3 : Array Value) (n n2 n3 : Nat) (age shear x y : Int) : List Bd × Int :=
  if F20_2 c0 0 n c 0 n2 c3 0 n3 age shear = 0 then
    (if (tkB x && tkB y) = true then
      (match bnds c0 c c3 n n2 age shear x y n3 0 with
       | some R => (R, 0)
       | none => ([], 9))
     else ([], 7))
  else ([], F20_2 c0 0 n c 0 n2 c3 0 n3 age shear)
theorem tkQ {k : Nat} (hc : ∀ k, k < n3 → 1 ≤ getInt c3 k ∧ getInt c3 k ≤ 100000000) (hk : k < n3) (hxy : (tkB x && tkB y) = true) : Qst (wLo c3 (k : Int)) (wHi c3 (k : Int)) x y :=
  qst hc (show qErr n3 (k : Int) x y = 0 by
    unfold qErr
    rw [if_neg (by omega)]
    exact if_pos hxy)
theorem F42_eq (g1 : GL L7 7 c0 n) (g2 : GL L5 5 c n2) (g3 : GL L1 1 c3 n3) : F42 c0 0 n c 0 n2 c3 0 n3 age shear x y =
    some ⟨arrB (bnS c0 c c3 n n2 n3 age shear x y).1, 0, (bnS c0 c c3 n n2 n3 age shear x y).1.length, (bnS c0 c c3 n n2 n3 age shear x y).2⟩ := by
  have hok := F20_ok_of (age := age) (shear := shear) g1 g2 g3
  have k4 : F91_0 0 0 x y = (tkB x && tkB y) := F91_0_eq 0 0 x y
  unfold F42 rt42 bnS
  by_cases hz : F20_2 c0 0 n c 0 n2 c3 0 n3 age shear = 0
  · obtain ⟨hv, hn, hc⟩ := vld g1 g2 g3 hz
    rw [if_pos hz]
    by_cases hxy : (tkB x && tkB y) = true
    · rw [if_pos hxy]
      obtain ⟨a, b, hL⟩ := loop42 (tick := x) (now := y) hv g3 (by omega) (fun k hk => dec_iff.2 ⟨hok, hz, tkQ hc hk hxy⟩) n3 0 [] 0 0 (by omega) rfl
      have hL' : L42_0 ⟨none, c3, 0, n3, Int.ofNat n3, 0, c0, 0, n, c, 0, n2, c3, 0, n3, age, shear, 0, 0, x, y⟩ = _ := hL
      cases hb : bnds c0 c c3 n n2 age shear x y n3 0 with
      | none =>
        rw [hb] at hL'
        simp only [RT.val, hok, hz, F91_ok_eq, k4, hxy, eqCode_self, L42_0_k0, L42_0_k0_0, L42_0_k0_1, L42_0_k0_2, L42_0_k0_3, hL', decide_true, Bool.not_true, cond_true, cond_false]
        rfl
      | some R =>
        rw [hb] at hL'
        simp only [RT.val, hok, hz, F91_ok_eq, k4, hxy, eqCode_self, L42_0_k0, L42_0_k1, L42_0_k1_0, L42_0_k1_1, L42_0_k1_2, hL', decide_true, Bool.not_true, cond_true, cond_false, List.nil_append]
    · rw [if_neg hxy]
      rw [Bool.not_eq_true] at hxy
      simp only [RT.val, hok, hz, F91_ok_eq, k4, hxy, decide_true, Bool.not_true, Bool.not_false, cond_true, cond_false]
      rfl
  · rw [if_neg hz]
    simp only [RT.val, hok, hz, decide_false, Bool.not_false, cond_true]
    rfl
end
end
end Go.Proofs.Ytjdidbnmkogflaa

namespace Go.Proofs.Ytjdidbnmkogflaa
open Go.Gi Go.RowKit Go.Proofs.Ytjdidbnmkogflaa.Old
noncomputable section
set_option maxRecDepth 100000
set_option linter.unusedVariables false
set_option linter.unusedSimpArgs false
section
variable {c0 c c3 : Array Value} {n n2 n3 : Nat} {age shear lo hi tick now x y : Int}
theorem cuts_up (g1 : GL L7 7 c0 n) (g2 : GL L5 5 c n2) (g3 : GL L1 1 c3 n3) (h : F20_2 c0 0 n c 0 n2 c3 0 n3 age shear = 0) : ∀ k, 0 < k → k < n3 → getInt c3 (k - 1) < getInt c3 k := by
  have hz := ck_zero (show ck3 (some ⟨0, 0, none⟩) (some ⟨1, 0, none⟩) (some ⟨2, 0, none⟩) n n2 n3 age shear [obF n c0, obF n2 c, obF n3 c3] = 0 from h)
  intro k h0 hk
  have := hz.cut k hk
  rw [arrF2 (by omega)] at this
  unfold tmE at this
  simp only [offOf, Nat.zero_add] at this
  by_cases h1 : inB (getInt c3 k) 1 100000000 = false
  · rw [if_pos h1] at this; omega
  · rw [if_neg h1] at this
    by_cases h2 : 0 < k ∧ getInt c3 k ≤ getInt c3 (k - 1)
    · simp [h2] at this
    · omega
theorem ansO_sp {h : Hd} (e : ansO c0 c n n2 age shear lo hi tick now = some h) : spW h.xl h.xh ∧ spW h.yl h.yh := by
  unfold ansO at e
  by_cases he : emp (all c0 c n2 age shear lo hi tick now (chB 128 (-1))) = true
  · rw [if_pos he] at e
    split at e
    · rename_i s hs
      simp only [Option.some.injEq] at e
      subst e
      exact all_spW (cul_mem n 0 (by rw [hs]; exact List.mem_cons_self))
    · cases e
  · rw [if_neg he] at e
    simp only [Option.some.injEq] at e
    subst e
    exact all_spW (by simpa using he)
theorem wLo_next {k : Nat} : wLo c3 ((k + 1 : Nat) : Int) = getInt c3 k := by
  unfold wLo
  rw [if_pos (by omega)]
  congr 1
  omega
theorem bnds_valF (up : ∀ k, 0 < k → k < n3 → getInt c3 (k - 1) < getInt c3 k) (hc : ∀ k, k < n3 → 1 ≤ getInt c3 k ∧ getInt c3 k ≤ 100000000) : ∀ m k R, k + m = n3 → bnds c0 c c3 n n2 age shear tick now m k = some R → valF (wLo c3 (k : Int)) R
  | 0, k, R, e, h => by simp only [bnds, Option.some.injEq] at h; subst h; trivial
  | m + 1, k, R, e, h => by
    unfold bnds at h
    split at h
    · cases h
    · rename_i H hH
      split at h
      · cases h
      · rename_i R' h'
        simp only [Option.some.injEq] at h
        subst h
        have hk := hc k (by omega)
        have hlo : wLo c3 (k : Int) < getInt c3 k := by
          cases k with
          | zero => unfold wLo; rw [if_neg (by omega)]; omega
          | succ k => rw [wLo_next]; exact up (k + 1) (by omega) (by omega)
        obtain ⟨s1, s2⟩ := ansO_sp hH
        refine ⟨⟨rfl, hlo, hk.2, s1, s2⟩, ?_⟩
        rw [← wLo_next]
        exact bnds_valF up hc m (k + 1) R' (by omega) h'
theorem bnds_get : ∀ m k R, bnds c0 c c3 n n2 age shear tick now m k = some R → ∀ i (hi : i < R.length), ∃ H, ansO c0 c n n2 age shear (wLo c3 ((k + i : Nat) : Int)) (wHi c3 ((k + i : Nat) : Int)) tick now = some H ∧ R[i] = ⟨wLo c3 ((k + i : Nat) : Int), getInt c3 (k + i), H.xl, H.xh, H.yl, H.yh⟩
  | 0, k, R, h, i, hi => by simp only [bnds, Option.some.injEq] at h; subst h; simp at hi
  | m + 1, k, R, h, i, hi => by
    unfold bnds at h
    split at h
    · cases h
    · rename_i H hH
      split at h
      · cases h
      · rename_i R' h'
        simp only [Option.some.injEq] at h
        subst h
        cases i with
        | zero => exact ⟨H, hH, rfl⟩
        | succ i =>
          have := bnds_get m (k + 1) R' h' i (by simpa using hi)
          rw [show k + (i + 1) = k + 1 + i by omega]
          simpa using this
theorem bnds_some : ∀ m k, (∀ i, i < m → ∃ H, ansO c0 c n n2 age shear (wLo c3 ((k + i : Nat) : Int)) (wHi c3 ((k + i : Nat) : Int)) tick now = some H) → ∃ R, bnds c0 c c3 n n2 age shear tick now m k = some R
  | 0, k, h => ⟨[], rfl⟩
  | m + 1, k, h => by
    obtain ⟨H, hH⟩ := h 0 (by omega)
    obtain ⟨R, hR⟩ := bnds_some m (k + 1) fun i hi => by
      have := h (i + 1) (by omega)
      rw [show k + 1 + i = k + (i + 1) by omega]
      exact this
    unfold bnds
    rw [Nat.add_zero] at hH
    rw [hH, hR]
    exact ⟨_, rfl⟩
theorem begun_mono {a b s : Int} (hs : 0 < s) (ha : 0 ≤ a) (h : a ≤ b) : begunI a s ≤ begunI b s := by
  unfold begunI
  rw [Int.tdiv_eq_ediv_of_nonneg (by omega), Int.tdiv_eq_ediv_of_nonneg (by omega)]
  exact Int.ediv_le_ediv hs (by omega)
theorem absI_nonneg (a b : Int) : 0 ≤ absI a b := by unfold absI; omega
theorem dbI_mono {lo' hi' tick' : Int} {k : Nat} (ha : 0 ≤ age) (hs : 0 ≤ shear) (h1 : absI (getInt c (0 + k * 5 + 1)) tick ≤ absI (getInt c (0 + k * 5 + 1)) tick')
    (h2 : max (absI (getInt c (0 + k * 5 + 2)) lo) (absI (getInt c (0 + k * 5 + 2)) hi) ≤ max (absI (getInt c (0 + k * 5 + 2)) lo') (absI (getInt c (0 + k * 5 + 2)) hi')) :
    dbI c0 0 c 0 age shear lo hi tick k ≤ dbI c0 0 c 0 age shear lo' hi' tick' k := by
  unfold dbI
  have b1 := begun_mono (s := 600) (by omega) (absI_nonneg _ _) h1
  have b2 := begun_mono (s := 100000) (by omega) (a := max (absI (getInt c (0 + k * 5 + 2)) lo) (absI (getInt c (0 + k * 5 + 2)) hi)) (by have := absI_nonneg (getInt c (0 + k * 5 + 2)) lo; omega) h2
  have m1 := Int.mul_le_mul_of_nonneg_left b1 ha
  have m2 := Int.mul_le_mul_of_nonneg_left b2 hs
  omega
theorem all_later {a b : Int} {p : Int → Bool} (hv : Vld c0 0 n c 0 n2 age shear) (h1 : now ≤ a) (h2 : a ≤ b) (he : emp (all c0 c n2 age shear lo hi a now p) = false) :
    emp (all c0 c n2 age shear lo hi b now p) = false ∧ wid (all c0 c n2 age shear lo hi b now p) (all c0 c n2 age shear lo hi a now p) := by
  have key : ∀ i, i < n2 → knP c0 0 c 0 now i = true → dbI c0 0 c 0 age shear lo hi a i ≤ dbI c0 0 c 0 age shear lo hi b i := by
    intro i hi2 hk
    have hs := hv.src i hi2
    have ht : getInt c (0 + i * 5 + 1) ≤ now := by
      unfold knP at hk
      rw [Bool.and_eq_true, decide_eq_true_eq, decide_eq_true_eq] at hk
      have := hv.late (getInt c (0 + i * 5)).toNat (by omega)
      omega
    refine dbI_mono hv.age.1 hv.shear.1 ?_ (Int.le_refl _)
    unfold absI; omega
  refine wid_of he (fun v hx => ?_) (fun v hy => ?_)
  · rw [all_inX] at hx ⊢
    refine ⟨hx.1, fun i hi2 hk hp => ?_⟩
    have q := hx.2 i hi2 hk hp
    have := key i hi2 hk
    unfold nearX at q ⊢
    omega
  · rw [all_inY] at hy ⊢
    refine ⟨hy.1, fun i hi2 hk hp => ?_⟩
    have q := hy.2 i hi2 hk hp
    have := key i hi2 hk
    unfold nearY at q ⊢
    omega
end
end
end Go.Proofs.Ytjdidbnmkogflaa

namespace Go.Proofs.Ytjdidbnmkogflaa
open Go.Gi Go.RowKit Go.Proofs.Ytjdidbnmkogflaa.Old
noncomputable section
set_option maxRecDepth 100000
set_option maxHeartbeats 4000000
set_option linter.unusedVariables false
set_option linter.unusedSimpArgs false
structure X58_0 where
  v0 : Int
  v1 : Int
  v2 : Array Value
  v3 : Nat
  v4 : Nat
  v5 : Int
  v6 : Array Value
  v7 : Nat
  v8 : Nat
  v9 : Array Value
  v10 : Nat
  v11 : Nat
  v12 : Array Value
  v13 : Nat
  v14 : Nat
  v15 : Int
  v16 : Int
inductive D58_0 where
  | k0 (d0 : Bool) (d1 : Array Value) (d2 : Nat) (d3 : Nat) (d4 : Array Value) (d5 : Nat) (d6 : Nat) (d7 : Array Value) (d8 : Nat) (d9 : Nat) (d10 : Int) (d11 : Int)
  | k1 (d0 : Array Value) (d1 : Nat) (d2 : Nat) (d3 : Array Value) (d4 : Nat) (d5 : Nat) (d6 : Array Value) (d7 : Nat) (d8 : Nat) (d9 : Array Value) (d10 : Nat) (d11 : Nat) (d12 : Int) (d13 : Int)
noncomputable def Lp58_0 : LoopOf X58_0 D58_0 where
  c := (theLoop Try.prog 58 0)
  N := 54
  M := 1
  S := [1, 2, 3, 8, 10]
  sl := fun x => [(.int .i64 x.v0), (.int .i64 x.v1), (Value.pointer (Option.some (Addr.mk 0 0 Option.none))), (lstV x.v2 x.v3 x.v4 6), (.int .i64 x.v5)]
  hp := fun x => [.cells ⟨[(lstV x.v6 x.v7 x.v8 7), (lstV x.v9 x.v10 x.v11 5), (lstV x.v12 x.v13 x.v14 1), (.int .i64 x.v15), (.int .i64 x.v16)]⟩ false]
  ex := fun d => match d with | .k0 .. => .ret | .k1 .. => .exit 0
  pick := fun e => match e with | .ret => [6, 7] | .exit 0 => [8] | _ => []
  dv := fun d => match d with | .k0 d0 d1 d2 d3 d4 d5 d6 d7 d8 d9 d10 d11 => [(.slice none 0 0), (.bool d0)] | .k1 d0 d1 d2 d3 d4 d5 d6 d7 d8 d9 d10 d11 d12 d13 => [(lstV d0 d1 d2 6)]
  dh := fun d => match d with | .k0 d0 d1 d2 d3 d4 d5 d6 d7 d8 d9 d10 d11 => [.cells ⟨[(lstV d1 d2 d3 7), (lstV d4 d5 d6 5), (lstV d7 d8 d9 1), (.int .i64 d10), (.int .i64 d11)]⟩ false] | .k1 d0 d1 d2 d3 d4 d5 d6 d7 d8 d9 d10 d11 d12 d13 => [.cells ⟨[(lstV d3 d4 d5 7), (lstV d6 d7 d8 5), (lstV d9 d10 d11 1), (.int .i64 d12), (.int .i64 d13)]⟩ false]
theorem ok58_0 : Lp58_0.Ok := ⟨fun x => rfl, fun x => rfl, fun x => rfl, fun x => rfl, fun d => by cases d <;> rfl, fun d => by cases d <;> rfl, fun d => by cases d <;> rfl, fun d => by cases d <;> (intro h; cases h), fun d => by cases d <;> rfl, fun d => by cases d <;> rfl⟩
noncomputable def rd58_0 (x : X58_0) : RT (Sum X58_0 D58_0) := match x with
  | ⟨v0, v1, v2, v3, v4, v5, v6, v7, v8, v9, v10, v11, v12, v13, v14, v15, v16⟩ =>
     .br (decide (v5 < (Int.ofNat v14)))
     (.br (F38_ok (v6) v7 v8 (v9) v10 v11 (v12) v13 v14 v15 v16 v5 v0 v1)
     (.br (not (decide ((F38_4 (v6) v7 v8 (v9) v10 v11 (v12) v13 v14 v15 v16 v5 v0 v1) = (0 : Int))))
     (.leaf (.inr (.k0 (false) (v6) (v7) (v8) (v9) (v10) (v11) (v12) (v13) (v14) (v15) (v16))))
     (.br (not (F38_3 (v6) v7 v8 (v9) v10 v11 (v12) v13 v14 v15 v16 v5 v0 v1))
     (.leaf (.inr (.k0 (false) (v6) (v7) (v8) (v9) (v10) (v11) (v12) (v13) (v14) (v15) (v16))))
     (.leaf (.inl ⟨v0, v1, v2, v3, v4, (IntKind.wrap .i64 (v5 + (1 : Int))), v6, v7, v8, v9, v10, v11, v12, v13, v14, v15, v16⟩))))
     (.no))
     (.leaf (.inr (.k1 (v2) (v3) (v4) (v6) (v7) (v8) (v9) (v10) (v11) (v12) (v13) (v14) (v15) (v16))))
theorem T58_0  (y : List Value) (v0 : Int) (v1 : Int) (v2 : Array Value) (v3 : Nat) (v4 : Nat) (v5 : Int) (v6 : Array Value) (v7 : Nat) (v8 : Nat) (v9 : Array Value) (v10 : Nat) (v11 : Nat) (v12 : Array Value) (v13 : Nat) (v14 : Nat) (v15 : Int) (v16 : Int) : evC Try.prog (Ans.c (p38.or p42)) 60 (.code none (theLoop Try.prog 58 0) ⟨sets (junkF 54 y) [(1, (.int .i64 v0)), (2, (.int .i64 v1)), (3, (Value.pointer (some (Addr.mk 0 0 none)))), (8, (lstV v2 v3 v4 6)), (10, (.int .i64 v5))], [], ⟨[.cells ⟨[(lstV v6 v7 v8 7), (lstV v9 v10 v11 5), (lstV v12 v13 v14 1), (.int .i64 v15), (.int .i64 v16)]⟩ false], 0, []⟩⟩) (sumK 1 54 Lp58_0.pk) = (rd58_0 ⟨v0, v1, v2, v3, v4, v5, v6, v7, v8, v9, v10, v11, v12, v13, v14, v15, v16⟩).out Lp58_0.enc := by kernel_rfl
noncomputable def L58_0 (x : X58_0) : Option D58_0 := loopR rd58_0 x
section
variable (x : X58_0)
noncomputable def L58_0_k0 : Bool := match L58_0 x with | some (.k0 ..) => true | _ => false
noncomputable def L58_0_k0_0 : Bool := match L58_0 x with | some (.k0 d _ _ _ _ _ _ _ _ _ _ _) => d | _ => false
noncomputable def L58_0_k0_1 : Array Value := match L58_0 x with | some (.k0 _ d _ _ _ _ _ _ _ _ _ _) => d | _ => #[]
noncomputable def L58_0_k0_2 : Nat := match L58_0 x with | some (.k0 _ _ d _ _ _ _ _ _ _ _ _) => d | _ => 0
noncomputable def L58_0_k0_3 : Nat := match L58_0 x with | some (.k0 _ _ _ d _ _ _ _ _ _ _ _) => d | _ => 0
noncomputable def L58_0_k0_4 : Array Value := match L58_0 x with | some (.k0 _ _ _ _ d _ _ _ _ _ _ _) => d | _ => #[]
noncomputable def L58_0_k0_5 : Nat := match L58_0 x with | some (.k0 _ _ _ _ _ d _ _ _ _ _ _) => d | _ => 0
noncomputable def L58_0_k0_6 : Nat := match L58_0 x with | some (.k0 _ _ _ _ _ _ d _ _ _ _ _) => d | _ => 0
noncomputable def L58_0_k0_7 : Array Value := match L58_0 x with | some (.k0 _ _ _ _ _ _ _ d _ _ _ _) => d | _ => #[]
noncomputable def L58_0_k0_8 : Nat := match L58_0 x with | some (.k0 _ _ _ _ _ _ _ _ d _ _ _) => d | _ => 0
noncomputable def L58_0_k0_9 : Nat := match L58_0 x with | some (.k0 _ _ _ _ _ _ _ _ _ d _ _) => d | _ => 0
noncomputable def L58_0_k0_10 : Int := match L58_0 x with | some (.k0 _ _ _ _ _ _ _ _ _ _ d _) => d | _ => 0
noncomputable def L58_0_k0_11 : Int := match L58_0 x with | some (.k0 _ _ _ _ _ _ _ _ _ _ _ d) => d | _ => 0
noncomputable def L58_0_k1 : Bool := match L58_0 x with | some (.k1 ..) => true | _ => false
noncomputable def L58_0_k1_0 : Array Value := match L58_0 x with | some (.k1 d _ _ _ _ _ _ _ _ _ _ _ _ _) => d | _ => #[]
noncomputable def L58_0_k1_1 : Nat := match L58_0 x with | some (.k1 _ d _ _ _ _ _ _ _ _ _ _ _ _) => d | _ => 0
noncomputable def L58_0_k1_2 : Nat := match L58_0 x with | some (.k1 _ _ d _ _ _ _ _ _ _ _ _ _ _) => d | _ => 0
noncomputable def L58_0_k1_3 : Array Value := match L58_0 x with | some (.k1 _ _ _ d _ _ _ _ _ _ _ _ _ _) => d | _ => #[]
noncomputable def L58_0_k1_4 : Nat := match L58_0 x with | some (.k1 _ _ _ _ d _ _ _ _ _ _ _ _ _) => d | _ => 0
noncomputable def L58_0_k1_5 : Nat := match L58_0 x with | some (.k1 _ _ _ _ _ d _ _ _ _ _ _ _ _) => d | _ => 0
noncomputable def L58_0_k1_6 : Array Value := match L58_0 x with | some (.k1 _ _ _ _ _ _ d _ _ _ _ _ _ _) => d | _ => #[]
noncomputable def L58_0_k1_7 : Nat := match L58_0 x with | some (.k1 _ _ _ _ _ _ _ d _ _ _ _ _ _) => d | _ => 0
noncomputable def L58_0_k1_8 : Nat := match L58_0 x with | some (.k1 _ _ _ _ _ _ _ _ d _ _ _ _ _) => d | _ => 0
noncomputable def L58_0_k1_9 : Array Value := match L58_0 x with | some (.k1 _ _ _ _ _ _ _ _ _ d _ _ _ _) => d | _ => #[]
noncomputable def L58_0_k1_10 : Nat := match L58_0 x with | some (.k1 _ _ _ _ _ _ _ _ _ _ d _ _ _) => d | _ => 0
noncomputable def L58_0_k1_11 : Nat := match L58_0 x with | some (.k1 _ _ _ _ _ _ _ _ _ _ _ d _ _) => d | _ => 0
noncomputable def L58_0_k1_12 : Int := match L58_0 x with | some (.k1 _ _ _ _ _ _ _ _ _ _ _ _ d _) => d | _ => 0
noncomputable def L58_0_k1_13 : Int := match L58_0 x with | some (.k1 _ _ _ _ _ _ _ _ _ _ _ _ _ d) => d | _ => 0
end
noncomputable def dec58_0 : Task → Option (Code × X58_0)
  | .code none (.loop code) ⟨t, [], ⟨[.cells ⟨[(.func (.via 0 ⟨[]⟩ 0 true) v6 ⟨[.slice (some ⟨0, v7, none⟩) v8 7]⟩), (.func (.via 0 ⟨[]⟩ 0 true) v9 ⟨[.slice (some ⟨0, v10, none⟩) v11 5]⟩), (.func (.via 0 ⟨[]⟩ 0 true) v12 ⟨[.slice (some ⟨0, v13, none⟩) v14 1]⟩), (.int .i64 v15), (.int .i64 v16)]⟩ false], 0, []⟩⟩ =>
    (match Nat.beq (firstReg code) 5, lenIs t 54, lget t 1, lget t 2, lget t 3, lget t 8, lget t 10 with
    | true, true, (.int .i64 v0), (.int .i64 v1), (Value.pointer (Option.some (Addr.mk 0 0 Option.none))), (.func (.via 0 ⟨[]⟩ 0 true) v2 ⟨[.slice (some ⟨0, v3, none⟩) v4 6]⟩), (.int .i64 v5) => some (code, ⟨v0, v1, v2, v3, v4, v5, v6, v7, v8, v9, v10, v11, v12, v13, v14, v15, v16⟩)
    | _, _, _, _, _, _, _ => none)
  | _ => none
noncomputable def alt58_0 (x : X58_0) (j : List Value) : AT := .br (L58_0_k0 x) (loopEnd 54 (.ret) [(6, (.slice none 0 0)), (7, (.bool (L58_0_k0_0 x)))] ⟨[.cells ⟨[(lstV (L58_0_k0_1 x) (L58_0_k0_2 x) (L58_0_k0_3 x) 7), (lstV (L58_0_k0_4 x) (L58_0_k0_5 x) (L58_0_k0_6 x) 5), (lstV (L58_0_k0_7 x) (L58_0_k0_8 x) (L58_0_k0_9 x) 1), (.int .i64 (L58_0_k0_10 x)), (.int .i64 (L58_0_k0_11 x))]⟩ false], 0, []⟩ j) (.br (L58_0_k1 x) (loopEnd 54 (.exit 0) [(8, (lstV (L58_0_k1_0 x) (L58_0_k1_1 x) (L58_0_k1_2 x) 6))] ⟨[.cells ⟨[(lstV (L58_0_k1_3 x) (L58_0_k1_4 x) (L58_0_k1_5 x) 7), (lstV (L58_0_k1_6 x) (L58_0_k1_7 x) (L58_0_k1_8 x) 5), (lstV (L58_0_k1_9 x) (L58_0_k1_10 x) (L58_0_k1_11 x) 1), (.int .i64 (L58_0_k1_12 x)), (.int .i64 (L58_0_k1_13 x))]⟩ false], 0, []⟩ j) (.no))
noncomputable def la58_0 (J : Task → List Value) : Ans := loopAns Lp58_0.c dec58_0 alt58_0 J
theorem ha58_0 : ∀ (x : X58_0) (j : List Value) (o : Out), (alt58_0 x j).out = some o → ∃ d, loopR rd58_0 x = some d ∧ o = Lp58_0.tail d j := by
  intro x j o h
  unfold alt58_0 at h
  cases hL : L58_0 x with
  | none => simp [L58_0_k0, L58_0_k0_0, L58_0_k0_1, L58_0_k0_2, L58_0_k0_3, L58_0_k0_4, L58_0_k0_5, L58_0_k0_6, L58_0_k0_7, L58_0_k0_8, L58_0_k0_9, L58_0_k0_10, L58_0_k0_11, L58_0_k1, L58_0_k1_0, L58_0_k1_1, L58_0_k1_2, L58_0_k1_3, L58_0_k1_4, L58_0_k1_5, L58_0_k1_6, L58_0_k1_7, L58_0_k1_8, L58_0_k1_9, L58_0_k1_10, L58_0_k1_11, L58_0_k1_12, L58_0_k1_13, hL, AT.out] at h
  | some d =>
    refine ⟨d, hL, ?_⟩
    cases d <;> (simp only [L58_0_k0, L58_0_k0_0, L58_0_k0_1, L58_0_k0_2, L58_0_k0_3, L58_0_k0_4, L58_0_k0_5, L58_0_k0_6, L58_0_k0_7, L58_0_k0_8, L58_0_k0_9, L58_0_k0_10, L58_0_k0_11, L58_0_k1, L58_0_k1_0, L58_0_k1_1, L58_0_k1_2, L58_0_k1_3, L58_0_k1_4, L58_0_k1_5, L58_0_k1_6, L58_0_k1_7, L58_0_k1_8, L58_0_k1_9, L58_0_k1_10, L58_0_k1_11, L58_0_k1_12, L58_0_k1_13, hL, AT.out, loopEnd, cond_true, cond_false, Option.some.injEq] at h; rw [← h]; rfl)
theorem hd58_0 : ∀ (t : Task) (c : Code) (x : X58_0), dec58_0 t = some (c, x) → c = Lp58_0.c → ∃ T, t = .code none (.loop Lp58_0.c) ⟨T, [], ⟨Lp58_0.hp x, 0, []⟩⟩ ∧ T.length = Lp58_0.N ∧ ∀ kv ∈ Lp58_0.S.zip (Lp58_0.sl x), lget T kv.1 = kv.2 := by
  intro t c x h hc
  unfold dec58_0 at h
  split at h
  case h_2 => cases h
  split at h
  case h_2 => cases h
  simp only [Option.some.injEq, Prod.mk.injEq] at h
  obtain ⟨rfl, rfl⟩ := h
  subst hc
  refine ⟨_, rfl, lenIs_eq _ _ (by assumption), ?_⟩
  intro kv hk
  simp only [Lp58_0, List.zip_cons_cons, List.zip_nil_right, List.mem_cons, List.not_mem_nil, or_false] at hk
  rcases hk with rfl | rfl | rfl | rfl | rfl <;> assumption
theorem kl58_0 : ∃ J, Known Try.prog (la58_0 J) := by
  exact LoopOf.known noNG mixed ok58_0 (by decide) (by decide) (Known.or known38 known42) (n := 60) (rd := rd58_0) (fun x j => T58_0  j x.v0 x.v1 x.v2 x.v3 x.v4 x.v5 x.v6 x.v7 x.v8 x.v9 x.v10 x.v11 x.v12 x.v13 x.v14 x.v15 x.v16) dec58_0 alt58_0 hd58_0 ha58_0
structure R58 where
  r0 : Array Value
  r1 : Nat
  r2 : Nat
  r3 : Bool
structure A58 where
  a0 : Array Value
  a1 : Nat
  a2 : Nat
  a3 : Array Value
  a4 : Nat
  a5 : Nat
  a6 : Array Value
  a7 : Nat
  a8 : Nat
  a9 : Int
  a10 : Int
  a11 : Int
  a12 : Int
noncomputable def rt58 (a0 : Array Value) (a1 : Nat) (a2 : Nat) (a3 : Array Value) (a4 : Nat) (a5 : Nat) (a6 : Array Value) (a7 : Nat) (a8 : Nat) (a9 : Int) (a10 : Int) (a11 : Int) (a12 : Int) : RT R58 :=
  .br (F42_ok (a0) a1 a2 (a3) a4 a5 (a6) a7 a8 a9 a10 a11 a12)
  (.br (not (decide ((F42_3 (a0) a1 a2 (a3) a4 a5 (a6) a7 a8 a9 a10 a11 a12) = (0 : Int))))
   (.leaf ⟨⟨[]⟩, 0, 0, false⟩)
   (.br (not (decide ((Int.ofNat (F42_2 (a0) a1 a2 (a3) a4 a5 (a6) a7 a8 a9 a10 a11 a12)) = (Int.ofNat a8))))
    (.leaf ⟨⟨[]⟩, 0, 0, false⟩)
    (.br (eqCode (Lp58_0.c) (Lp58_0.c))
     (.br (L58_0_k0 (X58_0.mk a11 a12 (F42_0 (a0) a1 a2 (a3) a4 a5 (a6) a7 a8 a9 a10 a11 a12) (F42_1 (a0) a1 a2 (a3) a4 a5 (a6) a7 a8 a9 a10 a11 a12) (F42_2 (a0) a1 a2 (a3) a4 a5 (a6) a7 a8 a9 a10 a11 a12) (0 : Int) a0 a1 a2 a3 a4 a5 a6 a7 a8 a9 a10))
     (.leaf ⟨⟨[]⟩, 0, 0, (L58_0_k0_0 (X58_0.mk a11 a12 (F42_0 (a0) a1 a2 (a3) a4 a5 (a6) a7 a8 a9 a10 a11 a12) (F42_1 (a0) a1 a2 (a3) a4 a5 (a6) a7 a8 a9 a10 a11 a12) (F42_2 (a0) a1 a2 (a3) a4 a5 (a6) a7 a8 a9 a10 a11 a12) (0 : Int) a0 a1 a2 a3 a4 a5 a6 a7 a8 a9 a10))⟩)
     (.br (L58_0_k1 (X58_0.mk a11 a12 (F42_0 (a0) a1 a2 (a3) a4 a5 (a6) a7 a8 a9 a10 a11 a12) (F42_1 (a0) a1 a2 (a3) a4 a5 (a6) a7 a8 a9 a10 a11 a12) (F42_2 (a0) a1 a2 (a3) a4 a5 (a6) a7 a8 a9 a10 a11 a12) (0 : Int) a0 a1 a2 a3 a4 a5 a6 a7 a8 a9 a10))
     (.leaf ⟨(L58_0_k1_0 (X58_0.mk a11 a12 (F42_0 (a0) a1 a2 (a3) a4 a5 (a6) a7 a8 a9 a10 a11 a12) (F42_1 (a0) a1 a2 (a3) a4 a5 (a6) a7 a8 a9 a10 a11 a12) (F42_2 (a0) a1 a2 (a3) a4 a5 (a6) a7 a8 a9 a10 a11 a12) (0 : Int) a0 a1 a2 a3 a4 a5 a6 a7 a8 a9 a10)), (L58_0_k1_1 (X58_0.mk a11 a12 (F42_0 (a0) a1 a2 (a3) a4 a5 (a6) a7 a8 a9 a10 a11 a12) (F42_1 (a0) a1 a2 (a3) a4 a5 (a6) a7 a8 a9 a10 a11 a12) (F42_2 (a0) a1 a2 (a3) a4 a5 (a6) a7 a8 a9 a10 a11 a12) (0 : Int) a0 a1 a2 a3 a4 a5 a6 a7 a8 a9 a10)), (L58_0_k1_2 (X58_0.mk a11 a12 (F42_0 (a0) a1 a2 (a3) a4 a5 (a6) a7 a8 a9 a10 a11 a12) (F42_1 (a0) a1 a2 (a3) a4 a5 (a6) a7 a8 a9 a10 a11 a12) (F42_2 (a0) a1 a2 (a3) a4 a5 (a6) a7 a8 a9 a10 a11 a12) (0 : Int) a0 a1 a2 a3 a4 a5 a6 a7 a8 a9 a10)), true⟩)
     (.no)))
     (.no))))
  (.no)
noncomputable def en58 (r : R58) : Value := (.tuple ⟨[(lstV r.r0 r.r1 r.r2 6), (.bool r.r3)]⟩)
theorem T58 (J0 : Task → List Value) (a0 : Array Value) (a1 : Nat) (a2 : Nat) (a3 : Array Value) (a4 : Nat) (a5 : Nat) (a6 : Array Value) (a7 : Nat) (a8 : Nat) (a9 : Int) (a10 : Int) (a11 : Int) (a12 : Int) : evC Try.prog (Ans.c (p38.or (p42.or (la58_0 J0)))) 60 (.call 58 ⟨[(.agg ⟨[(lstV a0 a1 a2 7), (lstV a3 a4 a5 5), (lstV a6 a7 a8 1), (.int .i64 a9), (.int .i64 a10)]⟩), (.int .i64 a11), (.int .i64 a12)]⟩ ⟨[], 0, []⟩) (frzK [6, 0]) = (rt58 a0 a1 a2 a3 a4 a5 a6 a7 a8 a9 a10 a11 a12).out (fun r => .ret (en58 r) ⟨[], 0, []⟩) := by kernel_rfl
noncomputable def F58 (a0 : Array Value) (a1 : Nat) (a2 : Nat) (a3 : Array Value) (a4 : Nat) (a5 : Nat) (a6 : Array Value) (a7 : Nat) (a8 : Nat) (a9 : Int) (a10 : Int) (a11 : Int) (a12 : Int) : Option R58 := (rt58 a0 a1 a2 a3 a4 a5 a6 a7 a8 a9 a10 a11 a12).val
section
variable (a0 : Array Value) (a1 : Nat) (a2 : Nat) (a3 : Array Value) (a4 : Nat) (a5 : Nat) (a6 : Array Value) (a7 : Nat) (a8 : Nat) (a9 : Int) (a10 : Int) (a11 : Int) (a12 : Int)
noncomputable def F58_ok : Bool := (F58 a0 a1 a2 a3 a4 a5 a6 a7 a8 a9 a10 a11 a12).isSome
noncomputable def F58_0 : Array Value := match F58 a0 a1 a2 a3 a4 a5 a6 a7 a8 a9 a10 a11 a12 with | some r => r.r0 | none => #[]
noncomputable def F58_1 : Nat := match F58 a0 a1 a2 a3 a4 a5 a6 a7 a8 a9 a10 a11 a12 with | some r => r.r1 | none => 0
noncomputable def F58_2 : Nat := match F58 a0 a1 a2 a3 a4 a5 a6 a7 a8 a9 a10 a11 a12 with | some r => r.r2 | none => 0
noncomputable def F58_3 : Bool := match F58 a0 a1 a2 a3 a4 a5 a6 a7 a8 a9 a10 a11 a12 with | some r => r.r3 | none => false
end
noncomputable def dec58 : Task → Option (A58 × Hp)
  | .call g ⟨[(.agg ⟨[(.func (.via 0 ⟨[]⟩ 0 true) a0 ⟨[.slice (some ⟨0, a1, none⟩) a2 7]⟩), (.func (.via 0 ⟨[]⟩ 0 true) a3 ⟨[.slice (some ⟨0, a4, none⟩) a5 5]⟩), (.func (.via 0 ⟨[]⟩ 0 true) a6 ⟨[.slice (some ⟨0, a7, none⟩) a8 1]⟩), (.int .i64 a9), (.int .i64 a10)]⟩), (.int .i64 a11), (.int .i64 a12)]⟩ h => (match Nat.beq g 58 with | true => some (⟨a0, a1, a2, a3, a4, a5, a6, a7, a8, a9, a10, a11, a12⟩, h) | false => none)
  | _ => none
noncomputable def alt58 (x : A58) (h : Hp) : AT := .br (F58_ok x.a0 x.a1 x.a2 x.a3 x.a4 x.a5 x.a6 x.a7 x.a8 x.a9 x.a10 x.a11 x.a12) (.leaf (.ret (.tuple ⟨[(lstV (F58_0 x.a0 x.a1 x.a2 x.a3 x.a4 x.a5 x.a6 x.a7 x.a8 x.a9 x.a10 x.a11 x.a12) (F58_1 x.a0 x.a1 x.a2 x.a3 x.a4 x.a5 x.a6 x.a7 x.a8 x.a9 x.a10 x.a11 x.a12) (F58_2 x.a0 x.a1 x.a2 x.a3 x.a4 x.a5 x.a6 x.a7 x.a8 x.a9 x.a10 x.a11 x.a12) 6), (.bool (F58_3 x.a0 x.a1 x.a2 x.a3 x.a4 x.a5 x.a6 x.a7 x.a8 x.a9 x.a10 x.a11 x.a12))]⟩) h)) .no
noncomputable def p58 : Ans := fnAns dec58 alt58
theorem ha58 : ∀ (x : A58) (h : Hp) (o : Out), (alt58 x h).out = some o → ∃ r, (rt58 x.a0 x.a1 x.a2 x.a3 x.a4 x.a5 x.a6 x.a7 x.a8 x.a9 x.a10 x.a11 x.a12).val = some r ∧ o = .ret (en58 r) h := by
  intro x h o e
  unfold alt58 at e
  cases hF : F58 x.a0 x.a1 x.a2 x.a3 x.a4 x.a5 x.a6 x.a7 x.a8 x.a9 x.a10 x.a11 x.a12 with
  | none => simp [F58_ok, hF, AT.out] at e
  | some r =>
    refine ⟨r, hF, ?_⟩
    simp only [F58_ok, F58_0, F58_1, F58_2, F58_3, hF, AT.out, Option.isSome_some, cond_true, Option.some.injEq] at e
    rw [← e]; rfl
theorem hd58 : ∀ (t : Task) (x : A58) (h : Hp), dec58 t = some (x, h) → t = .call 58 ⟨[(.agg ⟨[(lstV x.a0 x.a1 x.a2 7), (lstV x.a3 x.a4 x.a5 5), (lstV x.a6 x.a7 x.a8 1), (.int .i64 x.a9), (.int .i64 x.a10)]⟩), (.int .i64 x.a11), (.int .i64 x.a12)]⟩ h := by
  intro t x h e
  unfold dec58 at e
  split at e
  case h_2 => cases e
  split at e
  case h_2 => cases e
  rename_i hg
  simp only [Option.some.injEq, Prod.mk.injEq] at e
  obtain ⟨rfl, rfl⟩ := e
  rw [Nat.eq_of_beq_eq_true hg]
theorem known58 : Known Try.prog p58 := by
  obtain ⟨J0, hJ0⟩ := kl58_0
  exact Known.fn noNG mixed (Known.or known38 (Known.or known42 hJ0)) (n := 60) (zs := [6, 0]) 58 (fun x : A58 => [(.agg ⟨[(lstV x.a0 x.a1 x.a2 7), (lstV x.a3 x.a4 x.a5 5), (lstV x.a6 x.a7 x.a8 1), (.int .i64 x.a9), (.int .i64 x.a10)]⟩), (.int .i64 x.a11), (.int .i64 x.a12)]) (fun x => rt58 x.a0 x.a1 x.a2 x.a3 x.a4 x.a5 x.a6 x.a7 x.a8 x.a9 x.a10 x.a11 x.a12) en58 (fun x => T58 J0 x.a0 x.a1 x.a2 x.a3 x.a4 x.a5 x.a6 x.a7 x.a8 x.a9 x.a10 x.a11 x.a12) (fun x => rfl) dec58 alt58 hd58 ha58
end
end Go.Proofs.Ytjdidbnmkogflaa

namespace Go.Proofs.Ytjdidbnmkogflaa
open Go.Gi Go.RowKit Go.Proofs.Ytjdidbnmkogflaa.Old
noncomputable section
set_option maxRecDepth 100000
set_option linter.unusedVariables false
set_option linter.unusedSimpArgs false
section
variable {c0 c c3 : Array Value} {n n2 n3 : Nat} {age shear tick now x y : Int}
def winA (c0 c c3 : Array Value) (n2 : Nat) (age shear tick now : Int) (k : Nat) : Hd := all c0 c n2 age shear (wLo c3 (k : Int)) (wHi c3 (k : Int)) tick now (chB 128 (-1))
def agB (c0 c c3 : Array Value) (n2 : Nat) (age shear tick now : Int) : Nat → Nat → Bool
  | 0, _ => true
  | m + 1, k => !emp (winA c0 c c3 n2 age shear tick now k) && agB c0 c c3 n2 age shear tick now m (k + 1)
theorem agB_iff : ∀ m k, agB c0 c c3 n2 age shear tick now m k = true ↔ ∀ i, i < m → emp (winA c0 c c3 n2 age shear tick now (k + i)) = false
  | 0, k => ⟨fun _ i hi => by omega, fun _ => rfl⟩
  | m + 1, k => by
    unfold agB
    rw [Bool.and_eq_true, agB_iff m (k + 1), Bool.not_eq_true']
    constructor
    · rintro ⟨h1, h2⟩ i hi
      cases i with
      | zero => exact h1
      | succ i => rw [show k + (i + 1) = k + 1 + i by omega]; exact h2 i (by omega)
    · intro h
      exact ⟨h 0 (by omega), fun i hi => by rw [show k + 1 + i = k + (i + 1) by omega]; exact h (i + 1) (by omega)⟩
theorem F38_at {k : Nat} (g1 : GL L7 7 c0 n) (g2 : GL L5 5 c n2) (g3 : GL L1 1 c3 n3) (hz : F20_2 c0 0 n c 0 n2 c3 0 n3 age shear = 0) (hxy : (tkB tick && tkB now) = true) (hk : k < n3) :
    F38_ok c0 0 n c 0 n2 c3 0 n3 age shear (k : Int) tick now = true ∧ F38_4 c0 0 n c 0 n2 c3 0 n3 age shear (k : Int) tick now = 0 ∧ F38_3 c0 0 n c 0 n2 c3 0 n3 age shear (k : Int) tick now = !emp (winA c0 c c3 n2 age shear tick now k) := by
  have e := F38_eq (age := age) (shear := shear) (k := (k : Int)) (x := tick) (y := now) g1 g2 g3
  have hq : qErr n3 (k : Int) tick now = 0 := by
    unfold qErr
    rw [if_neg (by omega)]
    exact if_pos hxy
  unfold blm at e
  rw [if_pos hz, if_pos hq] at e
  by_cases he : emp (winA c0 c c3 n2 age shear tick now k) = true
  · have he' := he
    unfold winA at he
    rw [if_pos he] at e
    refine ⟨by simp only [F38_ok, e]; rfl, by simp only [F38_4, e], by simp only [F38_3, e, he']; rfl⟩
  · have he' := he
    unfold winA at he
    rw [if_neg he] at e
    rw [Bool.not_eq_true] at he'
    refine ⟨by simp only [F38_ok, e]; rfl, by simp only [F38_4, e], by simp only [F38_3, e, he']; rfl⟩
theorem loop58 (g1 : GL L7 7 c0 n) (g2 : GL L5 5 c n2) (g3 : GL L1 1 c3 n3) (few : n3 ≤ 1000) (hz : F20_2 c0 0 n c 0 n2 c3 0 n3 age shear = 0) (hxy : (tkB tick && tkB now) = true) (A : Array Value) (o l : Nat) : ∀ m k, k + m = n3 →
    loopR rd58_0 ⟨tick, now, A, o, l, (k : Int), c0, 0, n, c, 0, n2, c3, 0, n3, age, shear⟩ =
    some (if agB c0 c c3 n2 age shear tick now m k = true then .k1 A o l c0 0 n c 0 n2 c3 0 n3 age shear else .k0 false c0 0 n c 0 n2 c3 0 n3 age shear)
  | 0, k, e => loopR_done (by
      obtain rfl : k = n3 := by omega
      have h1 : ¬ ((k : Int) < (k : Int)) := by omega
      simp only [rd58_0, RT.val, h1, Int.ofNat_eq_natCast, decide_false, cond_false, agB]
      rfl)
  | m + 1, k, e => by
    have hki : (k : Int) < (n3 : Int) := by omega
    have h3 : IntKind.wrap .i64 ((k : Int) + 1) = ((k + 1 : Nat) : Int) := by rw [wrap64_id (by omega) (by omega)]; omega
    obtain ⟨f1, f2, f3⟩ := F38_at (k := k) g1 g2 g3 hz hxy (by omega)
    by_cases he : emp (winA c0 c c3 n2 age shear tick now k) = true
    · rw [he] at f3
      refine loopR_done ?_
      simp only [rd58_0, RT.val, hki, Int.ofNat_eq_natCast, f1, f2, f3, decide_true, Bool.not_true, Bool.not_false, cond_true, cond_false, agB, he, Bool.false_and]
      rfl
    · rw [Bool.not_eq_true] at he
      rw [he] at f3
      refine (loopR_next ?_).trans ((loop58 g1 g2 g3 few hz hxy A o l m (k + 1) (by omega)).trans ?_)
      · simp only [rd58_0, RT.val, hki, Int.ofNat_eq_natCast, f1, f2, f3, decide_true, Bool.not_true, Bool.not_false, cond_true, cond_false, h3]
      · simp only [agB, he, Bool.not_false, Bool.true_and]
theorem bnS_ok (h : (bnS c0 c c3 n n2 n3 age shear x y).2 = 0) : F20_2 c0 0 n c 0 n2 c3 0 n3 age shear = 0 ∧ (tkB x && tkB y) = true ∧ ∃ R, bnds c0 c c3 n n2 age shear x y n3 0 = some R ∧ bnS c0 c c3 n n2 n3 age shear x y = (R, 0) := by
  unfold bnS at h ⊢
  by_cases hz : F20_2 c0 0 n c 0 n2 c3 0 n3 age shear = 0
  · rw [if_pos hz] at h ⊢
    by_cases hxy : (tkB x && tkB y) = true
    · rw [if_pos hxy] at h ⊢
      cases hb : bnds c0 c c3 n n2 age shear x y n3 0 with
      | none => rw [hb] at h; simp at h
      | some R => exact ⟨hz, hxy, R, rfl, rfl⟩
    · rw [if_neg hxy] at h; simp at h
  · rw [if_neg hz] at h; exact absurd h hz
theorem bnS_err (h : ¬ (bnS c0 c c3 n n2 n3 age shear x y).2 = 0) : (bnS c0 c c3 n n2 n3 age shear x y).1 = [] := by
  unfold bnS at h ⊢
  by_cases hz : F20_2 c0 0 n c 0 n2 c3 0 n3 age shear = 0
  · rw [if_pos hz] at h ⊢
    by_cases hxy : (tkB x && tkB y) = true
    · rw [if_pos hxy] at h ⊢
      cases hb : bnds c0 c c3 n n2 age shear x y n3 0 with
      | none => rfl
      | some R => rw [hb] at h; exact absurd rfl h
    · rw [if_neg hxy]
  · rw [if_neg hz]
theorem F58_yes (g1 : GL L7 7 c0 n) (g2 : GL L5 5 c n2) (g3 : GL L1 1 c3 n3) (hz : F20_2 c0 0 n c 0 n2 c3 0 n3 age shear = 0) (hxy : (tkB x && tkB y) = true) (ha : agB c0 c c3 n2 age shear x y n3 0 = true) :
    ∃ R, bnds c0 c c3 n n2 age shear x y n3 0 = some R ∧ F58_ok c0 0 n c 0 n2 c3 0 n3 age shear x y = true ∧ F58_0 c0 0 n c 0 n2 c3 0 n3 age shear x y = arrB R ∧ F58_1 c0 0 n c 0 n2 c3 0 n3 age shear x y = 0 ∧ F58_2 c0 0 n c 0 n2 c3 0 n3 age shear x y = R.length ∧ F58_3 c0 0 n c 0 n2 c3 0 n3 age shear x y = true := by
  obtain ⟨hv, hn, hc⟩ := vld g1 g2 g3 hz
  obtain ⟨R, hR⟩ := bnds_some (c0 := c0) (c := c) (c3 := c3) (n := n) (n2 := n2) (age := age) (shear := shear) (tick := x) (now := y) n3 0 fun i hi => by
    have := (agB_iff n3 0).1 ha i hi
    unfold winA at this
    rw [Nat.zero_add] at this ⊢
    exact ⟨_, by unfold ansO; rw [if_neg (by rw [this]; decide)]⟩
  have e42 := F42_eq (age := age) (shear := shear) (x := x) (y := y) g1 g2 g3
  have hs : bnS c0 c c3 n n2 n3 age shear x y = (R, 0) := by unfold bnS; rw [if_pos hz, if_pos hxy, hR]
  rw [hs] at e42
  have hlen := bnds_len n3 0 R hR
  have hL := loop58 (tick := x) (now := y) g1 g2 g3 (by omega) hz hxy (arrB R) 0 R.length n3 0 (by omega)
  rw [if_pos ha] at hL
  have hL' : L58_0 ⟨x, y, arrB R, 0, R.length, 0, c0, 0, n, c, 0, n2, c3, 0, n3, age, shear⟩ = _ := hL
  have e : F58 c0 0 n c 0 n2 c3 0 n3 age shear x y = some ⟨arrB R, 0, R.length, true⟩ := by
    unfold F58 rt58
    simp only [RT.val, F42_ok, F42_0, F42_1, F42_2, F42_3, e42, Option.isSome_some, hlen, eqCode_self, L58_0_k0, L58_0_k1, L58_0_k1_0, L58_0_k1_1, L58_0_k1_2, hL', decide_true, Bool.not_true, cond_true, cond_false]
    rw [hlen] at hL'
    simp only [hL', hlen, cond_true, cond_false]
  exact ⟨R, hR, by simp only [F58_ok, e]; rfl, by simp only [F58_0, e], by simp only [F58_1, e], by simp only [F58_2, e], by simp only [F58_3, e]⟩
theorem F58_no (g1 : GL L7 7 c0 n) (g2 : GL L5 5 c n2) (g3 : GL L1 1 c3 n3) (h : F20_2 c0 0 n c 0 n2 c3 0 n3 age shear = 0 → (tkB x && tkB y) = true → ¬ agB c0 c c3 n2 age shear x y n3 0 = true) :
    F58_ok c0 0 n c 0 n2 c3 0 n3 age shear x y = true ∧ F58_3 c0 0 n c 0 n2 c3 0 n3 age shear x y = false := by
  have e42 := F42_eq (age := age) (shear := shear) (x := x) (y := y) g1 g2 g3
  have e : F58 c0 0 n c 0 n2 c3 0 n3 age shear x y = some ⟨⟨[]⟩, 0, 0, false⟩ := by
    by_cases hb : (bnS c0 c c3 n n2 n3 age shear x y).2 = 0
    · obtain ⟨hz, hxy, R, hR, hs⟩ := bnS_ok hb
      obtain ⟨hv, hn, hc⟩ := vld g1 g2 g3 hz
      have ha := h hz hxy
      rw [hs] at e42
      have hlen := bnds_len n3 0 R hR
      have hL := loop58 (tick := x) (now := y) g1 g2 g3 (by omega) hz hxy (arrB R) 0 R.length n3 0 (by omega)
      rw [if_neg ha] at hL
      have hL' : L58_0 ⟨x, y, arrB R, 0, R.length, 0, c0, 0, n, c, 0, n2, c3, 0, n3, age, shear⟩ = _ := hL
      unfold F58 rt58
      simp only [RT.val, F42_ok, F42_0, F42_1, F42_2, F42_3, e42, Option.isSome_some, hlen, eqCode_self, L58_0_k0, L58_0_k0_0, hL', decide_true, Bool.not_true, cond_true, cond_false]
      rw [hlen] at hL'
      simp only [hL', hlen, cond_true, cond_false]
    · unfold F58 rt58
      simp only [RT.val, F42_ok, F42_0, F42_1, F42_2, F42_3, e42, Option.isSome_some, hb, decide_false, Bool.not_false, cond_true, cond_false]
  exact ⟨by simp only [F58_ok, e]; rfl, by simp only [F58_3, e]⟩
end
end
end Go.Proofs.Ytjdidbnmkogflaa

namespace Go.Proofs.Ytjdidbnmkogflaa
open Go.Gi Go.RowKit Go.Proofs.Ytjdidbnmkogflaa.Old
noncomputable section
set_option maxRecDepth 100000
set_option maxHeartbeats 4000000
set_option linter.unusedVariables false
set_option linter.unusedSimpArgs false
structure R14 where
  r0 : Bool
structure A14 where
  a0 : Array Value
  a1 : Nat
  a2 : Nat
  a3 : Array Value
  a4 : Nat
  a5 : Nat
  a6 : Array Value
  a7 : Nat
  a8 : Nat
  a9 : Int
  a10 : Int
  a11 : Int
  a12 : Int
  a13 : Int
noncomputable def rt14 (a0 : Array Value) (a1 : Nat) (a2 : Nat) (a3 : Array Value) (a4 : Nat) (a5 : Nat) (a6 : Array Value) (a7 : Nat) (a8 : Nat) (a9 : Int) (a10 : Int) (a11 : Int) (a12 : Int) (a13 : Int) : RT R14 :=
  .br (F42_ok (a0) a1 a2 (a3) a4 a5 (a6) a7 a8 a9 a10 (max a11 (min a12 a13)) a11)
 (.br (not (decide ((F42_3 (a0) a1 a2 (a3) a4 a5 (a6) a7 a8 a9 a10 (max a11 (min a12 a13)) a11) = (0 : Int))))
 (.br (decide ((Int.ofNat (F42_2 (a0) a1 a2 (a3) a4 a5 (a6) a7 a8 a9 a10 (max a11 (min a12 a13)) a11)) = (0 : Int)))
 (.leaf ⟨true⟩)
 (.leaf ⟨false⟩))
 (.br (F25_ok (F42_0 (a0) a1 a2 (a3) a4 a5 (a6) a7 a8 a9 a10 (max a11 (min a12 a13)) a11) (F42_1 (a0) a1 a2 (a3) a4 a5 (a6) a7 a8 a9 a10 (max a11 (min a12 a13)) a11) (F42_2 (a0) a1 a2 (a3) a4 a5 (a6) a7 a8 a9 a10 (max a11 (min a12 a13)) a11))
 (.br (not (decide ((F25_1 (F42_0 (a0) a1 a2 (a3) a4 a5 (a6) a7 a8 a9 a10 (max a11 (min a12 a13)) a11) (F42_1 (a0) a1 a2 (a3) a4 a5 (a6) a7 a8 a9 a10 (max a11 (min a12 a13)) a11) (F42_2 (a0) a1 a2 (a3) a4 a5 (a6) a7 a8 a9 a10 (max a11 (min a12 a13)) a11)) = (0 : Int))))
 (.leaf ⟨false⟩)
 (.br (F58_ok (a0) a1 a2 (a3) a4 a5 (a6) a7 a8 a9 a10 (max a11 (min a12 a13)) a11)
 (.br (not (F58_3 (a0) a1 a2 (a3) a4 a5 (a6) a7 a8 a9 a10 (max a11 (min a12 a13)) a11))
 (.leaf ⟨true⟩)
 (.br (decide ((100000 : Int) < (max a11 (max a12 a13))))
 (.leaf ⟨true⟩)
 (.br (F58_ok (a0) a1 a2 (a3) a4 a5 (a6) a7 a8 a9 a10 (max a11 (max a12 a13)) a11)
 (.br (not (F58_3 (a0) a1 a2 (a3) a4 a5 (a6) a7 a8 a9 a10 (max a11 (max a12 a13)) a11))
 (.leaf ⟨false⟩)
 (.br (F29_ok (F58_0 (a0) a1 a2 (a3) a4 a5 (a6) a7 a8 a9 a10 (max a11 (max a12 a13)) a11) (F58_1 (a0) a1 a2 (a3) a4 a5 (a6) a7 a8 a9 a10 (max a11 (max a12 a13)) a11) (F58_2 (a0) a1 a2 (a3) a4 a5 (a6) a7 a8 a9 a10 (max a11 (max a12 a13)) a11) (F58_0 (a0) a1 a2 (a3) a4 a5 (a6) a7 a8 a9 a10 (max a11 (min a12 a13)) a11) (F58_1 (a0) a1 a2 (a3) a4 a5 (a6) a7 a8 a9 a10 (max a11 (min a12 a13)) a11) (F58_2 (a0) a1 a2 (a3) a4 a5 (a6) a7 a8 a9 a10 (max a11 (min a12 a13)) a11))
 (.br (decide ((F29_1 (F58_0 (a0) a1 a2 (a3) a4 a5 (a6) a7 a8 a9 a10 (max a11 (max a12 a13)) a11) (F58_1 (a0) a1 a2 (a3) a4 a5 (a6) a7 a8 a9 a10 (max a11 (max a12 a13)) a11) (F58_2 (a0) a1 a2 (a3) a4 a5 (a6) a7 a8 a9 a10 (max a11 (max a12 a13)) a11) (F58_0 (a0) a1 a2 (a3) a4 a5 (a6) a7 a8 a9 a10 (max a11 (min a12 a13)) a11) (F58_1 (a0) a1 a2 (a3) a4 a5 (a6) a7 a8 a9 a10 (max a11 (min a12 a13)) a11) (F58_2 (a0) a1 a2 (a3) a4 a5 (a6) a7 a8 a9 a10 (max a11 (min a12 a13)) a11)) = (0 : Int)))
 (.br (F29_0 (F58_0 (a0) a1 a2 (a3) a4 a5 (a6) a7 a8 a9 a10 (max a11 (max a12 a13)) a11) (F58_1 (a0) a1 a2 (a3) a4 a5 (a6) a7 a8 a9 a10 (max a11 (max a12 a13)) a11) (F58_2 (a0) a1 a2 (a3) a4 a5 (a6) a7 a8 a9 a10 (max a11 (max a12 a13)) a11) (F58_0 (a0) a1 a2 (a3) a4 a5 (a6) a7 a8 a9 a10 (max a11 (min a12 a13)) a11) (F58_1 (a0) a1 a2 (a3) a4 a5 (a6) a7 a8 a9 a10 (max a11 (min a12 a13)) a11) (F58_2 (a0) a1 a2 (a3) a4 a5 (a6) a7 a8 a9 a10 (max a11 (min a12 a13)) a11))
 (.leaf ⟨true⟩)
 (.leaf ⟨false⟩))
 (.leaf ⟨false⟩))
 (.no)))
 (.no))))
 (.no)))
 (.no)))
 (.no)
noncomputable def en14 (r : R14) : Value := (.bool r.r0)
theorem T14  (a0 : Array Value) (a1 : Nat) (a2 : Nat) (a3 : Array Value) (a4 : Nat) (a5 : Nat) (a6 : Array Value) (a7 : Nat) (a8 : Nat) (a9 : Int) (a10 : Int) (a11 : Int) (a12 : Int) (a13 : Int) : evC Try.prog (Ans.c (p24V.or (p25.or (p29.or (p42.or p58))))) 60 (.call 14 ⟨[(.agg ⟨[(lstV a0 a1 a2 7), (lstV a3 a4 a5 5), (lstV a6 a7 a8 1), (.int .i64 a9), (.int .i64 a10)]⟩), (.agg ⟨[(.int .i64 a11), (.int .i64 a12), (.int .i64 a13)]⟩)]⟩ ⟨[], 0, []⟩) (frzK [0]) = (rt14 a0 a1 a2 a3 a4 a5 a6 a7 a8 a9 a10 a11 a12 a13).out (fun r => .ret (en14 r) ⟨[], 0, []⟩) := by kernel_rfl
noncomputable def F14 (a0 : Array Value) (a1 : Nat) (a2 : Nat) (a3 : Array Value) (a4 : Nat) (a5 : Nat) (a6 : Array Value) (a7 : Nat) (a8 : Nat) (a9 : Int) (a10 : Int) (a11 : Int) (a12 : Int) (a13 : Int) : Option R14 := (rt14 a0 a1 a2 a3 a4 a5 a6 a7 a8 a9 a10 a11 a12 a13).val
section
variable (a0 : Array Value) (a1 : Nat) (a2 : Nat) (a3 : Array Value) (a4 : Nat) (a5 : Nat) (a6 : Array Value) (a7 : Nat) (a8 : Nat) (a9 : Int) (a10 : Int) (a11 : Int) (a12 : Int) (a13 : Int)
noncomputable def F14_ok : Bool := (F14 a0 a1 a2 a3 a4 a5 a6 a7 a8 a9 a10 a11 a12 a13).isSome
noncomputable def F14_0 : Bool := match F14 a0 a1 a2 a3 a4 a5 a6 a7 a8 a9 a10 a11 a12 a13 with | some r => r.r0 | none => false
end
noncomputable def dec14 : Task → Option (A14 × Hp)
  | .call g ⟨[(.agg ⟨[(.func (.via 0 ⟨[]⟩ 0 true) a0 ⟨[.slice (some ⟨0, a1, none⟩) a2 7]⟩), (.func (.via 0 ⟨[]⟩ 0 true) a3 ⟨[.slice (some ⟨0, a4, none⟩) a5 5]⟩), (.func (.via 0 ⟨[]⟩ 0 true) a6 ⟨[.slice (some ⟨0, a7, none⟩) a8 1]⟩), (.int .i64 a9), (.int .i64 a10)]⟩), (.agg ⟨[(.int .i64 a11), (.int .i64 a12), (.int .i64 a13)]⟩)]⟩ h => (match Nat.beq g 14 with | true => some (⟨a0, a1, a2, a3, a4, a5, a6, a7, a8, a9, a10, a11, a12, a13⟩, h) | false => none)
  | _ => none
noncomputable def alt14 (x : A14) (h : Hp) : AT := .br (F14_ok x.a0 x.a1 x.a2 x.a3 x.a4 x.a5 x.a6 x.a7 x.a8 x.a9 x.a10 x.a11 x.a12 x.a13) (.leaf (.ret (.bool (F14_0 x.a0 x.a1 x.a2 x.a3 x.a4 x.a5 x.a6 x.a7 x.a8 x.a9 x.a10 x.a11 x.a12 x.a13)) h)) .no
noncomputable def p14 : Ans := fnAns dec14 alt14
theorem ha14 : ∀ (x : A14) (h : Hp) (o : Out), (alt14 x h).out = some o → ∃ r, (rt14 x.a0 x.a1 x.a2 x.a3 x.a4 x.a5 x.a6 x.a7 x.a8 x.a9 x.a10 x.a11 x.a12 x.a13).val = some r ∧ o = .ret (en14 r) h := by
  intro x h o e
  unfold alt14 at e
  cases hF : F14 x.a0 x.a1 x.a2 x.a3 x.a4 x.a5 x.a6 x.a7 x.a8 x.a9 x.a10 x.a11 x.a12 x.a13 with
  | none => simp [F14_ok, hF, AT.out] at e
  | some r =>
    refine ⟨r, hF, ?_⟩
    simp only [F14_ok, F14_0, hF, AT.out, Option.isSome_some, cond_true, Option.some.injEq] at e
    rw [← e]; rfl
theorem hd14 : ∀ (t : Task) (x : A14) (h : Hp), dec14 t = some (x, h) → t = .call 14 ⟨[(.agg ⟨[(lstV x.a0 x.a1 x.a2 7), (lstV x.a3 x.a4 x.a5 5), (lstV x.a6 x.a7 x.a8 1), (.int .i64 x.a9), (.int .i64 x.a10)]⟩), (.agg ⟨[(.int .i64 x.a11), (.int .i64 x.a12), (.int .i64 x.a13)]⟩)]⟩ h := by
  intro t x h e
  unfold dec14 at e
  split at e
  case h_2 => cases e
  split at e
  case h_2 => cases e
  rename_i hg
  simp only [Option.some.injEq, Prod.mk.injEq] at e
  obtain ⟨rfl, rfl⟩ := e
  rw [Nat.eq_of_beq_eq_true hg]
theorem known14 : Known Try.prog p14 := by
  exact Known.fn noNG mixed (Known.or known24V (Known.or known25 (Known.or known29 (Known.or known42 known58)))) (n := 60) (zs := [0]) 14 (fun x : A14 => [(.agg ⟨[(lstV x.a0 x.a1 x.a2 7), (lstV x.a3 x.a4 x.a5 5), (lstV x.a6 x.a7 x.a8 1), (.int .i64 x.a9), (.int .i64 x.a10)]⟩), (.agg ⟨[(.int .i64 x.a11), (.int .i64 x.a12), (.int .i64 x.a13)]⟩)]) (fun x => rt14 x.a0 x.a1 x.a2 x.a3 x.a4 x.a5 x.a6 x.a7 x.a8 x.a9 x.a10 x.a11 x.a12 x.a13) en14 (fun x => T14  x.a0 x.a1 x.a2 x.a3 x.a4 x.a5 x.a6 x.a7 x.a8 x.a9 x.a10 x.a11 x.a12 x.a13) (fun x => rfl) dec14 alt14 hd14 ha14
end
end Go.Proofs.Ytjdidbnmkogflaa

namespace Go.Proofs.Ytjdidbnmkogflaa
open Go.ChangeShapes Go.WideShapes Go.ChangeAt Go.RowKit Go.Gi Go.Proofs.Ytjdidbnmkogflaa.Old
set_option linter.unusedVariables false
def True14 : Prop := ∀ (c1 : Array Value) (n1 : Nat) (c2 : Array Value) (n2 : Nat) (c3 : Array Value) (n3 : Nat) (age shear x0 x1 x2 : Int), GL L7 7 c1 n1 → GL L5 5 c2 n2 → GL L1 1 c3 n3 →
  (Lit.int .i64 age).wf = true → (Lit.int .i64 shear).wf = true → (Lit.int .i64 x0).wf = true → (Lit.int .i64 x1).wf = true → (Lit.int .i64 x2).wf = true →
  (rt14 c1 0 n1 c2 0 n2 c3 0 n3 age shear x0 x1 x2).val = some ⟨true⟩
theorem law14 (hm : True14) {c1 c2 c3 : Array Value} {n1 n2 n3 : Nat} {age shear x0 x1 x2 : Int} (h1 : GL L7 7 c1 n1) (h2 : GL L5 5 c2 n2) (h3 : GL L1 1 c3 n3) (w0 : (Lit.int .i64 age).wf = true) (w1 : (Lit.int .i64 shear).wf = true) (w2 : (Lit.int .i64 x0).wf = true) (w3 : (Lit.int .i64 x1).wf = true) (w4 : (Lit.int .i64 x2).wf = true) :
    Fact Try.prog (.call 14 ⟨[(.agg ⟨[(lstV c1 0 n1 7), (lstV c2 0 n2 5), (lstV c3 0 n3 1), (.int .i64 age), (.int .i64 shear)]⟩), (.agg ⟨[(.int .i64 x0), (.int .i64 x1), (.int .i64 x2)]⟩)]⟩ ⟨[], 0, []⟩) (.ret (.bool true) ⟨[], 0, []⟩) := by
  have e := hm c1 n1 c2 n2 c3 n3 age shear x0 x1 x2 h1 h2 h3 w0 w1 w2 w3 w4
  refine known14 _ (alt14 ⟨c1, 0, n1, c2, 0, n2, c3, 0, n3, age, shear, x0, x1, x2⟩ ⟨[], 0, []⟩) _ rfl ?_
  have e1 : F14 c1 0 n1 c2 0 n2 c3 0 n3 age shear x0 x1 x2 = some ⟨true⟩ := e
  simp only [alt14, F14_ok, F14_0, e1, AT.out, Option.isSome_some, cond_true]
set_option maxRecDepth 100000 in
theorem lifted14 (hm : True14) (os : Os) (started : os.Started) (H : Type) (enc : TypeId × Value → H) :
    ReturnsInHanded {} Try.checked os 14 .any (Rows.windAgesSpec.pre6 enc Try.prog Try.f14 Rows.windAgesRow.domain false) (Rows.windAgesSpec.post enc Try.prog Try.f14 false true false false) := by
  refine returnsInHanded_of_change (C := Try.checked) own started (by kernel_rfl) Try.func14
    (ChangeSpec.witness6 (enc := enc) (C := Try.checked) false ⟨#[], #[.agg #[.slice none 0 0, .slice none 0 0, .slice none 0 0, .int .i64 0, .int .i64 0], .agg #[.int .i64 0, .int .i64 0, .int .i64 0]], []⟩ 14 (by kernel_rfl) (by kernel_rfl) (by kernel_rfl) (by kernel_rfl)) ?_
  intro W base args ds gs before hval0 hW hcnd _
  have hval : ∀ (j : Nat) t v, Try.f14.params[j]? = some t → args[j]? = some v → Value.okWide Try.prog W .any base t v := hval0
  have hW' := hW
  obtain ⟨p, q, hA0, hV, rfl, hfz, hnd⟩ := hW
  have hA : DataW.TrodAll enc Try.prog W 0 (fun _ => true) true Try.f14.params.toList args.toList ds p := hA0
  rw [Try.params14] at hA hval
  obtain ⟨v0, vs0, d0, ds0, p0, q0, hargs, rfl, rfl, h0, r0⟩ := trodAll_cons hA
  obtain ⟨v1, vs1, d1, ds1, p1, q1, rfl, rfl, rfl, h1, r1⟩ := trodAll_cons r0
  obtain ⟨rfl, rfl, rfl⟩ := trodAll_nil r1
  obtain rfl : args = #[v0, v1] := by cases args; simp_all
  obtain ⟨rfl, rfl⟩ := trodVars_none hV
  have k0 := h0
  have k1 := h1
  have lt0 : ∀ x ∈ p0, x.block < W.heap.size := by obtain ⟨m, hm⟩ := k0; exact DataW.trod_lt m _ _ _ hm
  have lt1 : ∀ x ∈ p1, x.block < W.heap.size := by obtain ⟨m, hm⟩ := k1; exact DataW.trod_lt m _ _ _ hm
  obtain ⟨abs, u0, c1, n1, c2, n2, c3, n3, age, shear, rfl, g1, g2, g3, w4, w5⟩ := tskArg (hval 0 26 v0 rfl rfl) h0
  obtain ⟨x0, x1, x2, u1, y0, y1, y2⟩ := threeArg (hval 1 50 v1 rfl rfl) h1
  clear hA0 hval0
  refine (calls_frozen (law14 hm (age := age) (shear := shear) (x0 := x0) (x1 := x1) (x2 := x2) g1 g2 g3 w4 w5 y0 y1 y2) rfl (((VRs.nil _).push u0).push u1)).mono fun e W' ⟨he, bel⟩ => ?_
  subst he
  exact ⟨_, rfl, _, _, _, [], _, [], hW', trodAll_mk1 (shut_bool Try.underlying4 _), (trodAll_cons_mk (Below.trod laidOut (by kernel_rfl) (of_decide_eq_true (by kernel_rfl)) k0 bel lt0) (trodAll_cons_mk (Below.trod laidOut (by kernel_rfl) (of_decide_eq_true (by kernel_rfl)) k1 bel lt1) trodAll_mk0)), rfl, bel.frame _, fun h => by cases h⟩
theorem over14 (hm : True14) : Rows.windAgesRow.holds Try.pinned (OpenSpec.ofChange Rows.windAgesSpec) :=
  OpenClaim.holds_of_wide 14 Try.f14 rfl rfl rfl rfl rfl rfl rfl ⟨rfl, rfl, rfl, rfl, rfl⟩ rfl rfl rfl rfl rfl (by kernel_rfl) Try.func14 (by kernel_rfl)
    (of_decide_eq_true (by kernel_rfl)) (by unfold Func.isWrapper; first | (rw [if_pos (by decide +kernel)]; kernel_rfl) | (rw [if_neg (by decide +kernel)]; exact ⟨rfl, rfl⟩))
    (fun os started H enc _ => lifted14 hm os started H enc)
theorem ages_of (hm : True14) : Rows.WindAgesSaid := over14 hm
end Go.Proofs.Ytjdidbnmkogflaa

namespace Go.Proofs.Ytjdidbnmkogflaa
open Go.Gi Go.RowKit Go.Proofs.Ytjdidbnmkogflaa.Old
noncomputable section
set_option maxRecDepth 100000
set_option linter.unusedVariables false
set_option linter.unusedSimpArgs false
section
variable {c0 c c3 : Array Value} {n n2 n3 : Nat} {age shear a b now x y : Int}
theorem cuts_le (up : ∀ k, 0 < k → k < n3 → getInt c3 (k - 1) < getInt c3 k) : ∀ j i, i ≤ j → j < n3 → getInt c3 i ≤ getInt c3 j
  | 0, i, h, hj => by obtain rfl : i = 0 := by omega
                      exact Int.le_refl _
  | j + 1, i, h, hj => by
    rcases Nat.eq_or_lt_of_le h with rfl | h
    · exact Int.le_refl _
    · have h1 := cuts_le up j i (by omega) (by omega)
      have h2 := up (j + 1) (by omega) hj
      simp only [Nat.add_sub_cancel] at h2
      omega
theorem wLo_pos {i : Nat} (h : 0 < i) : wLo c3 (i : Int) = getInt c3 (i - 1) := by
  obtain ⟨k, rfl⟩ : ∃ k, i = k + 1 := ⟨i - 1, by omega⟩
  rw [wLo_next, Nat.add_sub_cancel]
theorem cov_same {A B : List Bd} (up : ∀ k, 0 < k → k < n3 → getInt c3 (k - 1) < getInt c3 k) (ha : A.length = n3) (hb : B.length = n3)
    (h : ∀ i (hi : i < n3), ∃ P Q : Hd, A[i]'(by omega) = ⟨wLo c3 (i : Int), getInt c3 i, P.xl, P.xh, P.yl, P.yh⟩ ∧ B[i]'(by omega) = ⟨wLo c3 (i : Int), getInt c3 i, Q.xl, Q.xh, Q.yl, Q.yh⟩ ∧ wid P Q) :
    ∀ i (hi : i < A.length) j (hj : j < B.length), covB A[i] B[j] := by
  intro i hi j hj m1 m2
  obtain ⟨P, Q, e1, e2, hw⟩ := h i (by omega)
  obtain ⟨P', Q', e3, e4, hw'⟩ := h j (by omega)
  rw [e1] at m1 m2 ⊢
  rw [e4] at m1 m2 ⊢
  simp only at m1 m2
  rcases Nat.lt_trichotomy i j with hlt | rfl | hlt
  · exfalso
    rw [wLo_pos (show 0 < j by omega)] at m2
    have := cuts_le up (j - 1) i (by omega) (by omega)
    omega
  · rw [e2] at e4
    injection e4 with _ _ q1 q2 q3 q4
    obtain ⟨w1, w2, w3, w4⟩ := hw
    rw [← q1, ← q2, ← q3, ← q4]
    exact ⟨w1, w2, w3, w4⟩
  · exfalso
    rw [wLo_pos (show 0 < i by omega)] at m1
    have := cuts_le up (i - 1) j (by omega) (by omega)
    omega
theorem bnds_win {R : List Bd} (hR : bnds c0 c c3 n n2 age shear x y n3 0 = some R) (ha : agB c0 c c3 n2 age shear x y n3 0 = true) {i : Nat} (hi : i < n3) :
    R[i]'(by rw [bnds_len n3 0 R hR]; exact hi) = ⟨wLo c3 (i : Int), getInt c3 i, (winA c0 c c3 n2 age shear x y i).xl, (winA c0 c c3 n2 age shear x y i).xh, (winA c0 c c3 n2 age shear x y i).yl, (winA c0 c c3 n2 age shear x y i).yh⟩ := by
  have hl := bnds_len n3 0 R hR
  obtain ⟨H, h1, h2⟩ := bnds_get n3 0 R hR i (by omega)
  have he := (agB_iff n3 0).1 ha i hi
  rw [Nat.zero_add] at he h1 h2
  unfold winA at he
  unfold ansO at h1
  rw [if_neg (by rw [he]; decide), Option.some.injEq] at h1
  rw [h2, ← h1]
  rfl
end
theorem true14 : True14 := by
  intro c1 n1 c2 n2 c3 n3 age shear x0 x1 x2 g1 g2 g3 _ _ _ _ _
  have e42 := F42_eq (age := age) (shear := shear) (x := max x0 (min x1 x2)) (y := x0) g1 g2 g3
  unfold rt14
  by_cases hb : (bnS c1 c2 c3 n1 n2 n3 age shear (max x0 (min x1 x2)) x0).2 = 0
  · obtain ⟨hz, hxy, R, hR, hs⟩ := bnS_ok hb
    obtain ⟨hv, hn, hc⟩ := vld g1 g2 g3 hz
    have up := cuts_up g1 g2 g3 hz
    rw [hs] at e42
    have hlen := bnds_len n3 0 R hR
    have hval : valF 0 R := bnds_valF up hc n3 0 R (by omega) hR
    obtain ⟨p1, p2, p3⟩ := F25_of (L := R) (by omega) (by omega) hval
    by_cases ha : agB c1 c2 c3 n2 age shear (max x0 (min x1 x2)) x0 n3 0 = true
    · obtain ⟨R', hR', k1, k2, k3, k4, k5⟩ := F58_yes g1 g2 g3 hz hxy ha
      obtain rfl : R = R' := by rw [hR] at hR'; exact Option.some.inj hR'
      by_cases hmax : (100000 : Int) < max x0 (max x1 x2)
      · simp only [RT.val, F42_ok, F42_0, F42_1, F42_2, F42_3, e42, Option.isSome_some, p1, p3, k1, k5, hmax, decide_true, Bool.not_true, cond_true, cond_false]
      · have hxy2 : (tkB (max x0 (max x1 x2)) && tkB x0) = true := by
          simp only [tkB, Bool.and_eq_true, decide_eq_true_eq] at hxy ⊢
          omega
        have hlater : ∀ i, i < n3 → emp (winA c1 c2 c3 n2 age shear (max x0 (max x1 x2)) x0 i) = false ∧ wid (winA c1 c2 c3 n2 age shear (max x0 (max x1 x2)) x0 i) (winA c1 c2 c3 n2 age shear (max x0 (min x1 x2)) x0 i) := by
          intro i hi
          have he := (agB_iff n3 0).1 ha i hi
          rw [Nat.zero_add] at he
          exact all_later hv (by omega) (by omega) he
        have ha2 : agB c1 c2 c3 n2 age shear (max x0 (max x1 x2)) x0 n3 0 = true := (agB_iff n3 0).2 fun i hi => by rw [Nat.zero_add]; exact (hlater i hi).1
        obtain ⟨S, hS, m1, m2, m3, m4, m5⟩ := F58_yes g1 g2 g3 hz hxy2 ha2
        have hlS := bnds_len n3 0 S hS
        have hvS : valF 0 S := bnds_valF up hc n3 0 S (by omega) hS
        have hcov := cov_same (c3 := c3) (A := S) (B := R) up hlS hlen fun i hi => ⟨_, _, bnds_win hS ha2 hi, bnds_win hR ha hi, (hlater i hi).2⟩
        have hlast : (R[R.length - 1]'(by omega)).t ≤ (S[S.length - 1]'(by omega)).t := by
          have q1 := bnds_win hR ha (i := n3 - 1) (by omega)
          have q2 := bnds_win hS ha2 (i := n3 - 1) (by omega)
          simp only [hlen, hlS, q1, q2, Int.le_refl]
        obtain ⟨f1, f2, f3⟩ := F29_of (by omega) (by omega) hvS (by omega) (by omega) hval hlast hcov
        simp only [RT.val, F42_ok, F42_0, F42_1, F42_2, F42_3, e42, Option.isSome_some, p1, p3, k1, k2, k3, k4, k5, m1, m2, m3, m4, m5, f1, f2, f3, hmax, decide_true, decide_false, Bool.not_true, cond_true, cond_false]
    · obtain ⟨k1, k5⟩ := F58_no (x := max x0 (min x1 x2)) (y := x0) (age := age) (shear := shear) g1 g2 g3 (fun _ _ => ha)
      simp only [RT.val, F42_ok, F42_0, F42_1, F42_2, F42_3, e42, Option.isSome_some, p1, p3, k1, k5, decide_true, Bool.not_true, Bool.not_false, cond_true, cond_false]
  · have h0 := bnS_err hb
    rw [h0] at e42
    simp only [RT.val, F42_ok, F42_0, F42_1, F42_2, F42_3, e42, Option.isSome_some, hb, decide_false, Bool.not_false, cond_true, cond_false]
    rfl
theorem windAgesProved : Rows.WindAgesSaid := ages_of true14
end
end Go.Proofs.Ytjdidbnmkogflaa

