/- Part 14 of the texts below the claim. Conditions: none. -/
import Derived.Test.YtjdidbnmkogflaaMg6
import Derived.Test.YtjdidbnmkogflaaMg13
import Derived.Test.YtjdidbnmkogflaaMg7
import Derived.Test.YtjdidbnmkogflaaMg11
namespace Go.Proofs.Ytjdidbnmkogflaa
open Go.Gi Go.RowKit Go.Proofs.Ytjdidbnmkogflaa.Old
noncomputable section
set_option maxRecDepth 100000
set_option linter.unusedSimpArgs false
section
variable {c0 c c3 : Array Value} {n n2 n3 off3 : Nat} {age shear now : Int} {k : Nat}
theorem F119_eq (a b x y : Int) : F119_0 a b x y = max a x ∧ F119_1 a b x y = min b y := by
  simp [F119_0, F119_1, F119, rt119, RT.val]
theorem F120_eq (a b : Int) : F120_0 a b = IntKind.wrap .i64 (a - b) ∧ F120_1 a b = IntKind.wrap .i64 (a + b) := by
  simp [F120_0, F120_1, F120, rt120, RT.val]
def fold (c0 c : Array Value) (age shear lo hi tick now : Int) (g : Nat) (q : Int) (m k : Nat) (s : Hd) : Hd := hdR c0 0 c 0 age shear lo hi tick now g q m k s
theorem loop85 {s lo hi tick : Int} (hv : Vld c0 0 n c 0 n2 age shear) (hq : Qst lo hi tick now) (b17 : Bool) (a18 a19 a20 a21 : Int) : ∀ (m k : Nat) (h : Hd), k + m = n2 →
    loopR (fun x : X85_0 => rd85_0 x.v0 x.v1 x.v2 x.v3 x.v4 x.v5 x.v6 x.v7 x.v8 x.v9 x.v10 x.v11 x.v12 x.v13 x.v14 x.v15 x.v16 x.v17 x.v18 x.v19 x.v20 x.v21 x.v22 x.v23 x.v24 x.v25 x.v26)
      ⟨s, lo, hi, tick, now, (k : Int), c0, 0, n, c, 0, n2, c3, off3, n3, age, shear, b17, a18, a19, a20, a21, h.sm, h.xl, h.xh, h.yl, h.yh⟩ =
    some (.k0 c0 0 n c 0 n2 c3 off3 n3 age shear b17 a18 a19 a20 a21 (fold c0 c age shear lo hi tick now 117 s m k h).sm (fold c0 c age shear lo hi tick now 117 s m k h).xl (fold c0 c age shear lo hi tick now 117 s m k h).xh (fold c0 c age shear lo hi tick now 117 s m k h).yl (fold c0 c age shear lo hi tick now 117 s m k h).yh)
  | 0, k, h, e => loopR_done (by
      have h1 : ¬ ((k : Int) < (n2 : Int)) := by omega
      simp only [rd85_0, RT.val, h1, Int.ofNat_eq_natCast, decide_false, cond_false]
      rfl)
  | m + 1, k, h, e => by
    have hk : k < n2 := by omega
    have hm : n2 ≤ 60 := hv.few2
    have h3 : IntKind.wrap .i64 ((k : Int) + 1) = ((k + 1 : Nat) : Int) := by rw [wrap64_id (by omega) (by omega)]; omega
    have hki : (k : Int) < (n2 : Int) ∧ (0 : Int) ≤ (k : Int) := by omega
    have hr1 : rdOk c [(Leaf.int .i64), (Leaf.int .i64), (Leaf.int .i64), (Leaf.int .i64), (Leaf.int .i64)] (0 + k * 5) = true := row1 hv.g1 hk
    obtain ⟨f1, f2⟩ := F77_of (c3 := c3) (off3 := off3) (n3 := n3) hv hk hq.now.1 hq.now.2
    obtain ⟨f3, f4⟩ := F79_of (c3 := c3) (off3 := off3) (n3 := n3) hv hk hq.lo.1 hq.lo.2 hq.tick.1 hq.tick.2
    obtain ⟨f5, f6⟩ := F79_of (c3 := c3) (off3 := off3) (n3 := n3) hv hk hq.hi.1 hq.hi.2 hq.tick.1 hq.tick.2
    have hx := hv.x k hk
    have hy := hv.y k hk
    have hd := (dbW_eq hv hq hk).2
    have hmx := dbH_max (c0 := c0) (c := c) (age := age) (k := k) (lo := lo) (hi := hi) (tick := tick) hv.shear.1
    have wx1 : IntKind.wrap .i64 (getInt c (0 + k * 5 + 1 + 1 + 1) - dbI c0 0 c 0 age shear lo hi tick k) = getInt c (0 + k * 5 + 3) - dbI c0 0 c 0 age shear lo hi tick k := wrap64_id (x := getInt c (0 + k * 5 + 3) - dbI c0 0 c 0 age shear lo hi tick k) (by omega) (by omega)
    have wx2 : IntKind.wrap .i64 (getInt c (0 + k * 5 + 1 + 1 + 1) + dbI c0 0 c 0 age shear lo hi tick k) = getInt c (0 + k * 5 + 3) + dbI c0 0 c 0 age shear lo hi tick k := wrap64_id (x := getInt c (0 + k * 5 + 3) + dbI c0 0 c 0 age shear lo hi tick k) (by omega) (by omega)
    have wy1 : IntKind.wrap .i64 (getInt c (0 + k * 5 + 1 + 1 + 1 + 1) - dbI c0 0 c 0 age shear lo hi tick k) = getInt c (0 + k * 5 + 4) - dbI c0 0 c 0 age shear lo hi tick k := wrap64_id (x := getInt c (0 + k * 5 + 4) - dbI c0 0 c 0 age shear lo hi tick k) (by omega) (by omega)
    have wy2 : IntKind.wrap .i64 (getInt c (0 + k * 5 + 1 + 1 + 1 + 1) + dbI c0 0 c 0 age shear lo hi tick k) = getInt c (0 + k * 5 + 4) + dbI c0 0 c 0 age shear lo hi tick k := wrap64_id (x := getInt c (0 + k * 5 + 4) + dbI c0 0 c 0 age shear lo hi tick k) (by omega) (by omega)
    by_cases hs : getInt c (0 + k * 5) = s
    · by_cases hkn : knP c0 0 c 0 now k = true
      · have e1 : fold c0 c age shear lo hi tick now 117 s (m + 1) k h = fold c0 c age shear lo hi tick now 117 s m (k + 1) ⟨max h.xl (getInt c (0 + k * 5 + 3) - dbI c0 0 c 0 age shear lo hi tick k), min h.xh (getInt c (0 + k * 5 + 3) + dbI c0 0 c 0 age shear lo hi tick k),
          max h.yl (getInt c (0 + k * 5 + 4) - dbI c0 0 c 0 age shear lo hi tick k), min h.yh (getInt c (0 + k * 5 + 4) + dbI c0 0 c 0 age shear lo hi tick k), true⟩ := by
          unfold fold
          rw [hdR, if_pos ⟨hkn, by simp only [chB, hs, decide_true]⟩]
        rw [e1]
        refine (loopR_next ?_).trans (loop85 hv hq b17 a18 a19 a20 a21 m (k + 1) ⟨_, _, _, _, _⟩ (by omega))
        simp only [rd85_0, RT.val, Int.toNat_natCast, Int.ofNat_eq_natCast, hki.1, hki.2, hr1, hs, f1, f2, f3, f4, f5, f6, hkn, arrEq_self, decide_true, Bool.and_self, Bool.not_true, cond_true, cond_false, h3, hmx, (F119_eq _ _ _ _).1, (F119_eq _ _ _ _).2, (F120_eq _ _).1, (F120_eq _ _).2, wx1, wx2, wy1, wy2]
      · rw [Bool.not_eq_true] at hkn
        have e1 : fold c0 c age shear lo hi tick now 117 s (m + 1) k h = fold c0 c age shear lo hi tick now 117 s m (k + 1) h := by
          unfold fold
          rw [hdR, if_neg (by simp [hkn])]
        rw [e1]
        refine (loopR_next ?_).trans (loop85 hv hq b17 a18 a19 a20 a21 m (k + 1) h (by omega))
        simp only [rd85_0, RT.val, Int.toNat_natCast, Int.ofNat_eq_natCast, hki.1, hki.2, hr1, hs, f1, f2, hkn, decide_true, Bool.and_self, Bool.not_true, Bool.not_false, cond_true, cond_false, h3]
    · have e1 : fold c0 c age shear lo hi tick now 117 s (m + 1) k h = fold c0 c age shear lo hi tick now 117 s m (k + 1) h := by
        unfold fold
        rw [hdR, if_neg (by simp only [chB, hs, decide_false]; simp)]
      rw [e1]
      refine (loopR_next ?_).trans (loop85 hv hq b17 a18 a19 a20 a21 m (k + 1) h (by omega))
      simp only [rd85_0, RT.val, Int.toNat_natCast, Int.ofNat_eq_natCast, hki.1, hki.2, hr1, hs, decide_true, decide_false, Bool.and_self, Bool.not_false, cond_true, cond_false, h3]
def sayH (c0 c : Array Value) (n2 : Nat) (age shear lo hi tick now : Int) (g : Nat) (q : Int) : Hd := fold c0 c age shear lo hi tick now g q n2 0 ⟨-20000, 20000, -20000, 20000, false⟩
theorem F85_eq {s lo hi tick : Int} (hv : Vld c0 0 n c 0 n2 age shear) (hq : Qst lo hi tick now) :
    F85 c0 0 n c 0 n2 c3 off3 n3 age shear s lo hi tick now = some ⟨(sayH c0 c n2 age shear lo hi tick now 117 s).sm, (sayH c0 c n2 age shear lo hi tick now 117 s).xl, (sayH c0 c n2 age shear lo hi tick now 117 s).xh,
      (sayH c0 c n2 age shear lo hi tick now 117 s).yl, (sayH c0 c n2 age shear lo hi tick now 117 s).yh⟩ := by
  have hL := loop85 (c3 := c3) (off3 := off3) (n3 := n3) (s := s) hv hq false 0 0 0 0 n2 0 ⟨-20000, 20000, -20000, 20000, false⟩ (by omega)
  have hL' : L85_0 s lo hi tick now 0 c0 0 n c 0 n2 c3 off3 n3 age shear false 0 0 0 0 false (-20000) 20000 (-20000) 20000 = _ := hL
  unfold F85 rt85
  simp only [RT.val, eqCode_self, cond_true, L85_0_k0, L85_0_k0_16, L85_0_k0_17, L85_0_k0_18, L85_0_k0_19, L85_0_k0_20, hL', sayH]
theorem F85_of {s lo hi tick : Int} (hv : Vld c0 0 n c 0 n2 age shear) (hq : Qst lo hi tick now) :
    F85_ok c0 0 n c 0 n2 c3 off3 n3 age shear s lo hi tick now = true ∧ F85_0 c0 0 n c 0 n2 c3 off3 n3 age shear s lo hi tick now = (sayH c0 c n2 age shear lo hi tick now 117 s).sm ∧
    F85_1 c0 0 n c 0 n2 c3 off3 n3 age shear s lo hi tick now = (sayH c0 c n2 age shear lo hi tick now 117 s).xl ∧ F85_2 c0 0 n c 0 n2 c3 off3 n3 age shear s lo hi tick now = (sayH c0 c n2 age shear lo hi tick now 117 s).xh ∧
    F85_3 c0 0 n c 0 n2 c3 off3 n3 age shear s lo hi tick now = (sayH c0 c n2 age shear lo hi tick now 117 s).yl ∧ F85_4 c0 0 n c 0 n2 c3 off3 n3 age shear s lo hi tick now = (sayH c0 c n2 age shear lo hi tick now 117 s).yh := by
  have h := F85_eq (c3 := c3) (off3 := off3) (n3 := n3) (s := s) hv hq
  exact ⟨by simp [F85_ok, h], by simp [F85_0, h], by simp [F85_1, h], by simp [F85_2, h], by simp [F85_3, h], by simp [F85_4, h]⟩
end
end
end Go.Proofs.Ytjdidbnmkogflaa

namespace Go.Proofs.Ytjdidbnmkogflaa
open Go.Gi Go.RowKit Go.Proofs.Ytjdidbnmkogflaa.Old
noncomputable section
set_option maxRecDepth 100000
def comb (a b : Hd) : Hd := ⟨max a.xl b.xl, min a.xh b.xh, max a.yl b.yl, min a.yh b.yh, a.sm || b.sm⟩
def bot : Hd := ⟨-20000, 20000, -20000, 20000, false⟩
section
variable (c0 c : Array Value) (age shear lo hi tick now : Int)
def upd (k : Nat) (s : Hd) : Hd :=
  ⟨max s.xl (getInt c (0 + k * 5 + 3) - dbI c0 0 c 0 age shear lo hi tick k), min s.xh (getInt c (0 + k * 5 + 3) + dbI c0 0 c 0 age shear lo hi tick k),
   max s.yl (getInt c (0 + k * 5 + 4) - dbI c0 0 c 0 age shear lo hi tick k), min s.yh (getInt c (0 + k * 5 + 4) + dbI c0 0 c 0 age shear lo hi tick k), true⟩
def hdP (p : Int → Bool) : Nat → Nat → Hd → Hd
  | 0, _, s => s
  | m + 1, k, s => hdP p m (k + 1) (if knP c0 0 c 0 now k = true ∧ p (getInt c (0 + k * 5)) = true then upd c0 c age shear lo hi tick k s else s)
theorem hdP_of (g : Nat) (q : Int) : ∀ (m k : Nat) (s : Hd), fold c0 c age shear lo hi tick now g q m k s = hdP c0 c age shear lo hi tick now (chB g q) m k s
  | 0, k, s => by unfold fold hdP hdR; rfl
  | m + 1, k, s => by
    have h := hdP_of g q m (k + 1)
    unfold fold at h ⊢
    unfold hdP hdR
    rw [h]
    rfl
theorem hdP_congr {p q : Int → Bool} : ∀ (m k : Nat) (s : Hd), (∀ i, k ≤ i → i < k + m → p (getInt c (0 + i * 5)) = q (getInt c (0 + i * 5))) → hdP c0 c age shear lo hi tick now p m k s = hdP c0 c age shear lo hi tick now q m k s
  | 0, _, _, _ => rfl
  | m + 1, k, s, h => by
    unfold hdP
    rw [h k (Nat.le_refl _) (by omega)]
    exact hdP_congr m (k + 1) _ fun i h1 h2 => h i (by omega) (by omega)
theorem upd_comb2 (k : Nat) (a b : Hd) : comb (upd c0 c age shear lo hi tick k a) (upd c0 c age shear lo hi tick k b) = upd c0 c age shear lo hi tick k (comb a b) := by
  simp only [comb, upd, Hd.mk.injEq, Bool.or_self, and_true]
  refine ⟨?_, ?_, ?_, ?_⟩ <;> omega
theorem upd_combL (k : Nat) (a b : Hd) : comb (upd c0 c age shear lo hi tick k a) b = upd c0 c age shear lo hi tick k (comb a b) := by
  simp only [comb, upd, Hd.mk.injEq, Bool.true_or, and_true]
  refine ⟨?_, ?_, ?_, ?_⟩ <;> omega
theorem upd_combR (k : Nat) (a b : Hd) : comb a (upd c0 c age shear lo hi tick k b) = upd c0 c age shear lo hi tick k (comb a b) := by
  simp only [comb, upd, Hd.mk.injEq, Bool.or_true, and_true]
  refine ⟨?_, ?_, ?_, ?_⟩ <;> omega
theorem hdP_or {p q : Int → Bool} : ∀ (m k : Nat) (a b : Hd), comb (hdP c0 c age shear lo hi tick now p m k a) (hdP c0 c age shear lo hi tick now q m k b) = hdP c0 c age shear lo hi tick now (fun s => p s || q s) m k (comb a b)
  | 0, _, _, _ => rfl
  | m + 1, k, a, b => by
    unfold hdP
    rw [hdP_or m (k + 1)]
    congr 1
    by_cases h0 : knP c0 0 c 0 now k = true
    · by_cases h1 : p (getInt c (0 + k * 5)) = true <;> by_cases h2 : q (getInt c (0 + k * 5)) = true
      · rw [if_pos ⟨h0, h1⟩, if_pos ⟨h0, h2⟩, if_pos ⟨h0, by rw [h1, Bool.true_or]⟩, upd_comb2]
      · rw [if_pos ⟨h0, h1⟩, if_neg (fun h => h2 h.2), if_pos ⟨h0, by rw [h1, Bool.true_or]⟩, upd_combL]
      · rw [if_neg (fun h => h1 h.2), if_pos ⟨h0, h2⟩, if_pos ⟨h0, by rw [h2, Bool.or_true]⟩, upd_combR]
      · rw [if_neg (fun h => h1 h.2), if_neg (fun h => h2 h.2), if_neg (fun h => by rw [Bool.or_eq_true] at h; exact h.2.elim h1 h2)]
    · rw [if_neg (fun h => h0 h.1), if_neg (fun h => h0 h.1), if_neg (fun h => h0 h.1)]
theorem comb_bot : comb bot bot = bot := by simp [comb, bot]
theorem hdP_sm {p : Int → Bool} : ∀ (m k : Nat) (s : Hd), s.sm = true → (hdP c0 c age shear lo hi tick now p m k s).sm = true
  | 0, _, _, h => h
  | m + 1, k, s, h => by
    unfold hdP
    split
    · exact hdP_sm m (k + 1) _ rfl
    · exact hdP_sm m (k + 1) _ h
theorem hdP_none {p : Int → Bool} : ∀ (m k : Nat) (s : Hd), (hdP c0 c age shear lo hi tick now p m k s).sm = false → hdP c0 c age shear lo hi tick now p m k s = s
  | 0, _, _, _ => rfl
  | m + 1, k, s, h => by
    unfold hdP at h ⊢
    split
    · rename_i h1
      rw [if_pos h1] at h
      rw [hdP_sm c0 c age shear lo hi tick now m (k + 1) _ rfl] at h
      cases h
    · rename_i h1
      rw [if_neg h1] at h
      exact hdP_none m (k + 1) _ h
end
end
end Go.Proofs.Ytjdidbnmkogflaa

namespace Go.Proofs.Ytjdidbnmkogflaa
open Go.Gi Go.RowKit Go.Proofs.Ytjdidbnmkogflaa.Old
noncomputable section
set_option maxRecDepth 100000
set_option linter.unusedSimpArgs false
section
variable {c0 c c3 : Array Value} {n n2 n3 off3 : Nat} {age shear lo hi tick now : Int}
def all (c0 c : Array Value) (n2 : Nat) (age shear lo hi tick now : Int) (p : Int → Bool) : Hd := hdP c0 c age shear lo hi tick now p n2 0 bot
theorem all_or (p q : Int → Bool) : comb (all c0 c n2 age shear lo hi tick now p) (all c0 c n2 age shear lo hi tick now q) = all c0 c n2 age shear lo hi tick now (fun s => p s || q s) := by
  unfold all
  rw [hdP_or, comb_bot]
theorem all_congr {p q : Int → Bool} (h : ∀ i, i < n2 → p (getInt c (0 + i * 5)) = q (getInt c (0 + i * 5))) : all c0 c n2 age shear lo hi tick now p = all c0 c n2 age shear lo hi tick now q :=
  hdP_congr c0 c age shear lo hi tick now n2 0 bot fun i _ h1 => h i (by omega)
theorem all_false : ∀ (m k : Nat) (s : Hd), hdP c0 c age shear lo hi tick now (fun _ => false) m k s = s
  | 0, _, _ => rfl
  | m + 1, k, s => by
    unfold hdP
    rw [if_neg (fun h => by cases h.2)]
    exact all_false m (k + 1) s
theorem all_bot (p : Int → Bool) : comb (all c0 c n2 age shear lo hi tick now p) bot = all c0 c n2 age shear lo hi tick now p := by
  have h := all_or (c0 := c0) (c := c) (n2 := n2) (age := age) (shear := shear) (lo := lo) (hi := hi) (tick := tick) (now := now) p (fun _ => false)
  rw [show all c0 c n2 age shear lo hi tick now (fun _ => false) = bot from all_false n2 0 bot] at h
  rw [h]
  exact all_congr fun i _ => by simp
theorem sayH_all (s : Int) : sayH c0 c n2 age shear lo hi tick now 117 s = all c0 c n2 age shear lo hi tick now (fun x => decide (x = s)) := by
  unfold sayH all
  rw [hdP_of]; rfl
def left (n : Nat) (out : Int) (k : Nat) (p : Int → Bool) : Int → Bool := fun s => p s || (decide ((k : Int) ≤ s) && (decide (s < (n : Int)) && !decide (s = out)))
theorem left_done (out : Int) (p : Int → Bool) : left n out n p = p := by
  funext s
  unfold left
  by_cases h : (n : Int) ≤ s
  · rw [decide_eq_false (show ¬ s < (n : Int) by omega)]; simp
  · rw [decide_eq_false h]; simp
theorem left_skip {k : Nat} (p : Int → Bool) : left n (k : Int) k p = left n (k : Int) (k + 1) p := by
  funext s
  unfold left
  by_cases h : s = (k : Int)
  · rw [decide_eq_true h]; simp
  · have : decide ((k : Int) ≤ s) = decide (((k + 1 : Nat) : Int) ≤ s) := by
      rw [decide_eq_decide]; omega
    rw [this]
theorem left_take {k : Nat} {out : Int} (hk : k < n) (ho : (k : Int) ≠ out) (p : Int → Bool) : left n out k p = left n out (k + 1) (fun s => p s || decide (s = (k : Int))) := by
  funext s
  unfold left
  by_cases h : s = (k : Int)
  · subst h
    rw [decide_eq_false ho, decide_eq_true (show ((k : Nat) : Int) < (n : Int) by omega)]; simp
  · have : decide ((k : Int) ≤ s) = decide (((k + 1 : Nat) : Int) ≤ s) := by
      rw [decide_eq_decide]; omega
    simp only [this, decide_eq_false h, Bool.or_false]
theorem loop122 {out : Int} (hv : Vld c0 0 n c 0 n2 age shear) (hq : Qst lo hi tick now) (a17 a18 a19 a20 : Int) : ∀ (m k : Nat) (p : Int → Bool), k + m = n →
    loopR (fun x : X122_0 => rd122_0 x.v0 x.v1 x.v2 x.v3 x.v4 x.v5 x.v6 x.v7 x.v8 x.v9 x.v10 x.v11 x.v12 x.v13 x.v14 x.v15 x.v16 x.v17 x.v18 x.v19 x.v20 x.v21 x.v22 x.v23 x.v24)
      ⟨out, lo, hi, tick, now, (k : Int), c0, 0, n, c, 0, n2, c3, off3, n3, age, shear, a17, a18, a19, a20, (all c0 c n2 age shear lo hi tick now p).xl, (all c0 c n2 age shear lo hi tick now p).xh, (all c0 c n2 age shear lo hi tick now p).yl, (all c0 c n2 age shear lo hi tick now p).yh⟩ =
    some (.k0 c0 0 n c 0 n2 c3 off3 n3 age shear a17 a18 a19 a20 (all c0 c n2 age shear lo hi tick now (left n out k p)).xl (all c0 c n2 age shear lo hi tick now (left n out k p)).xh (all c0 c n2 age shear lo hi tick now (left n out k p)).yl (all c0 c n2 age shear lo hi tick now (left n out k p)).yh)
  | 0, k, p, e => loopR_done (by
      obtain rfl : k = n := by omega
      have h1 : ¬ ((k : Int) < (k : Int)) := by omega
      simp only [rd122_0, RT.val, h1, Int.ofNat_eq_natCast, decide_false, cond_false, left_done])
  | m + 1, k, p, e => by
    have hk : k < n := by omega
    have hm : n ≤ 6 := hv.few
    have h3 : IntKind.wrap .i64 ((k : Int) + 1) = ((k + 1 : Nat) : Int) := by rw [wrap64_id (by omega) (by omega)]; omega
    have hki : (k : Int) < (n : Int) := by omega
    obtain ⟨f0, f1, f2, f3, f4, f5⟩ := F85_of (c3 := c3) (off3 := off3) (n3 := n3) (s := (k : Int)) hv hq
    rw [sayH_all] at f1 f2 f3 f4 f5
    by_cases ho : (k : Int) = out
    · subst ho
      rw [left_skip]
      refine (loopR_next ?_).trans (loop122 hv hq a17 a18 a19 a20 m (k + 1) p (by omega))
      simp only [rd122_0, RT.val, Int.ofNat_eq_natCast, hki, f0, decide_true, Bool.not_true, cond_true, cond_false, h3]
    · rw [left_take hk ho]
      refine (loopR_next ?_).trans (loop122 hv hq a17 a18 a19 a20 m (k + 1) (fun s => p s || decide (s = (k : Int))) (by omega))
      rw [← all_or]
      by_cases hs : (all c0 c n2 age shear lo hi tick now (fun x => decide (x = (k : Int)))).sm = true
      · rw [hs] at f1
        simp only [rd122_0, RT.val, Int.ofNat_eq_natCast, hki, f0, f1, f2, f3, f4, f5, ho, decide_true, decide_false, Bool.not_false, Bool.not_true, cond_true, cond_false, h3, (F119_eq _ _ _ _).1, (F119_eq _ _ _ _).2, comb]
      · rw [Bool.not_eq_true] at hs
        rw [hs] at f1
        rw [show all c0 c n2 age shear lo hi tick now (fun x => decide (x = (k : Int))) = bot from hdP_none c0 c age shear lo hi tick now n2 0 bot hs, all_bot]
        simp only [rd122_0, RT.val, Int.ofNat_eq_natCast, hki, f0, f1, ho, decide_true, decide_false, Bool.not_false, Bool.not_true, cond_true, cond_false, h3]
theorem F86_eq (a b : Int) : F86_0 a b = decide (b < a) := by simp [F86_0, F86, rt86, RT.val]
theorem F122_eq {out : Int} (hv : Vld c0 0 n c 0 n2 age shear) (hq : Qst lo hi tick now) : F122 c0 0 n c 0 n2 c3 off3 n3 age shear out lo hi tick now =
    some ⟨(all c0 c n2 age shear lo hi tick now (chB 128 out)).xl, (all c0 c n2 age shear lo hi tick now (chB 128 out)).xh, (all c0 c n2 age shear lo hi tick now (chB 128 out)).yl, (all c0 c n2 age shear lo hi tick now (chB 128 out)).yh,
      !decide ((all c0 c n2 age shear lo hi tick now (chB 128 out)).xh < (all c0 c n2 age shear lo hi tick now (chB 128 out)).xl) && !decide ((all c0 c n2 age shear lo hi tick now (chB 128 out)).yh < (all c0 c n2 age shear lo hi tick now (chB 128 out)).yl)⟩ := by
  have hc : all c0 c n2 age shear lo hi tick now (left n out 0 (fun _ => false)) = all c0 c n2 age shear lo hi tick now (chB 128 out) := all_congr fun i hi => by
    have hs := hv.src i hi
    unfold left chB
    rw [decide_eq_true (show (((0 : Nat) : Int) ≤ getInt c (0 + i * 5)) by omega), decide_eq_true hs.2]; simp
  have hL := loop122 (c3 := c3) (off3 := off3) (n3 := n3) (out := out) hv hq 0 0 0 0 n 0 (fun _ => false) (by omega)
  rw [hc, show all c0 c n2 age shear lo hi tick now (fun _ => false) = bot from all_false n2 0 bot] at hL
  have hL' : L122_0 out lo hi tick now 0 c0 0 n c 0 n2 c3 off3 n3 age shear 0 0 0 0 (-20000) 20000 (-20000) 20000 = _ := hL
  unfold F122 rt122
  generalize all c0 c n2 age shear lo hi tick now (chB 128 out) = G at *
  have k1 : L122_0_k0 out lo hi tick now 0 c0 0 n c 0 n2 c3 off3 n3 age shear 0 0 0 0 (-20000) 20000 (-20000) 20000 = true := by simp only [L122_0_k0, hL']
  have k2 : L122_0_k0_15 out lo hi tick now 0 c0 0 n c 0 n2 c3 off3 n3 age shear 0 0 0 0 (-20000) 20000 (-20000) 20000 = G.xl := by simp only [L122_0_k0_15, hL']
  have k3 : L122_0_k0_16 out lo hi tick now 0 c0 0 n c 0 n2 c3 off3 n3 age shear 0 0 0 0 (-20000) 20000 (-20000) 20000 = G.xh := by simp only [L122_0_k0_16, hL']
  have k4 : L122_0_k0_17 out lo hi tick now 0 c0 0 n c 0 n2 c3 off3 n3 age shear 0 0 0 0 (-20000) 20000 (-20000) 20000 = G.yl := by simp only [L122_0_k0_17, hL']
  have k5 : L122_0_k0_18 out lo hi tick now 0 c0 0 n c 0 n2 c3 off3 n3 age shear 0 0 0 0 (-20000) 20000 (-20000) 20000 = G.yh := by simp only [L122_0_k0_18, hL']
  simp only [RT.val, eqCode_self, cond_true, k1, k2, k3, k4, k5, F86_eq, decide_true]
  by_cases h : G.xh < G.xl <;> simp [h]
end
end
end Go.Proofs.Ytjdidbnmkogflaa

namespace Go.Proofs.Ytjdidbnmkogflaa
open Go.Gi Go.RowKit Go.Proofs.Ytjdidbnmkogflaa.Old
noncomputable section
set_option maxRecDepth 100000
section
variable {c0 c c3 : Array Value} {n n2 n3 off3 : Nat} {age shear lo hi tick now : Int}
theorem F81_fold {g : Nat} {q : Int} (hv : Vld c0 0 n c 0 n2 age shear) :
    hdR (arrOf (some ⟨0, 0, none⟩) [obF n c0, obF n2 c, obF n3 c3]) 0 (arrOf (some ⟨1, 0, none⟩) [obF n c0, obF n2 c, obF n3 c3]) 0 age shear lo hi tick now g q n2 0 bot = all c0 c n2 age shear lo hi tick now (chB g q) := by
  rcases Nat.eq_zero_or_pos n2 with rfl | h
  · rfl
  · have hs := hv.src 0 h
    have e1 : obF n c0 = .cells c0 true := by unfold obF; rw [if_neg (by omega)]
    have e2 : obF n2 c = .cells c true := by unfold obF; rw [if_neg (by omega)]
    rw [e1, e2]
    unfold all
    rw [← hdP_of]
    rfl
theorem F81_of {g : Nat} {q : Int} (hv : Vld c0 0 n c 0 n2 age shear) :
    F81xl g q c0 0 n c 0 n2 c3 off3 n3 age shear lo hi tick now = (all c0 c n2 age shear lo hi tick now (chB g q)).xl ∧ F81xh g q c0 0 n c 0 n2 c3 off3 n3 age shear lo hi tick now = (all c0 c n2 age shear lo hi tick now (chB g q)).xh ∧
    F81yl g q c0 0 n c 0 n2 c3 off3 n3 age shear lo hi tick now = (all c0 c n2 age shear lo hi tick now (chB g q)).yl ∧ F81yh g q c0 0 n c 0 n2 c3 off3 n3 age shear lo hi tick now = (all c0 c n2 age shear lo hi tick now (chB g q)).yh := by
  have h := F81_fold (c3 := c3) (n3 := n3) (lo := lo) (hi := hi) (tick := tick) (now := now) (g := g) (q := q) hv
  exact ⟨congrArg Hd.xl h, congrArg Hd.xh h, congrArg Hd.yl h, congrArg Hd.yh h⟩
end
end
end Go.Proofs.Ytjdidbnmkogflaa

namespace Go.Proofs.Ytjdidbnmkogflaa
open Go.Gi Go.RowKit
noncomputable section
set_option maxRecDepth 100000
set_option linter.unusedVariables false
set_option linter.unusedSimpArgs false
structure R74 where
  r0 : Bool
structure A74 where
  a0 : Int
noncomputable def rt74 (a0 : Int) : RT R74 :=
  .br (decide ((0 : Int) ≤ a0))
 (.leaf ⟨(decide (a0 ≤ (100000 : Int)))⟩)
 (.leaf ⟨false⟩)
noncomputable def en74 (r : R74) : Value := (.bool r.r0)
theorem T74  (a0 : Int) : evC Try.prog (Ans.c (fun _ => none : Ans)) 60 (.call 74 ⟨[(.int .i64 a0)]⟩ ⟨[], 0, []⟩) (frzK [0]) = (rt74 a0).out (fun r => .ret (en74 r) ⟨[], 0, []⟩) := by kernel_rfl
noncomputable def F74 (a0 : Int) : Option R74 := (rt74 a0).val
section
variable (a0 : Int)
noncomputable def F74_ok : Bool := (F74 a0).isSome
noncomputable def F74_0 : Bool := match F74 a0 with | some r => r.r0 | none => false
end
noncomputable def dec74 : Task → Option (A74 × Hp)
  | .call g ⟨[(.int .i64 a0)]⟩ h => (match Nat.beq g 74 with | true => some (⟨a0⟩, h) | false => none)
  | _ => none
noncomputable def alt74 (x : A74) (h : Hp) : AT := .br (F74_ok x.a0) (.leaf (.ret (.bool (F74_0 x.a0)) h)) .no
noncomputable def p74 : Ans := fnAns dec74 alt74
theorem ha74 : ∀ (x : A74) (h : Hp) (o : Out), (alt74 x h).out = some o → ∃ r, (rt74 x.a0).val = some r ∧ o = .ret (en74 r) h := by
  intro x h o e
  unfold alt74 at e
  cases hF : F74 x.a0 with
  | none => simp [F74_ok, hF, AT.out] at e
  | some r =>
    refine ⟨r, hF, ?_⟩
    simp only [F74_ok, F74_0, hF, AT.out, Option.isSome_some, cond_true, Option.some.injEq] at e
    rw [← e]; rfl
theorem hd74 : ∀ (t : Task) (x : A74) (h : Hp), dec74 t = some (x, h) → t = .call 74 ⟨[(.int .i64 x.a0)]⟩ h := by
  intro t x h e
  unfold dec74 at e
  split at e
  case h_2 => cases e
  split at e
  case h_2 => cases e
  rename_i hg
  simp only [Option.some.injEq, Prod.mk.injEq] at e
  obtain ⟨rfl, rfl⟩ := e
  rw [Nat.eq_of_beq_eq_true hg]
theorem known74 : Known Try.prog p74 := by
  exact Known.fn noNG mixed (Known.nothing Try.prog) (n := 60) (zs := [0]) 74 (fun x : A74 => [(.int .i64 x.a0)]) (fun x => rt74 x.a0) en74 (fun x => T74  x.a0) (fun x => rfl) dec74 alt74 hd74 ha74
end
end Go.Proofs.Ytjdidbnmkogflaa

namespace Go.Proofs.Ytjdidbnmkogflaa
open Go.Gi Go.RowKit
noncomputable section
set_option maxRecDepth 100000
set_option linter.unusedVariables false
set_option linter.unusedSimpArgs false
structure R91 where
  r0 : Bool
structure A91 where
  a0 : Int
  a1 : Int
  a2 : Int
  a3 : Int
noncomputable def rt91 (a0 : Int) (a1 : Int) (a2 : Int) (a3 : Int) : RT R91 :=
  .br (F74_ok a2)
 (.br (F74_0 a2)
 (.br (F74_ok a3)
 (.leaf ⟨(F74_0 a3)⟩)
 (.no))
 (.leaf ⟨false⟩))
 (.no)
noncomputable def en91 (r : R91) : Value := (.bool r.r0)
theorem T91  (a0 : Int) (a1 : Int) (a2 : Int) (a3 : Int) : evC Try.prog (Ans.c p74) 60 (.call 91 ⟨[(.agg ⟨[(.int .i64 a0), (.int .i64 a1), (.int .i64 a2), (.int .i64 a3)]⟩)]⟩ ⟨[], 0, []⟩) (frzK [0]) = (rt91 a0 a1 a2 a3).out (fun r => .ret (en91 r) ⟨[], 0, []⟩) := by kernel_rfl
noncomputable def F91 (a0 : Int) (a1 : Int) (a2 : Int) (a3 : Int) : Option R91 := (rt91 a0 a1 a2 a3).val
section
variable (a0 : Int) (a1 : Int) (a2 : Int) (a3 : Int)
noncomputable def F91_ok : Bool := (F91 a0 a1 a2 a3).isSome
noncomputable def F91_0 : Bool := match F91 a0 a1 a2 a3 with | some r => r.r0 | none => false
end
noncomputable def dec91 : Task → Option (A91 × Hp)
  | .call g ⟨[(.agg ⟨[(.int .i64 a0), (.int .i64 a1), (.int .i64 a2), (.int .i64 a3)]⟩)]⟩ h => (match Nat.beq g 91 with | true => some (⟨a0, a1, a2, a3⟩, h) | false => none)
  | _ => none
noncomputable def alt91 (x : A91) (h : Hp) : AT := .br (F91_ok x.a0 x.a1 x.a2 x.a3) (.leaf (.ret (.bool (F91_0 x.a0 x.a1 x.a2 x.a3)) h)) .no
noncomputable def p91 : Ans := fnAns dec91 alt91
theorem ha91 : ∀ (x : A91) (h : Hp) (o : Out), (alt91 x h).out = some o → ∃ r, (rt91 x.a0 x.a1 x.a2 x.a3).val = some r ∧ o = .ret (en91 r) h := by
  intro x h o e
  unfold alt91 at e
  cases hF : F91 x.a0 x.a1 x.a2 x.a3 with
  | none => simp [F91_ok, hF, AT.out] at e
  | some r =>
    refine ⟨r, hF, ?_⟩
    simp only [F91_ok, F91_0, hF, AT.out, Option.isSome_some, cond_true, Option.some.injEq] at e
    rw [← e]; rfl
theorem hd91 : ∀ (t : Task) (x : A91) (h : Hp), dec91 t = some (x, h) → t = .call 91 ⟨[(.agg ⟨[(.int .i64 x.a0), (.int .i64 x.a1), (.int .i64 x.a2), (.int .i64 x.a3)]⟩)]⟩ h := by
  intro t x h e
  unfold dec91 at e
  split at e
  case h_2 => cases e
  split at e
  case h_2 => cases e
  rename_i hg
  simp only [Option.some.injEq, Prod.mk.injEq] at e
  obtain ⟨rfl, rfl⟩ := e
  rw [Nat.eq_of_beq_eq_true hg]
theorem known91 : Known Try.prog p91 := by
  exact Known.fn noNG mixed known74 (n := 60) (zs := [0]) 91 (fun x : A91 => [(.agg ⟨[(.int .i64 x.a0), (.int .i64 x.a1), (.int .i64 x.a2), (.int .i64 x.a3)]⟩)]) (fun x => rt91 x.a0 x.a1 x.a2 x.a3) en91 (fun x => T91  x.a0 x.a1 x.a2 x.a3) (fun x => rfl) dec91 alt91 hd91 ha91
end
end Go.Proofs.Ytjdidbnmkogflaa

namespace Go.Proofs.Ytjdidbnmkogflaa
open Go.Gi Go.RowKit
noncomputable section
set_option maxRecDepth 100000
set_option linter.unusedVariables false
set_option linter.unusedSimpArgs false
structure R94 where
  r0 : Int
  r1 : Int
structure A94 where
  a0 : Array Value
  a1 : Nat
  a2 : Nat
  a3 : Array Value
  a4 : Nat
  a5 : Nat
  a6 : Array Value
  a7 : Nat
  a8 : Nat
  a9 : Int
  a10 : Int
  a11 : Int
noncomputable def rt94 (a0 : Array Value) (a1 : Nat) (a2 : Nat) (a3 : Array Value) (a4 : Nat) (a5 : Nat) (a6 : Array Value) (a7 : Nat) (a8 : Nat) (a9 : Int) (a10 : Int) (a11 : Int) : RT R94 :=
  .br (decide ((0 : Int) < a11))
 (.br (and (decide ((0 : Int) ≤ (IntKind.wrap .i64 (a11 - (1 : Int))))) (decide ((IntKind.wrap .i64 (a11 - (1 : Int))) < (Int.ofNat a8))))
 (.br (isInt .i64 a6 (a7 + ((Int.toNat (IntKind.wrap .i64 (a11 - (1 : Int)))) * 1)))
 (.br (and (decide ((0 : Int) ≤ a11)) (decide (a11 < (Int.ofNat a8))))
 (.br (isInt .i64 a6 (a7 + ((Int.toNat a11) * 1)))
 (.leaf ⟨(getInt a6 (a7 + ((Int.toNat (IntKind.wrap .i64 (a11 - (1 : Int)))) * 1))), (IntKind.wrap .i64 ((getInt a6 (a7 + ((Int.toNat a11) * 1))) - (1 : Int)))⟩)
 (.no))
 (.no))
 (.no))
 (.no))
 (.br (and (decide ((0 : Int) ≤ a11)) (decide (a11 < (Int.ofNat a8))))
 (.br (isInt .i64 a6 (a7 + ((Int.toNat a11) * 1)))
 (.leaf ⟨(0 : Int), (IntKind.wrap .i64 ((getInt a6 (a7 + ((Int.toNat a11) * 1))) - (1 : Int)))⟩)
 (.no))
 (.no))
noncomputable def en94 (r : R94) : Value := (.agg ⟨[(.int .i64 r.r0), (.int .i64 r.r1)]⟩)
theorem T94  (a0 : Array Value) (a1 : Nat) (a2 : Nat) (a3 : Array Value) (a4 : Nat) (a5 : Nat) (a6 : Array Value) (a7 : Nat) (a8 : Nat) (a9 : Int) (a10 : Int) (a11 : Int) : evC Try.prog (Ans.c (fun _ => none : Ans)) 60 (.call 94 ⟨[(.agg ⟨[(lstV a0 a1 a2 7), (lstV a3 a4 a5 5), (lstV a6 a7 a8 1), (.int .i64 a9), (.int .i64 a10)]⟩), (.int .i64 a11)]⟩ ⟨[], 0, []⟩) (frzK [0]) = (rt94 a0 a1 a2 a3 a4 a5 a6 a7 a8 a9 a10 a11).out (fun r => .ret (en94 r) ⟨[], 0, []⟩) := by kernel_rfl
noncomputable def F94 (a0 : Array Value) (a1 : Nat) (a2 : Nat) (a3 : Array Value) (a4 : Nat) (a5 : Nat) (a6 : Array Value) (a7 : Nat) (a8 : Nat) (a9 : Int) (a10 : Int) (a11 : Int) : Option R94 := (rt94 a0 a1 a2 a3 a4 a5 a6 a7 a8 a9 a10 a11).val
section
variable (a0 : Array Value) (a1 : Nat) (a2 : Nat) (a3 : Array Value) (a4 : Nat) (a5 : Nat) (a6 : Array Value) (a7 : Nat) (a8 : Nat) (a9 : Int) (a10 : Int) (a11 : Int)
noncomputable def F94_ok : Bool := (F94 a0 a1 a2 a3 a4 a5 a6 a7 a8 a9 a10 a11).isSome
noncomputable def F94_0 : Int := match F94 a0 a1 a2 a3 a4 a5 a6 a7 a8 a9 a10 a11 with | some r => r.r0 | none => 0
noncomputable def F94_1 : Int := match F94 a0 a1 a2 a3 a4 a5 a6 a7 a8 a9 a10 a11 with | some r => r.r1 | none => 0
end
noncomputable def dec94 : Task → Option (A94 × Hp)
  | .call g ⟨[(.agg ⟨[(.func (.via 0 ⟨[]⟩ 0 true) a0 ⟨[.slice (some ⟨0, a1, none⟩) a2 7]⟩), (.func (.via 0 ⟨[]⟩ 0 true) a3 ⟨[.slice (some ⟨0, a4, none⟩) a5 5]⟩), (.func (.via 0 ⟨[]⟩ 0 true) a6 ⟨[.slice (some ⟨0, a7, none⟩) a8 1]⟩), (.int .i64 a9), (.int .i64 a10)]⟩), (.int .i64 a11)]⟩ h => (match Nat.beq g 94 with | true => some (⟨a0, a1, a2, a3, a4, a5, a6, a7, a8, a9, a10, a11⟩, h) | false => none)
  | _ => none
noncomputable def alt94 (x : A94) (h : Hp) : AT := .br (F94_ok x.a0 x.a1 x.a2 x.a3 x.a4 x.a5 x.a6 x.a7 x.a8 x.a9 x.a10 x.a11) (.leaf (.ret (.agg ⟨[(.int .i64 (F94_0 x.a0 x.a1 x.a2 x.a3 x.a4 x.a5 x.a6 x.a7 x.a8 x.a9 x.a10 x.a11)), (.int .i64 (F94_1 x.a0 x.a1 x.a2 x.a3 x.a4 x.a5 x.a6 x.a7 x.a8 x.a9 x.a10 x.a11))]⟩) h)) .no
noncomputable def p94 : Ans := fnAns dec94 alt94
theorem ha94 : ∀ (x : A94) (h : Hp) (o : Out), (alt94 x h).out = some o → ∃ r, (rt94 x.a0 x.a1 x.a2 x.a3 x.a4 x.a5 x.a6 x.a7 x.a8 x.a9 x.a10 x.a11).val = some r ∧ o = .ret (en94 r) h := by
  intro x h o e
  unfold alt94 at e
  cases hF : F94 x.a0 x.a1 x.a2 x.a3 x.a4 x.a5 x.a6 x.a7 x.a8 x.a9 x.a10 x.a11 with
  | none => simp [F94_ok, hF, AT.out] at e
  | some r =>
    refine ⟨r, hF, ?_⟩
    simp only [F94_ok, F94_0, F94_1, hF, AT.out, Option.isSome_some, cond_true, Option.some.injEq] at e
    rw [← e]; rfl
theorem hd94 : ∀ (t : Task) (x : A94) (h : Hp), dec94 t = some (x, h) → t = .call 94 ⟨[(.agg ⟨[(lstV x.a0 x.a1 x.a2 7), (lstV x.a3 x.a4 x.a5 5), (lstV x.a6 x.a7 x.a8 1), (.int .i64 x.a9), (.int .i64 x.a10)]⟩), (.int .i64 x.a11)]⟩ h := by
  intro t x h e
  unfold dec94 at e
  split at e
  case h_2 => cases e
  split at e
  case h_2 => cases e
  rename_i hg
  simp only [Option.some.injEq, Prod.mk.injEq] at e
  obtain ⟨rfl, rfl⟩ := e
  rw [Nat.eq_of_beq_eq_true hg]
theorem known94 : Known Try.prog p94 := by
  exact Known.fn noNG mixed (Known.nothing Try.prog) (n := 60) (zs := [0]) 94 (fun x : A94 => [(.agg ⟨[(lstV x.a0 x.a1 x.a2 7), (lstV x.a3 x.a4 x.a5 5), (lstV x.a6 x.a7 x.a8 1), (.int .i64 x.a9), (.int .i64 x.a10)]⟩), (.int .i64 x.a11)]) (fun x => rt94 x.a0 x.a1 x.a2 x.a3 x.a4 x.a5 x.a6 x.a7 x.a8 x.a9 x.a10 x.a11) en94 (fun x => T94  x.a0 x.a1 x.a2 x.a3 x.a4 x.a5 x.a6 x.a7 x.a8 x.a9 x.a10 x.a11) (fun x => rfl) dec94 alt94 hd94 ha94
end
end Go.Proofs.Ytjdidbnmkogflaa

namespace Go.Proofs.Ytjdidbnmkogflaa
open Go.Gi Go.RowKit Go.Proofs.Ytjdidbnmkogflaa.Old
noncomputable section
set_option maxRecDepth 100000
set_option maxHeartbeats 4000000
set_option linter.unusedVariables false
set_option linter.unusedSimpArgs false
structure R80 where
  r0 : Int
  r1 : Int
  r2 : Int
  r3 : Int
  r4 : Int
structure A80 where
  a0 : Array Value
  a1 : Nat
  a2 : Nat
  a3 : Array Value
  a4 : Nat
  a5 : Nat
  a6 : Array Value
  a7 : Nat
  a8 : Nat
  a9 : Int
  a10 : Int
  a11 : Int
  a12 : Int
  a13 : Int
noncomputable def rt80 (a0 : Array Value) (a1 : Nat) (a2 : Nat) (a3 : Array Value) (a4 : Nat) (a5 : Nat) (a6 : Array Value) (a7 : Nat) (a8 : Nat) (a9 : Int) (a10 : Int) (a11 : Int) (a12 : Int) (a13 : Int) : RT R80 :=
  .br (decide (a11 < (0 : Int)))
 (.leaf ⟨(0 : Int), (0 : Int), (0 : Int), (0 : Int), (4 : Int)⟩)
 (.br (decide ((Int.ofNat a8) ≤ a11))
 (.leaf ⟨(0 : Int), (0 : Int), (0 : Int), (0 : Int), (4 : Int)⟩)
 (.br (F94_ok (a0) a1 a2 (a3) a4 a5 (a6) a7 a8 a9 a10 a11)
 (.br (F91_ok (F94_0 (a0) a1 a2 (a3) a4 a5 (a6) a7 a8 a9 a10 a11) (F94_1 (a0) a1 a2 (a3) a4 a5 (a6) a7 a8 a9 a10 a11) a12 a13)
 (.br (not (F91_0 (F94_0 (a0) a1 a2 (a3) a4 a5 (a6) a7 a8 a9 a10 a11) (F94_1 (a0) a1 a2 (a3) a4 a5 (a6) a7 a8 a9 a10 a11) a12 a13))
 (.leaf ⟨(0 : Int), (0 : Int), (0 : Int), (0 : Int), (7 : Int)⟩)
 (.leaf ⟨(F94_0 (a0) a1 a2 (a3) a4 a5 (a6) a7 a8 a9 a10 a11), (F94_1 (a0) a1 a2 (a3) a4 a5 (a6) a7 a8 a9 a10 a11), a12, a13, (0 : Int)⟩))
 (.no))
 (.no)))
noncomputable def en80 (r : R80) : Value := (.tuple ⟨[(.agg ⟨[(.int .i64 r.r0), (.int .i64 r.r1), (.int .i64 r.r2), (.int .i64 r.r3)]⟩), (.int .i64 r.r4)]⟩)
theorem T80  (a0 : Array Value) (a1 : Nat) (a2 : Nat) (a3 : Array Value) (a4 : Nat) (a5 : Nat) (a6 : Array Value) (a7 : Nat) (a8 : Nat) (a9 : Int) (a10 : Int) (a11 : Int) (a12 : Int) (a13 : Int) : evC Try.prog (Ans.c (p91.or p94)) 60 (.call 80 ⟨[(.agg ⟨[(lstV a0 a1 a2 7), (lstV a3 a4 a5 5), (lstV a6 a7 a8 1), (.int .i64 a9), (.int .i64 a10)]⟩), (.int .i64 a11), (.int .i64 a12), (.int .i64 a13)]⟩ ⟨[], 0, []⟩) (frzK [0, 0]) = (rt80 a0 a1 a2 a3 a4 a5 a6 a7 a8 a9 a10 a11 a12 a13).out (fun r => .ret (en80 r) ⟨[], 0, []⟩) := by kernel_rfl
noncomputable def F80 (a0 : Array Value) (a1 : Nat) (a2 : Nat) (a3 : Array Value) (a4 : Nat) (a5 : Nat) (a6 : Array Value) (a7 : Nat) (a8 : Nat) (a9 : Int) (a10 : Int) (a11 : Int) (a12 : Int) (a13 : Int) : Option R80 := (rt80 a0 a1 a2 a3 a4 a5 a6 a7 a8 a9 a10 a11 a12 a13).val
section
variable (a0 : Array Value) (a1 : Nat) (a2 : Nat) (a3 : Array Value) (a4 : Nat) (a5 : Nat) (a6 : Array Value) (a7 : Nat) (a8 : Nat) (a9 : Int) (a10 : Int) (a11 : Int) (a12 : Int) (a13 : Int)
noncomputable def F80_ok : Bool := (F80 a0 a1 a2 a3 a4 a5 a6 a7 a8 a9 a10 a11 a12 a13).isSome
noncomputable def F80_0 : Int := match F80 a0 a1 a2 a3 a4 a5 a6 a7 a8 a9 a10 a11 a12 a13 with | some r => r.r0 | none => 0
noncomputable def F80_1 : Int := match F80 a0 a1 a2 a3 a4 a5 a6 a7 a8 a9 a10 a11 a12 a13 with | some r => r.r1 | none => 0
noncomputable def F80_2 : Int := match F80 a0 a1 a2 a3 a4 a5 a6 a7 a8 a9 a10 a11 a12 a13 with | some r => r.r2 | none => 0
noncomputable def F80_3 : Int := match F80 a0 a1 a2 a3 a4 a5 a6 a7 a8 a9 a10 a11 a12 a13 with | some r => r.r3 | none => 0
noncomputable def F80_4 : Int := match F80 a0 a1 a2 a3 a4 a5 a6 a7 a8 a9 a10 a11 a12 a13 with | some r => r.r4 | none => 0
end
noncomputable def dec80 : Task → Option (A80 × Hp)
  | .call g ⟨[(.agg ⟨[(.func (.via 0 ⟨[]⟩ 0 true) a0 ⟨[.slice (some ⟨0, a1, none⟩) a2 7]⟩), (.func (.via 0 ⟨[]⟩ 0 true) a3 ⟨[.slice (some ⟨0, a4, none⟩) a5 5]⟩), (.func (.via 0 ⟨[]⟩ 0 true) a6 ⟨[.slice (some ⟨0, a7, none⟩) a8 1]⟩), (.int .i64 a9), (.int .i64 a10)]⟩), (.int .i64 a11), (.int .i64 a12), (.int .i64 a13)]⟩ h => (match Nat.beq g 80 with | true => some (⟨a0, a1, a2, a3, a4, a5, a6, a7, a8, a9, a10, a11, a12, a13⟩, h) | false => none)
  | _ => none
noncomputable def alt80 (x : A80) (h : Hp) : AT := .br (F80_ok x.a0 x.a1 x.a2 x.a3 x.a4 x.a5 x.a6 x.a7 x.a8 x.a9 x.a10 x.a11 x.a12 x.a13) (.leaf (.ret (.tuple ⟨[(.agg ⟨[(.int .i64 (F80_0 x.a0 x.a1 x.a2 x.a3 x.a4 x.a5 x.a6 x.a7 x.a8 x.a9 x.a10 x.a11 x.a12 x.a13)), (.int .i64 (F80_1 x.a0 x.a1 x.a2 x.a3 x.a4 x.a5 x.a6 x.a7 x.a8 x.a9 x.a10 x.a11 x.a12 x.a13)), (.int .i64 (F80_2 x.a0 x.a1 x.a2 x.a3 x.a4 x.a5 x.a6 x.a7 x.a8 x.a9 x.a10 x.a11 x.a12 x.a13)), (.int .i64 (F80_3 x.a0 x.a1 x.a2 x.a3 x.a4 x.a5 x.a6 x.a7 x.a8 x.a9 x.a10 x.a11 x.a12 x.a13))]⟩), (.int .i64 (F80_4 x.a0 x.a1 x.a2 x.a3 x.a4 x.a5 x.a6 x.a7 x.a8 x.a9 x.a10 x.a11 x.a12 x.a13))]⟩) h)) .no
noncomputable def p80 : Ans := fnAns dec80 alt80
theorem ha80 : ∀ (x : A80) (h : Hp) (o : Out), (alt80 x h).out = some o → ∃ r, (rt80 x.a0 x.a1 x.a2 x.a3 x.a4 x.a5 x.a6 x.a7 x.a8 x.a9 x.a10 x.a11 x.a12 x.a13).val = some r ∧ o = .ret (en80 r) h := by
  intro x h o e
  unfold alt80 at e
  cases hF : F80 x.a0 x.a1 x.a2 x.a3 x.a4 x.a5 x.a6 x.a7 x.a8 x.a9 x.a10 x.a11 x.a12 x.a13 with
  | none => simp [F80_ok, hF, AT.out] at e
  | some r =>
    refine ⟨r, hF, ?_⟩
    simp only [F80_ok, F80_0, F80_1, F80_2, F80_3, F80_4, hF, AT.out, Option.isSome_some, cond_true, Option.some.injEq] at e
    rw [← e]; rfl
theorem hd80 : ∀ (t : Task) (x : A80) (h : Hp), dec80 t = some (x, h) → t = .call 80 ⟨[(.agg ⟨[(lstV x.a0 x.a1 x.a2 7), (lstV x.a3 x.a4 x.a5 5), (lstV x.a6 x.a7 x.a8 1), (.int .i64 x.a9), (.int .i64 x.a10)]⟩), (.int .i64 x.a11), (.int .i64 x.a12), (.int .i64 x.a13)]⟩ h := by
  intro t x h e
  unfold dec80 at e
  split at e
  case h_2 => cases e
  split at e
  case h_2 => cases e
  rename_i hg
  simp only [Option.some.injEq, Prod.mk.injEq] at e
  obtain ⟨rfl, rfl⟩ := e
  rw [Nat.eq_of_beq_eq_true hg]
theorem known80 : Known Try.prog p80 := by
  exact Known.fn noNG mixed (Known.or known91 known94) (n := 60) (zs := [0, 0]) 80 (fun x : A80 => [(.agg ⟨[(lstV x.a0 x.a1 x.a2 7), (lstV x.a3 x.a4 x.a5 5), (lstV x.a6 x.a7 x.a8 1), (.int .i64 x.a9), (.int .i64 x.a10)]⟩), (.int .i64 x.a11), (.int .i64 x.a12), (.int .i64 x.a13)]) (fun x => rt80 x.a0 x.a1 x.a2 x.a3 x.a4 x.a5 x.a6 x.a7 x.a8 x.a9 x.a10 x.a11 x.a12 x.a13) en80 (fun x => T80  x.a0 x.a1 x.a2 x.a3 x.a4 x.a5 x.a6 x.a7 x.a8 x.a9 x.a10 x.a11 x.a12 x.a13) (fun x => rfl) dec80 alt80 hd80 ha80
end
end Go.Proofs.Ytjdidbnmkogflaa

namespace Go.Proofs.Ytjdidbnmkogflaa
open Go.Gi Go.RowKit
noncomputable section
set_option maxRecDepth 100000
set_option linter.unusedVariables false
set_option linter.unusedSimpArgs false
structure R84 where
  r0 : Int
  r1 : Int
structure A84 where
  a0 : Array Value
  a1 : Nat
  a2 : Nat
  a3 : Array Value
  a4 : Nat
  a5 : Nat
  a6 : Array Value
  a7 : Nat
  a8 : Nat
  a9 : Int
  a10 : Int
  a11 : Int
noncomputable def rt84 (a0 : Array Value) (a1 : Nat) (a2 : Nat) (a3 : Array Value) (a4 : Nat) (a5 : Nat) (a6 : Array Value) (a7 : Nat) (a8 : Nat) (a9 : Int) (a10 : Int) (a11 : Int) : RT R84 :=
  .br (decide ((0 : Int) < a11))
 (.br (and (decide ((0 : Int) ≤ (IntKind.wrap .i64 (a11 - (1 : Int))))) (decide ((IntKind.wrap .i64 (a11 - (1 : Int))) < (Int.ofNat a8))))
 (.br (isInt .i64 a6 (a7 + ((Int.toNat (IntKind.wrap .i64 (a11 - (1 : Int)))) * 1)))
 (.br (and (decide ((0 : Int) ≤ a11)) (decide (a11 < (Int.ofNat a8))))
 (.br (isInt .i64 a6 (a7 + ((Int.toNat a11) * 1)))
 (.leaf ⟨(getInt a6 (a7 + ((Int.toNat (IntKind.wrap .i64 (a11 - (1 : Int)))) * 1))), (IntKind.wrap .i64 ((getInt a6 (a7 + ((Int.toNat a11) * 1))) - (1 : Int)))⟩)
 (.no))
 (.no))
 (.no))
 (.no))
 (.br (and (decide ((0 : Int) ≤ a11)) (decide (a11 < (Int.ofNat a8))))
 (.br (isInt .i64 a6 (a7 + ((Int.toNat a11) * 1)))
 (.leaf ⟨(0 : Int), (IntKind.wrap .i64 ((getInt a6 (a7 + ((Int.toNat a11) * 1))) - (1 : Int)))⟩)
 (.no))
 (.no))
noncomputable def en84 (r : R84) : Value := (.tuple ⟨[(.int .i64 r.r0), (.int .i64 r.r1)]⟩)
theorem T84  (a0 : Array Value) (a1 : Nat) (a2 : Nat) (a3 : Array Value) (a4 : Nat) (a5 : Nat) (a6 : Array Value) (a7 : Nat) (a8 : Nat) (a9 : Int) (a10 : Int) (a11 : Int) : evC Try.prog (Ans.c (fun _ => none : Ans)) 60 (.call 84 ⟨[(.agg ⟨[(lstV a0 a1 a2 7), (lstV a3 a4 a5 5), (lstV a6 a7 a8 1), (.int .i64 a9), (.int .i64 a10)]⟩), (.int .i64 a11)]⟩ ⟨[], 0, []⟩) (frzK [0, 0]) = (rt84 a0 a1 a2 a3 a4 a5 a6 a7 a8 a9 a10 a11).out (fun r => .ret (en84 r) ⟨[], 0, []⟩) := by kernel_rfl
noncomputable def F84 (a0 : Array Value) (a1 : Nat) (a2 : Nat) (a3 : Array Value) (a4 : Nat) (a5 : Nat) (a6 : Array Value) (a7 : Nat) (a8 : Nat) (a9 : Int) (a10 : Int) (a11 : Int) : Option R84 := (rt84 a0 a1 a2 a3 a4 a5 a6 a7 a8 a9 a10 a11).val
section
variable (a0 : Array Value) (a1 : Nat) (a2 : Nat) (a3 : Array Value) (a4 : Nat) (a5 : Nat) (a6 : Array Value) (a7 : Nat) (a8 : Nat) (a9 : Int) (a10 : Int) (a11 : Int)
noncomputable def F84_ok : Bool := (F84 a0 a1 a2 a3 a4 a5 a6 a7 a8 a9 a10 a11).isSome
noncomputable def F84_0 : Int := match F84 a0 a1 a2 a3 a4 a5 a6 a7 a8 a9 a10 a11 with | some r => r.r0 | none => 0
noncomputable def F84_1 : Int := match F84 a0 a1 a2 a3 a4 a5 a6 a7 a8 a9 a10 a11 with | some r => r.r1 | none => 0
end
noncomputable def dec84 : Task → Option (A84 × Hp)
  | .call g ⟨[(.agg ⟨[(.func (.via 0 ⟨[]⟩ 0 true) a0 ⟨[.slice (some ⟨0, a1, none⟩) a2 7]⟩), (.func (.via 0 ⟨[]⟩ 0 true) a3 ⟨[.slice (some ⟨0, a4, none⟩) a5 5]⟩), (.func (.via 0 ⟨[]⟩ 0 true) a6 ⟨[.slice (some ⟨0, a7, none⟩) a8 1]⟩), (.int .i64 a9), (.int .i64 a10)]⟩), (.int .i64 a11)]⟩ h => (match Nat.beq g 84 with | true => some (⟨a0, a1, a2, a3, a4, a5, a6, a7, a8, a9, a10, a11⟩, h) | false => none)
  | _ => none
noncomputable def alt84 (x : A84) (h : Hp) : AT := .br (F84_ok x.a0 x.a1 x.a2 x.a3 x.a4 x.a5 x.a6 x.a7 x.a8 x.a9 x.a10 x.a11) (.leaf (.ret (.tuple ⟨[(.int .i64 (F84_0 x.a0 x.a1 x.a2 x.a3 x.a4 x.a5 x.a6 x.a7 x.a8 x.a9 x.a10 x.a11)), (.int .i64 (F84_1 x.a0 x.a1 x.a2 x.a3 x.a4 x.a5 x.a6 x.a7 x.a8 x.a9 x.a10 x.a11))]⟩) h)) .no
noncomputable def p84 : Ans := fnAns dec84 alt84
theorem ha84 : ∀ (x : A84) (h : Hp) (o : Out), (alt84 x h).out = some o → ∃ r, (rt84 x.a0 x.a1 x.a2 x.a3 x.a4 x.a5 x.a6 x.a7 x.a8 x.a9 x.a10 x.a11).val = some r ∧ o = .ret (en84 r) h := by
  intro x h o e
  unfold alt84 at e
  cases hF : F84 x.a0 x.a1 x.a2 x.a3 x.a4 x.a5 x.a6 x.a7 x.a8 x.a9 x.a10 x.a11 with
  | none => simp [F84_ok, hF, AT.out] at e
  | some r =>
    refine ⟨r, hF, ?_⟩
    simp only [F84_ok, F84_0, F84_1, hF, AT.out, Option.isSome_some, cond_true, Option.some.injEq] at e
    rw [← e]; rfl
theorem hd84 : ∀ (t : Task) (x : A84) (h : Hp), dec84 t = some (x, h) → t = .call 84 ⟨[(.agg ⟨[(lstV x.a0 x.a1 x.a2 7), (lstV x.a3 x.a4 x.a5 5), (lstV x.a6 x.a7 x.a8 1), (.int .i64 x.a9), (.int .i64 x.a10)]⟩), (.int .i64 x.a11)]⟩ h := by
  intro t x h e
  unfold dec84 at e
  split at e
  case h_2 => cases e
  split at e
  case h_2 => cases e
  rename_i hg
  simp only [Option.some.injEq, Prod.mk.injEq] at e
  obtain ⟨rfl, rfl⟩ := e
  rw [Nat.eq_of_beq_eq_true hg]
theorem known84 : Known Try.prog p84 := by
  exact Known.fn noNG mixed (Known.nothing Try.prog) (n := 60) (zs := [0, 0]) 84 (fun x : A84 => [(.agg ⟨[(lstV x.a0 x.a1 x.a2 7), (lstV x.a3 x.a4 x.a5 5), (lstV x.a6 x.a7 x.a8 1), (.int .i64 x.a9), (.int .i64 x.a10)]⟩), (.int .i64 x.a11)]) (fun x => rt84 x.a0 x.a1 x.a2 x.a3 x.a4 x.a5 x.a6 x.a7 x.a8 x.a9 x.a10 x.a11) en84 (fun x => T84  x.a0 x.a1 x.a2 x.a3 x.a4 x.a5 x.a6 x.a7 x.a8 x.a9 x.a10 x.a11) (fun x => rfl) dec84 alt84 hd84 ha84
end
end Go.Proofs.Ytjdidbnmkogflaa

namespace Go.Proofs.Ytjdidbnmkogflaa
open Go.Gi Go.RowKit
noncomputable section
set_option maxRecDepth 100000
set_option linter.unusedVariables false
set_option linter.unusedSimpArgs false
structure R63 where
  r0 : Bool
structure A63 where
  a0 : Int
  a1 : Int
  a2 : Int
noncomputable def rt63 (a0 : Int) (a1 : Int) (a2 : Int) : RT R63 :=
  .br (decide (a1 ≤ a0))
 (.leaf ⟨(decide (a0 ≤ a2))⟩)
 (.leaf ⟨false⟩)
noncomputable def en63 (r : R63) : Value := (.bool r.r0)
theorem T63  (a0 : Int) (a1 : Int) (a2 : Int) : evC Try.prog (Ans.c (fun _ => none : Ans)) 60 (.call 63 ⟨[(.int .i64 a0), (.int .i64 a1), (.int .i64 a2)]⟩ ⟨[], 0, []⟩) (frzK [0]) = (rt63 a0 a1 a2).out (fun r => .ret (en63 r) ⟨[], 0, []⟩) := by kernel_rfl
noncomputable def F63 (a0 : Int) (a1 : Int) (a2 : Int) : Option R63 := (rt63 a0 a1 a2).val
section
variable (a0 : Int) (a1 : Int) (a2 : Int)
noncomputable def F63_ok : Bool := (F63 a0 a1 a2).isSome
noncomputable def F63_0 : Bool := match F63 a0 a1 a2 with | some r => r.r0 | none => false
end
noncomputable def dec63 : Task → Option (A63 × Hp)
  | .call g ⟨[(.int .i64 a0), (.int .i64 a1), (.int .i64 a2)]⟩ h => (match Nat.beq g 63 with | true => some (⟨a0, a1, a2⟩, h) | false => none)
  | _ => none
noncomputable def alt63 (x : A63) (h : Hp) : AT := .br (F63_ok x.a0 x.a1 x.a2) (.leaf (.ret (.bool (F63_0 x.a0 x.a1 x.a2)) h)) .no
noncomputable def p63 : Ans := fnAns dec63 alt63
theorem ha63 : ∀ (x : A63) (h : Hp) (o : Out), (alt63 x h).out = some o → ∃ r, (rt63 x.a0 x.a1 x.a2).val = some r ∧ o = .ret (en63 r) h := by
  intro x h o e
  unfold alt63 at e
  cases hF : F63 x.a0 x.a1 x.a2 with
  | none => simp [F63_ok, hF, AT.out] at e
  | some r =>
    refine ⟨r, hF, ?_⟩
    simp only [F63_ok, F63_0, hF, AT.out, Option.isSome_some, cond_true, Option.some.injEq] at e
    rw [← e]; rfl
theorem hd63 : ∀ (t : Task) (x : A63) (h : Hp), dec63 t = some (x, h) → t = .call 63 ⟨[(.int .i64 x.a0), (.int .i64 x.a1), (.int .i64 x.a2)]⟩ h := by
  intro t x h e
  unfold dec63 at e
  split at e
  case h_2 => cases e
  split at e
  case h_2 => cases e
  rename_i hg
  simp only [Option.some.injEq, Prod.mk.injEq] at e
  obtain ⟨rfl, rfl⟩ := e
  rw [Nat.eq_of_beq_eq_true hg]
theorem known63 : Known Try.prog p63 := by
  exact Known.fn noNG mixed (Known.nothing Try.prog) (n := 60) (zs := [0]) 63 (fun x : A63 => [(.int .i64 x.a0), (.int .i64 x.a1), (.int .i64 x.a2)]) (fun x => rt63 x.a0 x.a1 x.a2) en63 (fun x => T63  x.a0 x.a1 x.a2) (fun x => rfl) dec63 alt63 hd63 ha63
end
end Go.Proofs.Ytjdidbnmkogflaa

namespace Go.Proofs.Ytjdidbnmkogflaa
open Go.Gi Go.RowKit
noncomputable section
set_option maxRecDepth 100000
set_option linter.unusedVariables false
set_option linter.unusedSimpArgs false
structure R76 where
  r0 : Bool
structure A76 where
  a0 : Int
noncomputable def rt76 (a0 : Int) : RT R76 :=
  .br (F63_ok a0 (0 : Int) (100000 : Int))
 (.leaf ⟨(F63_0 a0 (0 : Int) (100000 : Int))⟩)
 (.no)
noncomputable def en76 (r : R76) : Value := (.bool r.r0)
theorem T76  (a0 : Int) : evC Try.prog (Ans.c p63) 60 (.call 76 ⟨[(.int .i64 a0)]⟩ ⟨[], 0, []⟩) (frzK [0]) = (rt76 a0).out (fun r => .ret (en76 r) ⟨[], 0, []⟩) := by kernel_rfl
noncomputable def F76 (a0 : Int) : Option R76 := (rt76 a0).val
section
variable (a0 : Int)
noncomputable def F76_ok : Bool := (F76 a0).isSome
noncomputable def F76_0 : Bool := match F76 a0 with | some r => r.r0 | none => false
end
noncomputable def dec76 : Task → Option (A76 × Hp)
  | .call g ⟨[(.int .i64 a0)]⟩ h => (match Nat.beq g 76 with | true => some (⟨a0⟩, h) | false => none)
  | _ => none
noncomputable def alt76 (x : A76) (h : Hp) : AT := .br (F76_ok x.a0) (.leaf (.ret (.bool (F76_0 x.a0)) h)) .no
noncomputable def p76 : Ans := fnAns dec76 alt76
theorem ha76 : ∀ (x : A76) (h : Hp) (o : Out), (alt76 x h).out = some o → ∃ r, (rt76 x.a0).val = some r ∧ o = .ret (en76 r) h := by
  intro x h o e
  unfold alt76 at e
  cases hF : F76 x.a0 with
  | none => simp [F76_ok, hF, AT.out] at e
  | some r =>
    refine ⟨r, hF, ?_⟩
    simp only [F76_ok, F76_0, hF, AT.out, Option.isSome_some, cond_true, Option.some.injEq] at e
    rw [← e]; rfl
theorem hd76 : ∀ (t : Task) (x : A76) (h : Hp), dec76 t = some (x, h) → t = .call 76 ⟨[(.int .i64 x.a0)]⟩ h := by
  intro t x h e
  unfold dec76 at e
  split at e
  case h_2 => cases e
  split at e
  case h_2 => cases e
  rename_i hg
  simp only [Option.some.injEq, Prod.mk.injEq] at e
  obtain ⟨rfl, rfl⟩ := e
  rw [Nat.eq_of_beq_eq_true hg]
theorem known76 : Known Try.prog p76 := by
  exact Known.fn noNG mixed known63 (n := 60) (zs := [0]) 76 (fun x : A76 => [(.int .i64 x.a0)]) (fun x => rt76 x.a0) en76 (fun x => T76  x.a0) (fun x => rfl) dec76 alt76 hd76 ha76
end
end Go.Proofs.Ytjdidbnmkogflaa

namespace Go.Proofs.Ytjdidbnmkogflaa
open Go.Gi Go.RowKit Go.Proofs.Ytjdidbnmkogflaa.Old
noncomputable section
set_option maxRecDepth 100000
theorem F63_eq (a b c : Int) : F63 a b c = some ⟨decide (b ≤ a) && decide (a ≤ c)⟩ := by
  unfold F63 rt63
  by_cases h : b ≤ a <;> simp [RT.val, h]
theorem F63_ok_eq (a b c : Int) : F63_ok a b c = true := by simp [F63_ok, F63_eq]
theorem F63_0_eq (a b c : Int) : F63_0 a b c = (decide (b ≤ a) && decide (a ≤ c)) := by simp [F63_0, F63_eq]
theorem F76_eq (a : Int) : F76 a = some ⟨decide (0 ≤ a) && decide (a ≤ 100000)⟩ := by
  unfold F76 rt76
  simp [RT.val, F63_ok_eq, F63_0_eq]
theorem F76_ok_eq (a : Int) : F76_ok a = true := by simp [F76_ok, F76_eq]
theorem F76_0_eq (a : Int) : F76_0 a = (decide (0 ≤ a) && decide (a ≤ 100000)) := by simp [F76_0, F76_eq]
theorem F74_eq (a : Int) : F74 a = some ⟨decide (0 ≤ a) && decide (a ≤ 100000)⟩ := by
  unfold F74 rt74
  by_cases h : 0 ≤ a <;> simp [RT.val, h]
theorem F74_ok_eq (a : Int) : F74_ok a = true := by simp [F74_ok, F74_eq]
theorem F74_0_eq (a : Int) : F74_0 a = (decide (0 ≤ a) && decide (a ≤ 100000)) := by simp [F74_0, F74_eq]
theorem F91_eq (a b c d : Int) : F91 a b c d = some ⟨(decide (0 ≤ c) && decide (c ≤ 100000)) && (decide (0 ≤ d) && decide (d ≤ 100000))⟩ := by
  unfold F91 rt91
  by_cases h : (decide (0 ≤ c) && decide (c ≤ 100000)) = true <;> simp [RT.val, F74_ok_eq, F74_0_eq, h]
theorem F91_ok_eq (a b c d : Int) : F91_ok a b c d = true := by simp [F91_ok, F91_eq]
theorem F91_0_eq (a b c d : Int) : F91_0 a b c d = ((decide (0 ≤ c) && decide (c ≤ 100000)) && (decide (0 ≤ d) && decide (d ≤ 100000))) := by simp [F91_0, F91_eq]
theorem rdOk_int1 {c : Array Value} {i : Nat} (h : rdOk c L1 i = true) : isInt .i64 c i = true := by
  simpa [rdOk, rdLeaf] using h
def wLo (c : Array Value) (k : Int) : Int := if 0 < k then getInt c (k - 1).toNat else 0
def wHi (c : Array Value) (k : Int) : Int := IntKind.wrap .i64 (getInt c k.toNat - 1)
theorem GL.int {c : Array Value} {n i : Nat} (g : GL L1 1 c n) (h : i < n) : isInt .i64 c i = true := by
  have := g.good.2 i h
  simp only [Nat.zero_add, show L1.length = 1 from rfl, Nat.mul_one] at this
  exact rdOk_int1 this
theorem F94_eq {c1 c2 c3 : Array Value} {n1 n2 n3 : Nat} {age shear k : Int} (g : GL L1 1 c3 n3) (h0 : 0 ≤ k) (h1 : k < (n3 : Int)) : F94 c1 0 n1 c2 0 n2 c3 0 n3 age shear k = some ⟨wLo c3 k, wHi c3 k⟩ := by
  have hm : maxLen = 9223372036854775807 := rfl
  have hf := g.few
  have hk : isInt .i64 c3 k.toNat = true := g.int (by omega)
  unfold F94 rt94 wLo wHi
  by_cases h : 0 < k
  · have hw : IntKind.wrap .i64 (k - 1) = k - 1 := wrap64_id (by omega) (by omega)
    have h2 : (1 : Int) ≤ k := by omega
    have h3 : k - 1 < (n3 : Int) := by omega
    have hk1 : isInt .i64 c3 (k.toNat - 1) = true := g.int (by omega)
    simp [RT.val, h, hw, h2, h3, hk, hk1, h0, h1]
  · simp [RT.val, h, h0, h1, hk]
theorem F84_eq {c1 c2 c3 : Array Value} {n1 n2 n3 : Nat} {age shear k : Int} (g : GL L1 1 c3 n3) (h0 : 0 ≤ k) (h1 : k < (n3 : Int)) : F84 c1 0 n1 c2 0 n2 c3 0 n3 age shear k = some ⟨wLo c3 k, wHi c3 k⟩ := by
  have hm : maxLen = 9223372036854775807 := rfl
  have hf := g.few
  have hk : isInt .i64 c3 k.toNat = true := g.int (by omega)
  unfold F84 rt84 wLo wHi
  by_cases h : 0 < k
  · have hw : IntKind.wrap .i64 (k - 1) = k - 1 := wrap64_id (by omega) (by omega)
    have h2 : (1 : Int) ≤ k := by omega
    have h3 : k - 1 < (n3 : Int) := by omega
    have hk1 : isInt .i64 c3 (k.toNat - 1) = true := g.int (by omega)
    simp [RT.val, h, hw, h2, h3, hk, hk1, h0, h1]
  · simp [RT.val, h, h0, h1, hk]
theorem F94_of {c1 c2 c3 : Array Value} {n1 n2 n3 : Nat} {age shear k : Int} (g : GL L1 1 c3 n3) (h0 : 0 ≤ k) (h1 : k < (n3 : Int)) :
    F94_ok c1 0 n1 c2 0 n2 c3 0 n3 age shear k = true ∧ F94_0 c1 0 n1 c2 0 n2 c3 0 n3 age shear k = wLo c3 k ∧ F94_1 c1 0 n1 c2 0 n2 c3 0 n3 age shear k = wHi c3 k := by
  have h := F94_eq (c1 := c1) (c2 := c2) (n1 := n1) (n2 := n2) (age := age) (shear := shear) g h0 h1
  exact ⟨by simp [F94_ok, h], by simp [F94_0, h], by simp [F94_1, h]⟩
theorem F84_of {c1 c2 c3 : Array Value} {n1 n2 n3 : Nat} {age shear k : Int} (g : GL L1 1 c3 n3) (h0 : 0 ≤ k) (h1 : k < (n3 : Int)) :
    F84_ok c1 0 n1 c2 0 n2 c3 0 n3 age shear k = true ∧ F84_0 c1 0 n1 c2 0 n2 c3 0 n3 age shear k = wLo c3 k ∧ F84_1 c1 0 n1 c2 0 n2 c3 0 n3 age shear k = wHi c3 k := by
  have h := F84_eq (c1 := c1) (c2 := c2) (n1 := n1) (n2 := n2) (age := age) (shear := shear) g h0 h1
  exact ⟨by simp [F84_ok, h], by simp [F84_0, h], by simp [F84_1, h]⟩
def qErr (n3 : Nat) (k x y : Int) : Int :=
  if k < 0 ∨ (n3 : Int) ≤ k then 4 else if ((decide (0 ≤ x) && decide (x ≤ 100000)) && (decide (0 ≤ y) && decide (y ≤ 100000))) = true then 0 else 7
theorem F80_eq {c1 c2 c3 : Array Value} {n1 n2 n3 : Nat} {age shear k x y : Int} (g : GL L1 1 c3 n3) : F80 c1 0 n1 c2 0 n2 c3 0 n3 age shear k x y =
    some (if qErr n3 k x y = 0 then ⟨wLo c3 k, wHi c3 k, x, y, 0⟩ else ⟨0, 0, 0, 0, qErr n3 k x y⟩) := by
  unfold F80 rt80 qErr
  by_cases h0 : k < 0
  · simp [RT.val, h0]
  · by_cases h1 : (n3 : Int) ≤ k
    · simp [RT.val, h0, h1]
    · obtain ⟨k1, k2, k3⟩ := F94_of (c1 := c1) (c2 := c2) (n1 := n1) (n2 := n2) (age := age) (shear := shear) (k := k) g (by omega) (by omega)
      by_cases h2 : ((decide (0 ≤ x) && decide (x ≤ 100000)) && (decide (0 ≤ y) && decide (y ≤ 100000))) = true
      · simp only [RT.val, h0, h1, k1, k2, k3, F91_ok_eq, F91_0_eq, h2, decide_false, cond_false, cond_true, or_self, if_false, if_true, Bool.not_true, Int.ofNat_eq_natCast]
      · rw [Bool.not_eq_true] at h2
        simp [RT.val, h0, h1, k1, k2, k3, F91_ok_eq, F91_0_eq, h2]
end
end Go.Proofs.Ytjdidbnmkogflaa

namespace Go.Proofs.Ytjdidbnmkogflaa
open Go.Gi Go.RowKit Go.Proofs.Ytjdidbnmkogflaa.Old
noncomputable section
set_option maxRecDepth 100000
set_option linter.unusedVariables false
section
variable {c0 c c3 : Array Value} {n n2 n3 : Nat} {age shear lo hi tick now : Int}
theorem arrF0 {o1 o2 : Ob} (h : 0 < n) : arrOf (some ⟨0, 0, none⟩) [obF n c0, o1, o2] = c0 := by
  have e1 : obF n c0 = .cells c0 true := by unfold obF; rw [if_neg (by omega)]
  rw [e1]; rfl
theorem arrF1 {o0 o2 : Ob} (h : 0 < n2) : arrOf (some ⟨1, 0, none⟩) [o0, obF n2 c, o2] = c := by
  have e1 : obF n2 c = .cells c true := by unfold obF; rw [if_neg (by omega)]
  rw [e1]; rfl
theorem arrF2 {o0 o1 : Ob} (h : 0 < n3) : arrOf (some ⟨2, 0, none⟩) [o0, o1, obF n3 c3] = c3 := by
  have e1 : obF n3 c3 = .cells c3 true := by unfold obF; rw [if_neg (by omega)]
  rw [e1]; rfl
theorem vld (g1 : GL L7 7 c0 n) (g2 : GL L5 5 c n2) (g3 : GL L1 1 c3 n3) (h : F20_2 c0 0 n c 0 n2 c3 0 n3 age shear = 0) :
    Vld c0 0 n c 0 n2 age shear ∧ (1 ≤ n3 ∧ n3 ≤ 20) ∧ ∀ k, k < n3 → 1 ≤ getInt c3 k ∧ getInt c3 k ≤ 100000000 := by
  have hz := ck_zero (show ck3 (some ⟨0, 0, none⟩) (some ⟨1, 0, none⟩) (some ⟨2, 0, none⟩) n n2 n3 age shear [obF n c0, obF n2 c, obF n3 c3] = 0 from h)
  have hcut : ∀ k, k < n3 → 1 ≤ getInt c3 k ∧ getInt c3 k ≤ 100000000 := fun k hk => by
    have := hz.cut k hk
    rw [arrF2 (by omega)] at this
    have := cut_of this
    rw [show offOf (some (Addr.mk 2 0 none)) + k = k from Nat.zero_add k] at this
    exact this
  have hsrc : ∀ k, k < n → srcE c0 0 k = 0 := fun k hk => by
    have := hz.src k hk
    rw [arrF0 (by omega)] at this
    exact this
  have hsnd : ∀ k, k < n2 → ∃ a0, sdE a0 0 n c 0 k = 0 ∧ (0 < n → a0 = c0) := fun k hk => by
    have := hz.snd k hk
    rw [arrF1 (by omega)] at this
    exact ⟨_, this, fun hn => arrF0 hn⟩
  have hsnd' : ∀ k, k < n2 → sdE c0 0 n c 0 k = 0 := fun k hk => by
    obtain ⟨a0, h1, h2⟩ := hsnd k hk
    have h3 := snd_of h1
    rw [← h2 (by omega)]
    exact h1
  have hsn : ∀ k, k < n2 → (getInt c (0 + k * 5)).toNat < n := fun k hk => by
    have := snd_of (hsnd' k hk)
    omega
  refine ⟨⟨g1.good, g2.good, hz.few, hz.few2, hz.age, hz.shear, fun k hk => ?_, fun k hk => ?_, fun k hk => ?_, fun k hk => ?_, fun k hk => ?_, fun i hi => ?_, fun i hi => ?_, fun i hi => ?_⟩, ⟨hz.some3, hz.few3⟩, hcut⟩
  · exact ⟨(snd_of (hsnd' k hk)).1, (snd_of (hsnd' k hk)).2.1⟩
  · have := snd_of (hsnd' k hk); exact ⟨this.2.2.1, this.2.2.2.1⟩
  · have h1 := snd_of (hsnd' k hk)
    have h2 := src_of (hsrc _ (hsn k hk))
    exact ⟨Int.le_trans h2.2.2.2.2.2.2.1 h1.2.2.2.2.1, Int.le_trans h1.2.2.2.2.2.1 h2.2.2.2.2.2.2.2.2.2⟩
  · have := snd_of (hsnd' k hk); exact ⟨this.2.2.2.2.2.2.1, this.2.2.2.2.2.2.2.1⟩
  · have := snd_of (hsnd' k hk); exact ⟨this.2.2.2.2.2.2.2.2.1, this.2.2.2.2.2.2.2.2.2⟩
  · have := src_of (hsrc i hi); exact ⟨this.1, this.2.1⟩
  · have := src_of (hsrc i hi); exact ⟨this.2.2.1, this.2.2.2.1⟩
  · have := src_of (hsrc i hi); exact ⟨this.2.2.2.2.1, this.2.2.2.2.2.1⟩
theorem qst {k x y : Int} (hcut : ∀ k, k < n3 → 1 ≤ getInt c3 k ∧ getInt c3 k ≤ 100000000) (h : qErr n3 k x y = 0) : Qst (wLo c3 k) (wHi c3 k) x y := by
  unfold qErr at h
  split at h
  · omega
  rename_i h1
  split at h
  · rename_i h2
    simp only [Bool.and_eq_true, decide_eq_true_eq] at h2
    have hk := hcut k.toNat (by omega)
    refine ⟨?_, ?_, by omega, by omega⟩
    · unfold wLo
      split
      · have := hcut (k - 1).toNat (by omega); omega
      · omega
    · unfold wHi
      rw [wrap64_id (by omega) (by omega)]; omega
  · omega
end
end
end Go.Proofs.Ytjdidbnmkogflaa

namespace Go.Proofs.Ytjdidbnmkogflaa
open Go.Gi Go.RowKit Go.Proofs.Ytjdidbnmkogflaa.Old
noncomputable section
set_option maxRecDepth 100000
set_option linter.unusedVariables false
set_option linter.unusedSimpArgs false
theorem F83_two (a b x y : Int) : F83 ⟨[.int .i64 a, .int .i64 b, .int .i64 x, .int .i64 y]⟩ 0 2 = some ⟨decide (b < a) || decide (y < x)⟩ := by
  have w0 : IntKind.wrap .i64 1 = 1 := by decide
  have w1 : IntKind.wrap .i64 2 = 2 := by decide
  have hL : L83_0 ⟨[.int .i64 a, .int .i64 b, .int .i64 x, .int .i64 y]⟩ 0 2 2 0 = some (if (decide (b < a) || decide (y < x)) = true then .k0 true else .k1) := by
    unfold L83_0
    by_cases h : b < a
    · rw [if_pos (by simp [h])]
      refine loopR_done ?_
      simp [rd83_0, RT.val, rdOk, rdLeaf, isInt, getInt, lget, h]
    · refine (loopR_next (y := ⟨⟨[.int .i64 a, .int .i64 b, .int .i64 x, .int .i64 y]⟩, 0, 2, 2, 1⟩) ?_).trans ?_
      · simp [rd83_0, RT.val, rdOk, rdLeaf, isInt, getInt, lget, h, w0]
      · by_cases h2 : y < x
        · rw [if_pos (by simp [h2])]
          refine loopR_done ?_
          simp [rd83_0, RT.val, rdOk, rdLeaf, isInt, getInt, lget, h2]
        · rw [if_neg (by simp [h, h2])]
          refine (loopR_next (y := ⟨⟨[.int .i64 a, .int .i64 b, .int .i64 x, .int .i64 y]⟩, 0, 2, 2, 2⟩) ?_).trans ?_
          · simp [rd83_0, RT.val, rdOk, rdLeaf, isInt, getInt, lget, h2, w1]
          · refine loopR_done ?_
            simp [rd83_0, RT.val]
  unfold F83 rt83
  have e : L83_0 ⟨[.int .i64 a, .int .i64 b, .int .i64 x, .int .i64 y]⟩ 0 2 (Int.ofNat 2) 0 = _ := hL
  by_cases h : (decide (b < a) || decide (y < x)) = true
  · rw [if_pos h] at e
    simp only [RT.val, eqCode_self, L83_0_k0, L83_0_k0_0, L83_0_k1, e, cond_true, h]
  · rw [if_neg h] at e
    rw [Bool.not_eq_true] at h
    simp only [RT.val, eqCode_self, L83_0_k0, L83_0_k0_0, L83_0_k1, e, cond_true, cond_false, h]
end
end Go.Proofs.Ytjdidbnmkogflaa

namespace Go.Proofs.Ytjdidbnmkogflaa
open Go.Gi Go.RowKit Go.Proofs.Ytjdidbnmkogflaa.Old
noncomputable section
def arrI (L : List Int) : Array Value := ⟨L.map (Value.int .i64)⟩
def encI (L : List Int) : Option (Array Value × Nat) := match L with
  | [] => none
  | a :: r => some (arrI (a :: r), (a :: r).length)
theorem apB_arrI (L : List Int) (v : Int) : apB (Array.extract (arrI L) 0 (0 + (L.length * 1))) (Array.extract ⟨[(Value.int .i64 v)]⟩ 0 1) = arrI (L ++ [v]) := by
  simp only [apB, arrI, Nat.zero_add, Nat.mul_one, List.extract_toArray, List.map_append, List.map_cons, List.map_nil]
  simp [List.take_of_length_le]
theorem allFz_arrI (L : List Int) : allFz (arrI L) = true := by
  simp only [allFz, arrI, List.all_map]
  exact List.all_eq_true.2 fun x _ => rfl
theorem size_arrI (L : List Int) : (arrI L).size = L.length := by simp [arrI]
theorem isInt_arrI (L : List Int) {i : Nat} (h : i < L.length) : isInt .i64 (arrI L) (0 + i) = true := by
  simp [isInt, arrI, lget_eq, h]
end
end Go.Proofs.Ytjdidbnmkogflaa

namespace Go.Proofs.Ytjdidbnmkogflaa
open Go.Gi Go.RowKit Go.Proofs.Ytjdidbnmkogflaa.Old
noncomputable section
set_option maxRecDepth 100000
set_option linter.unusedVariables false
set_option linter.unusedSimpArgs false
theorem F83_of (a b x y : Int) : F83_ok ⟨[.int .i64 a, .int .i64 b, .int .i64 x, .int .i64 y]⟩ 0 2 = true ∧ F83_0 ⟨[.int .i64 a, .int .i64 b, .int .i64 x, .int .i64 y]⟩ 0 2 = (decide (b < a) || decide (y < x)) := by
  have h := F83_two a b x y
  exact ⟨by simp [F83_ok, h], by simp [F83_0, h]⟩
theorem F121_eq (i : Int) : F121_0 i = i := by simp [F121_0, F121, rt121, RT.val]
section
variable {c0 c c3 : Array Value} {n n2 n3 : Nat} {age shear lo hi tick now : Int}
def emp (h : Hd) : Bool := decide (h.xh < h.xl) || decide (h.yh < h.yl)
def cul (c0 c : Array Value) (n2 : Nat) (age shear lo hi tick now : Int) : Nat → Nat → List Int
  | 0, _ => []
  | m + 1, k => if emp (all c0 c n2 age shear lo hi tick now (chB 128 (k : Int))) = true then cul c0 c n2 age shear lo hi tick now m (k + 1) else (k : Int) :: cul c0 c n2 age shear lo hi tick now m (k + 1)
theorem loop89 (hv : Vld c0 0 n c 0 n2 age shear) (hok : F81ok c0 0 n c 0 n2 c3 0 n3 age shear lo hi tick now = true) : ∀ (m k : Nat) (L : List Int), k + m = n → L.length ≤ k →
    loopR (fun x : X89_0 => rd89_0 x.own x.v0 x.v1 x.v2 x.v3 x.v4 x.v5 x.v6 x.v7 x.v8 x.v9 x.v10 x.v11 x.v12 x.v13 x.v14 x.v15 x.v16)
      ⟨encI L, (n : Int), (k : Int), c0, 0, n, c, 0, n2, c3, 0, n3, age, shear, lo, hi, tick, now⟩ =
    some (.k0 (arrI (L ++ cul c0 c n2 age shear lo hi tick now m k)) 0 (L ++ cul c0 c n2 age shear lo hi tick now m k).length c0 0 n c 0 n2 c3 0 n3 age shear lo hi tick now)
  | 0, k, L, e, hl => loopR_done (by
      obtain rfl : k = n := by omega
      have h1 : ¬ ((k : Int) < (k : Int)) := by omega
      cases L with
      | nil => simp only [rd89_0, encI, RT.val, h1, decide_false, cond_false]; rfl
      | cons a r =>
        simp only [rd89_0, encI, RT.val, h1, decide_false, cond_false, cond_true, allFz_arrI, size_arrI, Nat.zero_add, Nat.mul_one, Nat.le_refl, decide_true, Bool.and_self, cul, List.append_nil])
  | m + 1, k, L, e, hl => by
    have hm : n ≤ 6 := hv.few
    have hki : (k : Int) < (n : Int) := by omega
    have h3 : IntKind.wrap .i64 ((k : Int) + 1) = ((k + 1 : Nat) : Int) := by rw [wrap64_id (by omega) (by omega)]; omega
    obtain ⟨f1, f2, f3, f4⟩ := F81_of (c3 := c3) (off3 := 0) (n3 := n3) (lo := lo) (hi := hi) (tick := tick) (now := now) (g := 128) (q := (k : Int)) hv
    by_cases he : emp (all c0 c n2 age shear lo hi tick now (chB 128 (k : Int))) = true
    · rw [show cul c0 c n2 age shear lo hi tick now (m + 1) k = cul c0 c n2 age shear lo hi tick now m (k + 1) from by rw [cul, if_pos he]]
      refine (loopR_next ?_).trans (loop89 hv hok m (k + 1) L (by omega) (by omega))
      unfold emp at he
      cases L with
      | nil => simp only [rd89_0, encI, RT.val, hki, hok, F121_eq, f1, f2, f3, f4, (F83_of _ _ _ _).1, (F83_of _ _ _ _).2, arrEq_self, decide_true, Bool.and_self, cond_true, he, Bool.not_true, cond_false, h3]
      | cons a r => simp only [rd89_0, encI, RT.val, hki, hok, F121_eq, f1, f2, f3, f4, (F83_of _ _ _ _).1, (F83_of _ _ _ _).2, arrEq_self, decide_true, Bool.and_self, cond_true, he, Bool.not_true, cond_false, h3, allFz_arrI]
    · rw [show cul c0 c n2 age shear lo hi tick now (m + 1) k = (k : Int) :: cul c0 c n2 age shear lo hi tick now m (k + 1) from by rw [cul, if_neg he]]
      rw [show L ++ (k : Int) :: cul c0 c n2 age shear lo hi tick now m (k + 1) = (L ++ [(k : Int)]) ++ cul c0 c n2 age shear lo hi tick now m (k + 1) from by simp]
      refine (loopR_next ?_).trans (loop89 hv hok m (k + 1) (L ++ [(k : Int)]) (by omega) (by simp; omega))
      unfold emp at he
      rw [Bool.not_eq_true] at he
      cases L with
      | nil =>
        simp only [rd89_0, encI, RT.val, hki, hok, F121_eq, f1, f2, f3, f4, (F83_of _ _ _ _).1, (F83_of _ _ _ _).2, arrEq_self, decide_true, Bool.and_self, cond_true, he, Bool.not_false, cond_false, h3]
        rfl
      | cons a r =>
        have hb := apB_arrI (a :: r) (k : Int)
        have hl1 : ((a :: r).length + 1) * 8 ≤ 140737488355328 ∧ (a :: r).length + 1 ≤ 4611686018427387904 ∧ 0 + (a :: r).length * 1 ≤ (arrI (a :: r)).size := by rw [size_arrI]; omega
        simp only [rd89_0, encI, RT.val, hki, hok, F121_eq, f1, f2, f3, f4, (F83_of _ _ _ _).1, (F83_of _ _ _ _).2, arrEq_self, decide_true, Bool.and_self, cond_true, he, Bool.not_false, cond_false, h3, hb, allFz_arrI, hl1.1, hl1.2.1, hl1.2.2]
        simp [encI]
end
end
end Go.Proofs.Ytjdidbnmkogflaa

namespace Go.Proofs.Ytjdidbnmkogflaa
open Go.Gi Go.RowKit Go.Proofs.Ytjdidbnmkogflaa.Old
noncomputable section
set_option maxRecDepth 100000
set_option linter.unusedVariables false
set_option linter.unusedSimpArgs false
section
variable {c0 c c3 : Array Value} {n n2 n3 : Nat} {age shear lo hi tick now : Int}
theorem F122_of {out : Int} (hv : Vld c0 0 n c 0 n2 age shear) (hq : Qst lo hi tick now) :
    F122_ok c0 0 n c 0 n2 c3 0 n3 age shear out lo hi tick now = true ∧ F122_4 c0 0 n c 0 n2 c3 0 n3 age shear out lo hi tick now = !emp (all c0 c n2 age shear lo hi tick now (chB 128 out)) := by
  have h := F122_eq (c3 := c3) (off3 := 0) (n3 := n3) (out := out) hv hq
  exact ⟨by simp [F122_ok, h], by simp [F122_4, h, emp]⟩
theorem loop90 (hv : Vld c0 0 n c 0 n2 age shear) (hq : Qst lo hi tick now) (a17 a18 a19 a20 : Int) : ∀ (m k : Nat) (L : List Int), k + m = n → L.length ≤ k →
    loopR (fun x : X90_0 => rd90_0 x.own x.v0 x.v1 x.v2 x.v3 x.v4 x.v5 x.v6 x.v7 x.v8 x.v9 x.v10 x.v11 x.v12 x.v13 x.v14 x.v15 x.v16 x.v17 x.v18 x.v19 x.v20)
      ⟨encI L, lo, hi, tick, now, false, (k : Int), c0, 0, n, c, 0, n2, c3, 0, n3, age, shear, a17, a18, a19, a20⟩ =
    some (.k0 false (arrI (L ++ cul c0 c n2 age shear lo hi tick now m k)) 0 (L ++ cul c0 c n2 age shear lo hi tick now m k).length c0 0 n c 0 n2 c3 0 n3 age shear a17 a18 a19 a20)
  | 0, k, L, e, hl => loopR_done (by
      obtain rfl : k = n := by omega
      have h1 : ¬ ((k : Int) < (k : Int)) := by omega
      cases L with
      | nil => simp only [rd90_0, encI, RT.val, h1, Int.ofNat_eq_natCast, decide_false, cond_false]; rfl
      | cons a r =>
        simp only [rd90_0, encI, RT.val, h1, Int.ofNat_eq_natCast, decide_false, cond_false, cond_true, allFz_arrI, size_arrI, Nat.zero_add, Nat.mul_one, Nat.le_refl, decide_true, Bool.and_self, cul, List.append_nil])
  | m + 1, k, L, e, hl => by
    have hm : n ≤ 6 := hv.few
    have hki : (k : Int) < (n : Int) := by omega
    have h3 : IntKind.wrap .i64 ((k : Int) + 1) = ((k + 1 : Nat) : Int) := by rw [wrap64_id (by omega) (by omega)]; omega
    obtain ⟨f1, f2⟩ := F122_of (c3 := c3) (n3 := n3) (out := (k : Int)) hv hq
    by_cases he : emp (all c0 c n2 age shear lo hi tick now (chB 128 (k : Int))) = true
    · rw [show cul c0 c n2 age shear lo hi tick now (m + 1) k = cul c0 c n2 age shear lo hi tick now m (k + 1) from by rw [cul, if_pos he]]
      refine (loopR_next ?_).trans (loop90 hv hq a17 a18 a19 a20 m (k + 1) L (by omega) (by omega))
      cases L with
      | nil => simp only [rd90_0, encI, RT.val, Int.ofNat_eq_natCast, hki, f1, f2, he, decide_true, Bool.not_true, Bool.not_false, cond_true, cond_false, h3]
      | cons a r => simp only [rd90_0, encI, RT.val, Int.ofNat_eq_natCast, hki, f1, f2, he, decide_true, Bool.not_true, Bool.not_false, cond_true, cond_false, h3, allFz_arrI]
    · rw [show cul c0 c n2 age shear lo hi tick now (m + 1) k = (k : Int) :: cul c0 c n2 age shear lo hi tick now m (k + 1) from by rw [cul, if_neg he]]
      rw [show L ++ (k : Int) :: cul c0 c n2 age shear lo hi tick now m (k + 1) = (L ++ [(k : Int)]) ++ cul c0 c n2 age shear lo hi tick now m (k + 1) from by simp]
      refine (loopR_next ?_).trans (loop90 hv hq a17 a18 a19 a20 m (k + 1) (L ++ [(k : Int)]) (by omega) (by simp; omega))
      rw [Bool.not_eq_true] at he
      cases L with
      | nil =>
        simp only [rd90_0, encI, RT.val, Int.ofNat_eq_natCast, hki, f1, f2, he, decide_true, Bool.not_true, Bool.not_false, cond_true, cond_false, h3]
        rfl
      | cons a r =>
        have hb := apB_arrI (a :: r) (k : Int)
        have hl1 : ((a :: r).length + 1) * 8 ≤ 140737488355328 ∧ (a :: r).length + 1 ≤ 4611686018427387904 ∧ 0 + (a :: r).length * 1 ≤ (arrI (a :: r)).size := by rw [size_arrI]; omega
        simp only [rd90_0, encI, RT.val, Int.ofNat_eq_natCast, hki, f1, f2, he, decide_true, Bool.and_self, Bool.not_true, Bool.not_false, cond_true, cond_false, h3, hb, allFz_arrI, hl1.1, hl1.2.1, hl1.2.2]
        simp [encI]
end
end
end Go.Proofs.Ytjdidbnmkogflaa

namespace Go.Proofs.Ytjdidbnmkogflaa
open Go.Gi Go.RowKit
noncomputable section
set_option maxRecDepth 100000
set_option linter.unusedVariables false
set_option linter.unusedSimpArgs false
structure X33_0 where
  v0 : Array Value
  v1 : Nat
  v2 : Nat
  v3 : Array Value
  v4 : Nat
  v5 : Nat
  v6 : Int
inductive D33_0 where
  | k0 (d0 : Bool)
  | k1
noncomputable def Lp33_0 : LoopOf X33_0 D33_0 where
  c := (theLoop Try.prog 33 0)
  N := 26
  M := 0
  S := [0, 1, 5]
  sl := fun x => [(lstV x.v0 x.v1 x.v2 1), (lstV x.v3 x.v4 x.v5 1), (.int .i64 x.v6)]
  hp := fun x => []
  ex := fun d => match d with | .k0 .. => .ret | .k1 .. => .exit 0
  pick := fun e => match e with | .ret => [4] | .exit 0 => [] | _ => []
  dv := fun d => match d with | .k0 d0 => [(.bool d0)] | .k1  => []
  dh := fun d => match d with | .k0 d0 => [] | .k1  => []
theorem ok33_0 : Lp33_0.Ok := ⟨fun x => rfl, fun x => rfl, fun x => rfl, fun x => rfl, fun d => by cases d <;> rfl, fun d => by cases d <;> rfl, fun d => by cases d <;> rfl, fun d => by cases d <;> (intro h; cases h), fun d => by cases d <;> rfl, fun d => by cases d <;> rfl⟩
noncomputable def rd33_0  (v0 : Array Value) (v1 : Nat) (v2 : Nat) (v3 : Array Value) (v4 : Nat) (v5 : Nat) (v6 : Int) : RT (Sum X33_0 D33_0) :=
  .br (decide (v6 < (Int.ofNat v2)))
 (.br (and (decide ((0 : Int) ≤ v6)) (decide (v6 < (Int.ofNat v2))))
 (.br (isInt .i64 v0 (v1 + ((Int.toNat v6) * 1)))
 (.br (and (decide ((0 : Int) ≤ v6)) (decide (v6 < (Int.ofNat v5))))
 (.br (isInt .i64 v3 (v4 + ((Int.toNat v6) * 1)))
 (.br (not (decide ((getInt v0 (v1 + ((Int.toNat v6) * 1))) = (getInt v3 (v4 + ((Int.toNat v6) * 1))))))
 (.leaf (.inr (.k0 (false))))
 (.leaf (.inl ⟨v0, v1, v2, v3, v4, v5, (IntKind.wrap .i64 (v6 + (1 : Int)))⟩)))
 (.no))
 (.no))
 (.no))
 (.no))
 (.leaf (.inr (.k1)))
theorem T33_0  (y : List Value) (v0 : Array Value) (v1 : Nat) (v2 : Nat) (v3 : Array Value) (v4 : Nat) (v5 : Nat) (v6 : Int) : evC Try.prog (Ans.c (fun _ => none : Ans)) 60 (.code none (theLoop Try.prog 33 0) ⟨sets (junkF 26 y) [(0, (lstV v0 v1 v2 1)), (1, (lstV v3 v4 v5 1)), (5, (.int .i64 v6))], [], ⟨[], 0, []⟩⟩) (sumK 0 26 Lp33_0.pk) = (rd33_0 v0 v1 v2 v3 v4 v5 v6).out Lp33_0.enc := by kernel_rfl
noncomputable def L33_0 (v0 : Array Value) (v1 : Nat) (v2 : Nat) (v3 : Array Value) (v4 : Nat) (v5 : Nat) (v6 : Int) : Option D33_0 := loopR (fun x : X33_0 => rd33_0 x.v0 x.v1 x.v2 x.v3 x.v4 x.v5 x.v6) ⟨v0, v1, v2, v3, v4, v5, v6⟩
section
variable (v0 : Array Value) (v1 : Nat) (v2 : Nat) (v3 : Array Value) (v4 : Nat) (v5 : Nat) (v6 : Int)
noncomputable def L33_0_k0 : Bool := match L33_0 v0 v1 v2 v3 v4 v5 v6 with | some (.k0 ..) => true | _ => false
noncomputable def L33_0_k0_0 : Bool := match L33_0 v0 v1 v2 v3 v4 v5 v6 with | some (.k0 d0) => d0 | _ => false
noncomputable def L33_0_k1 : Bool := match L33_0 v0 v1 v2 v3 v4 v5 v6 with | some (.k1 ..) => true | _ => false
end
noncomputable def dec33_0 : Task → Option (Code × X33_0)
  | .code none (.loop code) ⟨t, [], ⟨[], 0, []⟩⟩ =>
    (match Nat.beq (firstReg code) 4, lenIs t 26, lget t 0, lget t 1, lget t 5 with
    | true, true, (.func (.via 0 ⟨[]⟩ 0 true) v0 ⟨[.slice (some ⟨0, v1, none⟩) v2 1]⟩), (.func (.via 0 ⟨[]⟩ 0 true) v3 ⟨[.slice (some ⟨0, v4, none⟩) v5 1]⟩), (.int .i64 v6) => some (code, ⟨v0, v1, v2, v3, v4, v5, v6⟩)
    | _, _, _, _, _ => none)
  | _ => none
noncomputable def alt33_0 (x : X33_0) (j : List Value) : AT := .br (L33_0_k0 x.v0 x.v1 x.v2 x.v3 x.v4 x.v5 x.v6) (loopEnd 26 (.ret) [(4, (.bool (L33_0_k0_0 x.v0 x.v1 x.v2 x.v3 x.v4 x.v5 x.v6)))] ⟨[], 0, []⟩ j) (.br (L33_0_k1 x.v0 x.v1 x.v2 x.v3 x.v4 x.v5 x.v6) (loopEnd 26 (.exit 0) [] ⟨[], 0, []⟩ j) (.no))
noncomputable def la33_0 (J : Task → List Value) : Ans := loopAns Lp33_0.c dec33_0 alt33_0 J
theorem ha33_0 : ∀ (x : X33_0) (j : List Value) (o : Out), (alt33_0 x j).out = some o → ∃ d, loopR (fun x : X33_0 => rd33_0 x.v0 x.v1 x.v2 x.v3 x.v4 x.v5 x.v6) x = some d ∧ o = Lp33_0.tail d j := by
  intro x j o h
  unfold alt33_0 at h
  cases hL : L33_0 x.v0 x.v1 x.v2 x.v3 x.v4 x.v5 x.v6 with
  | none => simp [L33_0_k0, L33_0_k0_0, L33_0_k1, hL, AT.out] at h
  | some d =>
    refine ⟨d, hL, ?_⟩
    cases d <;> (simp only [L33_0_k0, L33_0_k0_0, L33_0_k1, hL, AT.out, loopEnd, cond_true, cond_false, Option.some.injEq] at h; rw [← h]; rfl)
theorem hd33_0 : ∀ (t : Task) (c : Code) (x : X33_0), dec33_0 t = some (c, x) → c = Lp33_0.c → ∃ T, t = .code none (.loop Lp33_0.c) ⟨T, [], ⟨Lp33_0.hp x, 0, []⟩⟩ ∧ T.length = Lp33_0.N ∧ ∀ kv ∈ Lp33_0.S.zip (Lp33_0.sl x), lget T kv.1 = kv.2 := by
  intro t c x h hc
  unfold dec33_0 at h
  split at h
  case h_2 => cases h
  split at h
  case h_2 => cases h
  simp only [Option.some.injEq, Prod.mk.injEq] at h
  obtain ⟨rfl, rfl⟩ := h
  subst hc
  refine ⟨_, rfl, lenIs_eq _ _ (by assumption), ?_⟩
  intro kv hk
  simp only [Lp33_0, List.zip_cons_cons, List.zip_nil_right, List.mem_cons, List.not_mem_nil, or_false] at hk
  rcases hk with rfl | rfl | rfl <;> assumption
theorem kl33_0 : ∃ J, Known Try.prog (la33_0 J) := by
  exact LoopOf.known noNG mixed ok33_0 (by decide) (by decide) (Known.nothing Try.prog) (n := 60) (rd := fun x : X33_0 => rd33_0 x.v0 x.v1 x.v2 x.v3 x.v4 x.v5 x.v6) (fun x j => T33_0  j x.v0 x.v1 x.v2 x.v3 x.v4 x.v5 x.v6) dec33_0 alt33_0 hd33_0 ha33_0
structure R33 where
  r0 : Bool
structure A33 where
  a0 : Array Value
  a1 : Nat
  a2 : Nat
  a3 : Array Value
  a4 : Nat
  a5 : Nat
noncomputable def rt33 (a0 : Array Value) (a1 : Nat) (a2 : Nat) (a3 : Array Value) (a4 : Nat) (a5 : Nat) : RT R33 :=
  .br (not (decide ((Int.ofNat a2) = (Int.ofNat a5))))
 (.leaf ⟨false⟩)
 (.br (eqCode (Lp33_0.c) (Lp33_0.c))
 (.br (L33_0_k0 a0 a1 a2 a3 a4 a5 (0 : Int))
 (.leaf ⟨(L33_0_k0_0 a0 a1 a2 a3 a4 a5 (0 : Int))⟩)
 (.br (L33_0_k1 a0 a1 a2 a3 a4 a5 (0 : Int))
 (.leaf ⟨true⟩)
 (.no)))
 (.no))
noncomputable def en33 (r : R33) : Value := (.bool r.r0)
theorem T33 (J0 : Task → List Value) (a0 : Array Value) (a1 : Nat) (a2 : Nat) (a3 : Array Value) (a4 : Nat) (a5 : Nat) : evC Try.prog (Ans.c (la33_0 J0)) 60 (.call 33 ⟨[(lstV a0 a1 a2 1), (lstV a3 a4 a5 1)]⟩ ⟨[], 0, []⟩) (frzK [0]) = (rt33 a0 a1 a2 a3 a4 a5).out (fun r => .ret (en33 r) ⟨[], 0, []⟩) := by kernel_rfl
noncomputable def F33 (a0 : Array Value) (a1 : Nat) (a2 : Nat) (a3 : Array Value) (a4 : Nat) (a5 : Nat) : Option R33 := (rt33 a0 a1 a2 a3 a4 a5).val
section
variable (a0 : Array Value) (a1 : Nat) (a2 : Nat) (a3 : Array Value) (a4 : Nat) (a5 : Nat)
noncomputable def F33_ok : Bool := (F33 a0 a1 a2 a3 a4 a5).isSome
noncomputable def F33_0 : Bool := match F33 a0 a1 a2 a3 a4 a5 with | some r => r.r0 | none => false
end
noncomputable def dec33 : Task → Option (A33 × Hp)
  | .call g ⟨[(.func (.via 0 ⟨[]⟩ 0 true) a0 ⟨[.slice (some ⟨0, a1, none⟩) a2 1]⟩), (.func (.via 0 ⟨[]⟩ 0 true) a3 ⟨[.slice (some ⟨0, a4, none⟩) a5 1]⟩)]⟩ h => (match Nat.beq g 33 with | true => some (⟨a0, a1, a2, a3, a4, a5⟩, h) | false => none)
  | _ => none
noncomputable def alt33 (x : A33) (h : Hp) : AT := .br (F33_ok x.a0 x.a1 x.a2 x.a3 x.a4 x.a5) (.leaf (.ret (.bool (F33_0 x.a0 x.a1 x.a2 x.a3 x.a4 x.a5)) h)) .no
noncomputable def p33 : Ans := fnAns dec33 alt33
theorem ha33 : ∀ (x : A33) (h : Hp) (o : Out), (alt33 x h).out = some o → ∃ r, (rt33 x.a0 x.a1 x.a2 x.a3 x.a4 x.a5).val = some r ∧ o = .ret (en33 r) h := by
  intro x h o e
  unfold alt33 at e
  cases hF : F33 x.a0 x.a1 x.a2 x.a3 x.a4 x.a5 with
  | none => simp [F33_ok, hF, AT.out] at e
  | some r =>
    refine ⟨r, hF, ?_⟩
    simp only [F33_ok, F33_0, hF, AT.out, Option.isSome_some, cond_true, Option.some.injEq] at e
    rw [← e]; rfl
theorem hd33 : ∀ (t : Task) (x : A33) (h : Hp), dec33 t = some (x, h) → t = .call 33 ⟨[(lstV x.a0 x.a1 x.a2 1), (lstV x.a3 x.a4 x.a5 1)]⟩ h := by
  intro t x h e
  unfold dec33 at e
  split at e
  case h_2 => cases e
  split at e
  case h_2 => cases e
  rename_i hg
  simp only [Option.some.injEq, Prod.mk.injEq] at e
  obtain ⟨rfl, rfl⟩ := e
  rw [Nat.eq_of_beq_eq_true hg]
theorem known33 : Known Try.prog p33 := by
  obtain ⟨J0, hJ0⟩ := kl33_0
  exact Known.fn noNG mixed hJ0 (n := 60) (zs := [0]) 33 (fun x : A33 => [(lstV x.a0 x.a1 x.a2 1), (lstV x.a3 x.a4 x.a5 1)]) (fun x => rt33 x.a0 x.a1 x.a2 x.a3 x.a4 x.a5) en33 (fun x => T33 J0 x.a0 x.a1 x.a2 x.a3 x.a4 x.a5) (fun x => rfl) dec33 alt33 hd33 ha33
end
end Go.Proofs.Ytjdidbnmkogflaa

namespace Go.Proofs.Ytjdidbnmkogflaa
open Go.Gi Go.RowKit
noncomputable section
set_option maxRecDepth 100000
set_option linter.unusedVariables false
set_option linter.unusedSimpArgs false
structure R88 where
  r0 : Bool
structure A88 where
  a0 : Int
noncomputable def rt88 (a0 : Int) : RT R88 :=
  .leaf ⟨true⟩
noncomputable def en88 (r : R88) : Value := (.bool r.r0)
theorem T88  (a0 : Int) : evC Try.prog (Ans.c (fun _ => none : Ans)) 60 (.call 88 ⟨[(.int .i64 a0)]⟩ ⟨[], 0, []⟩) (frzK [0]) = (rt88 a0).out (fun r => .ret (en88 r) ⟨[], 0, []⟩) := by kernel_rfl
noncomputable def F88 (a0 : Int) : Option R88 := (rt88 a0).val
section
variable (a0 : Int)
noncomputable def F88_ok : Bool := (F88 a0).isSome
noncomputable def F88_0 : Bool := match F88 a0 with | some r => r.r0 | none => false
end
noncomputable def dec88 : Task → Option (A88 × Hp)
  | .call g ⟨[(.int .i64 a0)]⟩ h => (match Nat.beq g 88 with | true => some (⟨a0⟩, h) | false => none)
  | _ => none
noncomputable def alt88 (x : A88) (h : Hp) : AT := .br (F88_ok x.a0) (.leaf (.ret (.bool (F88_0 x.a0)) h)) .no
noncomputable def p88 : Ans := fnAns dec88 alt88
theorem ha88 : ∀ (x : A88) (h : Hp) (o : Out), (alt88 x h).out = some o → ∃ r, (rt88 x.a0).val = some r ∧ o = .ret (en88 r) h := by
  intro x h o e
  unfold alt88 at e
  cases hF : F88 x.a0 with
  | none => simp [F88_ok, hF, AT.out] at e
  | some r =>
    refine ⟨r, hF, ?_⟩
    simp only [F88_ok, F88_0, hF, AT.out, Option.isSome_some, cond_true, Option.some.injEq] at e
    rw [← e]; rfl
theorem hd88 : ∀ (t : Task) (x : A88) (h : Hp), dec88 t = some (x, h) → t = .call 88 ⟨[(.int .i64 x.a0)]⟩ h := by
  intro t x h e
  unfold dec88 at e
  split at e
  case h_2 => cases e
  split at e
  case h_2 => cases e
  rename_i hg
  simp only [Option.some.injEq, Prod.mk.injEq] at e
  obtain ⟨rfl, rfl⟩ := e
  rw [Nat.eq_of_beq_eq_true hg]
theorem known88 : Known Try.prog p88 := by
  exact Known.fn noNG mixed (Known.nothing Try.prog) (n := 60) (zs := [0]) 88 (fun x : A88 => [(.int .i64 x.a0)]) (fun x => rt88 x.a0) en88 (fun x => T88  x.a0) (fun x => rfl) dec88 alt88 hd88 ha88
end
end Go.Proofs.Ytjdidbnmkogflaa

namespace Go.Proofs.Ytjdidbnmkogflaa
open Go.Gi Go.RowKit Go.Proofs.Ytjdidbnmkogflaa.Old
noncomputable section
set_option maxRecDepth 100000
set_option maxHeartbeats 4000000
set_option linter.unusedVariables false
set_option linter.unusedSimpArgs false
structure R38 where
  r0 : Array Value
  r1 : Nat
  r2 : Nat
  r3 : Bool
  r4 : Int
structure A38 where
  a0 : Array Value
  a1 : Nat
  a2 : Nat
  a3 : Array Value
  a4 : Nat
  a5 : Nat
  a6 : Array Value
  a7 : Nat
  a8 : Nat
  a9 : Int
  a10 : Int
  a11 : Int
  a12 : Int
  a13 : Int
noncomputable def rt38 (a0 : Array Value) (a1 : Nat) (a2 : Nat) (a3 : Array Value) (a4 : Nat) (a5 : Nat) (a6 : Array Value) (a7 : Nat) (a8 : Nat) (a9 : Int) (a10 : Int) (a11 : Int) (a12 : Int) (a13 : Int) : RT R38 :=
  .br (F20_ok a0 a1 a2 a3 a4 a5 a6 a7 a8 a9 a10)
 (.br (not (decide ((F20_2 a0 a1 a2 a3 a4 a5 a6 a7 a8 a9 a10) = (0 : Int))))
 (.leaf ⟨⟨[]⟩, 0, 0, false, (F20_2 a0 a1 a2 a3 a4 a5 a6 a7 a8 a9 a10)⟩)
 (.br (F80_ok (a0) a1 a2 (a3) a4 a5 (a6) a7 a8 a9 a10 a11 a12 a13)
 (.br (not (decide ((F80_4 (a0) a1 a2 (a3) a4 a5 (a6) a7 a8 a9 a10 a11 a12 a13) = (0 : Int))))
 (.leaf ⟨⟨[]⟩, 0, 0, false, (F80_4 (a0) a1 a2 (a3) a4 a5 (a6) a7 a8 a9 a10 a11 a12 a13)⟩)
 (.br (F81ok a0 a1 a2 a3 a4 a5 a6 a7 a8 a9 a10 (F80_0 (a0) a1 a2 (a3) a4 a5 (a6) a7 a8 a9 a10 a11 a12 a13) (F80_1 (a0) a1 a2 (a3) a4 a5 (a6) a7 a8 a9 a10 a11 a12 a13) (F80_2 (a0) a1 a2 (a3) a4 a5 (a6) a7 a8 a9 a10 a11 a12 a13) (F80_3 (a0) a1 a2 (a3) a4 a5 (a6) a7 a8 a9 a10 a11 a12 a13))
 (.br (F83_ok ⟨[(.int .i64 (F81xl 88 (0 : Int) a0 a1 a2 a3 a4 a5 a6 a7 a8 a9 a10 (F80_0 (a0) a1 a2 (a3) a4 a5 (a6) a7 a8 a9 a10 a11 a12 a13) (F80_1 (a0) a1 a2 (a3) a4 a5 (a6) a7 a8 a9 a10 a11 a12 a13) (F80_2 (a0) a1 a2 (a3) a4 a5 (a6) a7 a8 a9 a10 a11 a12 a13) (F80_3 (a0) a1 a2 (a3) a4 a5 (a6) a7 a8 a9 a10 a11 a12 a13))), (.int .i64 (F81xh 88 (0 : Int) a0 a1 a2 a3 a4 a5 a6 a7 a8 a9 a10 (F80_0 (a0) a1 a2 (a3) a4 a5 (a6) a7 a8 a9 a10 a11 a12 a13) (F80_1 (a0) a1 a2 (a3) a4 a5 (a6) a7 a8 a9 a10 a11 a12 a13) (F80_2 (a0) a1 a2 (a3) a4 a5 (a6) a7 a8 a9 a10 a11 a12 a13) (F80_3 (a0) a1 a2 (a3) a4 a5 (a6) a7 a8 a9 a10 a11 a12 a13))), (.int .i64 (F81yl 88 (0 : Int) a0 a1 a2 a3 a4 a5 a6 a7 a8 a9 a10 (F80_0 (a0) a1 a2 (a3) a4 a5 (a6) a7 a8 a9 a10 a11 a12 a13) (F80_1 (a0) a1 a2 (a3) a4 a5 (a6) a7 a8 a9 a10 a11 a12 a13) (F80_2 (a0) a1 a2 (a3) a4 a5 (a6) a7 a8 a9 a10 a11 a12 a13) (F80_3 (a0) a1 a2 (a3) a4 a5 (a6) a7 a8 a9 a10 a11 a12 a13))), (.int .i64 (F81yh 88 (0 : Int) a0 a1 a2 a3 a4 a5 a6 a7 a8 a9 a10 (F80_0 (a0) a1 a2 (a3) a4 a5 (a6) a7 a8 a9 a10 a11 a12 a13) (F80_1 (a0) a1 a2 (a3) a4 a5 (a6) a7 a8 a9 a10 a11 a12 a13) (F80_2 (a0) a1 a2 (a3) a4 a5 (a6) a7 a8 a9 a10 a11 a12 a13) (F80_3 (a0) a1 a2 (a3) a4 a5 (a6) a7 a8 a9 a10 a11 a12 a13)))]⟩ 0 2)
 (.br (not (F83_0 ⟨[(.int .i64 (F81xl 88 (0 : Int) a0 a1 a2 a3 a4 a5 a6 a7 a8 a9 a10 (F80_0 (a0) a1 a2 (a3) a4 a5 (a6) a7 a8 a9 a10 a11 a12 a13) (F80_1 (a0) a1 a2 (a3) a4 a5 (a6) a7 a8 a9 a10 a11 a12 a13) (F80_2 (a0) a1 a2 (a3) a4 a5 (a6) a7 a8 a9 a10 a11 a12 a13) (F80_3 (a0) a1 a2 (a3) a4 a5 (a6) a7 a8 a9 a10 a11 a12 a13))), (.int .i64 (F81xh 88 (0 : Int) a0 a1 a2 a3 a4 a5 a6 a7 a8 a9 a10 (F80_0 (a0) a1 a2 (a3) a4 a5 (a6) a7 a8 a9 a10 a11 a12 a13) (F80_1 (a0) a1 a2 (a3) a4 a5 (a6) a7 a8 a9 a10 a11 a12 a13) (F80_2 (a0) a1 a2 (a3) a4 a5 (a6) a7 a8 a9 a10 a11 a12 a13) (F80_3 (a0) a1 a2 (a3) a4 a5 (a6) a7 a8 a9 a10 a11 a12 a13))), (.int .i64 (F81yl 88 (0 : Int) a0 a1 a2 a3 a4 a5 a6 a7 a8 a9 a10 (F80_0 (a0) a1 a2 (a3) a4 a5 (a6) a7 a8 a9 a10 a11 a12 a13) (F80_1 (a0) a1 a2 (a3) a4 a5 (a6) a7 a8 a9 a10 a11 a12 a13) (F80_2 (a0) a1 a2 (a3) a4 a5 (a6) a7 a8 a9 a10 a11 a12 a13) (F80_3 (a0) a1 a2 (a3) a4 a5 (a6) a7 a8 a9 a10 a11 a12 a13))), (.int .i64 (F81yh 88 (0 : Int) a0 a1 a2 a3 a4 a5 a6 a7 a8 a9 a10 (F80_0 (a0) a1 a2 (a3) a4 a5 (a6) a7 a8 a9 a10 a11 a12 a13) (F80_1 (a0) a1 a2 (a3) a4 a5 (a6) a7 a8 a9 a10 a11 a12 a13) (F80_2 (a0) a1 a2 (a3) a4 a5 (a6) a7 a8 a9 a10 a11 a12 a13) (F80_3 (a0) a1 a2 (a3) a4 a5 (a6) a7 a8 a9 a10 a11 a12 a13)))]⟩ 0 2))
 (.leaf ⟨⟨[]⟩, 0, 0, true, (0 : Int)⟩)
 (.br (F89_ok (a0) a1 a2 (a3) a4 a5 (a6) a7 a8 a9 a10 (F80_0 (a0) a1 a2 (a3) a4 a5 (a6) a7 a8 a9 a10 a11 a12 a13) (F80_1 (a0) a1 a2 (a3) a4 a5 (a6) a7 a8 a9 a10 a11 a12 a13) (F80_2 (a0) a1 a2 (a3) a4 a5 (a6) a7 a8 a9 a10 a11 a12 a13) (F80_3 (a0) a1 a2 (a3) a4 a5 (a6) a7 a8 a9 a10 a11 a12 a13))
 (.leaf ⟨(F89_0 (a0) a1 a2 (a3) a4 a5 (a6) a7 a8 a9 a10 (F80_0 (a0) a1 a2 (a3) a4 a5 (a6) a7 a8 a9 a10 a11 a12 a13) (F80_1 (a0) a1 a2 (a3) a4 a5 (a6) a7 a8 a9 a10 a11 a12 a13) (F80_2 (a0) a1 a2 (a3) a4 a5 (a6) a7 a8 a9 a10 a11 a12 a13) (F80_3 (a0) a1 a2 (a3) a4 a5 (a6) a7 a8 a9 a10 a11 a12 a13)), (F89_1 (a0) a1 a2 (a3) a4 a5 (a6) a7 a8 a9 a10 (F80_0 (a0) a1 a2 (a3) a4 a5 (a6) a7 a8 a9 a10 a11 a12 a13) (F80_1 (a0) a1 a2 (a3) a4 a5 (a6) a7 a8 a9 a10 a11 a12 a13) (F80_2 (a0) a1 a2 (a3) a4 a5 (a6) a7 a8 a9 a10 a11 a12 a13) (F80_3 (a0) a1 a2 (a3) a4 a5 (a6) a7 a8 a9 a10 a11 a12 a13)), (F89_2 (a0) a1 a2 (a3) a4 a5 (a6) a7 a8 a9 a10 (F80_0 (a0) a1 a2 (a3) a4 a5 (a6) a7 a8 a9 a10 a11 a12 a13) (F80_1 (a0) a1 a2 (a3) a4 a5 (a6) a7 a8 a9 a10 a11 a12 a13) (F80_2 (a0) a1 a2 (a3) a4 a5 (a6) a7 a8 a9 a10 a11 a12 a13) (F80_3 (a0) a1 a2 (a3) a4 a5 (a6) a7 a8 a9 a10 a11 a12 a13)), false, (0 : Int)⟩)
 (.no)))
 (.no))
 (.no)))
 (.no)))
 (.no)
noncomputable def en38 (r : R38) : Value := (.tuple ⟨[(lstV r.r0 r.r1 r.r2 1), (.bool r.r3), (.int .i64 r.r4)]⟩)
theorem T38  (a0 : Array Value) (a1 : Nat) (a2 : Nat) (a3 : Array Value) (a4 : Nat) (a5 : Nat) (a6 : Array Value) (a7 : Nat) (a8 : Nat) (a9 : Int) (a10 : Int) (a11 : Int) (a12 : Int) (a13 : Int) : evC Try.prog (Ans.c ((p20V 20).or (p80.or (p81V.or (p83.or (p88.or p89)))))) 60 (.call 38 ⟨[(.agg ⟨[(lstV a0 a1 a2 7), (lstV a3 a4 a5 5), (lstV a6 a7 a8 1), (.int .i64 a9), (.int .i64 a10)]⟩), (.int .i64 a11), (.int .i64 a12), (.int .i64 a13)]⟩ ⟨[], 0, []⟩) (frzK [1, 0, 0]) = (rt38 a0 a1 a2 a3 a4 a5 a6 a7 a8 a9 a10 a11 a12 a13).out (fun r => .ret (en38 r) ⟨[], 0, []⟩) := by kernel_rfl
noncomputable def F38 (a0 : Array Value) (a1 : Nat) (a2 : Nat) (a3 : Array Value) (a4 : Nat) (a5 : Nat) (a6 : Array Value) (a7 : Nat) (a8 : Nat) (a9 : Int) (a10 : Int) (a11 : Int) (a12 : Int) (a13 : Int) : Option R38 := (rt38 a0 a1 a2 a3 a4 a5 a6 a7 a8 a9 a10 a11 a12 a13).val
section
variable (a0 : Array Value) (a1 : Nat) (a2 : Nat) (a3 : Array Value) (a4 : Nat) (a5 : Nat) (a6 : Array Value) (a7 : Nat) (a8 : Nat) (a9 : Int) (a10 : Int) (a11 : Int) (a12 : Int) (a13 : Int)
noncomputable def F38_ok : Bool := (F38 a0 a1 a2 a3 a4 a5 a6 a7 a8 a9 a10 a11 a12 a13).isSome
noncomputable def F38_0 : Array Value := match F38 a0 a1 a2 a3 a4 a5 a6 a7 a8 a9 a10 a11 a12 a13 with | some r => r.r0 | none => #[]
noncomputable def F38_1 : Nat := match F38 a0 a1 a2 a3 a4 a5 a6 a7 a8 a9 a10 a11 a12 a13 with | some r => r.r1 | none => 0
noncomputable def F38_2 : Nat := match F38 a0 a1 a2 a3 a4 a5 a6 a7 a8 a9 a10 a11 a12 a13 with | some r => r.r2 | none => 0
noncomputable def F38_3 : Bool := match F38 a0 a1 a2 a3 a4 a5 a6 a7 a8 a9 a10 a11 a12 a13 with | some r => r.r3 | none => false
noncomputable def F38_4 : Int := match F38 a0 a1 a2 a3 a4 a5 a6 a7 a8 a9 a10 a11 a12 a13 with | some r => r.r4 | none => 0
end
noncomputable def dec38 : Task → Option (A38 × Hp)
  | .call g ⟨[(.agg ⟨[(.func (.via 0 ⟨[]⟩ 0 true) a0 ⟨[.slice (some ⟨0, a1, none⟩) a2 7]⟩), (.func (.via 0 ⟨[]⟩ 0 true) a3 ⟨[.slice (some ⟨0, a4, none⟩) a5 5]⟩), (.func (.via 0 ⟨[]⟩ 0 true) a6 ⟨[.slice (some ⟨0, a7, none⟩) a8 1]⟩), (.int .i64 a9), (.int .i64 a10)]⟩), (.int .i64 a11), (.int .i64 a12), (.int .i64 a13)]⟩ h => (match Nat.beq g 38 with | true => some (⟨a0, a1, a2, a3, a4, a5, a6, a7, a8, a9, a10, a11, a12, a13⟩, h) | false => none)
  | _ => none
noncomputable def alt38 (x : A38) (h : Hp) : AT := .br (F38_ok x.a0 x.a1 x.a2 x.a3 x.a4 x.a5 x.a6 x.a7 x.a8 x.a9 x.a10 x.a11 x.a12 x.a13) (.leaf (.ret (.tuple ⟨[(lstV (F38_0 x.a0 x.a1 x.a2 x.a3 x.a4 x.a5 x.a6 x.a7 x.a8 x.a9 x.a10 x.a11 x.a12 x.a13) (F38_1 x.a0 x.a1 x.a2 x.a3 x.a4 x.a5 x.a6 x.a7 x.a8 x.a9 x.a10 x.a11 x.a12 x.a13) (F38_2 x.a0 x.a1 x.a2 x.a3 x.a4 x.a5 x.a6 x.a7 x.a8 x.a9 x.a10 x.a11 x.a12 x.a13) 1), (.bool (F38_3 x.a0 x.a1 x.a2 x.a3 x.a4 x.a5 x.a6 x.a7 x.a8 x.a9 x.a10 x.a11 x.a12 x.a13)), (.int .i64 (F38_4 x.a0 x.a1 x.a2 x.a3 x.a4 x.a5 x.a6 x.a7 x.a8 x.a9 x.a10 x.a11 x.a12 x.a13))]⟩) h)) .no
noncomputable def p38 : Ans := fnAns dec38 alt38
theorem ha38 : ∀ (x : A38) (h : Hp) (o : Out), (alt38 x h).out = some o → ∃ r, (rt38 x.a0 x.a1 x.a2 x.a3 x.a4 x.a5 x.a6 x.a7 x.a8 x.a9 x.a10 x.a11 x.a12 x.a13).val = some r ∧ o = .ret (en38 r) h := by
  intro x h o e
  unfold alt38 at e
  cases hF : F38 x.a0 x.a1 x.a2 x.a3 x.a4 x.a5 x.a6 x.a7 x.a8 x.a9 x.a10 x.a11 x.a12 x.a13 with
  | none => simp [F38_ok, hF, AT.out] at e
  | some r =>
    refine ⟨r, hF, ?_⟩
    simp only [F38_ok, F38_0, F38_1, F38_2, F38_3, F38_4, hF, AT.out, Option.isSome_some, cond_true, Option.some.injEq] at e
    rw [← e]; rfl
theorem hd38 : ∀ (t : Task) (x : A38) (h : Hp), dec38 t = some (x, h) → t = .call 38 ⟨[(.agg ⟨[(lstV x.a0 x.a1 x.a2 7), (lstV x.a3 x.a4 x.a5 5), (lstV x.a6 x.a7 x.a8 1), (.int .i64 x.a9), (.int .i64 x.a10)]⟩), (.int .i64 x.a11), (.int .i64 x.a12), (.int .i64 x.a13)]⟩ h := by
  intro t x h e
  unfold dec38 at e
  split at e
  case h_2 => cases e
  split at e
  case h_2 => cases e
  rename_i hg
  simp only [Option.some.injEq, Prod.mk.injEq] at e
  obtain ⟨rfl, rfl⟩ := e
  rw [Nat.eq_of_beq_eq_true hg]
theorem known38 : Known Try.prog p38 := by
  exact Known.fn noNG mixed (Known.or (known20V (known20v known20)) (Known.or known80 (Known.or known81V (Known.or known83 (Known.or known88 known89))))) (n := 60) (zs := [1, 0, 0]) 38 (fun x : A38 => [(.agg ⟨[(lstV x.a0 x.a1 x.a2 7), (lstV x.a3 x.a4 x.a5 5), (lstV x.a6 x.a7 x.a8 1), (.int .i64 x.a9), (.int .i64 x.a10)]⟩), (.int .i64 x.a11), (.int .i64 x.a12), (.int .i64 x.a13)]) (fun x => rt38 x.a0 x.a1 x.a2 x.a3 x.a4 x.a5 x.a6 x.a7 x.a8 x.a9 x.a10 x.a11 x.a12 x.a13) en38 (fun x => T38  x.a0 x.a1 x.a2 x.a3 x.a4 x.a5 x.a6 x.a7 x.a8 x.a9 x.a10 x.a11 x.a12 x.a13) (fun x => rfl) dec38 alt38 hd38 ha38
end
end Go.Proofs.Ytjdidbnmkogflaa

namespace Go.Proofs.Ytjdidbnmkogflaa
open Go.Gi Go.RowKit Go.Proofs.Ytjdidbnmkogflaa.Old
noncomputable section
set_option maxRecDepth 100000
set_option maxHeartbeats 4000000
set_option linter.unusedVariables false
set_option linter.unusedSimpArgs false
structure R39 where
  r0 : Array Value
  r1 : Nat
  r2 : Nat
  r3 : Bool
  r4 : Int
structure A39 where
  a0 : Array Value
  a1 : Nat
  a2 : Nat
  a3 : Array Value
  a4 : Nat
  a5 : Nat
  a6 : Array Value
  a7 : Nat
  a8 : Nat
  a9 : Int
  a10 : Int
  a11 : Int
  a12 : Int
  a13 : Int
noncomputable def rt39 (a0 : Array Value) (a1 : Nat) (a2 : Nat) (a3 : Array Value) (a4 : Nat) (a5 : Nat) (a6 : Array Value) (a7 : Nat) (a8 : Nat) (a9 : Int) (a10 : Int) (a11 : Int) (a12 : Int) (a13 : Int) : RT R39 :=
  .br (F20_ok a0 a1 a2 a3 a4 a5 a6 a7 a8 a9 a10)
 (.br (decide ((F20_2 a0 a1 a2 a3 a4 a5 a6 a7 a8 a9 a10) = (0 : Int)))
 (.br (F63_ok a11 (0 : Int) (IntKind.wrap .i64 ((Int.ofNat a8) - (1 : Int))))
 (.br (not (F63_0 a11 (0 : Int) (IntKind.wrap .i64 ((Int.ofNat a8) - (1 : Int)))))
 (.leaf ⟨⟨[]⟩, 0, 0, false, (4 : Int)⟩)
 (.br (decide ((F20_2 a0 a1 a2 a3 a4 a5 a6 a7 a8 a9 a10) = (0 : Int)))
 (.br (F76_ok a12)
 (.br (not (F76_0 a12))
 (.leaf ⟨⟨[]⟩, 0, 0, false, (7 : Int)⟩)
 (.br (F76_ok a13)
 (.br (not (F76_0 a13))
 (.leaf ⟨⟨[]⟩, 0, 0, false, (7 : Int)⟩)
 (.br (not (decide ((F20_2 a0 a1 a2 a3 a4 a5 a6 a7 a8 a9 a10) = (0 : Int))))
 (.leaf ⟨⟨[]⟩, 0, 0, false, (F20_2 a0 a1 a2 a3 a4 a5 a6 a7 a8 a9 a10)⟩)
 (.br (F84_ok (a0) a1 a2 (a3) a4 a5 (a6) a7 a8 a9 a10 a11)
 (.br (F90_ok (a0) a1 a2 (a3) a4 a5 (a6) a7 a8 a9 a10 (F84_0 (a0) a1 a2 (a3) a4 a5 (a6) a7 a8 a9 a10 a11) (F84_1 (a0) a1 a2 (a3) a4 a5 (a6) a7 a8 a9 a10 a11) a12 a13)
 (.leaf ⟨(F90_0 (a0) a1 a2 (a3) a4 a5 (a6) a7 a8 a9 a10 (F84_0 (a0) a1 a2 (a3) a4 a5 (a6) a7 a8 a9 a10 a11) (F84_1 (a0) a1 a2 (a3) a4 a5 (a6) a7 a8 a9 a10 a11) a12 a13), (F90_1 (a0) a1 a2 (a3) a4 a5 (a6) a7 a8 a9 a10 (F84_0 (a0) a1 a2 (a3) a4 a5 (a6) a7 a8 a9 a10 a11) (F84_1 (a0) a1 a2 (a3) a4 a5 (a6) a7 a8 a9 a10 a11) a12 a13), (F90_2 (a0) a1 a2 (a3) a4 a5 (a6) a7 a8 a9 a10 (F84_0 (a0) a1 a2 (a3) a4 a5 (a6) a7 a8 a9 a10 a11) (F84_1 (a0) a1 a2 (a3) a4 a5 (a6) a7 a8 a9 a10 a11) a12 a13), (F90_3 (a0) a1 a2 (a3) a4 a5 (a6) a7 a8 a9 a10 (F84_0 (a0) a1 a2 (a3) a4 a5 (a6) a7 a8 a9 a10 a11) (F84_1 (a0) a1 a2 (a3) a4 a5 (a6) a7 a8 a9 a10 a11) a12 a13), (0 : Int)⟩)
 (.no))
 (.no))))
 (.no)))
 (.no))
 (.br (not (decide ((F20_2 a0 a1 a2 a3 a4 a5 a6 a7 a8 a9 a10) = (0 : Int))))
 (.leaf ⟨⟨[]⟩, 0, 0, false, (F20_2 a0 a1 a2 a3 a4 a5 a6 a7 a8 a9 a10)⟩)
 (.br (F84_ok (a0) a1 a2 (a3) a4 a5 (a6) a7 a8 a9 a10 a11)
 (.br (F90_ok (a0) a1 a2 (a3) a4 a5 (a6) a7 a8 a9 a10 (F84_0 (a0) a1 a2 (a3) a4 a5 (a6) a7 a8 a9 a10 a11) (F84_1 (a0) a1 a2 (a3) a4 a5 (a6) a7 a8 a9 a10 a11) a12 a13)
 (.leaf ⟨(F90_0 (a0) a1 a2 (a3) a4 a5 (a6) a7 a8 a9 a10 (F84_0 (a0) a1 a2 (a3) a4 a5 (a6) a7 a8 a9 a10 a11) (F84_1 (a0) a1 a2 (a3) a4 a5 (a6) a7 a8 a9 a10 a11) a12 a13), (F90_1 (a0) a1 a2 (a3) a4 a5 (a6) a7 a8 a9 a10 (F84_0 (a0) a1 a2 (a3) a4 a5 (a6) a7 a8 a9 a10 a11) (F84_1 (a0) a1 a2 (a3) a4 a5 (a6) a7 a8 a9 a10 a11) a12 a13), (F90_2 (a0) a1 a2 (a3) a4 a5 (a6) a7 a8 a9 a10 (F84_0 (a0) a1 a2 (a3) a4 a5 (a6) a7 a8 a9 a10 a11) (F84_1 (a0) a1 a2 (a3) a4 a5 (a6) a7 a8 a9 a10 a11) a12 a13), (F90_3 (a0) a1 a2 (a3) a4 a5 (a6) a7 a8 a9 a10 (F84_0 (a0) a1 a2 (a3) a4 a5 (a6) a7 a8 a9 a10 a11) (F84_1 (a0) a1 a2 (a3) a4 a5 (a6) a7 a8 a9 a10 a11) a12 a13), (0 : Int)⟩)
 (.no))
 (.no)))))
 (.no))
 (.br (decide ((F20_2 a0 a1 a2 a3 a4 a5 a6 a7 a8 a9 a10) = (0 : Int)))
 (.br (F76_ok a12)
 (.br (not (F76_0 a12))
 (.leaf ⟨⟨[]⟩, 0, 0, false, (7 : Int)⟩)
 (.br (F76_ok a13)
 (.br (not (F76_0 a13))
 (.leaf ⟨⟨[]⟩, 0, 0, false, (7 : Int)⟩)
 (.br (not (decide ((F20_2 a0 a1 a2 a3 a4 a5 a6 a7 a8 a9 a10) = (0 : Int))))
 (.leaf ⟨⟨[]⟩, 0, 0, false, (F20_2 a0 a1 a2 a3 a4 a5 a6 a7 a8 a9 a10)⟩)
 (.br (F84_ok (a0) a1 a2 (a3) a4 a5 (a6) a7 a8 a9 a10 a11)
 (.br (F90_ok (a0) a1 a2 (a3) a4 a5 (a6) a7 a8 a9 a10 (F84_0 (a0) a1 a2 (a3) a4 a5 (a6) a7 a8 a9 a10 a11) (F84_1 (a0) a1 a2 (a3) a4 a5 (a6) a7 a8 a9 a10 a11) a12 a13)
 (.leaf ⟨(F90_0 (a0) a1 a2 (a3) a4 a5 (a6) a7 a8 a9 a10 (F84_0 (a0) a1 a2 (a3) a4 a5 (a6) a7 a8 a9 a10 a11) (F84_1 (a0) a1 a2 (a3) a4 a5 (a6) a7 a8 a9 a10 a11) a12 a13), (F90_1 (a0) a1 a2 (a3) a4 a5 (a6) a7 a8 a9 a10 (F84_0 (a0) a1 a2 (a3) a4 a5 (a6) a7 a8 a9 a10 a11) (F84_1 (a0) a1 a2 (a3) a4 a5 (a6) a7 a8 a9 a10 a11) a12 a13), (F90_2 (a0) a1 a2 (a3) a4 a5 (a6) a7 a8 a9 a10 (F84_0 (a0) a1 a2 (a3) a4 a5 (a6) a7 a8 a9 a10 a11) (F84_1 (a0) a1 a2 (a3) a4 a5 (a6) a7 a8 a9 a10 a11) a12 a13), (F90_3 (a0) a1 a2 (a3) a4 a5 (a6) a7 a8 a9 a10 (F84_0 (a0) a1 a2 (a3) a4 a5 (a6) a7 a8 a9 a10 a11) (F84_1 (a0) a1 a2 (a3) a4 a5 (a6) a7 a8 a9 a10 a11) a12 a13), (0 : Int)⟩)
 (.no))
 (.no))))
 (.no)))
 (.no))
 (.br (not (decide ((F20_2 a0 a1 a2 a3 a4 a5 a6 a7 a8 a9 a10) = (0 : Int))))
 (.leaf ⟨⟨[]⟩, 0, 0, false, (F20_2 a0 a1 a2 a3 a4 a5 a6 a7 a8 a9 a10)⟩)
 (.br (F84_ok (a0) a1 a2 (a3) a4 a5 (a6) a7 a8 a9 a10 a11)
 (.br (F90_ok (a0) a1 a2 (a3) a4 a5 (a6) a7 a8 a9 a10 (F84_0 (a0) a1 a2 (a3) a4 a5 (a6) a7 a8 a9 a10 a11) (F84_1 (a0) a1 a2 (a3) a4 a5 (a6) a7 a8 a9 a10 a11) a12 a13)
 (.leaf ⟨(F90_0 (a0) a1 a2 (a3) a4 a5 (a6) a7 a8 a9 a10 (F84_0 (a0) a1 a2 (a3) a4 a5 (a6) a7 a8 a9 a10 a11) (F84_1 (a0) a1 a2 (a3) a4 a5 (a6) a7 a8 a9 a10 a11) a12 a13), (F90_1 (a0) a1 a2 (a3) a4 a5 (a6) a7 a8 a9 a10 (F84_0 (a0) a1 a2 (a3) a4 a5 (a6) a7 a8 a9 a10 a11) (F84_1 (a0) a1 a2 (a3) a4 a5 (a6) a7 a8 a9 a10 a11) a12 a13), (F90_2 (a0) a1 a2 (a3) a4 a5 (a6) a7 a8 a9 a10 (F84_0 (a0) a1 a2 (a3) a4 a5 (a6) a7 a8 a9 a10 a11) (F84_1 (a0) a1 a2 (a3) a4 a5 (a6) a7 a8 a9 a10 a11) a12 a13), (F90_3 (a0) a1 a2 (a3) a4 a5 (a6) a7 a8 a9 a10 (F84_0 (a0) a1 a2 (a3) a4 a5 (a6) a7 a8 a9 a10 a11) (F84_1 (a0) a1 a2 (a3) a4 a5 (a6) a7 a8 a9 a10 a11) a12 a13), (0 : Int)⟩)
 (.no))
 (.no)))))
 (.no)
noncomputable def en39 (r : R39) : Value := (.tuple ⟨[(lstV r.r0 r.r1 r.r2 1), (.bool r.r3), (.int .i64 r.r4)]⟩)
theorem T39  (a0 : Array Value) (a1 : Nat) (a2 : Nat) (a3 : Array Value) (a4 : Nat) (a5 : Nat) (a6 : Array Value) (a7 : Nat) (a8 : Nat) (a9 : Int) (a10 : Int) (a11 : Int) (a12 : Int) (a13 : Int) : evC Try.prog (Ans.c ((p20V 21).or (p63.or (p76.or (p84.or p90))))) 60 (.call 39 ⟨[(.agg ⟨[(lstV a0 a1 a2 7), (lstV a3 a4 a5 5), (lstV a6 a7 a8 1), (.int .i64 a9), (.int .i64 a10)]⟩), (.int .i64 a11), (.int .i64 a12), (.int .i64 a13)]⟩ ⟨[], 0, []⟩) (frzK [1, 0, 0]) = (rt39 a0 a1 a2 a3 a4 a5 a6 a7 a8 a9 a10 a11 a12 a13).out (fun r => .ret (en39 r) ⟨[], 0, []⟩) := by kernel_rfl
noncomputable def F39 (a0 : Array Value) (a1 : Nat) (a2 : Nat) (a3 : Array Value) (a4 : Nat) (a5 : Nat) (a6 : Array Value) (a7 : Nat) (a8 : Nat) (a9 : Int) (a10 : Int) (a11 : Int) (a12 : Int) (a13 : Int) : Option R39 := (rt39 a0 a1 a2 a3 a4 a5 a6 a7 a8 a9 a10 a11 a12 a13).val
section
variable (a0 : Array Value) (a1 : Nat) (a2 : Nat) (a3 : Array Value) (a4 : Nat) (a5 : Nat) (a6 : Array Value) (a7 : Nat) (a8 : Nat) (a9 : Int) (a10 : Int) (a11 : Int) (a12 : Int) (a13 : Int)
noncomputable def F39_ok : Bool := (F39 a0 a1 a2 a3 a4 a5 a6 a7 a8 a9 a10 a11 a12 a13).isSome
noncomputable def F39_0 : Array Value := match F39 a0 a1 a2 a3 a4 a5 a6 a7 a8 a9 a10 a11 a12 a13 with | some r => r.r0 | none => #[]
noncomputable def F39_1 : Nat := match F39 a0 a1 a2 a3 a4 a5 a6 a7 a8 a9 a10 a11 a12 a13 with | some r => r.r1 | none => 0
noncomputable def F39_2 : Nat := match F39 a0 a1 a2 a3 a4 a5 a6 a7 a8 a9 a10 a11 a12 a13 with | some r => r.r2 | none => 0
noncomputable def F39_3 : Bool := match F39 a0 a1 a2 a3 a4 a5 a6 a7 a8 a9 a10 a11 a12 a13 with | some r => r.r3 | none => false
noncomputable def F39_4 : Int := match F39 a0 a1 a2 a3 a4 a5 a6 a7 a8 a9 a10 a11 a12 a13 with | some r => r.r4 | none => 0
end
noncomputable def dec39 : Task → Option (A39 × Hp)
  | .call g ⟨[(.agg ⟨[(.func (.via 0 ⟨[]⟩ 0 true) a0 ⟨[.slice (some ⟨0, a1, none⟩) a2 7]⟩), (.func (.via 0 ⟨[]⟩ 0 true) a3 ⟨[.slice (some ⟨0, a4, none⟩) a5 5]⟩), (.func (.via 0 ⟨[]⟩ 0 true) a6 ⟨[.slice (some ⟨0, a7, none⟩) a8 1]⟩), (.int .i64 a9), (.int .i64 a10)]⟩), (.int .i64 a11), (.int .i64 a12), (.int .i64 a13)]⟩ h => (match Nat.beq g 39 with | true => some (⟨a0, a1, a2, a3, a4, a5, a6, a7, a8, a9, a10, a11, a12, a13⟩, h) | false => none)
  | _ => none
noncomputable def alt39 (x : A39) (h : Hp) : AT := .br (F39_ok x.a0 x.a1 x.a2 x.a3 x.a4 x.a5 x.a6 x.a7 x.a8 x.a9 x.a10 x.a11 x.a12 x.a13) (.leaf (.ret (.tuple ⟨[(lstV (F39_0 x.a0 x.a1 x.a2 x.a3 x.a4 x.a5 x.a6 x.a7 x.a8 x.a9 x.a10 x.a11 x.a12 x.a13) (F39_1 x.a0 x.a1 x.a2 x.a3 x.a4 x.a5 x.a6 x.a7 x.a8 x.a9 x.a10 x.a11 x.a12 x.a13) (F39_2 x.a0 x.a1 x.a2 x.a3 x.a4 x.a5 x.a6 x.a7 x.a8 x.a9 x.a10 x.a11 x.a12 x.a13) 1), (.bool (F39_3 x.a0 x.a1 x.a2 x.a3 x.a4 x.a5 x.a6 x.a7 x.a8 x.a9 x.a10 x.a11 x.a12 x.a13)), (.int .i64 (F39_4 x.a0 x.a1 x.a2 x.a3 x.a4 x.a5 x.a6 x.a7 x.a8 x.a9 x.a10 x.a11 x.a12 x.a13))]⟩) h)) .no
noncomputable def p39 : Ans := fnAns dec39 alt39
theorem ha39 : ∀ (x : A39) (h : Hp) (o : Out), (alt39 x h).out = some o → ∃ r, (rt39 x.a0 x.a1 x.a2 x.a3 x.a4 x.a5 x.a6 x.a7 x.a8 x.a9 x.a10 x.a11 x.a12 x.a13).val = some r ∧ o = .ret (en39 r) h := by
  intro x h o e
  unfold alt39 at e
  cases hF : F39 x.a0 x.a1 x.a2 x.a3 x.a4 x.a5 x.a6 x.a7 x.a8 x.a9 x.a10 x.a11 x.a12 x.a13 with
  | none => simp [F39_ok, hF, AT.out] at e
  | some r =>
    refine ⟨r, hF, ?_⟩
    simp only [F39_ok, F39_0, F39_1, F39_2, F39_3, F39_4, hF, AT.out, Option.isSome_some, cond_true, Option.some.injEq] at e
    rw [← e]; rfl
theorem hd39 : ∀ (t : Task) (x : A39) (h : Hp), dec39 t = some (x, h) → t = .call 39 ⟨[(.agg ⟨[(lstV x.a0 x.a1 x.a2 7), (lstV x.a3 x.a4 x.a5 5), (lstV x.a6 x.a7 x.a8 1), (.int .i64 x.a9), (.int .i64 x.a10)]⟩), (.int .i64 x.a11), (.int .i64 x.a12), (.int .i64 x.a13)]⟩ h := by
  intro t x h e
  unfold dec39 at e
  split at e
  case h_2 => cases e
  split at e
  case h_2 => cases e
  rename_i hg
  simp only [Option.some.injEq, Prod.mk.injEq] at e
  obtain ⟨rfl, rfl⟩ := e
  rw [Nat.eq_of_beq_eq_true hg]
theorem known39 : Known Try.prog p39 := by
  exact Known.fn noNG mixed (Known.or (known20V (known20v known21)) (Known.or known63 (Known.or known76 (Known.or known84 known90)))) (n := 60) (zs := [1, 0, 0]) 39 (fun x : A39 => [(.agg ⟨[(lstV x.a0 x.a1 x.a2 7), (lstV x.a3 x.a4 x.a5 5), (lstV x.a6 x.a7 x.a8 1), (.int .i64 x.a9), (.int .i64 x.a10)]⟩), (.int .i64 x.a11), (.int .i64 x.a12), (.int .i64 x.a13)]) (fun x => rt39 x.a0 x.a1 x.a2 x.a3 x.a4 x.a5 x.a6 x.a7 x.a8 x.a9 x.a10 x.a11 x.a12 x.a13) en39 (fun x => T39  x.a0 x.a1 x.a2 x.a3 x.a4 x.a5 x.a6 x.a7 x.a8 x.a9 x.a10 x.a11 x.a12 x.a13) (fun x => rfl) dec39 alt39 hd39 ha39
end
end Go.Proofs.Ytjdidbnmkogflaa

