/- What CheckBands returns, the program's and the reference's. Conditions: none. -/
import Derived.Test.YtplejmmkcfmdcaaGhW7
namespace Go.Proofs.Ytplejmmkcfmdcaa
open Go.Gh Go.RowKit
noncomputable section
set_option maxRecDepth 100000

theorem all_gA {c : Array Value} (h : c.toList.all g0 = true) : c.toList.all gA = true := by
  rw [List.all_eq_true] at h ⊢
  intro x hx
  have := h x hx
  unfold gA
  split
  · simp [g0] at this
  · exact this

section
variable {P : Program} {f : FuncId} {args args1 : Array Value} {v : Value} {h : Hp}
theorem frame0 (b : Nat) (hf : Fact P (.call f args1 ⟨[.dead], 1, []⟩) (.ret v ⟨[.dead], 1, []⟩)) (hv : gr v = true) (ha : args = args1.map (ren1 fun _ => b)) (hok : args1.toList.all (okR1 1) = true) : Fact P (.call f args h) (.ret v h) := by
  refine hf.frame (fun _ => b) (Nat.le_refl 1) hv (fun i ob hi => ?_) ha hok
  cases i with
  | zero => simp only [List.getElem?_cons_zero, Option.some.injEq] at hi; exact .inl hi.symm
  | succ i => simp at hi
theorem frame1 {c : Array Value} (b : Nat) (hf : Fact P (.call f args1 ⟨[.cells c true], 1, []⟩) (.ret v ⟨[.cells c true], 1, []⟩)) (hv : gr v = true) (hg : c.toList.all g0 = true) (hc : ∃ ro, h.bl[b]? = some (.cells c ro))
    (ha : args = args1.map (ren1 fun _ => b)) (hok : args1.toList.all (okR1 1) = true) : Fact P (.call f args h) (.ret v h) := by
  refine hf.frame (fun _ => b) (Nat.le_refl 1) hv (fun i ob hi => ?_) ha hok
  cases i with
  | zero => simp only [List.getElem?_cons_zero, Option.some.injEq] at hi; exact .inr ⟨c, hi.symm, all_gA hg, hc⟩
  | succ i => simp at hi
theorem frame2 {c d : Array Value} (b b2 : Nat) (hf : Fact P (.call f args1 ⟨[.cells c true, .cells d true], 2, []⟩) (.ret v ⟨[.cells c true, .cells d true], 2, []⟩)) (hv : gr v = true) (hg : c.toList.all g0 = true) (hd : d.toList.all g0 = true)
    (hc : ∃ ro, h.bl[b]? = some (.cells c ro)) (hc2 : ∃ ro, h.bl[b2]? = some (.cells d ro)) (ha : args = args1.map (ren1 fun i => if i = 0 then b else b2)) (hok : args1.toList.all (okR1 2) = true) : Fact P (.call f args h) (.ret v h) := by
  refine hf.frame (fun i => if i = 0 then b else b2) (Nat.le_refl 2) hv (fun i ob hi => ?_) ha hok
  cases i with
  | zero => simp only [List.getElem?_cons_zero, Option.some.injEq] at hi; exact .inr ⟨c, hi.symm, all_gA hg, by simpa using hc⟩
  | succ i => cases i with
    | zero => simp only [List.getElem?_cons_succ, List.getElem?_cons_zero, Option.some.injEq] at hi; exact .inr ⟨d, hi.symm, all_gA hd, by simpa using hc2⟩
    | succ i => simp at hi
end

/-! ### What the loop finds -/
theorem cb_err {c : Array Value} {off : Nat} : ∀ {m i : Nat} {fr : Int} {a e : Int}, cb c off m i fr = some (a, e) → e = 2 ∨ e = 7
  | 0, _, _, _, _, h => by cases h
  | m + 1, i, fr, a, e, h => by
    simp only [cb] at h
    split at h
    · exact cb_err h
    · rename_i hne
      simp only [Option.some.injEq, Prod.mk.injEq] at h
      obtain ⟨_, rfl⟩ := h
      unfold ckB at hne ⊢
      split
      · exact .inl rfl
      · split
        · exact .inr rfl
        · rename_i h1 h2; rw [if_neg h1, if_neg h2] at hne; exact absurd rfl hne
theorem cb_none {c : Array Value} {off : Nat} : ∀ {m i : Nat} {fr : Int}, cb c off m i fr = none → ∀ k, i ≤ k → k < i + m → ckB c (off + k * 6) (if k = i then fr else getInt c (off + (k - 1) * 6 + 1)) = 0
  | 0, _, _, _, k, h1, h2 => absurd h2 (by omega)
  | m + 1, i, fr, h, k, h1, h2 => by
    simp only [cb] at h
    split at h
    · rename_i he
      by_cases hk : k = i
      · subst hk; rw [if_pos rfl]; exact he
      · have := cb_none h k (by omega) (by omega)
        rw [if_neg hk]
        by_cases hk2 : k = i + 1
        · subst hk2; rw [if_pos rfl] at this; exact this
        · rw [if_neg hk2] at this; exact this
    · cases h
theorem ck_ok {c : Array Value} {x : Nat} {fr : Int} (h : ckB c x fr = 0) : getInt c x = fr ∧ getInt c x < getInt c (x + 1) := by
  unfold ckB at h
  split at h
  · cases h
  · rename_i h1
    split at h
    · cases h
    · rename_i h2
      simp only [not_or, ne_eq, Decidable.not_not] at h1 h2
      exact ⟨h1, by omega⟩

/-- What bands without an error are. -/
structure Bands (c : Array Value) (off n : Nat) : Prop where
  pos : 1 ≤ n
  few : n ≤ 20
  low : getInt c off = 0
  from_ : ∀ k, k + 1 < n → getInt c (off + (k + 1) * 6) = getInt c (off + k * 6 + 1)
  up : ∀ k, k < n → getInt c (off + k * 6) < getInt c (off + k * 6 + 1)
theorem bands_of {c : Array Value} {off n : Nat} (h : cbR2 c off n = 0) : Bands c off n := by
  unfold cbR2 at h
  split at h
  · cases h
  · rename_i hn
    have h0 : cb c off n 0 0 = none := by
      cases hc : cb c off n 0 0 with
      | none => rfl
      | some p =>
        obtain ⟨a, e⟩ := p
        unfold cbE at h
        rw [hc] at h
        simp only [Option.getD_some] at h
        subst h
        rcases cb_err hc with h | h <;> cases h
    have hk := cb_none h0
    refine ⟨by omega, by omega, ?_, ?_, ?_⟩
    · have := (ck_ok (hk 0 (Nat.le_refl 0) (by omega))).1
      simpa using this
    · intro k hkn
      have := (ck_ok (hk (k + 1) (Nat.zero_le _) (by omega))).1
      rw [if_neg (by omega)] at this
      simpa using this
    · intro k hkn
      exact (ck_ok (hk k (Nat.zero_le _) (by omega))).2
theorem cbR2_val (c : Array Value) (off n : Nat) : cbR2 c off n = 0 ∨ cbR2 c off n = 2 ∨ cbR2 c off n = 3 ∨ cbR2 c off n = 7 := by
  unfold cbR2
  split
  · exact .inr (.inr (.inl rfl))
  · unfold cbE
    cases hc : cb c off n 0 0 with
    | none => exact .inl rfl
    | some p =>
      obtain ⟨a, e⟩ := p
      rcases cb_err hc with h | h
      · exact .inr (.inl h)
      · exact .inr (.inr (.inr h))
theorem cbR1_zero (c : Array Value) (off : Nat) : cbR1 c off 0 = 0 := by unfold cbR1; rw [if_pos (by omega)]
theorem cbR2_zero (c : Array Value) (off : Nat) : cbR2 c off 0 = 3 := by unfold cbR2; rw [if_pos (by omega)]

/-! ### The calls -/
theorem tree25c (J : Task → List Value) (off : Nat) (c : Array Value) (n : Nat) :
    evC Try.prog (sh25.ans J).c 60 (.call 25 ⟨[.slice (some ⟨0, off, none⟩) n 6]⟩ ⟨[.cells c true], 1, []⟩) some =
    cond (decide ((Int.ofNat n) < (1 : Int)))
    (some (Out.ret (Value.tuple ⟨[(Value.int .i64 (0 : Int)), (Value.int .i64 (3 : Int))]⟩) (Hp.mk [(Ob.cells c true)] 1 [])))
    (cond (decide ((20 : Int) < (Int.ofNat n)))
     (some (Out.ret (Value.tuple ⟨[(Value.int .i64 (0 : Int)), (Value.int .i64 (3 : Int))]⟩) (Hp.mk [(Ob.cells c true)] 1 [])))
     (cond (eqCode (theLoop Try.prog 25 0) (theLoop Try.prog 25 0))
      (cond (ok25 off c n (0 : Int) (Int.ofNat n))
       (cond (cbB c off (n - 0) 0 (0 : Int))
        (some (Out.ret (Value.tuple ⟨[(Value.int .i64 (cbI c off (n - 0) 0 (0 : Int))), (Value.int .i64 (cbE c off (n - 0) 0 (0 : Int)))]⟩) (Hp.mk [(Ob.cells c true)] 1 [])))
        (some (Out.ret (Value.tuple ⟨[(Value.int .i64 (0 : Int)), (Value.int .i64 (0 : Int))]⟩) (Hp.mk [(Ob.cells c true)] 1 []))))
       (none))
      (none))) := by kernel_rfl
theorem tree25z (a : Option Addr) (sz : Nat) (h : Hp) :
    evC Try.prog (fun _ _ => none) 60 (.call 25 ⟨[.slice a 0 sz]⟩ h) some =
    some (Out.ret (Value.tuple ⟨[(Value.int .i64 (0 : Int)), (Value.int .i64 (3 : Int))]⟩) h) := by kernel_rfl
theorem tree26c (J : Task → List Value) (off : Nat) (c : Array Value) (n : Nat) :
    evC Try.prog (sh26.ans J).c 60 (.call 26 ⟨[.slice (some ⟨0, off, none⟩) n 6]⟩ ⟨[.cells c true], 1, []⟩) some =
    cond (decide ((1 : Int) ≤ (Int.ofNat n)))
    (cond (not (decide ((Int.ofNat n) ≤ (20 : Int))))
     (some (Out.ret (Value.tuple ⟨[(Value.int .i64 (0 : Int)), (Value.int .i64 (3 : Int))]⟩) (Hp.mk [(Ob.cells c true)] 1 [])))
     (cond (eqCode (theLoop Try.prog 26 0) (theLoop Try.prog 26 0))
      (cond (ok26 off c n (0 : Int))
       (cond (cbB c off (n - 0) 0 (frOfI c off 0))
        (some (Out.ret (Value.tuple ⟨[(Value.int .i64 (cbI c off (n - 0) 0 (frOfI c off 0))), (Value.int .i64 (cbE c off (n - 0) 0 (frOfI c off 0)))]⟩) (Hp.mk [(Ob.cells c true)] 1 [])))
        (some (Out.ret (Value.tuple ⟨[(Value.int .i64 (0 : Int)), (Value.int .i64 (0 : Int))]⟩) (Hp.mk [(Ob.cells c true)] 1 []))))
       (none))
      (none)))
    (some (Out.ret (Value.tuple ⟨[(Value.int .i64 (0 : Int)), (Value.int .i64 (3 : Int))]⟩) (Hp.mk [(Ob.cells c true)] 1 []))) := by kernel_rfl
theorem tree26z (a : Option Addr) (sz : Nat) (h : Hp) :
    evC Try.prog (fun _ _ => none) 60 (.call 26 ⟨[.slice a 0 sz]⟩ h) some =
    some (Out.ret (Value.tuple ⟨[(Value.int .i64 (0 : Int)), (Value.int .i64 (3 : Int))]⟩) h) := by kernel_rfl
theorem tree72c (J : Task → List Value) (off : Nat) (c : Array Value) (n : Nat) (b0 b1 b2 b3 b4 b5 : Int) :
    evC Try.prog (sh72.ans J).c 60 (.call 72 ⟨[.slice (some ⟨0, off, none⟩) n 6, .agg ⟨[.int .i64 b0, .int .i64 b1, .int .i64 b2, .int .i64 b3, .int .i64 b4, .int .i64 b5]⟩]⟩ ⟨[.cells c true], 1, []⟩) some =
    cond (eqCode (theLoop Try.prog 72 0) (theLoop Try.prog 72 0))
    (cond (ok27 off c n (0 : Int) (Int.ofNat n))
     (cond (cvB c off b0 b1 b2 b3 b4 b5 (n - 0) 0)
      (some (Out.ret (Value.bool false) (Hp.mk [(Ob.cells c true)] 1 [])))
      (some (Out.ret (Value.bool true) (Hp.mk [(Ob.cells c true)] 1 []))))
     (none))
    (none) := by kernel_rfl
theorem tree72z (a : Option Addr) (sz : Nat) (b0 b1 b2 b3 b4 b5 : Int) :
    evC Try.prog (fun _ _ => none) 60 (.call 72 ⟨[.slice a 0 sz, .agg ⟨[.int .i64 b0, .int .i64 b1, .int .i64 b2, .int .i64 b3, .int .i64 b4, .int .i64 b5]⟩]⟩ ⟨[.dead], 1, []⟩) some =
    some (Out.ret (Value.bool true) (Hp.mk [Ob.dead] 1 [])) := by kernel_rfl

theorem known25c : Known Try.prog (p25 25) := by
  obtain ⟨J, hJ⟩ := known25
  intro t x o h ho
  unfold p25 at h
  split at h
  case h_2 => cases h
  rename_i g a n sz hp
  split at h
  case h_2 => cases h
  rename_i hg
  obtain rfl := Nat.eq_of_beq_eq_true hg
  simp only [Option.some.injEq] at h
  subst h
  simp only [AT.out] at ho
  obtain ⟨hok, ho⟩ := cond_some ho
  simp only [Option.some.injEq] at ho
  subst ho
  rcases dec_iff.1 hok with rfl | ⟨b, off, rfl, rfl, hc, hgood⟩
  · rw [cbR1_zero, cbR2_zero]
    exact (Known.nothing _).fact noNG mixed (tree25z a sz hp)
  · refine frame1 (args1 := ⟨[.slice (some ⟨0, off, none⟩) n 6]⟩) b (hJ.fact noNG mixed (n := 60) ?_) rfl hgood.1 (cells_ok hc) (by simp [ren1, ren0, renA]) rfl
    rw [tree25c]
    simp only [arrOf, offOf, eqCode_self, cond_true, Nat.sub_zero, Int.ofNat_eq_natCast]
    by_cases h1 : n < 1
    · have : (n : Int) < 1 := by omega
      simp only [this, decide_true, cond_true, cbR1, cbR2, h1, true_or, if_true]
    · have h1' : ¬ (n : Int) < 1 := by omega
      by_cases h2 : 20 < n
      · have : (20 : Int) < n := by omega
        simp only [h1', this, decide_true, decide_false, cond_true, cond_false, cbR1, cbR2, h2, or_true, if_true]
      · have h2' : ¬ (20 : Int) < n := by omega
        have hk : ok25 off (cellsAt hp.bl b) n 0 n = true := dec_iff.2 ⟨hgood, by omega, by omega, rfl⟩
        simp only [h1', h2', decide_false, cond_true, cond_false, hk, cbR1, cbR2, h1, h2, or_self, if_false]
        cases hb : cbB (cellsAt hp.bl b) off n 0 0 with
        | true => rfl
        | false =>
          have : cb (cellsAt hp.bl b) off n 0 0 = none := by unfold cbB at hb; simpa using hb
          simp [cbI, cbE, this]

theorem known26c : Known Try.prog (p25 26) := by
  obtain ⟨J, hJ⟩ := known26
  intro t x o h ho
  unfold p25 at h
  split at h
  case h_2 => cases h
  rename_i g a n sz hp
  split at h
  case h_2 => cases h
  rename_i hg
  obtain rfl := Nat.eq_of_beq_eq_true hg
  simp only [Option.some.injEq] at h
  subst h
  simp only [AT.out] at ho
  obtain ⟨hok, ho⟩ := cond_some ho
  simp only [Option.some.injEq] at ho
  subst ho
  rcases dec_iff.1 hok with rfl | ⟨b, off, rfl, rfl, hc, hgood⟩
  · rw [cbR1_zero, cbR2_zero]
    exact (Known.nothing _).fact noNG mixed (tree26z a sz hp)
  · refine frame1 (args1 := ⟨[.slice (some ⟨0, off, none⟩) n 6]⟩) b (hJ.fact noNG mixed (n := 60) ?_) rfl hgood.1 (cells_ok hc) (by simp [ren1, ren0, renA]) rfl
    rw [tree26c]
    simp only [arrOf, offOf, eqCode_self, cond_true, Nat.sub_zero, Int.ofNat_eq_natCast]
    by_cases h1 : n < 1
    · have : ¬ (1 : Int) ≤ n := by omega
      simp only [this, decide_false, cond_false, cbR1, cbR2, h1, true_or, if_true]
    · have h1' : (1 : Int) ≤ n := by omega
      by_cases h2 : 20 < n
      · have : ¬ (n : Int) ≤ 20 := by omega
        simp only [h1', this, decide_true, decide_false, Bool.not_false, cond_true, cbR1, cbR2, h2, or_true, if_true]
      · have h2' : (n : Int) ≤ 20 := by omega
        have hk : ok26 off (cellsAt hp.bl b) n 0 = true := dec_iff.2 ⟨hgood, by omega, by omega⟩
        have hf : frOfI (cellsAt hp.bl b) off 0 = 0 := rfl
        simp only [h1', h2', decide_true, Bool.not_true, cond_true, cond_false, hk, hf, cbR1, cbR2, h1, h2, or_self, if_false]
        cases hb : cbB (cellsAt hp.bl b) off n 0 0 with
        | true => rfl
        | false =>
          have : cb (cellsAt hp.bl b) off n 0 0 = none := by unfold cbB at hb; simpa using hb
          simp [cbI, cbE, this]

theorem known25v {f : Nat} (hk : Known Try.prog (p25 f)) : Known Try.prog (p25v f) := by
  intro t x o h ho
  unfold p25v at h
  split at h
  case h_2 => cases h
  rename_i g a n sz hp
  split at h
  case h_2 => cases h
  rename_i hg
  simp only [Option.some.injEq] at h
  subst h
  simp only [AT.out] at ho
  obtain ⟨hok, ho⟩ := cond_some ho
  refine hk _ (.br (okS a n sz hp.bl) (.leaf (.ret (.tuple ⟨[.int .i64 (cbR1 (arrOf a hp.bl) (offOf a) n), .int .i64 (cbR2 (arrOf a hp.bl) (offOf a) n)]⟩) hp)) .no) o ?_ ?_
  · simp only [p25]; rw [hg]
  · simp only [AT.out, hok, cond_true]
    rw [← ho]
    rcases cbR2_val (arrOf a hp.bl) (offOf a) n with h | h | h | h <;> simp [h]

theorem known72c : Known Try.prog p72 := by
  obtain ⟨J, hJ⟩ := known72
  intro t x o h ho
  unfold p72 at h
  split at h
  case h_2 => cases h
  rename_i a n sz b0 b1 b2 b3 b4 b5 hp
  simp only [Option.some.injEq] at h
  subst h
  simp only [AT.out] at ho
  obtain ⟨hok, ho⟩ := cond_some ho
  obtain ⟨hn, ho⟩ := cond_some ho
  rw [Nat.ble_eq] at hn
  simp only [Option.some.injEq] at ho
  subst ho
  rcases dec_iff.1 hok with rfl | ⟨b, off, rfl, rfl, hc, hgood⟩
  · have e : cvB (arrOf a hp.bl) (offOf a) b0 b1 b2 b3 b4 b5 0 0 = false := rfl
    rw [e]
    cases a with
    | none => exact frame0 (args1 := ⟨[.slice none 0 sz, .agg ⟨[.int .i64 b0, .int .i64 b1, .int .i64 b2, .int .i64 b3, .int .i64 b4, .int .i64 b5]⟩]⟩) 0 ((Known.nothing _).fact noNG mixed (tree72z none sz b0 b1 b2 b3 b4 b5)) rfl (by simp [ren1, ren0, renA]) rfl
    | some x => exact frame0 (args1 := ⟨[.slice (some ⟨0, x.off, x.spot⟩) 0 sz, .agg ⟨[.int .i64 b0, .int .i64 b1, .int .i64 b2, .int .i64 b3, .int .i64 b4, .int .i64 b5]⟩]⟩) x.block ((Known.nothing _).fact noNG mixed (tree72z (some ⟨0, x.off, x.spot⟩) sz b0 b1 b2 b3 b4 b5)) rfl (by simp [ren1, ren0, renA]) rfl
  · refine frame1 (args1 := ⟨[.slice (some ⟨0, off, none⟩) n 6, .agg ⟨[.int .i64 b0, .int .i64 b1, .int .i64 b2, .int .i64 b3, .int .i64 b4, .int .i64 b5]⟩]⟩) b (hJ.fact noNG mixed (n := 60) ?_) rfl hgood.1 (cells_ok hc) (by simp [ren1, ren0, renA]) rfl
    rw [tree72c]
    have hk : ok27 off (cellsAt hp.bl b) n 0 n = true := dec_iff.2 ⟨hgood, by omega, hn, rfl⟩
    simp only [arrOf, offOf, eqCode_self, cond_true, Nat.sub_zero, Int.ofNat_eq_natCast, hk]
    cases hb : cvB (cellsAt hp.bl b) off b0 b1 b2 b3 b4 b5 n 0 <;> rfl
end
end Go.Proofs.Ytplejmmkcfmdcaa
