/- Part 12 of the texts below the claim. Conditions: none. -/
import Derived.Test.YtaglpbmnadlpgaaMg10
import Derived.Test.YtaglpbmnadlpgaaMg6
import Derived.Test.YtaglpbmnadlpgaaMg11
import Derived.Test.YtaglpbmnadlpgaaMg8
namespace Go.Proofs.Ytaglpbmnadlpgaa
open Go.Gi Go.RowKit Go.Proofs.Ytaglpbmnadlpgaa.Old
noncomputable section
set_option maxRecDepth 100000
set_option linter.unusedVariables false
set_option linter.unusedSimpArgs false
theorem getInt_arrI (L : List Int) {i : Nat} (h : i < L.length) : getInt (arrI L) i = L[i]:=by
  simp [getInt,arrI,lget_eq,h]
def ansO (c0 c : Array Value) (n n2 : Nat) (age shear lo hi tick now : Int) : Option Hd :=
  if emp (all c0 c n2 age shear lo hi tick now (chB 128 (-1))) = true then
    (match cul c0 c n2 age shear lo hi tick now n 0 with
     | [s]=>some (all c0 c n2 age shear lo hi tick now (chB 128 s))
     | _=>none)
  else some (all c0 c n2 age shear lo hi tick now (chB 128 (-1)))
section
variable {c0 c c3 : Array Value} {n n2 n3 : Nat} {age shear lo hi tick now : Int}
theorem all88 (hv : Vld c0 0 n c 0 n2 age shear) : all c0 c n2 age shear lo hi tick now (chB 88 0) = all c0 c n2 age shear lo hi tick now (chB 128 (-1)):=all_congr fun i hi=>by
  have:=hv.src i hi
  show true = !decide (getInt c (0 + i * 5) = -1)
  rw [decide_eq_false (by omega)]; rfl
theorem F92_eq (hv : Vld c0 0 n c 0 n2 age shear) (h81 : F81ok c0 0 n c 0 n2 c3 0 n3 age shear lo hi tick now = true) :
    F92 c0 0 n c 0 n2 c3 0 n3 age shear lo hi tick now = some (match ansO c0 c n n2 age shear lo hi tick now with
      | some h=>⟨h.xl,h.xh,h.yl,h.yh,true⟩
      | none=>⟨0,0,0,0,false⟩):=by
  obtain ⟨f1,f2,f3,f4⟩:=F81_of (c3:=c3) (off3:=0) (n3:=n3) (lo:=lo) (hi:=hi) (tick:=tick) (now:=now) (g:=88) (q:=0) hv
  rw [all88 hv] at f1 f2 f3 f4
  obtain ⟨m1,m2,m3,m4⟩:=F89_eq hv h81
  unfold F92 rt92 ansO
  by_cases he : emp (all c0 c n2 age shear lo hi tick now (chB 128 (-1))) = true
  · rw [if_pos he]
    unfold emp at he
    cases hc : cul c0 c n2 age shear lo hi tick now n 0 with
    | nil =>
      rw [hc] at m2 m4
      simp only [RT.val,h81,f1,f2,f3,f4,(F83_of _ _ _ _).1,(F83_of _ _ _ _).2,he,m1,m2,m3,m4,cond_true]
      rfl
    | cons s r =>
      rw [hc] at m2 m4
      cases r with
      | nil =>
        obtain ⟨q1,q2,q3,q4⟩:=F81_of (c3:=c3) (off3:=0) (n3:=n3) (lo:=lo) (hi:=hi) (tick:=tick) (now:=now) (g:=128) (q:=s) hv
        have e1 : decide (Int.ofNat [s].length = (1 : Int)) = true:=rfl
        have e2 : decide ((0 : Int) < Int.ofNat [s].length) = true:=rfl
        have e3 : isInt .i64 (arrI [s]) (0 + 0) = true:=isInt_arrI [s] (by simp)
        have e4 : getInt (arrI [s]) (0 + 0) = s:=getInt_arrI [s] (by simp)
        simp only [RT.val,h81,f1,f2,f3,f4,(F83_of _ _ _ _).1,(F83_of _ _ _ _).2,he,m1,m2,m3,m4,e1,e2,e3,e4,F121_eq,q1,q2,q3,q4,arrEq_self,decide_true,Bool.and_self,Bool.not_true,cond_true,cond_false]
      | cons s2 r =>
        have e1 : decide (Int.ofNat (s :: s2 :: r).length = (1 : Int)) = false:=by
          rw [decide_eq_false_iff_not]; simp only [List.length_cons,Int.ofNat_eq_natCast]; omega
        simp only [RT.val,h81,f1,f2,f3,f4,(F83_of _ _ _ _).1,(F83_of _ _ _ _).2,he,m1,m2,m3,m4,e1,Bool.not_false,cond_true,cond_false]
  · rw [if_neg he]
    unfold emp at he
    rw [Bool.not_eq_true] at he
    simp only [RT.val,h81,f1,f2,f3,f4,(F83_of _ _ _ _).1,(F83_of _ _ _ _).2,he,decide_true,cond_true,cond_false]
theorem cul_mem {c0 c : Array Value} {n2 : Nat} {age shear lo hi tick now s : Int} : ∀ m k,s ∈ cul c0 c n2 age shear lo hi tick now m k → emp (all c0 c n2 age shear lo hi tick now (chB 128 s)) = false
  | 0,_,h=>by simp [cul] at h
  | m + 1,k,h=>by
    unfold cul at h
    by_cases he : emp (all c0 c n2 age shear lo hi tick now (chB 128 (k : Int))) = true
    · rw [if_pos he] at h; exact cul_mem m (k + 1) h
    · rw [if_neg he] at h
      rcases List.mem_cons.1 h with rfl | h
      · rw [Bool.not_eq_true] at he; exact he
      · exact cul_mem m (k + 1) h
end
end
end Go.Proofs.Ytaglpbmnadlpgaa

namespace Go.Proofs.Ytaglpbmnadlpgaa
open Go.Gi Go.RowKit Go.Proofs.Ytaglpbmnadlpgaa.Old
noncomputable section
set_option maxRecDepth 100000
set_option linter.unusedVariables false
set_option linter.unusedSimpArgs false
section
variable (c0 c : Array Value) (age shear lo hi tick now : Int)
def nearX (k : Nat) (v : Int) : Prop:=getInt c (0 + k * 5 + 3) - dbI c0 0 c 0 age shear lo hi tick k ≤ v ∧ v ≤ getInt c (0 + k * 5 + 3) + dbI c0 0 c 0 age shear lo hi tick k
def nearY (k : Nat) (v : Int) : Prop:=getInt c (0 + k * 5 + 4) - dbI c0 0 c 0 age shear lo hi tick k ≤ v ∧ v ≤ getInt c (0 + k * 5 + 4) + dbI c0 0 c 0 age shear lo hi tick k
def inX (h : Hd) (v : Int) : Prop:=h.xl ≤ v ∧ v ≤ h.xh
def inY (h : Hd) (v : Int) : Prop:=h.yl ≤ v ∧ v ≤ h.yh
theorem hdP_inX (p : Int → Bool) (v : Int) : ∀ (m k : Nat) (s : Hd),inX (hdP c0 c age shear lo hi tick now p m k s) v ↔
    inX s v ∧ ∀ i,k ≤ i → i < k + m → knP c0 0 c 0 now i = true → p (getInt c (0 + i * 5)) = true → nearX c0 c age shear lo hi tick i v
  | 0,k,s=>by
    unfold hdP
    exact ⟨fun h=>⟨h,fun i h1 h2=>by omega⟩,fun h=>h.1⟩
  | m + 1,k,s=>by
    unfold hdP
    rw [hdP_inX p v m (k + 1)]
    by_cases hk : knP c0 0 c 0 now k = true ∧ p (getInt c (0 + k * 5)) = true
    · rw [if_pos hk]
      constructor
      · rintro ⟨h1,h2⟩
        simp only [inX,upd] at h1
        refine ⟨⟨by omega,by omega⟩,fun i hi1 hi2 a b=>?_⟩
        rcases Nat.eq_or_lt_of_le hi1 with rfl | hlt
        · exact ⟨by omega,by omega⟩
        · exact h2 i (by omega) (by omega) a b
      · rintro ⟨h1,h2⟩
        have hn:=h2 k (Nat.le_refl k) (by omega) hk.1 hk.2
        simp only [nearX] at hn
        simp only [inX] at h1
        refine ⟨?_,fun i hi1 hi2 a b=>h2 i (by omega) (by omega) a b⟩
        simp only [inX,upd]
        exact ⟨by omega,by omega⟩
    · rw [if_neg hk]
      constructor
      · rintro ⟨h1,h2⟩
        refine ⟨h1,fun i hi1 hi2 a b=>?_⟩
        rcases Nat.eq_or_lt_of_le hi1 with rfl | hlt
        · exact absurd ⟨a,b⟩ hk
        · exact h2 i (by omega) (by omega) a b
      · rintro ⟨h1,h2⟩
        exact ⟨h1,fun i hi1 hi2 a b=>h2 i (by omega) (by omega) a b⟩
theorem hdP_inY (p : Int → Bool) (v : Int) : ∀ (m k : Nat) (s : Hd),inY (hdP c0 c age shear lo hi tick now p m k s) v ↔
    inY s v ∧ ∀ i,k ≤ i → i < k + m → knP c0 0 c 0 now i = true → p (getInt c (0 + i * 5)) = true → nearY c0 c age shear lo hi tick i v
  | 0,k,s=>by
    unfold hdP
    exact ⟨fun h=>⟨h,fun i h1 h2=>by omega⟩,fun h=>h.1⟩
  | m + 1,k,s=>by
    unfold hdP
    rw [hdP_inY p v m (k + 1)]
    by_cases hk : knP c0 0 c 0 now k = true ∧ p (getInt c (0 + k * 5)) = true
    · rw [if_pos hk]
      constructor
      · rintro ⟨h1,h2⟩
        simp only [inY,upd] at h1
        refine ⟨⟨by omega,by omega⟩,fun i hi1 hi2 a b=>?_⟩
        rcases Nat.eq_or_lt_of_le hi1 with rfl | hlt
        · exact ⟨by omega,by omega⟩
        · exact h2 i (by omega) (by omega) a b
      · rintro ⟨h1,h2⟩
        have hn:=h2 k (Nat.le_refl k) (by omega) hk.1 hk.2
        simp only [nearY] at hn
        simp only [inY] at h1
        refine ⟨?_,fun i hi1 hi2 a b=>h2 i (by omega) (by omega) a b⟩
        simp only [inY,upd]
        exact ⟨by omega,by omega⟩
    · rw [if_neg hk]
      constructor
      · rintro ⟨h1,h2⟩
        refine ⟨h1,fun i hi1 hi2 a b=>?_⟩
        rcases Nat.eq_or_lt_of_le hi1 with rfl | hlt
        · exact absurd ⟨a,b⟩ hk
        · exact h2 i (by omega) (by omega) a b
      · rintro ⟨h1,h2⟩
        exact ⟨h1,fun i hi1 hi2 a b=>h2 i (by omega) (by omega) a b⟩
theorem all_inX (n2 : Nat) (p : Int → Bool) (v : Int) : inX (all c0 c n2 age shear lo hi tick now p) v ↔
    (-20000 ≤ v ∧ v ≤ 20000) ∧ ∀ i,i < n2 → knP c0 0 c 0 now i = true → p (getInt c (0 + i * 5)) = true → nearX c0 c age shear lo hi tick i v:=by
  unfold all
  rw [hdP_inX]
  exact ⟨fun h=>⟨h.1,fun i hi a b=>h.2 i (by omega) (by omega) a b⟩,fun h=>⟨h.1,fun i _ hi a b=>h.2 i (by omega) a b⟩⟩
theorem all_inY (n2 : Nat) (p : Int → Bool) (v : Int) : inY (all c0 c n2 age shear lo hi tick now p) v ↔
    (-20000 ≤ v ∧ v ≤ 20000) ∧ ∀ i,i < n2 → knP c0 0 c 0 now i = true → p (getInt c (0 + i * 5)) = true → nearY c0 c age shear lo hi tick i v:=by
  unfold all
  rw [hdP_inY]
  exact ⟨fun h=>⟨h.1,fun i hi a b=>h.2 i (by omega) (by omega) a b⟩,fun h=>⟨h.1,fun i _ hi a b=>h.2 i (by omega) a b⟩⟩
end
theorem emp_iff (h : Hd) : emp h = false ↔ h.xl ≤ h.xh ∧ h.yl ≤ h.yh:=by
  unfold emp
  rw [Bool.or_eq_false_iff,decide_eq_false_iff_not,decide_eq_false_iff_not]
  omega
def wid (a b : Hd) : Prop:=a.xl ≤ b.xl ∧ b.xh ≤ a.xh ∧ a.yl ≤ b.yl ∧ b.yh ≤ a.yh
theorem wid_of {a b : Hd} (hb : emp b = false) (hx : ∀ v,inX b v → inX a v) (hy : ∀ v,inY b v → inY a v) : emp a = false ∧ wid a b:=by
  rw [emp_iff] at hb
  have x1:=hx b.xl ⟨Int.le_refl _,hb.1⟩
  have x2:=hx b.xh ⟨hb.1,Int.le_refl _⟩
  have y1:=hy b.yl ⟨Int.le_refl _,hb.2⟩
  have y2:=hy b.yh ⟨hb.2,Int.le_refl _⟩
  simp only [inX,inY] at x1 x2 y1 y2
  exact ⟨(emp_iff a).2 ⟨by omega,by omega⟩,by omega,by omega,by omega,by omega⟩
theorem all_spW {c0 c : Array Value} {n2 : Nat} {age shear lo hi tick now : Int} {p : Int → Bool} (h : emp (all c0 c n2 age shear lo hi tick now p) = false) :
    (let H:=all c0 c n2 age shear lo hi tick now p; (H.xl ≤ H.xh ∧ -20000 ≤ H.xl ∧ H.xl ≤ 20000 ∧ -20000 ≤ H.xh ∧ H.xh ≤ 20000) ∧ (H.yl ≤ H.yh ∧ -20000 ≤ H.yl ∧ H.yl ≤ 20000 ∧ -20000 ≤ H.yh ∧ H.yh ≤ 20000)):=by
  have h':=(emp_iff _).1 h
  have x1:=((all_inX c0 c age shear lo hi tick now n2 p _).1 ⟨Int.le_refl _,h'.1⟩).1
  have x2:=((all_inX c0 c age shear lo hi tick now n2 p _).1 ⟨h'.1,Int.le_refl _⟩).1
  have y1:=((all_inY c0 c age shear lo hi tick now n2 p _).1 ⟨Int.le_refl _,h'.2⟩).1
  have y2:=((all_inY c0 c age shear lo hi tick now n2 p _).1 ⟨h'.2,Int.le_refl _⟩).1
  exact ⟨⟨h'.1,x1.1,x1.2,x2.1,x2.2⟩,⟨h'.2,y1.1,y1.2,y2.1,y2.2⟩⟩
end
end Go.Proofs.Ytaglpbmnadlpgaa

namespace Go.Proofs.Ytaglpbmnadlpgaa
open Go.Gi Go.RowKit Go.Proofs.Ytaglpbmnadlpgaa.Old
noncomputable section
set_option maxRecDepth 100000
set_option maxHeartbeats 4000000
set_option linter.unusedVariables false
set_option linter.unusedSimpArgs false
structure R105 where
  (r0:Bool)
structure A105 where
  (a0:Int)
noncomputable def rt105 (a0:Int) : RT R105 :=
  .br (decide ((-20000 : Int) ≤ a0))
 (.leaf ⟨(decide (a0 ≤ (20000 : Int)))⟩)
 (.leaf ⟨false⟩)
noncomputable def en105 (r:R105) : Value:=(.bool r.r0)
theorem T105  (a0 : Int) : evC Try.prog (Ans.c (fun _=>none : Ans)) 60 (.call 105 ⟨[(.int .i64 a0)]⟩ ⟨[],0,[]⟩) (frzK [0]) = (rt105 a0).out (fun r=>.ret (en105 r) ⟨[],0,[]⟩):=by kernel_rfl
noncomputable def F105 (a0:Int) : Option R105:=(rt105 a0).val
section
variable (a0:Int)
noncomputable def F105_ok : Bool:=(F105 a0).isSome
noncomputable def F105_0 : Bool:=match F105 a0 with | some r=>r.r0 | none=>false
end
noncomputable def dec105 : Task → Option (A105 × Hp)
  | .call g ⟨[(.int .i64 a0)]⟩ h=>(match Nat.beq g 105 with | true=>some (⟨a0⟩,h) | false=>none)
  | _=>none
noncomputable def alt105 (x:A105) (h:Hp) : AT:=.br (F105_ok x.a0) (.leaf (.ret (.bool (F105_0 x.a0)) h)) .no
noncomputable def p105 : Ans:=fnAns dec105 alt105
theorem ha105 : ∀ (x:A105) (h:Hp) (o:Out),(alt105 x h).out = some o → ∃ r,(rt105 x.a0).val = some r ∧ o = .ret (en105 r) h:=by
  intro x h o e
  unfold alt105 at e
  cases hF : F105 x.a0 with
  | none=>simp [F105_ok,hF,AT.out] at e
  | some r =>
    refine ⟨r,hF,?_⟩
    simp only [F105_ok,F105_0,hF,AT.out,Option.isSome_some,cond_true,Option.some.injEq] at e
    rw [← e]; rfl
theorem hd105 : ∀ (t:Task) (x:A105) (h:Hp),dec105 t = some (x,h) → t = .call 105 ⟨[(.int .i64 x.a0)]⟩ h:=by
  intro t x h e
  unfold dec105 at e
  split at e
  case h_2=>cases e
  split at e
  case h_2=>cases e
  rename_i hg
  simp only [Option.some.injEq,Prod.mk.injEq] at e
  obtain ⟨rfl,rfl⟩:=e
  rw [Nat.eq_of_beq_eq_true hg]
theorem known105 : Known Try.prog p105:=by
  exact Known.fn noNG mixed (Known.nothing Try.prog) (n:=60) (zs:=[0]) 105 (fun x : A105=>[(.int .i64 x.a0)]) (fun x=>rt105 x.a0) en105 (fun x=>T105  x.a0) (fun x=>rfl) dec105 alt105 hd105 ha105
end
end Go.Proofs.Ytaglpbmnadlpgaa

namespace Go.Proofs.Ytaglpbmnadlpgaa
open Go.Gi Go.RowKit Go.Proofs.Ytaglpbmnadlpgaa.Old
noncomputable section
set_option maxRecDepth 100000
set_option maxHeartbeats 4000000
set_option linter.unusedVariables false
set_option linter.unusedSimpArgs false
structure R108 where
  (r0:Bool)
structure A108 where
  (a0 a1:Int)
noncomputable def rt108 (a0 a1:Int) : RT R108 :=
  .br (decide (a0 ≤ a1))
 (.br (F105_ok a0)
 (.br (F105_0 a0)
 (.br (F105_ok a1)
 (.leaf ⟨(F105_0 a1)⟩)
 (.no))
 (.leaf ⟨false⟩))
 (.no))
 (.leaf ⟨false⟩)
noncomputable def en108 (r:R108) : Value:=(.bool r.r0)
theorem T108  (a0 a1:Int) : evC Try.prog (Ans.c p105) 60 (.call 108 ⟨[(.agg ⟨[(.int .i64 a0),(.int .i64 a1)]⟩)]⟩ ⟨[],0,[]⟩) (frzK [0]) = (rt108 a0 a1).out (fun r=>.ret (en108 r) ⟨[],0,[]⟩):=by kernel_rfl
noncomputable def F108 (a0 a1:Int) : Option R108:=(rt108 a0 a1).val
section
variable (a0 a1:Int)
noncomputable def F108_ok : Bool:=(F108 a0 a1).isSome
noncomputable def F108_0 : Bool:=match F108 a0 a1 with | some r=>r.r0 | none=>false
end
noncomputable def dec108 : Task → Option (A108 × Hp)
  | .call g ⟨[(.agg ⟨[(.int .i64 a0),(.int .i64 a1)]⟩)]⟩ h=>(match Nat.beq g 108 with | true=>some (⟨a0,a1⟩,h) | false=>none)
  | _=>none
noncomputable def alt108 (x:A108) (h:Hp) : AT:=.br (F108_ok x.a0 x.a1) (.leaf (.ret (.bool (F108_0 x.a0 x.a1)) h)) .no
noncomputable def p108 : Ans:=fnAns dec108 alt108
theorem ha108 : ∀ (x:A108) (h:Hp) (o:Out),(alt108 x h).out = some o → ∃ r,(rt108 x.a0 x.a1).val = some r ∧ o = .ret (en108 r) h:=by
  intro x h o e
  unfold alt108 at e
  cases hF : F108 x.a0 x.a1 with
  | none=>simp [F108_ok,hF,AT.out] at e
  | some r =>
    refine ⟨r,hF,?_⟩
    simp only [F108_ok,F108_0,hF,AT.out,Option.isSome_some,cond_true,Option.some.injEq] at e
    rw [← e]; rfl
theorem hd108 : ∀ (t:Task) (x:A108) (h:Hp),dec108 t = some (x,h) → t = .call 108 ⟨[(.agg ⟨[(.int .i64 x.a0),(.int .i64 x.a1)]⟩)]⟩ h:=by
  intro t x h e
  unfold dec108 at e
  split at e
  case h_2=>cases e
  split at e
  case h_2=>cases e
  rename_i hg
  simp only [Option.some.injEq,Prod.mk.injEq] at e
  obtain ⟨rfl,rfl⟩:=e
  rw [Nat.eq_of_beq_eq_true hg]
theorem known108 : Known Try.prog p108:=by
  exact Known.fn noNG mixed known105 (n:=60) (zs:=[0]) 108 (fun x : A108=>[(.agg ⟨[(.int .i64 x.a0),(.int .i64 x.a1)]⟩)]) (fun x=>rt108 x.a0 x.a1) en108 (fun x=>T108  x.a0 x.a1) (fun x=>rfl) dec108 alt108 hd108 ha108
end
end Go.Proofs.Ytaglpbmnadlpgaa

namespace Go.Proofs.Ytaglpbmnadlpgaa
open Go.Gi Go.RowKit Go.Proofs.Ytaglpbmnadlpgaa.Old
noncomputable section
set_option maxRecDepth 100000
set_option maxHeartbeats 4000000
set_option linter.unusedVariables false
set_option linter.unusedSimpArgs false
structure R68 where
  (r0:Int)
structure A68 where
  (a0 a1:Int)
  (a2 a3:Int)
  (a4 a5 a6:Int)
noncomputable def rt68 (a0 a1:Int) (a2 a3:Int) (a4 a5 a6:Int) : RT R68 :=
  .br (not (decide (a0 = a6)))
 (.leaf ⟨(2 : Int)⟩)
 (.br (decide (a1 ≤ a0))
 (.leaf ⟨(7 : Int)⟩)
 (.br (decide ((100000000 : Int) < a1))
 (.leaf ⟨(7 : Int)⟩)
 (.br (F108_ok a2 a3)
 (.br (not (F108_0 a2 a3))
 (.leaf ⟨(7 : Int)⟩)
 (.br (F108_ok a4 a5)
 (.br (not (F108_0 a4 a5))
 (.leaf ⟨(7 : Int)⟩)
 (.leaf ⟨(0 : Int)⟩))
 (.no)))
 (.no))))
noncomputable def en68 (r:R68) : Value:=(.int .i64 r.r0)
theorem T68  (a0 a1:Int) (a2 a3:Int) (a4 a5 a6:Int) : evC Try.prog (Ans.c p108) 60 (.call 68 ⟨[(.agg ⟨[(.int .i64 a0),(.int .i64 a1),(.int .i64 a2),(.int .i64 a3),(.int .i64 a4),(.int .i64 a5)]⟩),(.int .i64 a6)]⟩ ⟨[],0,[]⟩) (frzK [0]) = (rt68 a0 a1 a2 a3 a4 a5 a6).out (fun r=>.ret (en68 r) ⟨[],0,[]⟩):=by kernel_rfl
noncomputable def F68 (a0 a1:Int) (a2 a3:Int) (a4 a5 a6:Int) : Option R68:=(rt68 a0 a1 a2 a3 a4 a5 a6).val
section
variable (a0 a1:Int) (a2 a3:Int) (a4 a5 a6:Int)
noncomputable def F68_ok : Bool:=(F68 a0 a1 a2 a3 a4 a5 a6).isSome
noncomputable def F68_0 : Int:=match F68 a0 a1 a2 a3 a4 a5 a6 with | some r=>r.r0 | none=>0
end
noncomputable def dec68 : Task → Option (A68 × Hp)
  | .call g ⟨[(.agg ⟨[(.int .i64 a0),(.int .i64 a1),(.int .i64 a2),(.int .i64 a3),(.int .i64 a4),(.int .i64 a5)]⟩),(.int .i64 a6)]⟩ h=>(match Nat.beq g 68 with | true=>some (⟨a0,a1,a2,a3,a4,a5,a6⟩,h) | false=>none)
  | _=>none
noncomputable def alt68 (x:A68) (h:Hp) : AT:=.br (F68_ok x.a0 x.a1 x.a2 x.a3 x.a4 x.a5 x.a6) (.leaf (.ret (.int .i64 (F68_0 x.a0 x.a1 x.a2 x.a3 x.a4 x.a5 x.a6)) h)) .no
noncomputable def p68 : Ans:=fnAns dec68 alt68
theorem ha68 : ∀ (x:A68) (h:Hp) (o:Out),(alt68 x h).out = some o → ∃ r,(rt68 x.a0 x.a1 x.a2 x.a3 x.a4 x.a5 x.a6).val = some r ∧ o = .ret (en68 r) h:=by
  intro x h o e
  unfold alt68 at e
  cases hF : F68 x.a0 x.a1 x.a2 x.a3 x.a4 x.a5 x.a6 with
  | none=>simp [F68_ok,hF,AT.out] at e
  | some r =>
    refine ⟨r,hF,?_⟩
    simp only [F68_ok,F68_0,hF,AT.out,Option.isSome_some,cond_true,Option.some.injEq] at e
    rw [← e]; rfl
theorem hd68 : ∀ (t:Task) (x:A68) (h:Hp),dec68 t = some (x,h) → t = .call 68 ⟨[(.agg ⟨[(.int .i64 x.a0),(.int .i64 x.a1),(.int .i64 x.a2),(.int .i64 x.a3),(.int .i64 x.a4),(.int .i64 x.a5)]⟩),(.int .i64 x.a6)]⟩ h:=by
  intro t x h e
  unfold dec68 at e
  split at e
  case h_2=>cases e
  split at e
  case h_2=>cases e
  rename_i hg
  simp only [Option.some.injEq,Prod.mk.injEq] at e
  obtain ⟨rfl,rfl⟩:=e
  rw [Nat.eq_of_beq_eq_true hg]
theorem known68 : Known Try.prog p68:=by
  exact Known.fn noNG mixed known108 (n:=60) (zs:=[0]) 68 (fun x : A68=>[(.agg ⟨[(.int .i64 x.a0),(.int .i64 x.a1),(.int .i64 x.a2),(.int .i64 x.a3),(.int .i64 x.a4),(.int .i64 x.a5)]⟩),(.int .i64 x.a6)]) (fun x=>rt68 x.a0 x.a1 x.a2 x.a3 x.a4 x.a5 x.a6) en68 (fun x=>T68  x.a0 x.a1 x.a2 x.a3 x.a4 x.a5 x.a6) (fun x=>rfl) dec68 alt68 hd68 ha68
end
end Go.Proofs.Ytaglpbmnadlpgaa

namespace Go.Proofs.Ytaglpbmnadlpgaa
open Go.Gi Go.RowKit Go.Proofs.Ytaglpbmnadlpgaa.Old
noncomputable section
set_option maxRecDepth 100000
set_option maxHeartbeats 4000000
set_option linter.unusedVariables false
set_option linter.unusedSimpArgs false
structure X25_0 where
  (v0:Int)
  (v1:Array Value)
  (v2 v3:Nat)
  (v4 v5:Int)
inductive D25_0 where
  | k0 (d0 d1:Int)
  | k1
noncomputable def Lp25_0 : LoopOf X25_0 D25_0 where
  c:=(theLoop Try.prog 25 0)
  N:=33
  M:=0
  S:=[4,16,17,18]
  sl:=fun x=>[(.int .i64 x.v0),(lstV x.v1 x.v2 x.v3 6),(.int .i64 x.v4),(.int .i64 x.v5)]
  hp:=fun x=>[]
  ex:=fun d=>match d with | .k0 ..=>.ret | .k1 ..=>.exit 0
  pick:=fun e=>match e with | .ret=>[2,3] | .exit 0=>[] | _=>[]
  dv:=fun d=>match d with | .k0 d0 d1=>[(.int .i64 d0),(.int .i64 d1)] | .k1 =>[]
  dh:=fun d=>match d with | .k0 d0 d1=>[] | .k1 =>[]
theorem ok25_0 : Lp25_0.Ok:=⟨fun x=>rfl,fun x=>rfl,fun x=>rfl,fun x=>rfl,fun d=>by cases d <;> rfl,fun d=>by cases d <;> rfl,fun d=>by cases d <;> rfl,fun d=>by cases d <;> (intro h; cases h),fun d=>by cases d <;> rfl,fun d=>by cases d <;> rfl⟩
noncomputable def rd25_0 (x:X25_0) : RT (Sum X25_0 D25_0):=match x with
  | ⟨v0,v1,v2,v3,v4,v5⟩ =>
     .br (decide (v5 < v4))
     (.br (and (decide ((0 : Int) ≤ v5)) (decide (v5 < (Int.ofNat v3))))
     (.br (rdOk v1 [(Leaf.int .i64),(Leaf.int .i64),(Leaf.int .i64),(Leaf.int .i64),(Leaf.int .i64),(Leaf.int .i64)] (v2+((Int.toNat v5)*6)))
     (.br (F68_ok (getInt v1 (v2+((Int.toNat v5)*6))) (getInt v1 ((v2+((Int.toNat v5)*6))+1)) (getInt v1 (((v2+((Int.toNat v5)*6))+1)+1)) (getInt v1 ((((v2+((Int.toNat v5)*6))+1)+1)+1)) (getInt v1 (((((v2+((Int.toNat v5)*6))+1)+1)+1)+1)) (getInt v1 ((((((v2+((Int.toNat v5)*6))+1)+1)+1)+1)+1)) v0)
     (.br (not (decide ((F68_0 (getInt v1 (v2+((Int.toNat v5)*6))) (getInt v1 ((v2+((Int.toNat v5)*6))+1)) (getInt v1 (((v2+((Int.toNat v5)*6))+1)+1)) (getInt v1 ((((v2+((Int.toNat v5)*6))+1)+1)+1)) (getInt v1 (((((v2+((Int.toNat v5)*6))+1)+1)+1)+1)) (getInt v1 ((((((v2+((Int.toNat v5)*6))+1)+1)+1)+1)+1)) v0) = (0 : Int))))
     (.leaf (.inr (.k0 v5 ((F68_0 (getInt v1 (v2+((Int.toNat v5)*6))) (getInt v1 ((v2+((Int.toNat v5)*6))+1)) (getInt v1 (((v2+((Int.toNat v5)*6))+1)+1)) (getInt v1 ((((v2+((Int.toNat v5)*6))+1)+1)+1)) (getInt v1 (((((v2+((Int.toNat v5)*6))+1)+1)+1)+1)) (getInt v1 ((((((v2+((Int.toNat v5)*6))+1)+1)+1)+1)+1)) v0)))))
     (.leaf (.inl ⟨(getInt v1 ((v2+((Int.toNat v5)*6))+1)),v1,v2,v3,v4,(IntKind.wrap .i64 (v5+(1 : Int)))⟩)))
     (.no))
     (.no))
     (.no))
     (.leaf (.inr (.k1)))
theorem T25_0  (y : List Value) (v0 : Int) (v1 : Array Value) (v2 v3:Nat) (v4 v5:Int) : evC Try.prog (Ans.c p68) 60 (.code none (theLoop Try.prog 25 0) ⟨sets (junkF 33 y) [(4,(.int .i64 v0)),(16,(lstV v1 v2 v3 6)),(17,(.int .i64 v4)),(18,(.int .i64 v5))],[],⟨[],0,[]⟩⟩) (sumK 0 33 Lp25_0.pk) = (rd25_0 ⟨v0,v1,v2,v3,v4,v5⟩).out Lp25_0.enc:=by kernel_rfl
noncomputable def L25_0 (x:X25_0) : Option D25_0:=loopR rd25_0 x
section
variable (x:X25_0)
noncomputable def L25_0_k0 : Bool:=match L25_0 x with | some (.k0 ..)=>true | _=>false
noncomputable def L25_0_k0_0 : Int:=match L25_0 x with | some (.k0 d _)=>d | _=>0
noncomputable def L25_0_k0_1 : Int:=match L25_0 x with | some (.k0 _ d)=>d | _=>0
noncomputable def L25_0_k1 : Bool:=match L25_0 x with | some (.k1 ..)=>true | _=>false
end
noncomputable def dec25_0 : Task → Option (Code × X25_0)
  | .code none (.loop code) ⟨t,[],⟨[],0,[]⟩⟩ =>
    (match Nat.beq (firstReg code) 5,lenIs t 33,lget t 4,lget t 16,lget t 17,lget t 18 with
    | true,true,(.int .i64 v0),(.func (.via 0 ⟨[]⟩ 0 true) v1 ⟨[.slice (some ⟨0,v2,none⟩) v3 6]⟩),(.int .i64 v4),(.int .i64 v5)=>some (code,⟨v0,v1,v2,v3,v4,v5⟩)
    | _,_,_,_,_,_=>none)
  | _=>none
noncomputable def alt25_0 (x:X25_0) (j : List Value) : AT:=.br (L25_0_k0 x) (loopEnd 33 (.ret) [(2,(.int .i64 (L25_0_k0_0 x))),(3,(.int .i64 (L25_0_k0_1 x)))] ⟨[],0,[]⟩ j) (.br (L25_0_k1 x) (loopEnd 33 (.exit 0) [] ⟨[],0,[]⟩ j) (.no))
noncomputable def la25_0 (J : Task → List Value) : Ans:=loopAns Lp25_0.c dec25_0 alt25_0 J
theorem ha25_0 : ∀ (x:X25_0) (j : List Value) (o:Out),(alt25_0 x j).out = some o → ∃ d,loopR rd25_0 x = some d ∧ o = Lp25_0.tail d j:=by
  intro x j o h
  unfold alt25_0 at h
  cases hL : L25_0 x with
  | none=>simp [L25_0_k0,L25_0_k0_0,L25_0_k0_1,L25_0_k1,hL,AT.out] at h
  | some d =>
    refine ⟨d,hL,?_⟩
    cases d <;> (simp only [L25_0_k0,L25_0_k0_0,L25_0_k0_1,L25_0_k1,hL,AT.out,loopEnd,cond_true,cond_false,Option.some.injEq] at h; rw [← h]; rfl)
theorem hd25_0 : ∀ (t:Task) (c:Code) (x:X25_0),dec25_0 t = some (c,x) → c = Lp25_0.c → ∃ T,t = .code none (.loop Lp25_0.c) ⟨T,[],⟨Lp25_0.hp x,0,[]⟩⟩ ∧ T.length = Lp25_0.N ∧ ∀ kv ∈ Lp25_0.S.zip (Lp25_0.sl x),lget T kv.1 = kv.2:=by
  intro t c x h hc
  unfold dec25_0 at h
  split at h
  case h_2=>cases h
  split at h
  case h_2=>cases h
  simp only [Option.some.injEq,Prod.mk.injEq] at h
  obtain ⟨rfl,rfl⟩:=h
  subst hc
  refine ⟨_,rfl,lenIs_eq _ _ (by assumption),?_⟩
  intro kv hk
  simp only [Lp25_0,List.zip_cons_cons,List.zip_nil_right,List.mem_cons,List.not_mem_nil,or_false] at hk
  rcases hk with rfl | rfl | rfl | rfl <;> assumption
theorem kl25_0 : ∃ J,Known Try.prog (la25_0 J):=by
  exact LoopOf.known noNG mixed ok25_0 (by decide) (by decide) known68 (n:=60) (rd:=rd25_0) (fun x j=>T25_0  j x.v0 x.v1 x.v2 x.v3 x.v4 x.v5) dec25_0 alt25_0 hd25_0 ha25_0
structure R25 where
  (r0 r1:Int)
structure A25 where
  (a0:Array Value)
  (a1 a2:Nat)
noncomputable def rt25 (a0 : Array Value) (a1 a2:Nat) : RT R25 :=
  .br (decide ((Int.ofNat a2) < (1 : Int)))
  (.leaf ⟨(0 : Int),(3 : Int)⟩)
  (.br (decide ((20 : Int) < (Int.ofNat a2)))
   (.leaf ⟨(0 : Int),(3 : Int)⟩)
   (.br (eqCode (Lp25_0.c) (Lp25_0.c))
    (.br (L25_0_k0 (X25_0.mk (0 : Int) a0 a1 a2 (Int.ofNat a2) (0 : Int)))
     (.leaf ⟨(L25_0_k0_0 (X25_0.mk (0 : Int) a0 a1 a2 (Int.ofNat a2) (0 : Int))),(L25_0_k0_1 (X25_0.mk (0 : Int) a0 a1 a2 (Int.ofNat a2) (0 : Int)))⟩)
     (.br (L25_0_k1 (X25_0.mk (0 : Int) a0 a1 a2 (Int.ofNat a2) (0 : Int)))
     (.leaf ⟨(0 : Int),(0 : Int)⟩)
     (.no)))
    (.no)))
noncomputable def en25 (r:R25) : Value:=(.tuple ⟨[(.int .i64 r.r0),(.int .i64 r.r1)]⟩)
theorem T25 (J0 : Task → List Value) (a0 : Array Value) (a1 a2:Nat) : evC Try.prog (Ans.c (p68.or (la25_0 J0))) 60 (.call 25 ⟨[(lstV a0 a1 a2 6)]⟩ ⟨[],0,[]⟩) (frzK [0,0]) = (rt25 a0 a1 a2).out (fun r=>.ret (en25 r) ⟨[],0,[]⟩):=by kernel_rfl
noncomputable def F25 (a0 : Array Value) (a1 a2:Nat) : Option R25:=(rt25 a0 a1 a2).val
section
variable (a0 : Array Value) (a1 a2:Nat)
noncomputable def F25_ok : Bool:=(F25 a0 a1 a2).isSome
noncomputable def F25_0 : Int:=match F25 a0 a1 a2 with | some r=>r.r0 | none=>0
noncomputable def F25_1 : Int:=match F25 a0 a1 a2 with | some r=>r.r1 | none=>0
end
noncomputable def dec25 : Task → Option (A25 × Hp)
  | .call g ⟨[(.func (.via 0 ⟨[]⟩ 0 true) a0 ⟨[.slice (some ⟨0,a1,none⟩) a2 6]⟩)]⟩ h=>(match Nat.beq g 25 with | true=>some (⟨a0,a1,a2⟩,h) | false=>none)
  | _=>none
noncomputable def alt25 (x:A25) (h:Hp) : AT:=.br (F25_ok x.a0 x.a1 x.a2) (.leaf (.ret (.tuple ⟨[(.int .i64 (F25_0 x.a0 x.a1 x.a2)),(.int .i64 (F25_1 x.a0 x.a1 x.a2))]⟩) h)) .no
noncomputable def p25 : Ans:=fnAns dec25 alt25
theorem ha25 : ∀ (x:A25) (h:Hp) (o:Out),(alt25 x h).out = some o → ∃ r,(rt25 x.a0 x.a1 x.a2).val = some r ∧ o = .ret (en25 r) h:=by
  intro x h o e
  unfold alt25 at e
  cases hF : F25 x.a0 x.a1 x.a2 with
  | none=>simp [F25_ok,hF,AT.out] at e
  | some r =>
    refine ⟨r,hF,?_⟩
    simp only [F25_ok,F25_0,F25_1,hF,AT.out,Option.isSome_some,cond_true,Option.some.injEq] at e
    rw [← e]; rfl
theorem hd25 : ∀ (t:Task) (x:A25) (h:Hp),dec25 t = some (x,h) → t = .call 25 ⟨[(lstV x.a0 x.a1 x.a2 6)]⟩ h:=by
  intro t x h e
  unfold dec25 at e
  split at e
  case h_2=>cases e
  split at e
  case h_2=>cases e
  rename_i hg
  simp only [Option.some.injEq,Prod.mk.injEq] at e
  obtain ⟨rfl,rfl⟩:=e
  rw [Nat.eq_of_beq_eq_true hg]
theorem known25 : Known Try.prog p25:=by
  obtain ⟨J0,hJ0⟩:=kl25_0
  exact Known.fn noNG mixed (Known.or known68 hJ0) (n:=60) (zs:=[0,0]) 25 (fun x : A25=>[(lstV x.a0 x.a1 x.a2 6)]) (fun x=>rt25 x.a0 x.a1 x.a2) en25 (fun x=>T25 J0 x.a0 x.a1 x.a2) (fun x=>rfl) dec25 alt25 hd25 ha25
end
end Go.Proofs.Ytaglpbmnadlpgaa

namespace Go.Proofs.Ytaglpbmnadlpgaa
open Go.Gi Go.RowKit Go.Proofs.Ytaglpbmnadlpgaa.Old
noncomputable section
set_option maxRecDepth 100000
set_option maxHeartbeats 4000000
set_option linter.unusedVariables false
set_option linter.unusedSimpArgs false
structure R109 where
  (r0:Bool)
structure A109 where
  (a0 a1:Int)
  (a2 a3:Int)
noncomputable def rt109 (a0 a1:Int) (a2 a3:Int) : RT R109 :=
  .br (decide (a2 ≤ a0))
 (.leaf ⟨(decide (a1 ≤ a3))⟩)
 (.leaf ⟨false⟩)
noncomputable def en109 (r:R109) : Value:=(.bool r.r0)
theorem T109  (a0 a1:Int) (a2 a3:Int) : evC Try.prog (Ans.c (fun _=>none : Ans)) 60 (.call 109 ⟨[(.agg ⟨[(.int .i64 a0),(.int .i64 a1)]⟩),(.agg ⟨[(.int .i64 a2),(.int .i64 a3)]⟩)]⟩ ⟨[],0,[]⟩) (frzK [0]) = (rt109 a0 a1 a2 a3).out (fun r=>.ret (en109 r) ⟨[],0,[]⟩):=by kernel_rfl
noncomputable def F109 (a0 a1:Int) (a2 a3:Int) : Option R109:=(rt109 a0 a1 a2 a3).val
section
variable (a0 a1:Int) (a2 a3:Int)
noncomputable def F109_ok : Bool:=(F109 a0 a1 a2 a3).isSome
noncomputable def F109_0 : Bool:=match F109 a0 a1 a2 a3 with | some r=>r.r0 | none=>false
end
noncomputable def dec109 : Task → Option (A109 × Hp)
  | .call g ⟨[(.agg ⟨[(.int .i64 a0),(.int .i64 a1)]⟩),(.agg ⟨[(.int .i64 a2),(.int .i64 a3)]⟩)]⟩ h=>(match Nat.beq g 109 with | true=>some (⟨a0,a1,a2,a3⟩,h) | false=>none)
  | _=>none
noncomputable def alt109 (x:A109) (h:Hp) : AT:=.br (F109_ok x.a0 x.a1 x.a2 x.a3) (.leaf (.ret (.bool (F109_0 x.a0 x.a1 x.a2 x.a3)) h)) .no
noncomputable def p109 : Ans:=fnAns dec109 alt109
theorem ha109 : ∀ (x:A109) (h:Hp) (o:Out),(alt109 x h).out = some o → ∃ r,(rt109 x.a0 x.a1 x.a2 x.a3).val = some r ∧ o = .ret (en109 r) h:=by
  intro x h o e
  unfold alt109 at e
  cases hF : F109 x.a0 x.a1 x.a2 x.a3 with
  | none=>simp [F109_ok,hF,AT.out] at e
  | some r =>
    refine ⟨r,hF,?_⟩
    simp only [F109_ok,F109_0,hF,AT.out,Option.isSome_some,cond_true,Option.some.injEq] at e
    rw [← e]; rfl
theorem hd109 : ∀ (t:Task) (x:A109) (h:Hp),dec109 t = some (x,h) → t = .call 109 ⟨[(.agg ⟨[(.int .i64 x.a0),(.int .i64 x.a1)]⟩),(.agg ⟨[(.int .i64 x.a2),(.int .i64 x.a3)]⟩)]⟩ h:=by
  intro t x h e
  unfold dec109 at e
  split at e
  case h_2=>cases e
  split at e
  case h_2=>cases e
  rename_i hg
  simp only [Option.some.injEq,Prod.mk.injEq] at e
  obtain ⟨rfl,rfl⟩:=e
  rw [Nat.eq_of_beq_eq_true hg]
theorem known109 : Known Try.prog p109:=by
  exact Known.fn noNG mixed (Known.nothing Try.prog) (n:=60) (zs:=[0]) 109 (fun x : A109=>[(.agg ⟨[(.int .i64 x.a0),(.int .i64 x.a1)]⟩),(.agg ⟨[(.int .i64 x.a2),(.int .i64 x.a3)]⟩)]) (fun x=>rt109 x.a0 x.a1 x.a2 x.a3) en109 (fun x=>T109  x.a0 x.a1 x.a2 x.a3) (fun x=>rfl) dec109 alt109 hd109 ha109
end
end Go.Proofs.Ytaglpbmnadlpgaa

namespace Go.Proofs.Ytaglpbmnadlpgaa
open Go.Gi Go.RowKit Go.Proofs.Ytaglpbmnadlpgaa.Old
noncomputable section
set_option maxRecDepth 100000
set_option maxHeartbeats 4000000
set_option linter.unusedVariables false
set_option linter.unusedSimpArgs false
structure X72_0 where
  (v0:Array Value)
  (v1 v2:Nat)
  (v3 v4:Int)
  (v5 v6:Int)
  (v7 v8:Int)
  (v9 v10:Int)
inductive D72_0 where
  | k0 (d0:Bool) (d1 d2:Int) (d3 d4:Int) (d5 d6:Int)
  | k1 (d0 d1:Int) (d2 d3:Int) (d4 d5:Int)
noncomputable def Lp72_0 : LoopOf X72_0 D72_0 where
  c:=(theLoop Try.prog 72 0)
  N:=43
  M:=1
  S:=[3,8,9,10]
  sl:=fun x=>[(Value.pointer (Option.some (Addr.mk 0 0 Option.none))),(lstV x.v0 x.v1 x.v2 6),(.int .i64 x.v3),(.int .i64 x.v4)]
  hp:=fun x=>[.cells ⟨[(.int .i64 x.v5),(.int .i64 x.v6),(.int .i64 x.v7),(.int .i64 x.v8),(.int .i64 x.v9),(.int .i64 x.v10)]⟩ false]
  ex:=fun d=>match d with | .k0 ..=>.ret | .k1 ..=>.exit 0
  pick:=fun e=>match e with | .ret=>[4] | .exit 0=>[] | _=>[]
  dv:=fun d=>match d with | .k0 d0 d1 d2 d3 d4 d5 d6=>[(.bool d0)] | .k1 d0 d1 d2 d3 d4 d5=>[]
  dh:=fun d=>match d with | .k0 d0 d1 d2 d3 d4 d5 d6=>[.cells ⟨[(.int .i64 d1),(.int .i64 d2),(.int .i64 d3),(.int .i64 d4),(.int .i64 d5),(.int .i64 d6)]⟩ false] | .k1 d0 d1 d2 d3 d4 d5=>[.cells ⟨[(.int .i64 d0),(.int .i64 d1),(.int .i64 d2),(.int .i64 d3),(.int .i64 d4),(.int .i64 d5)]⟩ false]
theorem ok72_0 : Lp72_0.Ok:=⟨fun x=>rfl,fun x=>rfl,fun x=>rfl,fun x=>rfl,fun d=>by cases d <;> rfl,fun d=>by cases d <;> rfl,fun d=>by cases d <;> rfl,fun d=>by cases d <;> (intro h; cases h),fun d=>by cases d <;> rfl,fun d=>by cases d <;> rfl⟩
noncomputable def rd72_0 (x:X72_0) : RT (Sum X72_0 D72_0):=match x with
  | ⟨v0,v1,v2,v3,v4,v5,v6,v7,v8,v9,v10⟩ =>
     .br (decide (v4 < v3))
     (.br (and (decide ((0 : Int) ≤ v4)) (decide (v4 < (Int.ofNat v2))))
     (.br (rdOk v0 [(Leaf.int .i64),(Leaf.int .i64),(Leaf.int .i64),(Leaf.int .i64),(Leaf.int .i64),(Leaf.int .i64)] (v1+((Int.toNat v4)*6)))
     (.br (decide ((getInt v0 (v1+((Int.toNat v4)*6))) < v6))
     (.br (decide (v5 < (getInt v0 ((v1+((Int.toNat v4)*6))+1))))
     (.br (F109_ok v7 v8 (getInt v0 (((v1+((Int.toNat v4)*6))+1)+1)) (getInt v0 ((((v1+((Int.toNat v4)*6))+1)+1)+1)))
     (.br (F109_0 v7 v8 (getInt v0 (((v1+((Int.toNat v4)*6))+1)+1)) (getInt v0 ((((v1+((Int.toNat v4)*6))+1)+1)+1)))
     (.br (F109_ok v9 v10 (getInt v0 (((((v1+((Int.toNat v4)*6))+1)+1)+1)+1)) (getInt v0 ((((((v1+((Int.toNat v4)*6))+1)+1)+1)+1)+1)))
     (.br (not (F109_0 v9 v10 (getInt v0 (((((v1+((Int.toNat v4)*6))+1)+1)+1)+1)) (getInt v0 ((((((v1+((Int.toNat v4)*6))+1)+1)+1)+1)+1))))
     (.leaf (.inr (.k0 false v5 v6 v7 v8 v9 v10)))
     (.leaf (.inl ⟨v0,v1,v2,v3,(IntKind.wrap .i64 (v4+(1 : Int))),v5,v6,v7,v8,v9,v10⟩)))
     (.no))
     (.leaf (.inr (.k0 false v5 v6 v7 v8 v9 v10))))
     (.no))
     (.leaf (.inl ⟨v0,v1,v2,v3,(IntKind.wrap .i64 (v4+(1 : Int))),v5,v6,v7,v8,v9,v10⟩)))
     (.leaf (.inl ⟨v0,v1,v2,v3,(IntKind.wrap .i64 (v4+(1 : Int))),v5,v6,v7,v8,v9,v10⟩)))
     (.no))
     (.no))
     (.leaf (.inr (.k1 v5 v6 v7 v8 v9 v10)))
theorem T72_0  (y : List Value) (v0 : Array Value) (v1 v2:Nat) (v3 v4:Int) (v5 v6:Int) (v7 v8:Int) (v9 v10:Int) : evC Try.prog (Ans.c p109) 60 (.code none (theLoop Try.prog 72 0) ⟨sets (junkF 43 y) [(3,(Value.pointer (some (Addr.mk 0 0 none)))),(8,(lstV v0 v1 v2 6)),(9,(.int .i64 v3)),(10,(.int .i64 v4))],[],⟨[.cells ⟨[(.int .i64 v5),(.int .i64 v6),(.int .i64 v7),(.int .i64 v8),(.int .i64 v9),(.int .i64 v10)]⟩ false],0,[]⟩⟩) (sumK 1 43 Lp72_0.pk) = (rd72_0 ⟨v0,v1,v2,v3,v4,v5,v6,v7,v8,v9,v10⟩).out Lp72_0.enc:=by kernel_rfl
noncomputable def L72_0 (x:X72_0) : Option D72_0:=loopR rd72_0 x
section
variable (x:X72_0)
noncomputable def L72_0_k0 : Bool:=match L72_0 x with | some (.k0 ..)=>true | _=>false
noncomputable def L72_0_k0_0 : Bool:=match L72_0 x with | some (.k0 d _ _ _ _ _ _)=>d | _=>false
noncomputable def L72_0_k0_1 : Int:=match L72_0 x with | some (.k0 _ d _ _ _ _ _)=>d | _=>0
noncomputable def L72_0_k0_2 : Int:=match L72_0 x with | some (.k0 _ _ d _ _ _ _)=>d | _=>0
noncomputable def L72_0_k0_3 : Int:=match L72_0 x with | some (.k0 _ _ _ d _ _ _)=>d | _=>0
noncomputable def L72_0_k0_4 : Int:=match L72_0 x with | some (.k0 _ _ _ _ d _ _)=>d | _=>0
noncomputable def L72_0_k0_5 : Int:=match L72_0 x with | some (.k0 _ _ _ _ _ d _)=>d | _=>0
noncomputable def L72_0_k0_6 : Int:=match L72_0 x with | some (.k0 _ _ _ _ _ _ d)=>d | _=>0
noncomputable def L72_0_k1 : Bool:=match L72_0 x with | some (.k1 ..)=>true | _=>false
noncomputable def L72_0_k1_0 : Int:=match L72_0 x with | some (.k1 d _ _ _ _ _)=>d | _=>0
noncomputable def L72_0_k1_1 : Int:=match L72_0 x with | some (.k1 _ d _ _ _ _)=>d | _=>0
noncomputable def L72_0_k1_2 : Int:=match L72_0 x with | some (.k1 _ _ d _ _ _)=>d | _=>0
noncomputable def L72_0_k1_3 : Int:=match L72_0 x with | some (.k1 _ _ _ d _ _)=>d | _=>0
noncomputable def L72_0_k1_4 : Int:=match L72_0 x with | some (.k1 _ _ _ _ d _)=>d | _=>0
noncomputable def L72_0_k1_5 : Int:=match L72_0 x with | some (.k1 _ _ _ _ _ d)=>d | _=>0
end
noncomputable def dec72_0 : Task → Option (Code × X72_0)
  | .code none (.loop code) ⟨t,[],⟨[.cells ⟨[(.int .i64 v5),(.int .i64 v6),(.int .i64 v7),(.int .i64 v8),(.int .i64 v9),(.int .i64 v10)]⟩ false],0,[]⟩⟩ =>
    (match Nat.beq (firstReg code) 2,lenIs t 43,lget t 3,lget t 8,lget t 9,lget t 10 with
    | true,true,(Value.pointer (Option.some (Addr.mk 0 0 Option.none))),(.func (.via 0 ⟨[]⟩ 0 true) v0 ⟨[.slice (some ⟨0,v1,none⟩) v2 6]⟩),(.int .i64 v3),(.int .i64 v4)=>some (code,⟨v0,v1,v2,v3,v4,v5,v6,v7,v8,v9,v10⟩)
    | _,_,_,_,_,_=>none)
  | _=>none
noncomputable def alt72_0 (x:X72_0) (j : List Value) : AT:=.br (L72_0_k0 x) (loopEnd 43 (.ret) [(4,(.bool (L72_0_k0_0 x)))] ⟨[.cells ⟨[(.int .i64 (L72_0_k0_1 x)),(.int .i64 (L72_0_k0_2 x)),(.int .i64 (L72_0_k0_3 x)),(.int .i64 (L72_0_k0_4 x)),(.int .i64 (L72_0_k0_5 x)),(.int .i64 (L72_0_k0_6 x))]⟩ false],0,[]⟩ j) (.br (L72_0_k1 x) (loopEnd 43 (.exit 0) [] ⟨[.cells ⟨[(.int .i64 (L72_0_k1_0 x)),(.int .i64 (L72_0_k1_1 x)),(.int .i64 (L72_0_k1_2 x)),(.int .i64 (L72_0_k1_3 x)),(.int .i64 (L72_0_k1_4 x)),(.int .i64 (L72_0_k1_5 x))]⟩ false],0,[]⟩ j) (.no))
noncomputable def la72_0 (J : Task → List Value) : Ans:=loopAns Lp72_0.c dec72_0 alt72_0 J
theorem ha72_0 : ∀ (x:X72_0) (j : List Value) (o:Out),(alt72_0 x j).out = some o → ∃ d,loopR rd72_0 x = some d ∧ o = Lp72_0.tail d j:=by
  intro x j o h
  unfold alt72_0 at h
  cases hL : L72_0 x with
  | none=>simp [L72_0_k0,L72_0_k0_0,L72_0_k0_1,L72_0_k0_2,L72_0_k0_3,L72_0_k0_4,L72_0_k0_5,L72_0_k0_6,L72_0_k1,L72_0_k1_0,L72_0_k1_1,L72_0_k1_2,L72_0_k1_3,L72_0_k1_4,L72_0_k1_5,hL,AT.out] at h
  | some d =>
    refine ⟨d,hL,?_⟩
    cases d <;> (simp only [L72_0_k0,L72_0_k0_0,L72_0_k0_1,L72_0_k0_2,L72_0_k0_3,L72_0_k0_4,L72_0_k0_5,L72_0_k0_6,L72_0_k1,L72_0_k1_0,L72_0_k1_1,L72_0_k1_2,L72_0_k1_3,L72_0_k1_4,L72_0_k1_5,hL,AT.out,loopEnd,cond_true,cond_false,Option.some.injEq] at h; rw [← h]; rfl)
theorem hd72_0 : ∀ (t:Task) (c:Code) (x:X72_0),dec72_0 t = some (c,x) → c = Lp72_0.c → ∃ T,t = .code none (.loop Lp72_0.c) ⟨T,[],⟨Lp72_0.hp x,0,[]⟩⟩ ∧ T.length = Lp72_0.N ∧ ∀ kv ∈ Lp72_0.S.zip (Lp72_0.sl x),lget T kv.1 = kv.2:=by
  intro t c x h hc
  unfold dec72_0 at h
  split at h
  case h_2=>cases h
  split at h
  case h_2=>cases h
  simp only [Option.some.injEq,Prod.mk.injEq] at h
  obtain ⟨rfl,rfl⟩:=h
  subst hc
  refine ⟨_,rfl,lenIs_eq _ _ (by assumption),?_⟩
  intro kv hk
  simp only [Lp72_0,List.zip_cons_cons,List.zip_nil_right,List.mem_cons,List.not_mem_nil,or_false] at hk
  rcases hk with rfl | rfl | rfl | rfl <;> assumption
theorem kl72_0 : ∃ J,Known Try.prog (la72_0 J):=by
  exact LoopOf.known noNG mixed ok72_0 (by decide) (by decide) known109 (n:=60) (rd:=rd72_0) (fun x j=>T72_0  j x.v0 x.v1 x.v2 x.v3 x.v4 x.v5 x.v6 x.v7 x.v8 x.v9 x.v10) dec72_0 alt72_0 hd72_0 ha72_0
structure R72 where
  (r0:Bool)
structure A72 where
  (a0:Array Value)
  (a1 a2:Nat)
  (a3 a4:Int)
  (a5 a6:Int)
  (a7 a8:Int)
noncomputable def rt72 (a0 : Array Value) (a1 a2:Nat) (a3 a4:Int) (a5 a6:Int) (a7 a8:Int) : RT R72 :=
  .br (eqCode (Lp72_0.c) (Lp72_0.c))
  (.br (L72_0_k0 (X72_0.mk a0 a1 a2 (Int.ofNat a2) (0 : Int) a3 a4 a5 a6 a7 a8))
   (.leaf ⟨(L72_0_k0_0 (X72_0.mk a0 a1 a2 (Int.ofNat a2) (0 : Int) a3 a4 a5 a6 a7 a8))⟩)
   (.br (L72_0_k1 (X72_0.mk a0 a1 a2 (Int.ofNat a2) (0 : Int) a3 a4 a5 a6 a7 a8))
    (.leaf ⟨true⟩)
    (.no)))
  (.no)
noncomputable def en72 (r:R72) : Value:=(.bool r.r0)
theorem T72 (J0 : Task → List Value) (a0 : Array Value) (a1 a2:Nat) (a3 a4:Int) (a5 a6:Int) (a7 a8:Int) : evC Try.prog (Ans.c (p109.or (la72_0 J0))) 60 (.call 72 ⟨[(lstV a0 a1 a2 6),(.agg ⟨[(.int .i64 a3),(.int .i64 a4),(.int .i64 a5),(.int .i64 a6),(.int .i64 a7),(.int .i64 a8)]⟩)]⟩ ⟨[],0,[]⟩) (frzK [0]) = (rt72 a0 a1 a2 a3 a4 a5 a6 a7 a8).out (fun r=>.ret (en72 r) ⟨[],0,[]⟩):=by kernel_rfl
noncomputable def F72 (a0 : Array Value) (a1 a2:Nat) (a3 a4:Int) (a5 a6:Int) (a7 a8:Int) : Option R72:=(rt72 a0 a1 a2 a3 a4 a5 a6 a7 a8).val
section
variable (a0 : Array Value) (a1 a2:Nat) (a3 a4:Int) (a5 a6:Int) (a7 a8:Int)
noncomputable def F72_ok : Bool:=(F72 a0 a1 a2 a3 a4 a5 a6 a7 a8).isSome
noncomputable def F72_0 : Bool:=match F72 a0 a1 a2 a3 a4 a5 a6 a7 a8 with | some r=>r.r0 | none=>false
end
noncomputable def dec72 : Task → Option (A72 × Hp)
  | .call g ⟨[(.func (.via 0 ⟨[]⟩ 0 true) a0 ⟨[.slice (some ⟨0,a1,none⟩) a2 6]⟩),(.agg ⟨[(.int .i64 a3),(.int .i64 a4),(.int .i64 a5),(.int .i64 a6),(.int .i64 a7),(.int .i64 a8)]⟩)]⟩ h=>(match Nat.beq g 72 with | true=>some (⟨a0,a1,a2,a3,a4,a5,a6,a7,a8⟩,h) | false=>none)
  | _=>none
noncomputable def alt72 (x:A72) (h:Hp) : AT:=.br (F72_ok x.a0 x.a1 x.a2 x.a3 x.a4 x.a5 x.a6 x.a7 x.a8) (.leaf (.ret (.bool (F72_0 x.a0 x.a1 x.a2 x.a3 x.a4 x.a5 x.a6 x.a7 x.a8)) h)) .no
noncomputable def p72 : Ans:=fnAns dec72 alt72
theorem ha72 : ∀ (x:A72) (h:Hp) (o:Out),(alt72 x h).out = some o → ∃ r,(rt72 x.a0 x.a1 x.a2 x.a3 x.a4 x.a5 x.a6 x.a7 x.a8).val = some r ∧ o = .ret (en72 r) h:=by
  intro x h o e
  unfold alt72 at e
  cases hF : F72 x.a0 x.a1 x.a2 x.a3 x.a4 x.a5 x.a6 x.a7 x.a8 with
  | none=>simp [F72_ok,hF,AT.out] at e
  | some r =>
    refine ⟨r,hF,?_⟩
    simp only [F72_ok,F72_0,hF,AT.out,Option.isSome_some,cond_true,Option.some.injEq] at e
    rw [← e]; rfl
theorem hd72 : ∀ (t:Task) (x:A72) (h:Hp),dec72 t = some (x,h) → t = .call 72 ⟨[(lstV x.a0 x.a1 x.a2 6),(.agg ⟨[(.int .i64 x.a3),(.int .i64 x.a4),(.int .i64 x.a5),(.int .i64 x.a6),(.int .i64 x.a7),(.int .i64 x.a8)]⟩)]⟩ h:=by
  intro t x h e
  unfold dec72 at e
  split at e
  case h_2=>cases e
  split at e
  case h_2=>cases e
  rename_i hg
  simp only [Option.some.injEq,Prod.mk.injEq] at e
  obtain ⟨rfl,rfl⟩:=e
  rw [Nat.eq_of_beq_eq_true hg]
theorem known72 : Known Try.prog p72:=by
  obtain ⟨J0,hJ0⟩:=kl72_0
  exact Known.fn noNG mixed (Known.or known109 hJ0) (n:=60) (zs:=[0]) 72 (fun x : A72=>[(lstV x.a0 x.a1 x.a2 6),(.agg ⟨[(.int .i64 x.a3),(.int .i64 x.a4),(.int .i64 x.a5),(.int .i64 x.a6),(.int .i64 x.a7),(.int .i64 x.a8)]⟩)]) (fun x=>rt72 x.a0 x.a1 x.a2 x.a3 x.a4 x.a5 x.a6 x.a7 x.a8) en72 (fun x=>T72 J0 x.a0 x.a1 x.a2 x.a3 x.a4 x.a5 x.a6 x.a7 x.a8) (fun x=>rfl) dec72 alt72 hd72 ha72
end
end Go.Proofs.Ytaglpbmnadlpgaa

namespace Go.Proofs.Ytaglpbmnadlpgaa
open Go.Gi Go.RowKit Go.Proofs.Ytaglpbmnadlpgaa.Old
noncomputable section
set_option maxRecDepth 100000
set_option maxHeartbeats 4000000
set_option linter.unusedVariables false
set_option linter.unusedSimpArgs false
structure X29_0 where
  (v0:Array Value)
  (v1 v2:Nat)
  (v3:Array Value)
  (v4 v5:Nat)
  (v6 v7:Int)
inductive D29_0 where
  | k0 (d0:Bool) (d1:Int)
  | k1
noncomputable def Lp29_0 : LoopOf X29_0 D29_0 where
  c:=(theLoop Try.prog 29 0)
  N:=54
  M:=0
  S:=[0,43,44,45]
  sl:=fun x=>[(lstV x.v0 x.v1 x.v2 6),(lstV x.v3 x.v4 x.v5 6),(.int .i64 x.v6),(.int .i64 x.v7)]
  hp:=fun x=>[]
  ex:=fun d=>match d with | .k0 ..=>.ret | .k1 ..=>.exit 0
  pick:=fun e=>match e with | .ret=>[4,5] | .exit 0=>[] | _=>[]
  dv:=fun d=>match d with | .k0 d0 d1=>[(.bool d0),(.int .i64 d1)] | .k1 =>[]
  dh:=fun d=>match d with | .k0 d0 d1=>[] | .k1 =>[]
theorem ok29_0 : Lp29_0.Ok:=⟨fun x=>rfl,fun x=>rfl,fun x=>rfl,fun x=>rfl,fun d=>by cases d <;> rfl,fun d=>by cases d <;> rfl,fun d=>by cases d <;> rfl,fun d=>by cases d <;> (intro h; cases h),fun d=>by cases d <;> rfl,fun d=>by cases d <;> rfl⟩
noncomputable def rd29_0 (x:X29_0) : RT (Sum X29_0 D29_0):=match x with
  | ⟨v0,v1,v2,v3,v4,v5,v6,v7⟩ =>
     .br (decide (v7 < v6))
     (.br (and (decide ((0 : Int) ≤ v7)) (decide (v7 < (Int.ofNat v5))))
     (.br (rdOk v3 [(Leaf.int .i64),(Leaf.int .i64),(Leaf.int .i64),(Leaf.int .i64),(Leaf.int .i64),(Leaf.int .i64)] (v4+((Int.toNat v7)*6)))
     (.br (F72_ok v0 v1 v2 (getInt v3 (v4+((Int.toNat v7)*6))) (getInt v3 ((v4+((Int.toNat v7)*6))+1)) (getInt v3 (((v4+((Int.toNat v7)*6))+1)+1)) (getInt v3 ((((v4+((Int.toNat v7)*6))+1)+1)+1)) (getInt v3 (((((v4+((Int.toNat v7)*6))+1)+1)+1)+1)) (getInt v3 ((((((v4+((Int.toNat v7)*6))+1)+1)+1)+1)+1)))
     (.br (not (F72_0 v0 v1 v2 (getInt v3 (v4+((Int.toNat v7)*6))) (getInt v3 ((v4+((Int.toNat v7)*6))+1)) (getInt v3 (((v4+((Int.toNat v7)*6))+1)+1)) (getInt v3 ((((v4+((Int.toNat v7)*6))+1)+1)+1)) (getInt v3 (((((v4+((Int.toNat v7)*6))+1)+1)+1)+1)) (getInt v3 ((((((v4+((Int.toNat v7)*6))+1)+1)+1)+1)+1))))
     (.leaf (.inr (.k0 false ((0 : Int)))))
     (.leaf (.inl ⟨v0,v1,v2,v3,v4,v5,v6,(IntKind.wrap .i64 (v7+(1 : Int)))⟩)))
     (.no))
     (.no))
     (.no))
     (.leaf (.inr (.k1)))
theorem T29_0  (y : List Value) (v0 : Array Value) (v1 v2:Nat) (v3 : Array Value) (v4 v5:Nat) (v6 v7:Int) : evC Try.prog (Ans.c (p25.or p72)) 60 (.code none (theLoop Try.prog 29 0) ⟨sets (junkF 54 y) [(0,(lstV v0 v1 v2 6)),(43,(lstV v3 v4 v5 6)),(44,(.int .i64 v6)),(45,(.int .i64 v7))],[],⟨[],0,[]⟩⟩) (sumK 0 54 Lp29_0.pk) = (rd29_0 ⟨v0,v1,v2,v3,v4,v5,v6,v7⟩).out Lp29_0.enc:=by kernel_rfl
noncomputable def L29_0 (x:X29_0) : Option D29_0:=loopR rd29_0 x
section
variable (x:X29_0)
noncomputable def L29_0_k0 : Bool:=match L29_0 x with | some (.k0 ..)=>true | _=>false
noncomputable def L29_0_k0_0 : Bool:=match L29_0 x with | some (.k0 d _)=>d | _=>false
noncomputable def L29_0_k0_1 : Int:=match L29_0 x with | some (.k0 _ d)=>d | _=>0
noncomputable def L29_0_k1 : Bool:=match L29_0 x with | some (.k1 ..)=>true | _=>false
end
noncomputable def dec29_0 : Task → Option (Code × X29_0)
  | .code none (.loop code) ⟨t,[],⟨[],0,[]⟩⟩ =>
    (match Nat.beq (firstReg code) 10,lenIs t 54,lget t 0,lget t 43,lget t 44,lget t 45 with
    | true,true,(.func (.via 0 ⟨[]⟩ 0 true) v0 ⟨[.slice (some ⟨0,v1,none⟩) v2 6]⟩),(.func (.via 0 ⟨[]⟩ 0 true) v3 ⟨[.slice (some ⟨0,v4,none⟩) v5 6]⟩),(.int .i64 v6),(.int .i64 v7)=>some (code,⟨v0,v1,v2,v3,v4,v5,v6,v7⟩)
    | _,_,_,_,_,_=>none)
  | _=>none
noncomputable def alt29_0 (x:X29_0) (j : List Value) : AT:=.br (L29_0_k0 x) (loopEnd 54 (.ret) [(4,(.bool (L29_0_k0_0 x))),(5,(.int .i64 (L29_0_k0_1 x)))] ⟨[],0,[]⟩ j) (.br (L29_0_k1 x) (loopEnd 54 (.exit 0) [] ⟨[],0,[]⟩ j) (.no))
noncomputable def la29_0 (J : Task → List Value) : Ans:=loopAns Lp29_0.c dec29_0 alt29_0 J
theorem ha29_0 : ∀ (x:X29_0) (j : List Value) (o:Out),(alt29_0 x j).out = some o → ∃ d,loopR rd29_0 x = some d ∧ o = Lp29_0.tail d j:=by
  intro x j o h
  unfold alt29_0 at h
  cases hL : L29_0 x with
  | none=>simp [L29_0_k0,L29_0_k0_0,L29_0_k0_1,L29_0_k1,hL,AT.out] at h
  | some d =>
    refine ⟨d,hL,?_⟩
    cases d <;> (simp only [L29_0_k0,L29_0_k0_0,L29_0_k0_1,L29_0_k1,hL,AT.out,loopEnd,cond_true,cond_false,Option.some.injEq] at h; rw [← h]; rfl)
theorem hd29_0 : ∀ (t:Task) (c:Code) (x:X29_0),dec29_0 t = some (c,x) → c = Lp29_0.c → ∃ T,t = .code none (.loop Lp29_0.c) ⟨T,[],⟨Lp29_0.hp x,0,[]⟩⟩ ∧ T.length = Lp29_0.N ∧ ∀ kv ∈ Lp29_0.S.zip (Lp29_0.sl x),lget T kv.1 = kv.2:=by
  intro t c x h hc
  unfold dec29_0 at h
  split at h
  case h_2=>cases h
  split at h
  case h_2=>cases h
  simp only [Option.some.injEq,Prod.mk.injEq] at h
  obtain ⟨rfl,rfl⟩:=h
  subst hc
  refine ⟨_,rfl,lenIs_eq _ _ (by assumption),?_⟩
  intro kv hk
  simp only [Lp29_0,List.zip_cons_cons,List.zip_nil_right,List.mem_cons,List.not_mem_nil,or_false] at hk
  rcases hk with rfl | rfl | rfl | rfl <;> assumption
theorem kl29_0 : ∃ J,Known Try.prog (la29_0 J):=by
  exact LoopOf.known noNG mixed ok29_0 (by decide) (by decide) (Known.or known25 known72) (n:=60) (rd:=rd29_0) (fun x j=>T29_0  j x.v0 x.v1 x.v2 x.v3 x.v4 x.v5 x.v6 x.v7) dec29_0 alt29_0 hd29_0 ha29_0
structure R29 where
  (r0:Bool)
  (r1:Int)
structure A29 where
  (a0:Array Value)
  (a1 a2:Nat)
  (a3:Array Value)
  (a4 a5:Nat)
noncomputable def rt29 (a0 : Array Value) (a1 a2:Nat) (a3 : Array Value) (a4 a5:Nat) : RT R29 :=
  .br (F25_ok a0 a1 a2)
  (.br (not (decide ((F25_1 a0 a1 a2) = (0 : Int))))
   (.leaf ⟨false,(F25_1 a0 a1 a2)⟩)
   (.br (F25_ok a3 a4 a5)
    (.br (not (decide ((F25_1 a3 a4 a5) = (0 : Int))))
     (.leaf ⟨false,(F25_1 a3 a4 a5)⟩)
     (.br (and (decide ((0 : Int) ≤ (IntKind.wrap .i64 ((Int.ofNat a2) - (1 : Int))))) (decide ((IntKind.wrap .i64 ((Int.ofNat a2) - (1 : Int))) < (Int.ofNat a2))))
     (.br (isInt .i64 a0 ((a1+((Int.toNat (IntKind.wrap .i64 ((Int.ofNat a2) - (1 : Int))))*6))+1))
     (.br (and (decide ((0 : Int) ≤ (IntKind.wrap .i64 ((Int.ofNat a5) - (1 : Int))))) (decide ((IntKind.wrap .i64 ((Int.ofNat a5) - (1 : Int))) < (Int.ofNat a5))))
     (.br (isInt .i64 a3 ((a4+((Int.toNat (IntKind.wrap .i64 ((Int.ofNat a5) - (1 : Int))))*6))+1))
     (.br (decide ((getInt a0 ((a1+((Int.toNat (IntKind.wrap .i64 ((Int.ofNat a2) - (1 : Int))))*6))+1)) < (getInt a3 ((a4+((Int.toNat (IntKind.wrap .i64 ((Int.ofNat a5) - (1 : Int))))*6))+1))))
     (.leaf ⟨false,(0 : Int)⟩)
     (.br (eqCode (Lp29_0.c) (Lp29_0.c))
     (.br (L29_0_k0 (X29_0.mk a0 a1 a2 a3 a4 a5 (Int.ofNat a5) (0 : Int)))
     (.leaf ⟨(L29_0_k0_0 (X29_0.mk a0 a1 a2 a3 a4 a5 (Int.ofNat a5) (0 : Int))),(L29_0_k0_1 (X29_0.mk a0 a1 a2 a3 a4 a5 (Int.ofNat a5) (0 : Int)))⟩)
     (.br (L29_0_k1 (X29_0.mk a0 a1 a2 a3 a4 a5 (Int.ofNat a5) (0 : Int)))
     (.leaf ⟨true,(0 : Int)⟩)
     (.no)))
     (.no)))
     (.no))
     (.no))
     (.no))
     (.no)))
    (.no)))
  (.no)
noncomputable def en29 (r:R29) : Value:=(.tuple ⟨[(.bool r.r0),(.int .i64 r.r1)]⟩)
theorem T29 (J0 : Task → List Value) (a0 : Array Value) (a1 a2:Nat) (a3 : Array Value) (a4 a5:Nat) : evC Try.prog (Ans.c (p25.or (p72.or (la29_0 J0)))) 60 (.call 29 ⟨[(lstV a0 a1 a2 6),(lstV a3 a4 a5 6)]⟩ ⟨[],0,[]⟩) (frzK [0,0]) = (rt29 a0 a1 a2 a3 a4 a5).out (fun r=>.ret (en29 r) ⟨[],0,[]⟩):=by kernel_rfl
noncomputable def F29 (a0 : Array Value) (a1 a2:Nat) (a3 : Array Value) (a4 a5:Nat) : Option R29:=(rt29 a0 a1 a2 a3 a4 a5).val
section
variable (a0 : Array Value) (a1 a2:Nat) (a3 : Array Value) (a4 a5:Nat)
noncomputable def F29_ok : Bool:=(F29 a0 a1 a2 a3 a4 a5).isSome
noncomputable def F29_0 : Bool:=match F29 a0 a1 a2 a3 a4 a5 with | some r=>r.r0 | none=>false
noncomputable def F29_1 : Int:=match F29 a0 a1 a2 a3 a4 a5 with | some r=>r.r1 | none=>0
end
noncomputable def dec29 : Task → Option (A29 × Hp)
  | .call g ⟨[(.func (.via 0 ⟨[]⟩ 0 true) a0 ⟨[.slice (some ⟨0,a1,none⟩) a2 6]⟩),(.func (.via 0 ⟨[]⟩ 0 true) a3 ⟨[.slice (some ⟨0,a4,none⟩) a5 6]⟩)]⟩ h=>(match Nat.beq g 29 with | true=>some (⟨a0,a1,a2,a3,a4,a5⟩,h) | false=>none)
  | _=>none
noncomputable def alt29 (x:A29) (h:Hp) : AT:=.br (F29_ok x.a0 x.a1 x.a2 x.a3 x.a4 x.a5) (.leaf (.ret (.tuple ⟨[(.bool (F29_0 x.a0 x.a1 x.a2 x.a3 x.a4 x.a5)),(.int .i64 (F29_1 x.a0 x.a1 x.a2 x.a3 x.a4 x.a5))]⟩) h)) .no
noncomputable def p29 : Ans:=fnAns dec29 alt29
theorem ha29 : ∀ (x:A29) (h:Hp) (o:Out),(alt29 x h).out = some o → ∃ r,(rt29 x.a0 x.a1 x.a2 x.a3 x.a4 x.a5).val = some r ∧ o = .ret (en29 r) h:=by
  intro x h o e
  unfold alt29 at e
  cases hF : F29 x.a0 x.a1 x.a2 x.a3 x.a4 x.a5 with
  | none=>simp [F29_ok,hF,AT.out] at e
  | some r =>
    refine ⟨r,hF,?_⟩
    simp only [F29_ok,F29_0,F29_1,hF,AT.out,Option.isSome_some,cond_true,Option.some.injEq] at e
    rw [← e]; rfl
theorem hd29 : ∀ (t:Task) (x:A29) (h:Hp),dec29 t = some (x,h) → t = .call 29 ⟨[(lstV x.a0 x.a1 x.a2 6),(lstV x.a3 x.a4 x.a5 6)]⟩ h:=by
  intro t x h e
  unfold dec29 at e
  split at e
  case h_2=>cases e
  split at e
  case h_2=>cases e
  rename_i hg
  simp only [Option.some.injEq,Prod.mk.injEq] at e
  obtain ⟨rfl,rfl⟩:=e
  rw [Nat.eq_of_beq_eq_true hg]
theorem known29 : Known Try.prog p29:=by
  obtain ⟨J0,hJ0⟩:=kl29_0
  exact Known.fn noNG mixed (Known.or known25 (Known.or known72 hJ0)) (n:=60) (zs:=[0,0]) 29 (fun x : A29=>[(lstV x.a0 x.a1 x.a2 6),(lstV x.a3 x.a4 x.a5 6)]) (fun x=>rt29 x.a0 x.a1 x.a2 x.a3 x.a4 x.a5) en29 (fun x=>T29 J0 x.a0 x.a1 x.a2 x.a3 x.a4 x.a5) (fun x=>rfl) dec29 alt29 hd29 ha29
end
end Go.Proofs.Ytaglpbmnadlpgaa

namespace Go.Proofs.Ytaglpbmnadlpgaa
open Go.Gi Go.RowKit Go.Proofs.Ytaglpbmnadlpgaa.Old
noncomputable section
set_option maxRecDepth 100000
set_option maxHeartbeats 4000000
set_option linter.unusedVariables false
set_option linter.unusedSimpArgs false
structure X42_0 where
  own : Option (Array Value × Nat)
  (v0:Array Value)
  (v1 v2:Nat)
  (v3 v4:Int)
  (v5:Array Value)
  (v6 v7:Nat)
  (v8:Array Value)
  (v9 v10:Nat)
  (v11:Array Value)
  (v12 v13:Nat)
  (v14 v15:Int)
  (v16 v17:Int)
  (v18 v19:Int)
inductive D42_0 where
  | k0 (d0 : Array Value) (d1 d2:Nat) (d3:Int) (d4 : Array Value) (d5 d6:Nat) (d7 : Array Value) (d8 d9:Nat) (d10 : Array Value) (d11 d12:Nat) (d13 d14:Int) (d15 d16:Int) (d17 d18:Int)
  | k1 (d0 : Array Value) (d1 d2:Nat) (d3 : Array Value) (d4 d5:Nat) (d6 : Array Value) (d7 d8:Nat) (d9 : Array Value) (d10 d11:Nat) (d12 d13:Int) (d14 d15:Int) (d16 d17:Int)
noncomputable def Lp42_0 : LoopG X42_0 D42_0 where
  c:=(theLoop Try.prog 42 0)
  N:=66
  M:=2
  S:=[3,11,34,35,36]
  os:=12
  sz:=6
  z:=6
  own:=fun x=>x.own
  sl:=fun x=>[(Value.pointer (Option.some (Addr.mk 0 0 Option.none))),(Value.pointer (Option.some (Addr.mk 1 0 Option.none))),(lstV x.v0 x.v1 x.v2 1),(.int .i64 x.v3),(.int .i64 x.v4)]
  hp:=fun x=>[.cells ⟨[(lstV x.v5 x.v6 x.v7 7),(lstV x.v8 x.v9 x.v10 5),(lstV x.v11 x.v12 x.v13 1),(.int .i64 x.v14),(.int .i64 x.v15)]⟩ false,.cells ⟨[(.int .i64 x.v16),(.int .i64 x.v17),(.int .i64 x.v18),(.int .i64 x.v19)]⟩ false]
  ex:=fun d=>match d with | .k0 ..=>.ret | .k1 ..=>.exit 0
  pick:=fun e=>match e with | .ret=>[6,7] | .exit 0=>[12] | _=>[]
  dv:=fun d=>match d with | .k0 d0 d1 d2 d3 d4 d5 d6 d7 d8 d9 d10 d11 d12 d13 d14 d15 d16 d17 d18=>[(lstV d0 d1 d2 6),(.int .i64 d3)] | .k1 d0 d1 d2 d3 d4 d5 d6 d7 d8 d9 d10 d11 d12 d13 d14 d15 d16 d17=>[(lstV d0 d1 d2 6)]
  dh:=fun d=>match d with | .k0 d0 d1 d2 d3 d4 d5 d6 d7 d8 d9 d10 d11 d12 d13 d14 d15 d16 d17 d18=>[.cells ⟨[(lstV d4 d5 d6 7),(lstV d7 d8 d9 5),(lstV d10 d11 d12 1),(.int .i64 d13),(.int .i64 d14)]⟩ false,.cells ⟨[(.int .i64 d15),(.int .i64 d16),(.int .i64 d17),(.int .i64 d18)]⟩ false] | .k1 d0 d1 d2 d3 d4 d5 d6 d7 d8 d9 d10 d11 d12 d13 d14 d15 d16 d17=>[.cells ⟨[(lstV d3 d4 d5 7),(lstV d6 d7 d8 5),(lstV d9 d10 d11 1),(.int .i64 d12),(.int .i64 d13)]⟩ false,.cells ⟨[(.int .i64 d14),(.int .i64 d15),(.int .i64 d16),(.int .i64 d17)]⟩ false]
theorem ok42_0 : Lp42_0.OkG:=⟨⟨fun x=>rfl,fun x=>rfl,fun x=>rfl,fun x=>rfl,fun d=>by cases d <;> rfl,fun d=>by cases d <;> rfl,fun d=>by cases d <;> rfl,fun d=>by cases d <;> (intro h; cases h),fun d=>by cases d <;> rfl,fun d=>by cases d <;> rfl⟩,by decide,by decide,fun d=>match d with | .k0 ..=>(show ([6,7] : List Nat).Nodup by decide) | .k1 ..=>(show ([12] : List Nat).Nodup by decide),fun d=>match d with | .k0 ..=>(show ∀ k ∈ ([6,7] : List Nat),k < 66 by decide) | .k1 ..=>(show ∀ k ∈ ([12] : List Nat),k < 66 by decide)⟩
noncomputable def rd42_0 (x:X42_0) : RT (Sum X42_0 D42_0):=match x with
  | ⟨none,v0,v1,v2,v3,v4,v5,v6,v7,v8,v9,v10,v11,v12,v13,v14,v15,v16,v17,v18,v19⟩ =>
     .br (decide (v4 < v3))
     (.br (and (decide ((0 : Int) ≤ v4)) (decide (v4 < (Int.ofNat v2))))
     (.br (isInt .i64 v0 (v1+((Int.toNat v4)*1)))
     (.br (F94_ok v5 v6 v7 v8 v9 v10 v11 v12 v13 v14 v15 v4)
     (.br (F92_ok v5 v6 v7 v8 v9 v10 v11 v12 v13 v14 v15 (F94_0 v5 v6 v7 v8 v9 v10 v11 v12 v13 v14 v15 v4) (F94_1 v5 v6 v7 v8 v9 v10 v11 v12 v13 v14 v15 v4) v18 v19)
     (.br (not (F92_4 v5 v6 v7 v8 v9 v10 v11 v12 v13 v14 v15 (F94_0 v5 v6 v7 v8 v9 v10 v11 v12 v13 v14 v15 v4) (F94_1 v5 v6 v7 v8 v9 v10 v11 v12 v13 v14 v15 v4) v18 v19))
     (.leaf (.inr (.k0 (⟨[]⟩) 0 0 ((9 : Int)) v5 v6 v7 v8 v9 v10 v11 v12 v13 v14 v15 ((F94_0 v5 v6 v7 v8 v9 v10 v11 v12 v13 v14 v15 v4)) ((F94_1 v5 v6 v7 v8 v9 v10 v11 v12 v13 v14 v15 v4)) v18 v19)))
     (.leaf (.inl ⟨(some ((Array.extract ⟨[(.int .i64 (F94_0 v5 v6 v7 v8 v9 v10 v11 v12 v13 v14 v15 v4)),(.int .i64 (getInt v0 (v1+((Int.toNat v4)*1)))),(.int .i64 (F92_0 v5 v6 v7 v8 v9 v10 v11 v12 v13 v14 v15 (F94_0 v5 v6 v7 v8 v9 v10 v11 v12 v13 v14 v15 v4) (F94_1 v5 v6 v7 v8 v9 v10 v11 v12 v13 v14 v15 v4) v18 v19)),(.int .i64 (F92_1 v5 v6 v7 v8 v9 v10 v11 v12 v13 v14 v15 (F94_0 v5 v6 v7 v8 v9 v10 v11 v12 v13 v14 v15 v4) (F94_1 v5 v6 v7 v8 v9 v10 v11 v12 v13 v14 v15 v4) v18 v19)),(.int .i64 (F92_2 v5 v6 v7 v8 v9 v10 v11 v12 v13 v14 v15 (F94_0 v5 v6 v7 v8 v9 v10 v11 v12 v13 v14 v15 v4) (F94_1 v5 v6 v7 v8 v9 v10 v11 v12 v13 v14 v15 v4) v18 v19)),(.int .i64 (F92_3 v5 v6 v7 v8 v9 v10 v11 v12 v13 v14 v15 (F94_0 v5 v6 v7 v8 v9 v10 v11 v12 v13 v14 v15 v4) (F94_1 v5 v6 v7 v8 v9 v10 v11 v12 v13 v14 v15 v4) v18 v19))]⟩ 0 6),1)),v0,v1,v2,v3,(IntKind.wrap .i64 (v4+(1 : Int))),v5,v6,v7,v8,v9,v10,v11,v12,v13,v14,v15,(F94_0 v5 v6 v7 v8 v9 v10 v11 v12 v13 v14 v15 v4),(F94_1 v5 v6 v7 v8 v9 v10 v11 v12 v13 v14 v15 v4),v18,v19⟩)))
     (.no))
     (.no))
     (.no))
     (.no))
     (.leaf (.inr (.k1 (⟨[]⟩) 0 0 v5 v6 v7 v8 v9 v10 v11 v12 v13 v14 v15 v16 v17 v18 v19)))
  | ⟨some (oa,ol),v0,v1,v2,v3,v4,v5,v6,v7,v8,v9,v10,v11,v12,v13,v14,v15,v16,v17,v18,v19⟩ =>
     .br (decide (v4 < v3))
     (.br (and (decide ((0 : Int) ≤ v4)) (decide (v4 < (Int.ofNat v2))))
     (.br (isInt .i64 v0 (v1+((Int.toNat v4)*1)))
     (.br (F94_ok v5 v6 v7 v8 v9 v10 v11 v12 v13 v14 v15 v4)
     (.br (F92_ok v5 v6 v7 v8 v9 v10 v11 v12 v13 v14 v15 (F94_0 v5 v6 v7 v8 v9 v10 v11 v12 v13 v14 v15 v4) (F94_1 v5 v6 v7 v8 v9 v10 v11 v12 v13 v14 v15 v4) v18 v19)
     (.br (not (F92_4 v5 v6 v7 v8 v9 v10 v11 v12 v13 v14 v15 (F94_0 v5 v6 v7 v8 v9 v10 v11 v12 v13 v14 v15 v4) (F94_1 v5 v6 v7 v8 v9 v10 v11 v12 v13 v14 v15 v4) v18 v19))
     (.leaf (.inr (.k0 (⟨[]⟩) 0 0 ((9 : Int)) v5 v6 v7 v8 v9 v10 v11 v12 v13 v14 v15 ((F94_0 v5 v6 v7 v8 v9 v10 v11 v12 v13 v14 v15 v4)) ((F94_1 v5 v6 v7 v8 v9 v10 v11 v12 v13 v14 v15 v4)) v18 v19)))
     (.br (and (decide (((ol+1)*48) ≤ 140737488355328)) (decide ((ol+1) ≤ 4611686018427387904)))
     (.br (decide ((0+(ol*6)) ≤ (Array.size oa)))
     (.br (allFz (apB (Array.extract oa 0 (0+(ol*6))) (Array.extract ⟨[(.int .i64 (F94_0 v5 v6 v7 v8 v9 v10 v11 v12 v13 v14 v15 v4)),(.int .i64 (getInt v0 (v1+((Int.toNat v4)*1)))),(.int .i64 (F92_0 v5 v6 v7 v8 v9 v10 v11 v12 v13 v14 v15 (F94_0 v5 v6 v7 v8 v9 v10 v11 v12 v13 v14 v15 v4) (F94_1 v5 v6 v7 v8 v9 v10 v11 v12 v13 v14 v15 v4) v18 v19)),(.int .i64 (F92_1 v5 v6 v7 v8 v9 v10 v11 v12 v13 v14 v15 (F94_0 v5 v6 v7 v8 v9 v10 v11 v12 v13 v14 v15 v4) (F94_1 v5 v6 v7 v8 v9 v10 v11 v12 v13 v14 v15 v4) v18 v19)),(.int .i64 (F92_2 v5 v6 v7 v8 v9 v10 v11 v12 v13 v14 v15 (F94_0 v5 v6 v7 v8 v9 v10 v11 v12 v13 v14 v15 v4) (F94_1 v5 v6 v7 v8 v9 v10 v11 v12 v13 v14 v15 v4) v18 v19)),(.int .i64 (F92_3 v5 v6 v7 v8 v9 v10 v11 v12 v13 v14 v15 (F94_0 v5 v6 v7 v8 v9 v10 v11 v12 v13 v14 v15 v4) (F94_1 v5 v6 v7 v8 v9 v10 v11 v12 v13 v14 v15 v4) v18 v19))]⟩ 0 6)))
     (.leaf (.inl ⟨(some ((apB (Array.extract oa 0 (0+(ol*6))) (Array.extract ⟨[(.int .i64 (F94_0 v5 v6 v7 v8 v9 v10 v11 v12 v13 v14 v15 v4)),(.int .i64 (getInt v0 (v1+((Int.toNat v4)*1)))),(.int .i64 (F92_0 v5 v6 v7 v8 v9 v10 v11 v12 v13 v14 v15 (F94_0 v5 v6 v7 v8 v9 v10 v11 v12 v13 v14 v15 v4) (F94_1 v5 v6 v7 v8 v9 v10 v11 v12 v13 v14 v15 v4) v18 v19)),(.int .i64 (F92_1 v5 v6 v7 v8 v9 v10 v11 v12 v13 v14 v15 (F94_0 v5 v6 v7 v8 v9 v10 v11 v12 v13 v14 v15 v4) (F94_1 v5 v6 v7 v8 v9 v10 v11 v12 v13 v14 v15 v4) v18 v19)),(.int .i64 (F92_2 v5 v6 v7 v8 v9 v10 v11 v12 v13 v14 v15 (F94_0 v5 v6 v7 v8 v9 v10 v11 v12 v13 v14 v15 v4) (F94_1 v5 v6 v7 v8 v9 v10 v11 v12 v13 v14 v15 v4) v18 v19)),(.int .i64 (F92_3 v5 v6 v7 v8 v9 v10 v11 v12 v13 v14 v15 (F94_0 v5 v6 v7 v8 v9 v10 v11 v12 v13 v14 v15 v4) (F94_1 v5 v6 v7 v8 v9 v10 v11 v12 v13 v14 v15 v4) v18 v19))]⟩ 0 6)),(ol+1))),v0,v1,v2,v3,(IntKind.wrap .i64 (v4+(1 : Int))),v5,v6,v7,v8,v9,v10,v11,v12,v13,v14,v15,(F94_0 v5 v6 v7 v8 v9 v10 v11 v12 v13 v14 v15 v4),(F94_1 v5 v6 v7 v8 v9 v10 v11 v12 v13 v14 v15 v4),v18,v19⟩))
     (.no))
     (.no))
     (.no)))
     (.no))
     (.no))
     (.no))
     (.no))
     (.br (and (allFz oa) (decide ((0+(ol*6)) ≤ (Array.size oa))))
     (.leaf (.inr (.k1 oa 0 ol v5 v6 v7 v8 v9 v10 v11 v12 v13 v14 v15 v16 v17 v18 v19)))
     (.no))
theorem T42_0n  (y : List Value) (v0 : Array Value) (v1 v2:Nat) (v3 v4:Int) (v5 : Array Value) (v6 v7:Nat) (v8 : Array Value) (v9 v10:Nat) (v11 : Array Value) (v12 v13:Nat) (v14 v15:Int) (v16 v17:Int) (v18 v19:Int) : evC Try.prog (Ans.c ((p20V 20).or (p91.or (p92.or p94)))) 60 (.code none (theLoop Try.prog 42 0) ⟨sets (junkF 66 y) [(12,.slice none 0 0),(3,(Value.pointer (some (Addr.mk 0 0 none)))),(11,(Value.pointer (some (Addr.mk 1 0 none)))),(34,(lstV v0 v1 v2 1)),(35,(.int .i64 v3)),(36,(.int .i64 v4))],[],⟨[.cells ⟨[(lstV v5 v6 v7 7),(lstV v8 v9 v10 5),(lstV v11 v12 v13 1),(.int .i64 v14),(.int .i64 v15)]⟩ false,.cells ⟨[(.int .i64 v16),(.int .i64 v17),(.int .i64 v18),(.int .i64 v19)]⟩ false],0,[]⟩⟩) (gK 66 2 12 6 [3,11,34,35,36] Lp42_0.pick) = (rd42_0 ⟨none,v0,v1,v2,v3,v4,v5,v6,v7,v8,v9,v10,v11,v12,v13,v14,v15,v16,v17,v18,v19⟩).out Lp42_0.encG:=by kernel_rfl
theorem T42_0s  (y : List Value) (oa : Array Value) (ol : Nat) (v0 : Array Value) (v1 v2:Nat) (v3 v4:Int) (v5 : Array Value) (v6 v7:Nat) (v8 : Array Value) (v9 v10:Nat) (v11 : Array Value) (v12 v13:Nat) (v14 v15:Int) (v16 v17:Int) (v18 v19:Int) : evC Try.prog (Ans.c ((p20V 20).or (p91.or (p92.or p94)))) 60 (.code none (theLoop Try.prog 42 0) ⟨sets (junkF 66 y) [(12,.slice (some ⟨2,0,none⟩) ol 6),(3,(Value.pointer (some (Addr.mk 0 0 none)))),(11,(Value.pointer (some (Addr.mk 1 0 none)))),(34,(lstV v0 v1 v2 1)),(35,(.int .i64 v3)),(36,(.int .i64 v4))],[],⟨[.cells ⟨[(lstV v5 v6 v7 7),(lstV v8 v9 v10 5),(lstV v11 v12 v13 1),(.int .i64 v14),(.int .i64 v15)]⟩ false,.cells ⟨[(.int .i64 v16),(.int .i64 v17),(.int .i64 v18),(.int .i64 v19)]⟩ false,.cells oa false],0,[]⟩⟩) (gK 66 2 12 6 [3,11,34,35,36] Lp42_0.pick) = (rd42_0 ⟨some (oa,ol),v0,v1,v2,v3,v4,v5,v6,v7,v8,v9,v10,v11,v12,v13,v14,v15,v16,v17,v18,v19⟩).out Lp42_0.encG:=by kernel_rfl
theorem T42_0  (x : X42_0) (y : List Value) : evC Try.prog (Ans.c ((p20V 20).or (p91.or (p92.or p94)))) 60 (Lp42_0.headG x y) (gK Lp42_0.N Lp42_0.M Lp42_0.os Lp42_0.z Lp42_0.S Lp42_0.pick) = (rd42_0 x).out Lp42_0.encG:=by
  obtain ⟨own,v0,v1,v2,v3,v4,v5,v6,v7,v8,v9,v10,v11,v12,v13,v14,v15,v16,v17,v18,v19⟩:=x
  cases own with
  | none=>exact T42_0n  y v0 v1 v2 v3 v4 v5 v6 v7 v8 v9 v10 v11 v12 v13 v14 v15 v16 v17 v18 v19
  | some al=>obtain ⟨oa,ol⟩:=al; exact T42_0s  y oa ol v0 v1 v2 v3 v4 v5 v6 v7 v8 v9 v10 v11 v12 v13 v14 v15 v16 v17 v18 v19
noncomputable def L42_0 (x:X42_0) : Option D42_0:=loopR rd42_0 x
section
variable (x:X42_0)
noncomputable def L42_0_k0 : Bool:=match L42_0 x with | some (.k0 ..)=>true | _=>false
noncomputable def L42_0_k0_0 : Array Value:=match L42_0 x with | some (.k0 d _ _ _ _ _ _ _ _ _ _ _ _ _ _ _ _ _ _)=>d | _=>#[]
noncomputable def L42_0_k0_1 : Nat:=match L42_0 x with | some (.k0 _ d _ _ _ _ _ _ _ _ _ _ _ _ _ _ _ _ _)=>d | _=>0
noncomputable def L42_0_k0_2 : Nat:=match L42_0 x with | some (.k0 _ _ d _ _ _ _ _ _ _ _ _ _ _ _ _ _ _ _)=>d | _=>0
noncomputable def L42_0_k0_3 : Int:=match L42_0 x with | some (.k0 _ _ _ d _ _ _ _ _ _ _ _ _ _ _ _ _ _ _)=>d | _=>0
noncomputable def L42_0_k0_4 : Array Value:=match L42_0 x with | some (.k0 _ _ _ _ d _ _ _ _ _ _ _ _ _ _ _ _ _ _)=>d | _=>#[]
noncomputable def L42_0_k0_5 : Nat:=match L42_0 x with | some (.k0 _ _ _ _ _ d _ _ _ _ _ _ _ _ _ _ _ _ _)=>d | _=>0
noncomputable def L42_0_k0_6 : Nat:=match L42_0 x with | some (.k0 _ _ _ _ _ _ d _ _ _ _ _ _ _ _ _ _ _ _)=>d | _=>0
noncomputable def L42_0_k0_7 : Array Value:=match L42_0 x with | some (.k0 _ _ _ _ _ _ _ d _ _ _ _ _ _ _ _ _ _ _)=>d | _=>#[]
noncomputable def L42_0_k0_8 : Nat:=match L42_0 x with | some (.k0 _ _ _ _ _ _ _ _ d _ _ _ _ _ _ _ _ _ _)=>d | _=>0
noncomputable def L42_0_k0_9 : Nat:=match L42_0 x with | some (.k0 _ _ _ _ _ _ _ _ _ d _ _ _ _ _ _ _ _ _)=>d | _=>0
noncomputable def L42_0_k0_10 : Array Value:=match L42_0 x with | some (.k0 _ _ _ _ _ _ _ _ _ _ d _ _ _ _ _ _ _ _)=>d | _=>#[]
noncomputable def L42_0_k0_11 : Nat:=match L42_0 x with | some (.k0 _ _ _ _ _ _ _ _ _ _ _ d _ _ _ _ _ _ _)=>d | _=>0
noncomputable def L42_0_k0_12 : Nat:=match L42_0 x with | some (.k0 _ _ _ _ _ _ _ _ _ _ _ _ d _ _ _ _ _ _)=>d | _=>0
noncomputable def L42_0_k0_13 : Int:=match L42_0 x with | some (.k0 _ _ _ _ _ _ _ _ _ _ _ _ _ d _ _ _ _ _)=>d | _=>0
noncomputable def L42_0_k0_14 : Int:=match L42_0 x with | some (.k0 _ _ _ _ _ _ _ _ _ _ _ _ _ _ d _ _ _ _)=>d | _=>0
noncomputable def L42_0_k0_15 : Int:=match L42_0 x with | some (.k0 _ _ _ _ _ _ _ _ _ _ _ _ _ _ _ d _ _ _)=>d | _=>0
noncomputable def L42_0_k0_16 : Int:=match L42_0 x with | some (.k0 _ _ _ _ _ _ _ _ _ _ _ _ _ _ _ _ d _ _)=>d | _=>0
noncomputable def L42_0_k0_17 : Int:=match L42_0 x with | some (.k0 _ _ _ _ _ _ _ _ _ _ _ _ _ _ _ _ _ d _)=>d | _=>0
noncomputable def L42_0_k0_18 : Int:=match L42_0 x with | some (.k0 _ _ _ _ _ _ _ _ _ _ _ _ _ _ _ _ _ _ d)=>d | _=>0
noncomputable def L42_0_k1 : Bool:=match L42_0 x with | some (.k1 ..)=>true | _=>false
noncomputable def L42_0_k1_0 : Array Value:=match L42_0 x with | some (.k1 d _ _ _ _ _ _ _ _ _ _ _ _ _ _ _ _ _)=>d | _=>#[]
noncomputable def L42_0_k1_1 : Nat:=match L42_0 x with | some (.k1 _ d _ _ _ _ _ _ _ _ _ _ _ _ _ _ _ _)=>d | _=>0
noncomputable def L42_0_k1_2 : Nat:=match L42_0 x with | some (.k1 _ _ d _ _ _ _ _ _ _ _ _ _ _ _ _ _ _)=>d | _=>0
noncomputable def L42_0_k1_3 : Array Value:=match L42_0 x with | some (.k1 _ _ _ d _ _ _ _ _ _ _ _ _ _ _ _ _ _)=>d | _=>#[]
noncomputable def L42_0_k1_4 : Nat:=match L42_0 x with | some (.k1 _ _ _ _ d _ _ _ _ _ _ _ _ _ _ _ _ _)=>d | _=>0
noncomputable def L42_0_k1_5 : Nat:=match L42_0 x with | some (.k1 _ _ _ _ _ d _ _ _ _ _ _ _ _ _ _ _ _)=>d | _=>0
noncomputable def L42_0_k1_6 : Array Value:=match L42_0 x with | some (.k1 _ _ _ _ _ _ d _ _ _ _ _ _ _ _ _ _ _)=>d | _=>#[]
noncomputable def L42_0_k1_7 : Nat:=match L42_0 x with | some (.k1 _ _ _ _ _ _ _ d _ _ _ _ _ _ _ _ _ _)=>d | _=>0
noncomputable def L42_0_k1_8 : Nat:=match L42_0 x with | some (.k1 _ _ _ _ _ _ _ _ d _ _ _ _ _ _ _ _ _)=>d | _=>0
noncomputable def L42_0_k1_9 : Array Value:=match L42_0 x with | some (.k1 _ _ _ _ _ _ _ _ _ d _ _ _ _ _ _ _ _)=>d | _=>#[]
noncomputable def L42_0_k1_10 : Nat:=match L42_0 x with | some (.k1 _ _ _ _ _ _ _ _ _ _ d _ _ _ _ _ _ _)=>d | _=>0
noncomputable def L42_0_k1_11 : Nat:=match L42_0 x with | some (.k1 _ _ _ _ _ _ _ _ _ _ _ d _ _ _ _ _ _)=>d | _=>0
noncomputable def L42_0_k1_12 : Int:=match L42_0 x with | some (.k1 _ _ _ _ _ _ _ _ _ _ _ _ d _ _ _ _ _)=>d | _=>0
noncomputable def L42_0_k1_13 : Int:=match L42_0 x with | some (.k1 _ _ _ _ _ _ _ _ _ _ _ _ _ d _ _ _ _)=>d | _=>0
noncomputable def L42_0_k1_14 : Int:=match L42_0 x with | some (.k1 _ _ _ _ _ _ _ _ _ _ _ _ _ _ d _ _ _)=>d | _=>0
noncomputable def L42_0_k1_15 : Int:=match L42_0 x with | some (.k1 _ _ _ _ _ _ _ _ _ _ _ _ _ _ _ d _ _)=>d | _=>0
noncomputable def L42_0_k1_16 : Int:=match L42_0 x with | some (.k1 _ _ _ _ _ _ _ _ _ _ _ _ _ _ _ _ d _)=>d | _=>0
noncomputable def L42_0_k1_17 : Int:=match L42_0 x with | some (.k1 _ _ _ _ _ _ _ _ _ _ _ _ _ _ _ _ _ d)=>d | _=>0
end
noncomputable def dec42_0 : Task → Option (Code × X42_0)
  | .code none (.loop code) ⟨t,[],⟨[.cells ⟨[(.func (.via 0 ⟨[]⟩ 0 true) v5 ⟨[.slice (some ⟨0,v6,none⟩) v7 7]⟩),(.func (.via 0 ⟨[]⟩ 0 true) v8 ⟨[.slice (some ⟨0,v9,none⟩) v10 5]⟩),(.func (.via 0 ⟨[]⟩ 0 true) v11 ⟨[.slice (some ⟨0,v12,none⟩) v13 1]⟩),(.int .i64 v14),(.int .i64 v15)]⟩ false,.cells ⟨[(.int .i64 v16),(.int .i64 v17),(.int .i64 v18),(.int .i64 v19)]⟩ false],0,[]⟩⟩ =>
    (match Nat.beq (firstReg code) 9,lenIs t 66,lget t 12,lget t 3,lget t 11,lget t 34,lget t 35,lget t 36 with
    | true,true,.slice none 0 0,(Value.pointer (Option.some (Addr.mk 0 0 Option.none))),(Value.pointer (Option.some (Addr.mk 1 0 Option.none))),(.func (.via 0 ⟨[]⟩ 0 true) v0 ⟨[.slice (some ⟨0,v1,none⟩) v2 1]⟩),(.int .i64 v3),(.int .i64 v4)=>some (code,⟨none,v0,v1,v2,v3,v4,v5,v6,v7,v8,v9,v10,v11,v12,v13,v14,v15,v16,v17,v18,v19⟩)
    | _,_,_,_,_,_,_,_=>none)
  | .code none (.loop code) ⟨t,[],⟨[.cells ⟨[(.func (.via 0 ⟨[]⟩ 0 true) v5 ⟨[.slice (some ⟨0,v6,none⟩) v7 7]⟩),(.func (.via 0 ⟨[]⟩ 0 true) v8 ⟨[.slice (some ⟨0,v9,none⟩) v10 5]⟩),(.func (.via 0 ⟨[]⟩ 0 true) v11 ⟨[.slice (some ⟨0,v12,none⟩) v13 1]⟩),(.int .i64 v14),(.int .i64 v15)]⟩ false,.cells ⟨[(.int .i64 v16),(.int .i64 v17),(.int .i64 v18),(.int .i64 v19)]⟩ false,.cells oa false],0,[]⟩⟩ =>
    (match Nat.beq (firstReg code) 9,lenIs t 66,lget t 12,lget t 3,lget t 11,lget t 34,lget t 35,lget t 36 with
    | true,true,.slice (some ⟨2,0,none⟩) ol 6,(Value.pointer (Option.some (Addr.mk 0 0 Option.none))),(Value.pointer (Option.some (Addr.mk 1 0 Option.none))),(.func (.via 0 ⟨[]⟩ 0 true) v0 ⟨[.slice (some ⟨0,v1,none⟩) v2 1]⟩),(.int .i64 v3),(.int .i64 v4)=>some (code,⟨(some (oa,ol)),v0,v1,v2,v3,v4,v5,v6,v7,v8,v9,v10,v11,v12,v13,v14,v15,v16,v17,v18,v19⟩)
    | _,_,_,_,_,_,_,_=>none)
  | _=>none
noncomputable def alt42_0 (x:X42_0) (j : List Value) : AT:=match x.own with
  | none=>.br (L42_0_k0 x) (loopEnd 66 (.ret) [(6,(lstV (L42_0_k0_0 x) (L42_0_k0_1 x) (L42_0_k0_2 x) 6)),(7,(.int .i64 (L42_0_k0_3 x)))] ⟨[.cells ⟨[(lstV (L42_0_k0_4 x) (L42_0_k0_5 x) (L42_0_k0_6 x) 7),(lstV (L42_0_k0_7 x) (L42_0_k0_8 x) (L42_0_k0_9 x) 5),(lstV (L42_0_k0_10 x) (L42_0_k0_11 x) (L42_0_k0_12 x) 1),(.int .i64 (L42_0_k0_13 x)),(.int .i64 (L42_0_k0_14 x))]⟩ false,.cells ⟨[(.int .i64 (L42_0_k0_15 x)),(.int .i64 (L42_0_k0_16 x)),(.int .i64 (L42_0_k0_17 x)),(.int .i64 (L42_0_k0_18 x))]⟩ false],0,[]⟩ j) (.br (L42_0_k1 x) (loopEnd 66 (.exit 0) [(12,(lstV (L42_0_k1_0 x) (L42_0_k1_1 x) (L42_0_k1_2 x) 6))] ⟨[.cells ⟨[(lstV (L42_0_k1_3 x) (L42_0_k1_4 x) (L42_0_k1_5 x) 7),(lstV (L42_0_k1_6 x) (L42_0_k1_7 x) (L42_0_k1_8 x) 5),(lstV (L42_0_k1_9 x) (L42_0_k1_10 x) (L42_0_k1_11 x) 1),(.int .i64 (L42_0_k1_12 x)),(.int .i64 (L42_0_k1_13 x))]⟩ false,.cells ⟨[(.int .i64 (L42_0_k1_14 x)),(.int .i64 (L42_0_k1_15 x)),(.int .i64 (L42_0_k1_16 x)),(.int .i64 (L42_0_k1_17 x))]⟩ false],0,[]⟩ j) (.no))
  | some (oa,ol)=>.br (allFz oa) (.br (L42_0_k0 x) (loopEnd 66 (.ret) [(6,(lstV (L42_0_k0_0 x) (L42_0_k0_1 x) (L42_0_k0_2 x) 6)),(7,(.int .i64 (L42_0_k0_3 x)))] ⟨[.cells ⟨[(lstV (L42_0_k0_4 x) (L42_0_k0_5 x) (L42_0_k0_6 x) 7),(lstV (L42_0_k0_7 x) (L42_0_k0_8 x) (L42_0_k0_9 x) 5),(lstV (L42_0_k0_10 x) (L42_0_k0_11 x) (L42_0_k0_12 x) 1),(.int .i64 (L42_0_k0_13 x)),(.int .i64 (L42_0_k0_14 x))]⟩ false,.cells ⟨[(.int .i64 (L42_0_k0_15 x)),(.int .i64 (L42_0_k0_16 x)),(.int .i64 (L42_0_k0_17 x)),(.int .i64 (L42_0_k0_18 x))]⟩ false,.dead],0,[]⟩ j) (.br (L42_0_k1 x) (loopEnd 66 (.exit 0) [(12,(lstV (L42_0_k1_0 x) (L42_0_k1_1 x) (L42_0_k1_2 x) 6))] ⟨[.cells ⟨[(lstV (L42_0_k1_3 x) (L42_0_k1_4 x) (L42_0_k1_5 x) 7),(lstV (L42_0_k1_6 x) (L42_0_k1_7 x) (L42_0_k1_8 x) 5),(lstV (L42_0_k1_9 x) (L42_0_k1_10 x) (L42_0_k1_11 x) 1),(.int .i64 (L42_0_k1_12 x)),(.int .i64 (L42_0_k1_13 x))]⟩ false,.cells ⟨[(.int .i64 (L42_0_k1_14 x)),(.int .i64 (L42_0_k1_15 x)),(.int .i64 (L42_0_k1_16 x)),(.int .i64 (L42_0_k1_17 x))]⟩ false,.dead],0,[]⟩ j) (.no))) .no
noncomputable def la42_0 (J : Task → List Value) : Ans:=loopAns Lp42_0.c dec42_0 alt42_0 J
theorem ha42_0 : ∀ (x:X42_0) (j : List Value) (o:Out),(alt42_0 x j).out = some o → (∀ a l,Lp42_0.own x = some (a,l) → allFz a = true) ∧ ∃ d,loopR rd42_0 x = some d ∧ o = Lp42_0.tailG x d j:=by
  intro x j o h
  obtain ⟨own,v0,v1,v2,v3,v4,v5,v6,v7,v8,v9,v10,v11,v12,v13,v14,v15,v16,v17,v18,v19⟩:=x
  cases own with
  | none =>
    refine ⟨fun a l e=>(by cases e),?_⟩
    cases hL : L42_0 ⟨none,v0,v1,v2,v3,v4,v5,v6,v7,v8,v9,v10,v11,v12,v13,v14,v15,v16,v17,v18,v19⟩ with
    | none=>simp [alt42_0,L42_0_k0,L42_0_k0_0,L42_0_k0_1,L42_0_k0_2,L42_0_k0_3,L42_0_k0_4,L42_0_k0_5,L42_0_k0_6,L42_0_k0_7,L42_0_k0_8,L42_0_k0_9,L42_0_k0_10,L42_0_k0_11,L42_0_k0_12,L42_0_k0_13,L42_0_k0_14,L42_0_k0_15,L42_0_k0_16,L42_0_k0_17,L42_0_k0_18,L42_0_k1,L42_0_k1_0,L42_0_k1_1,L42_0_k1_2,L42_0_k1_3,L42_0_k1_4,L42_0_k1_5,L42_0_k1_6,L42_0_k1_7,L42_0_k1_8,L42_0_k1_9,L42_0_k1_10,L42_0_k1_11,L42_0_k1_12,L42_0_k1_13,L42_0_k1_14,L42_0_k1_15,L42_0_k1_16,L42_0_k1_17,hL,AT.out] at h
    | some d =>
      refine ⟨d,hL,?_⟩
      cases d <;> (simp only [alt42_0,L42_0_k0,L42_0_k0_0,L42_0_k0_1,L42_0_k0_2,L42_0_k0_3,L42_0_k0_4,L42_0_k0_5,L42_0_k0_6,L42_0_k0_7,L42_0_k0_8,L42_0_k0_9,L42_0_k0_10,L42_0_k0_11,L42_0_k0_12,L42_0_k0_13,L42_0_k0_14,L42_0_k0_15,L42_0_k0_16,L42_0_k0_17,L42_0_k0_18,L42_0_k1,L42_0_k1_0,L42_0_k1_1,L42_0_k1_2,L42_0_k1_3,L42_0_k1_4,L42_0_k1_5,L42_0_k1_6,L42_0_k1_7,L42_0_k1_8,L42_0_k1_9,L42_0_k1_10,L42_0_k1_11,L42_0_k1_12,L42_0_k1_13,L42_0_k1_14,L42_0_k1_15,L42_0_k1_16,L42_0_k1_17,hL,AT.out,loopEnd,cond_true,cond_false,Option.some.injEq] at h; rw [← h]; rfl)
  | some al =>
    obtain ⟨oa,ol⟩:=al
    obtain ⟨h1,h⟩:=cond_some (show cond (allFz oa) _ none = some o from h)
    refine ⟨fun a l e=>(by cases e; exact h1),?_⟩
    cases hL : L42_0 ⟨some (oa,ol),v0,v1,v2,v3,v4,v5,v6,v7,v8,v9,v10,v11,v12,v13,v14,v15,v16,v17,v18,v19⟩ with
    | none=>simp [L42_0_k0,L42_0_k0_0,L42_0_k0_1,L42_0_k0_2,L42_0_k0_3,L42_0_k0_4,L42_0_k0_5,L42_0_k0_6,L42_0_k0_7,L42_0_k0_8,L42_0_k0_9,L42_0_k0_10,L42_0_k0_11,L42_0_k0_12,L42_0_k0_13,L42_0_k0_14,L42_0_k0_15,L42_0_k0_16,L42_0_k0_17,L42_0_k0_18,L42_0_k1,L42_0_k1_0,L42_0_k1_1,L42_0_k1_2,L42_0_k1_3,L42_0_k1_4,L42_0_k1_5,L42_0_k1_6,L42_0_k1_7,L42_0_k1_8,L42_0_k1_9,L42_0_k1_10,L42_0_k1_11,L42_0_k1_12,L42_0_k1_13,L42_0_k1_14,L42_0_k1_15,L42_0_k1_16,L42_0_k1_17,hL,AT.out] at h
    | some d =>
      refine ⟨d,hL,?_⟩
      cases d <;> (simp only [L42_0_k0,L42_0_k0_0,L42_0_k0_1,L42_0_k0_2,L42_0_k0_3,L42_0_k0_4,L42_0_k0_5,L42_0_k0_6,L42_0_k0_7,L42_0_k0_8,L42_0_k0_9,L42_0_k0_10,L42_0_k0_11,L42_0_k0_12,L42_0_k0_13,L42_0_k0_14,L42_0_k0_15,L42_0_k0_16,L42_0_k0_17,L42_0_k0_18,L42_0_k1,L42_0_k1_0,L42_0_k1_1,L42_0_k1_2,L42_0_k1_3,L42_0_k1_4,L42_0_k1_5,L42_0_k1_6,L42_0_k1_7,L42_0_k1_8,L42_0_k1_9,L42_0_k1_10,L42_0_k1_11,L42_0_k1_12,L42_0_k1_13,L42_0_k1_14,L42_0_k1_15,L42_0_k1_16,L42_0_k1_17,hL,AT.out,loopEnd,cond_true,cond_false,Option.some.injEq] at h; rw [← h]; rfl)
theorem hd42_0 : ∀ (t:Task) (c:Code) (x:X42_0),dec42_0 t = some (c,x) → c = Lp42_0.c → ∃ T,t = .code none (.loop Lp42_0.c) ⟨T,[],⟨Lp42_0.hp x ++ Lp42_0.ownB x,0,[]⟩⟩ ∧ T.length = Lp42_0.N ∧ ∀ kv ∈ (Lp42_0.os :: Lp42_0.S).zip (Lp42_0.ownV x :: Lp42_0.sl x),lget T kv.1 = kv.2:=by
  intro t c x h hc
  unfold dec42_0 at h
  split at h
  case h_3=>cases h
  all_goals
    split at h
    case h_2=>cases h
    simp only [Option.some.injEq,Prod.mk.injEq] at h
    obtain ⟨rfl,rfl⟩:=h
    subst hc
    refine ⟨_,rfl,lenIs_eq _ _ (by assumption),?_⟩
    intro kv hk
    simp only [Lp42_0,LoopG.ownV,List.zip_cons_cons,List.zip_nil_right,List.mem_cons,List.not_mem_nil,or_false] at hk
    rcases hk with rfl | rfl | rfl | rfl | rfl | rfl <;> assumption
theorem kl42_0 : ∃ J,Known Try.prog (la42_0 J):=by
  exact LoopG.known noNG mixed ok42_0 (Known.or (known20V (known20v known20)) (Known.or known91 (Known.or known92 known94))) (n:=60) (rd:=rd42_0) (fun x j _=>T42_0  x j) dec42_0 alt42_0 hd42_0 ha42_0
structure R42 where
  (r0:Array Value)
  (r1 r2:Nat)
  (r3:Int)
structure A42 where
  (a0:Array Value)
  (a1 a2:Nat)
  (a3:Array Value)
  (a4 a5:Nat)
  (a6:Array Value)
  (a7 a8:Nat)
  (a9 a10:Int)
  (a11 a12:Int)
noncomputable def rt42 (a0 : Array Value) (a1 a2:Nat) (a3 : Array Value) (a4 a5:Nat) (a6 : Array Value) (a7 a8:Nat) (a9 a10:Int) (a11 a12:Int) : RT R42 :=
  .br (F20_ok a0 a1 a2 a3 a4 a5 a6 a7 a8 a9 a10)
  (.br (not (decide ((F20_2 a0 a1 a2 a3 a4 a5 a6 a7 a8 a9 a10) = (0 : Int))))
   (.leaf ⟨⟨[]⟩,0,0,(F20_2 a0 a1 a2 a3 a4 a5 a6 a7 a8 a9 a10)⟩)
   (.br (F91_ok (0 : Int) (0 : Int) a11 a12)
    (.br (not (F91_0 (0 : Int) (0 : Int) a11 a12))
     (.leaf ⟨⟨[]⟩,0,0,(7 : Int)⟩)
     (.br (eqCode (Lp42_0.c) (Lp42_0.c))
     (.br (L42_0_k0 (X42_0.mk none a6 a7 a8 (Int.ofNat a8) (0 : Int) a0 a1 a2 a3 a4 a5 a6 a7 a8 a9 a10 (0 : Int) (0 : Int) a11 a12))
     (.leaf ⟨(L42_0_k0_0 (X42_0.mk none a6 a7 a8 (Int.ofNat a8) (0 : Int) a0 a1 a2 a3 a4 a5 a6 a7 a8 a9 a10 (0 : Int) (0 : Int) a11 a12)),(L42_0_k0_1 (X42_0.mk none a6 a7 a8 (Int.ofNat a8) (0 : Int) a0 a1 a2 a3 a4 a5 a6 a7 a8 a9 a10 (0 : Int) (0 : Int) a11 a12)),(L42_0_k0_2 (X42_0.mk none a6 a7 a8 (Int.ofNat a8) (0 : Int) a0 a1 a2 a3 a4 a5 a6 a7 a8 a9 a10 (0 : Int) (0 : Int) a11 a12)),(L42_0_k0_3 (X42_0.mk none a6 a7 a8 (Int.ofNat a8) (0 : Int) a0 a1 a2 a3 a4 a5 a6 a7 a8 a9 a10 (0 : Int) (0 : Int) a11 a12))⟩)
     (.br (L42_0_k1 (X42_0.mk none a6 a7 a8 (Int.ofNat a8) (0 : Int) a0 a1 a2 a3 a4 a5 a6 a7 a8 a9 a10 (0 : Int) (0 : Int) a11 a12))
     (.leaf ⟨(L42_0_k1_0 (X42_0.mk none a6 a7 a8 (Int.ofNat a8) (0 : Int) a0 a1 a2 a3 a4 a5 a6 a7 a8 a9 a10 (0 : Int) (0 : Int) a11 a12)),(L42_0_k1_1 (X42_0.mk none a6 a7 a8 (Int.ofNat a8) (0 : Int) a0 a1 a2 a3 a4 a5 a6 a7 a8 a9 a10 (0 : Int) (0 : Int) a11 a12)),(L42_0_k1_2 (X42_0.mk none a6 a7 a8 (Int.ofNat a8) (0 : Int) a0 a1 a2 a3 a4 a5 a6 a7 a8 a9 a10 (0 : Int) (0 : Int) a11 a12)),(0 : Int)⟩)
     (.no)))
     (.no)))
    (.no)))
  (.no)
noncomputable def en42 (r:R42) : Value:=(.tuple ⟨[(lstV r.r0 r.r1 r.r2 6),(.int .i64 r.r3)]⟩)
theorem T42 (J0 : Task → List Value) (a0 : Array Value) (a1 a2:Nat) (a3 : Array Value) (a4 a5:Nat) (a6 : Array Value) (a7 a8:Nat) (a9 a10:Int) (a11 a12:Int) : evC Try.prog (Ans.c ((p20V 20).or (p91.or (p92.or (p94.or (la42_0 J0)))))) 60 (.call 42 ⟨[(.agg ⟨[(lstV a0 a1 a2 7),(lstV a3 a4 a5 5),(lstV a6 a7 a8 1),(.int .i64 a9),(.int .i64 a10)]⟩),(.int .i64 a11),(.int .i64 a12)]⟩ ⟨[],0,[]⟩) (frzK [6,0]) = (rt42 a0 a1 a2 a3 a4 a5 a6 a7 a8 a9 a10 a11 a12).out (fun r=>.ret (en42 r) ⟨[],0,[]⟩):=by kernel_rfl
noncomputable def F42 (a0 : Array Value) (a1 a2:Nat) (a3 : Array Value) (a4 a5:Nat) (a6 : Array Value) (a7 a8:Nat) (a9 a10:Int) (a11 a12:Int) : Option R42:=(rt42 a0 a1 a2 a3 a4 a5 a6 a7 a8 a9 a10 a11 a12).val
section
variable (a0 : Array Value) (a1 a2:Nat) (a3 : Array Value) (a4 a5:Nat) (a6 : Array Value) (a7 a8:Nat) (a9 a10:Int) (a11 a12:Int)
noncomputable def F42_ok : Bool:=(F42 a0 a1 a2 a3 a4 a5 a6 a7 a8 a9 a10 a11 a12).isSome
noncomputable def F42_0 : Array Value:=match F42 a0 a1 a2 a3 a4 a5 a6 a7 a8 a9 a10 a11 a12 with | some r=>r.r0 | none=>#[]
noncomputable def F42_1 : Nat:=match F42 a0 a1 a2 a3 a4 a5 a6 a7 a8 a9 a10 a11 a12 with | some r=>r.r1 | none=>0
noncomputable def F42_2 : Nat:=match F42 a0 a1 a2 a3 a4 a5 a6 a7 a8 a9 a10 a11 a12 with | some r=>r.r2 | none=>0
noncomputable def F42_3 : Int:=match F42 a0 a1 a2 a3 a4 a5 a6 a7 a8 a9 a10 a11 a12 with | some r=>r.r3 | none=>0
end
noncomputable def dec42 : Task → Option (A42 × Hp)
  | .call g ⟨[(.agg ⟨[(.func (.via 0 ⟨[]⟩ 0 true) a0 ⟨[.slice (some ⟨0,a1,none⟩) a2 7]⟩),(.func (.via 0 ⟨[]⟩ 0 true) a3 ⟨[.slice (some ⟨0,a4,none⟩) a5 5]⟩),(.func (.via 0 ⟨[]⟩ 0 true) a6 ⟨[.slice (some ⟨0,a7,none⟩) a8 1]⟩),(.int .i64 a9),(.int .i64 a10)]⟩),(.int .i64 a11),(.int .i64 a12)]⟩ h=>(match Nat.beq g 42 with | true=>some (⟨a0,a1,a2,a3,a4,a5,a6,a7,a8,a9,a10,a11,a12⟩,h) | false=>none)
  | _=>none
noncomputable def alt42 (x:A42) (h:Hp) : AT:=.br (F42_ok x.a0 x.a1 x.a2 x.a3 x.a4 x.a5 x.a6 x.a7 x.a8 x.a9 x.a10 x.a11 x.a12) (.leaf (.ret (.tuple ⟨[(lstV (F42_0 x.a0 x.a1 x.a2 x.a3 x.a4 x.a5 x.a6 x.a7 x.a8 x.a9 x.a10 x.a11 x.a12) (F42_1 x.a0 x.a1 x.a2 x.a3 x.a4 x.a5 x.a6 x.a7 x.a8 x.a9 x.a10 x.a11 x.a12) (F42_2 x.a0 x.a1 x.a2 x.a3 x.a4 x.a5 x.a6 x.a7 x.a8 x.a9 x.a10 x.a11 x.a12) 6),(.int .i64 (F42_3 x.a0 x.a1 x.a2 x.a3 x.a4 x.a5 x.a6 x.a7 x.a8 x.a9 x.a10 x.a11 x.a12))]⟩) h)) .no
noncomputable def p42 : Ans:=fnAns dec42 alt42
theorem ha42 : ∀ (x:A42) (h:Hp) (o:Out),(alt42 x h).out = some o → ∃ r,(rt42 x.a0 x.a1 x.a2 x.a3 x.a4 x.a5 x.a6 x.a7 x.a8 x.a9 x.a10 x.a11 x.a12).val = some r ∧ o = .ret (en42 r) h:=by
  intro x h o e
  unfold alt42 at e
  cases hF : F42 x.a0 x.a1 x.a2 x.a3 x.a4 x.a5 x.a6 x.a7 x.a8 x.a9 x.a10 x.a11 x.a12 with
  | none=>simp [F42_ok,hF,AT.out] at e
  | some r =>
    refine ⟨r,hF,?_⟩
    simp only [F42_ok,F42_0,F42_1,F42_2,F42_3,hF,AT.out,Option.isSome_some,cond_true,Option.some.injEq] at e
    rw [← e]; rfl
theorem hd42 : ∀ (t:Task) (x:A42) (h:Hp),dec42 t = some (x,h) → t = .call 42 ⟨[(.agg ⟨[(lstV x.a0 x.a1 x.a2 7),(lstV x.a3 x.a4 x.a5 5),(lstV x.a6 x.a7 x.a8 1),(.int .i64 x.a9),(.int .i64 x.a10)]⟩),(.int .i64 x.a11),(.int .i64 x.a12)]⟩ h:=by
  intro t x h e
  unfold dec42 at e
  split at e
  case h_2=>cases e
  split at e
  case h_2=>cases e
  rename_i hg
  simp only [Option.some.injEq,Prod.mk.injEq] at e
  obtain ⟨rfl,rfl⟩:=e
  rw [Nat.eq_of_beq_eq_true hg]
theorem known42 : Known Try.prog p42:=by
  obtain ⟨J0,hJ0⟩:=kl42_0
  exact Known.fn noNG mixed (Known.or (known20V (known20v known20)) (Known.or known91 (Known.or known92 (Known.or known94 hJ0)))) (n:=60) (zs:=[6,0]) 42 (fun x : A42=>[(.agg ⟨[(lstV x.a0 x.a1 x.a2 7),(lstV x.a3 x.a4 x.a5 5),(lstV x.a6 x.a7 x.a8 1),(.int .i64 x.a9),(.int .i64 x.a10)]⟩),(.int .i64 x.a11),(.int .i64 x.a12)]) (fun x=>rt42 x.a0 x.a1 x.a2 x.a3 x.a4 x.a5 x.a6 x.a7 x.a8 x.a9 x.a10 x.a11 x.a12) en42 (fun x=>T42 J0 x.a0 x.a1 x.a2 x.a3 x.a4 x.a5 x.a6 x.a7 x.a8 x.a9 x.a10 x.a11 x.a12) (fun x=>rfl) dec42 alt42 hd42 ha42
end
end Go.Proofs.Ytaglpbmnadlpgaa

namespace Go.Proofs.Ytaglpbmnadlpgaa
open Go.Gi Go.RowKit
noncomputable section
set_option maxRecDepth 100000
abbrev L6s : List Leaf:=[.int .i64,.int .i64,.int .i64,.int .i64,.int .i64,.int .i64]
end
end Go.Proofs.Ytaglpbmnadlpgaa

namespace Go.Proofs.Ytaglpbmnadlpgaa
open Go.Gi Go.RowKit Go.Proofs.Ytaglpbmnadlpgaa.Old
noncomputable section
set_option maxRecDepth 100000
set_option linter.unusedVariables false
set_option linter.unusedSimpArgs false
structure Bd where
  f : Int
  t : Int
  xl : Int
  xh : Int
  yl : Int
  yh : Int
def Bd.row (b : Bd) : List Value:=[.int .i64 b.f,.int .i64 b.t,.int .i64 b.xl,.int .i64 b.xh,.int .i64 b.yl,.int .i64 b.yh]
def rowsB : List Bd → List Value
  | []=>[]
  | b :: r=>b.row ++ rowsB r
def arrB (L : List Bd) : Array Value:=⟨rowsB L⟩
theorem rowsB_app : ∀ L M : List Bd,rowsB (L ++ M) = rowsB L ++ rowsB M
  | [],_=>rfl
  | b :: r,M=>by simp only [List.cons_append,rowsB,rowsB_app r M,List.append_assoc]
theorem rowsB_len : ∀ L : List Bd,(rowsB L).length = L.length * 6
  | []=>rfl
  | b :: r=>by simp only [rowsB,List.length_append,rowsB_len r,List.length_cons,Bd.row,List.length_nil]; omega
def encB (L : List Bd) : Option (Array Value × Nat):=match L with
  | []=>none
  | a :: r=>some (arrB (a :: r),(a :: r).length)
theorem apB_arrB (L : List Bd) (b : Bd) : apB (Array.extract (arrB L) 0 (0 + (L.length * 6))) (Array.extract ⟨b.row⟩ 0 6) = arrB (L ++ [b]):=by
  simp only [apB,arrB,Nat.zero_add,List.extract_toArray,rowsB_app]
  rw [List.extract_eq_take_drop,List.extract_eq_take_drop]
  simp only [List.drop_zero,Nat.sub_zero,rowsB,List.append_nil]
  rw [List.take_of_length_le (by rw [rowsB_len]; omega),List.take_of_length_le (by simp [Bd.row])]
  simp
theorem allFz_arrB : ∀ L : List Bd,allFz (arrB L) = true:=by
  intro L
  simp only [allFz,arrB]
  induction L with
  | nil=>rfl
  | cons b r ih=>simp only [rowsB,List.all_append,ih,Bool.and_true]; rfl
theorem size_arrB (L : List Bd) : (arrB L).size = L.length * 6:=rowsB_len L
theorem drop_rows : ∀ (L : List Bd) (i : Nat) (h : i < L.length),∃ r,(rowsB L).drop (i * 6) = (L[i]).row ++ r
  | b :: r,0,_=>⟨rowsB r,rfl⟩
  | b :: r,i + 1,h=>by
    obtain ⟨q,e⟩:=drop_rows r i (by simpa using h)
    refine ⟨q,?_⟩
    rw [show (i + 1) * 6 = 6 + i * 6 by omega]
    show (b.row ++ rowsB r).drop (6 + i * 6) = _
    rw [← List.drop_drop]
    exact e
theorem lget_drop (l : List Value) (i j : Nat) : lget (l.drop i) j = lget l (i + j):=by
  rw [lget_eq,lget_eq]
  simp [Array.getD_eq_getD_getElem?,List.getElem?_drop]
theorem rdOk_arrB (L : List Bd) {i : Nat} (h : i < L.length) : rdOk (arrB L) L6s (0 + i * 6) = true:=by
  obtain ⟨r,e⟩:=drop_rows L i h
  have g : ∀ j,lget (rowsB L) (i * 6 + j) = lget ((L[i]).row ++ r) j:=fun j=>by rw [← e,lget_drop]
  have g0:=g 0
  have g1:=g 1
  have g2:=g 2
  have g3:=g 3
  have g4:=g 4
  have g5:=g 5
  simp only [Nat.add_zero] at g0
  simp only [rdOk,rdLeaf,isInt,arrB,Nat.zero_add,Nat.add_assoc,Nat.reduceAdd,g0,g1,g2,g3,g4,g5]
  rfl
def bnds (c0 c c3 : Array Value) (n n2 : Nat) (age shear tick now : Int) : Nat → Nat → Option (List Bd)
  | 0,_=>some []
  | m + 1,k=>match ansO c0 c n n2 age shear (wLo c3 (k : Int)) (wHi c3 (k : Int)) tick now with
    | none=>none
    | some h=>match bnds c0 c c3 n n2 age shear tick now m (k + 1) with
      | none=>none
      | some R=>some (⟨wLo c3 (k : Int),getInt c3 k,h.xl,h.xh,h.yl,h.yh⟩ :: R)
section
variable {c0 c c3 : Array Value} {n n2 n3 : Nat} {age shear lo hi tick now : Int}
theorem bnds_len : ∀ m k R,bnds c0 c c3 n n2 age shear tick now m k = some R → R.length = m
  | 0,k,R,h=>by simp only [bnds,Option.some.injEq] at h; subst h; rfl
  | m + 1,k,R,h=>by
    unfold bnds at h
    split at h
    · cases h
    · split at h
      · cases h
      · rename_i R' h'
        simp only [Option.some.injEq] at h
        subst h
        simp only [List.length_cons,bnds_len m (k + 1) R' h']
theorem F92_some {h : Hd} (hv : Vld c0 0 n c 0 n2 age shear) (h81 : F81ok c0 0 n c 0 n2 c3 0 n3 age shear lo hi tick now = true) (e : ansO c0 c n n2 age shear lo hi tick now = some h) :
    F92_ok c0 0 n c 0 n2 c3 0 n3 age shear lo hi tick now = true ∧ F92_0 c0 0 n c 0 n2 c3 0 n3 age shear lo hi tick now = h.xl ∧ F92_1 c0 0 n c 0 n2 c3 0 n3 age shear lo hi tick now = h.xh ∧
    F92_2 c0 0 n c 0 n2 c3 0 n3 age shear lo hi tick now = h.yl ∧ F92_3 c0 0 n c 0 n2 c3 0 n3 age shear lo hi tick now = h.yh ∧ F92_4 c0 0 n c 0 n2 c3 0 n3 age shear lo hi tick now = true:=by
  have q:=F92_eq hv h81
  rw [e] at q
  exact ⟨by simp [F92_ok,q],by simp [F92_0,q],by simp [F92_1,q],by simp [F92_2,q],by simp [F92_3,q],by simp [F92_4,q]⟩
theorem F92_none (hv : Vld c0 0 n c 0 n2 age shear) (h81 : F81ok c0 0 n c 0 n2 c3 0 n3 age shear lo hi tick now = true) (e : ansO c0 c n n2 age shear lo hi tick now = none) :
    F92_ok c0 0 n c 0 n2 c3 0 n3 age shear lo hi tick now = true ∧ F92_4 c0 0 n c 0 n2 c3 0 n3 age shear lo hi tick now = false:=by
  have q:=F92_eq hv h81
  rw [e] at q
  exact ⟨by simp [F92_ok,q],by simp [F92_4,q]⟩
theorem loop42 (hv : Vld c0 0 n c 0 n2 age shear) (g3 : GL L1 1 c3 n3) (few : n3 ≤ 1000) (h81 : ∀ k : Nat,k < n3 → F81ok c0 0 n c 0 n2 c3 0 n3 age shear (wLo c3 (k : Int)) (wHi c3 (k : Int)) tick now = true) :
    ∀ (m k : Nat) (L : List Bd) (lo hi : Int),k + m = n3 → L.length = k → ∃ a b,
    loopR rd42_0
      ⟨encB L,c3,0,n3,(n3 : Int),(k : Int),c0,0,n,c,0,n2,c3,0,n3,age,shear,lo,hi,tick,now⟩ =
    some (match bnds c0 c c3 n n2 age shear tick now m k with
      | none=>.k0 ⟨[]⟩ 0 0 9 c0 0 n c 0 n2 c3 0 n3 age shear a b tick now
      | some R=>.k1 (arrB (L ++ R)) 0 (L ++ R).length c0 0 n c 0 n2 c3 0 n3 age shear a b tick now)
  | 0,k,L,lo,hi,e,hl=>⟨lo,hi,loopR_done (by
      obtain rfl : k = n3:=by omega
      have h1 : ¬ ((k : Int) < (k : Int)):=by omega
      cases L with
      | nil=>simp only [rd42_0,encB,RT.val,h1,Int.ofNat_eq_natCast,decide_false,cond_false,bnds]; rfl
      | cons a r =>
        simp only [rd42_0,encB,RT.val,h1,Int.ofNat_eq_natCast,decide_false,cond_false,cond_true,allFz_arrB,size_arrB,Nat.zero_add,Nat.le_refl,decide_true,Bool.and_self,bnds,List.append_nil])⟩
  | m + 1,k,L,lo,hi,e,hl=>by
    have hki : (k : Int) < (n3 : Int):=by omega
    have h0 : (0 : Int) ≤ (k : Int):=by omega
    have hidx : 0 + (Int.toNat (k : Int)) * 1 = k:=by simp
    have hi1 : isInt .i64 c3 k = true:=g3.int (by omega)
    have h3 : IntKind.wrap .i64 ((k : Int) + 1) = ((k + 1 : Nat) : Int):=by rw [wrap64_id (by omega) (by omega)]; omega
    obtain ⟨w1,w2,w3⟩:=F94_of (c1:=c0) (c2:=c) (n1:=n) (n2:=n2) (age:=age) (shear:=shear) (k:=(k : Int)) g3 (by omega) (by omega)
    have h81k:=h81 k (by omega)
    cases ha : ansO c0 c n n2 age shear (wLo c3 (k : Int)) (wHi c3 (k : Int)) tick now with
    | none =>
      obtain ⟨f1,f2⟩:=F92_none hv h81k ha
      refine ⟨wLo c3 (k : Int),wHi c3 (k : Int),loopR_done ?_⟩
      cases L with
      | nil=>simp only [rd42_0,encB,RT.val,Int.ofNat_eq_natCast,hki,h0,hidx,hi1,w1,w2,w3,f1,f2,decide_true,Bool.and_self,Bool.not_false,cond_true,bnds,ha]
      | cons a r=>simp only [rd42_0,encB,RT.val,Int.ofNat_eq_natCast,hki,h0,hidx,hi1,w1,w2,w3,f1,f2,decide_true,Bool.and_self,Bool.not_false,cond_true,bnds,ha]
    | some h =>
      obtain ⟨f1,f2,f3,f4,f5,f6⟩:=F92_some hv h81k ha
      obtain ⟨a,b,ih⟩:=loop42 hv g3 few h81 m (k + 1) (L ++ [⟨wLo c3 (k : Int),getInt c3 k,h.xl,h.xh,h.yl,h.yh⟩]) (wLo c3 (k : Int)) (wHi c3 (k : Int)) (by omega) (by simp; omega)
      refine ⟨a,b,(loopR_next ?_).trans (ih.trans ?_)⟩
      · cases L with
        | nil =>
          simp only [rd42_0,encB,RT.val,Int.ofNat_eq_natCast,hki,h0,hidx,hi1,w1,w2,w3,f1,f2,f3,f4,f5,f6,decide_true,Bool.and_self,Bool.not_true,cond_true,cond_false,h3]
          rfl
        | cons q r =>
          have hb:=apB_arrB (q :: r) ⟨wLo c3 (k : Int),getInt c3 k,h.xl,h.xh,h.yl,h.yh⟩
          simp only [Bd.row] at hb
          have hl1 : ((q :: r).length + 1) * 48 ≤ 140737488355328 ∧ (q :: r).length + 1 ≤ 4611686018427387904 ∧ 0 + (q :: r).length * 6 ≤ (arrB (q :: r)).size:=by rw [size_arrB]; omega
          simp only [rd42_0,encB,RT.val,Int.ofNat_eq_natCast,hki,h0,hidx,hi1,w1,w2,w3,f1,f2,f3,f4,f5,f6,decide_true,Bool.and_self,Bool.not_true,cond_true,cond_false,h3,hb,allFz_arrB,hl1.1,hl1.2.1,hl1.2.2]
          simp [encB]
      · conv=>rhs; unfold bnds
        rw [ha]
        cases bnds c0 c c3 n n2 age shear tick now m (k + 1) with
        | none=>rfl
        | some R=>simp
end
end
end Go.Proofs.Ytaglpbmnadlpgaa

namespace Go.Proofs.Ytaglpbmnadlpgaa
open Go.Gi Go.RowKit Go.Proofs.Ytaglpbmnadlpgaa.Old
noncomputable section
set_option maxRecDepth 100000
set_option linter.unusedVariables false
set_option linter.unusedSimpArgs false
theorem cellsB (L : List Bd) {i : Nat} (h : i < L.length) : ∀ j,lget (arrB L).toList (0 + i * 6 + j) = lget ((L[i]).row ++ (rowsB L).drop (i * 6 + 6)) j:=by
  obtain ⟨r,e⟩:=drop_rows L i h
  intro j
  have hr : (rowsB L).drop (i * 6 + 6) = r:=by
    rw [← List.drop_drop,e]; rfl
  rw [hr,← e,lget_drop,Nat.zero_add]; rfl
theorem getB (L : List Bd) {i : Nat} (h : i < L.length) : getInt (arrB L) (0 + i * 6) = L[i].f ∧ getInt (arrB L) (0 + i * 6 + 1) = L[i].t ∧ getInt (arrB L) (0 + i * 6 + 1 + 1) = L[i].xl ∧
    getInt (arrB L) (0 + i * 6 + 1 + 1 + 1) = L[i].xh ∧ getInt (arrB L) (0 + i * 6 + 1 + 1 + 1 + 1) = L[i].yl ∧ getInt (arrB L) (0 + i * 6 + 1 + 1 + 1 + 1 + 1) = L[i].yh:=by
  have g:=cellsB L h
  have g0:=g 0
  have g1:=g 1
  have g2:=g 2
  have g3:=g 3
  have g4:=g 4
  have g5:=g 5
  simp only [Nat.add_zero,Nat.add_assoc,Nat.reduceAdd] at g0 g1 g2 g3 g4 g5
  simp only [getInt,Nat.add_assoc,Nat.reduceAdd,g0,g1,g2,g3,g4,g5]
  exact ⟨rfl,rfl,rfl,rfl,rfl,rfl⟩
theorem isB1 (L : List Bd) {i : Nat} (h : i < L.length) : isInt .i64 (arrB L) (0 + i * 6 + 1) = true:=by
  have g1:=cellsB L h 1
  simp only [isInt,g1]
  rfl
def spW (a b : Int) : Prop:=a ≤ b ∧ -20000 ≤ a ∧ a ≤ 20000 ∧ -20000 ≤ b ∧ b ≤ 20000
def okBd (b : Bd) (from_ : Int) : Prop:=b.f = from_ ∧ b.f < b.t ∧ b.t ≤ 100000000 ∧ spW b.xl b.xh ∧ spW b.yl b.yh
def valF : Int → List Bd → Prop
  | _,[]=>True
  | f,b :: r=>okBd b f ∧ valF b.t r
theorem F105_of {a : Int} (h1 : -20000 ≤ a) (h2 : a ≤ 20000) : F105_ok a = true ∧ F105_0 a = true:=by
  have e : F105 a = some ⟨true⟩:=by
    unfold F105 rt105
    simp only [RT.val,h1,h2,decide_true,cond_true]
  exact ⟨by simp only [F105_ok,e]; rfl,by simp only [F105_0,e]⟩
theorem F108_of {a b : Int} (h : spW a b) : F108_ok a b = true ∧ F108_0 a b = true:=by
  obtain ⟨h1,h2,h3,h4,h5⟩:=h
  have e : F108 a b = some ⟨true⟩:=by
    unfold F108 rt108
    simp only [RT.val,h1,(F105_of h2 h3).1,(F105_of h2 h3).2,(F105_of h4 h5).1,(F105_of h4 h5).2,decide_true,cond_true]
  exact ⟨by simp only [F108_ok,e]; rfl,by simp only [F108_0,e]⟩
theorem F68_of {b : Bd} {f : Int} (h : okBd b f) : F68_ok b.f b.t b.xl b.xh b.yl b.yh f = true ∧ F68_0 b.f b.t b.xl b.xh b.yl b.yh f = 0:=by
  obtain ⟨h1,h2,h3,h4,h5⟩:=h
  obtain ⟨x1,x2⟩:=F108_of h4
  obtain ⟨y1,y2⟩:=F108_of h5
  have e : F68 b.f b.t b.xl b.xh b.yl b.yh f = some ⟨0⟩:=by
    unfold F68 rt68
    simp only [RT.val,h1,decide_eq_false (show ¬ b.t ≤ f by omega),decide_eq_false (show ¬ (100000000 : Int) < b.t by omega),x1,x2,y1,y2,decide_true,Bool.not_true,cond_true,cond_false]
  exact ⟨by simp only [F68_ok,e]; rfl,by simp only [F68_0,e]⟩
theorem loop25 (L : List Bd) (hn : L.length ≤ 1000) : ∀ (m i : Nat) (f : Int),i + m = L.length → valF f (L.drop i) →
    loopR rd25_0 ⟨f,arrB L,0,L.length,(L.length : Int),(i : Int)⟩ = some .k1
  | 0,i,f,e,h=>loopR_done (by
      have h1 : ¬ ((i : Int) < (L.length : Int)):=by omega
      simp only [rd25_0,RT.val,h1,decide_false,cond_false])
  | m + 1,i,f,e,h=>by
    have hi : i < L.length:=by omega
    rw [List.drop_eq_getElem_cons hi] at h
    obtain ⟨ho,hr⟩:=h
    refine (loopR_next ?_).trans (loop25 L hn m (i + 1) (L[i]).t (by omega) hr)
    have hki : (i : Int) < (L.length : Int):=by omega
    have h0 : (0 : Int) ≤ (i : Int):=by omega
    have h3 : IntKind.wrap .i64 ((i : Int) + 1) = ((i + 1 : Nat) : Int):=by rw [wrap64_id (by omega) (by omega)]; omega
    have hr:=rdOk_arrB L hi
    obtain ⟨b1,b2,b3,b4,b5,b6⟩:=getB L hi
    obtain ⟨k1,k2⟩:=F68_of ho
    simp only [rd25_0,RT.val,Int.ofNat_eq_natCast,hki,h0,Int.toNat_natCast,hr,b1,b2,b3,b4,b5,b6,k1,k2,h3,decide_true,Bool.and_self,Bool.not_true,cond_true,cond_false]
theorem F25_of {L : List Bd} (h1 : 1 ≤ L.length) (h2 : L.length ≤ 20) (h : valF 0 L) : F25_ok (arrB L) 0 L.length = true ∧ F25_0 (arrB L) 0 L.length = 0 ∧ F25_1 (arrB L) 0 L.length = 0:=by
  have hL:=loop25 L (by omega) L.length 0 0 (by omega) h
  have hL' : L25_0 ⟨0,arrB L,0,L.length,Int.ofNat L.length,0⟩ = _:=hL
  have e : F25 (arrB L) 0 L.length = some ⟨0,0⟩:=by
    unfold F25 rt25
    simp only [RT.val,decide_eq_false (show ¬ Int.ofNat L.length < 1 by simp only [Int.ofNat_eq_natCast]; omega),decide_eq_false (show ¬ (20 : Int) < Int.ofNat L.length by simp only [Int.ofNat_eq_natCast]; omega),eqCode_self,L25_0_k0,L25_0_k1,hL',cond_true,cond_false]
  exact ⟨by simp only [F25_ok,e]; rfl,by simp only [F25_0,e],by simp only [F25_1,e]⟩
def covB (y x : Bd) : Prop:=y.f < x.t → x.f < y.t → y.xl ≤ x.xl ∧ x.xh ≤ y.xh ∧ y.yl ≤ x.yl ∧ x.yh ≤ y.yh
theorem F109_eq (a b c d : Int) : F109_ok a b c d = true ∧ F109_0 a b c d = (decide (c ≤ a) && decide (b ≤ d)):=by
  have e : F109 a b c d = some ⟨decide (c ≤ a) && decide (b ≤ d)⟩:=by
    unfold F109 rt109
    by_cases h : c ≤ a <;> simp [RT.val,h]
  exact ⟨by simp [F109_ok,e],by simp [F109_0,e]⟩
theorem loop72 (L : List Bd) (x : Bd) (hn : L.length ≤ 1000) (h : ∀ i (hi : i < L.length),covB L[i] x) : ∀ (m i : Nat),i + m = L.length →
    loopR rd72_0 ⟨arrB L,0,L.length,(L.length : Int),(i : Int),x.f,x.t,x.xl,x.xh,x.yl,x.yh⟩ = some (.k1 x.f x.t x.xl x.xh x.yl x.yh)
  | 0,i,e=>loopR_done (by
      have h1 : ¬ ((i : Int) < (L.length : Int)):=by omega
      simp only [rd72_0,RT.val,h1,decide_false,cond_false])
  | m + 1,i,e=>by
    have hi : i < L.length:=by omega
    refine (loopR_next ?_).trans (loop72 L x hn h m (i + 1) (by omega))
    have hki : (i : Int) < (L.length : Int):=by omega
    have h0 : (0 : Int) ≤ (i : Int):=by omega
    have h3 : IntKind.wrap .i64 ((i : Int) + 1) = ((i + 1 : Nat) : Int):=by rw [wrap64_id (by omega) (by omega)]; omega
    have hr:=rdOk_arrB L hi
    obtain ⟨b1,b2,b3,b4,b5,b6⟩:=getB L hi
    have hc:=h i hi
    unfold covB at hc
    by_cases m1 : (L[i]).f < x.t
    · by_cases m2 : x.f < (L[i]).t
      · obtain ⟨q1,q2,q3,q4⟩:=hc m1 m2
        simp only [rd72_0,RT.val,Int.ofNat_eq_natCast,hki,h0,Int.toNat_natCast,hr,b1,b2,b3,b4,b5,b6,m1,m2,(F109_eq _ _ _ _).1,(F109_eq _ _ _ _).2,q1,q2,q3,q4,h3,decide_true,Bool.and_self,Bool.not_true,cond_true,cond_false]
      · simp only [rd72_0,RT.val,Int.ofNat_eq_natCast,hki,h0,Int.toNat_natCast,hr,b1,b2,m1,m2,h3,decide_true,decide_false,Bool.and_self,cond_true,cond_false]
    · simp only [rd72_0,RT.val,Int.ofNat_eq_natCast,hki,h0,Int.toNat_natCast,hr,b1,b2,m1,h3,decide_true,decide_false,Bool.and_self,cond_true,cond_false]
theorem F72_of {L : List Bd} {x : Bd} (hn : L.length ≤ 1000) (h : ∀ i (hi : i < L.length),covB L[i] x) : F72_ok (arrB L) 0 L.length x.f x.t x.xl x.xh x.yl x.yh = true ∧ F72_0 (arrB L) 0 L.length x.f x.t x.xl x.xh x.yl x.yh = true:=by
  have hL:=loop72 L x hn h L.length 0 (by omega)
  have hL' : L72_0 ⟨arrB L,0,L.length,Int.ofNat L.length,0,x.f,x.t,x.xl,x.xh,x.yl,x.yh⟩ = _:=hL
  have e : F72 (arrB L) 0 L.length x.f x.t x.xl x.xh x.yl x.yh = some ⟨true⟩:=by
    unfold F72 rt72
    simp only [RT.val,eqCode_self,L72_0_k0,L72_0_k1,hL',cond_true,cond_false]
  exact ⟨by simp only [F72_ok,e]; rfl,by simp only [F72_0,e]⟩
theorem loop29 (A B : List Bd) (hn : A.length ≤ 1000) (hm : B.length ≤ 1000) (h : ∀ i (hi : i < A.length) j (hj : j < B.length),covB A[i] B[j]) : ∀ (m j : Nat),j + m = B.length →
    loopR rd29_0 ⟨arrB A,0,A.length,arrB B,0,B.length,(B.length : Int),(j : Int)⟩ = some .k1
  | 0,j,e=>loopR_done (by
      have h1 : ¬ ((j : Int) < (B.length : Int)):=by omega
      simp only [rd29_0,RT.val,h1,decide_false,cond_false])
  | m + 1,j,e=>by
    have hj : j < B.length:=by omega
    refine (loopR_next ?_).trans (loop29 A B hn hm h m (j + 1) (by omega))
    have hki : (j : Int) < (B.length : Int):=by omega
    have h0 : (0 : Int) ≤ (j : Int):=by omega
    have h3 : IntKind.wrap .i64 ((j : Int) + 1) = ((j + 1 : Nat) : Int):=by rw [wrap64_id (by omega) (by omega)]; omega
    have hr:=rdOk_arrB B hj
    obtain ⟨b1,b2,b3,b4,b5,b6⟩:=getB B hj
    obtain ⟨k1,k2⟩:=F72_of (L:=A) (x:=B[j]) hn (fun i hi=>h i hi j hj)
    simp only [rd29_0,RT.val,Int.ofNat_eq_natCast,hki,h0,Int.toNat_natCast,hr,b1,b2,b3,b4,b5,b6,k1,k2,h3,decide_true,Bool.and_self,Bool.not_true,cond_true,cond_false]
theorem F29_of {A B : List Bd} (a1 : 1 ≤ A.length) (a2 : A.length ≤ 20) (a3 : valF 0 A) (b1 : 1 ≤ B.length) (b2 : B.length ≤ 20) (b3 : valF 0 B)
    (hl : (B[B.length - 1]'(by omega)).t ≤ (A[A.length - 1]'(by omega)).t) (h : ∀ i (hi : i < A.length) j (hj : j < B.length),covB A[i] B[j]) :
    F29_ok (arrB A) 0 A.length (arrB B) 0 B.length = true ∧ F29_0 (arrB A) 0 A.length (arrB B) 0 B.length = true ∧ F29_1 (arrB A) 0 A.length (arrB B) 0 B.length = 0:=by
  obtain ⟨p1,p2,p3⟩:=F25_of a1 a2 a3
  obtain ⟨q1,q2,q3⟩:=F25_of b1 b2 b3
  have hL:=loop29 A B (by omega) (by omega) h B.length 0 (by omega)
  have hL' : L29_0 ⟨arrB A,0,A.length,arrB B,0,B.length,Int.ofNat B.length,0⟩ = _:=hL
  have wa : IntKind.wrap .i64 ((A.length : Int) - 1) = ((A.length - 1 : Nat) : Int):=by rw [wrap64_id (by omega) (by omega)]; omega
  have wb : IntKind.wrap .i64 ((B.length : Int) - 1) = ((B.length - 1 : Nat) : Int):=by rw [wrap64_id (by omega) (by omega)]; omega
  have ia:=isB1 A (show A.length - 1 < A.length by omega)
  have ib:=isB1 B (show B.length - 1 < B.length by omega)
  have ga:=(getB A (show A.length - 1 < A.length by omega)).2.1
  have gb:=(getB B (show B.length - 1 < B.length by omega)).2.1
  have ha : (((A.length - 1 : Nat) : Int)) < (A.length : Int):=by omega
  have hb : (((B.length - 1 : Nat) : Int)) < (B.length : Int):=by omega
  have za : (0 : Int) ≤ ((A.length - 1 : Nat) : Int):=by omega
  have zb : (0 : Int) ≤ ((B.length - 1 : Nat) : Int):=by omega
  have e : F29 (arrB A) 0 A.length (arrB B) 0 B.length = some ⟨true,0⟩:=by
    unfold F29 rt29
    simp only [RT.val,p1,p3,q1,q3,Int.ofNat_eq_natCast,wa,wb,ha,hb,za,zb,Int.toNat_natCast,ia,ib,ga,gb,decide_eq_false (show ¬ (A[A.length - 1]'(by omega)).t < (B[B.length - 1]'(by omega)).t by omega),decide_true,Bool.and_self,Bool.not_true,cond_true,cond_false,eqCode_self]
    simp only [Int.ofNat_eq_natCast] at hL'
    simp only [L29_0_k0,L29_0_k1,hL',cond_true,cond_false]
  exact ⟨by simp only [F29_ok,e]; rfl,by simp only [F29_0,e],by simp only [F29_1,e]⟩
end
end Go.Proofs.Ytaglpbmnadlpgaa

namespace Go.Proofs.Ytaglpbmnadlpgaa
open Go.Gi Go.RowKit Go.Proofs.Ytaglpbmnadlpgaa.Old
noncomputable section
set_option maxRecDepth 100000
set_option linter.unusedVariables false
set_option linter.unusedSimpArgs false
def tkB (x : Int) : Bool:=decide (0 ≤ x) && decide (x ≤ 100000)
section
variable {c0 c c3 : Array Value} {n n2 n3 : Nat} {age shear h x y : Int}
def bnS (c0 c c3 : Array Value) (n n2 n3 : Nat) (age shear x y : Int) : List Bd × Int :=
  if F20_2 c0 0 n c 0 n2 c3 0 n3 age shear = 0 then
    (if (tkB x && tkB y) = true then
      (match bnds c0 c c3 n n2 age shear x y n3 0 with
       | some R=>(R,0)
       | none=>([],9))
     else ([],7))
  else ([],F20_2 c0 0 n c 0 n2 c3 0 n3 age shear)
theorem tkQ {k : Nat} (hc : ∀ k,k < n3 → 1 ≤ getInt c3 k ∧ getInt c3 k ≤ 100000000) (hk : k < n3) (hxy : (tkB x && tkB y) = true) : Qst (wLo c3 (k : Int)) (wHi c3 (k : Int)) x y :=
  qst hc (show qErr n3 (k : Int) x y = 0 by
    unfold qErr
    rw [if_neg (by omega)]
    exact if_pos hxy)
theorem F42_eq (g1 : GL L7 7 c0 n) (g2 : GL L5 5 c n2) (g3 : GL L1 1 c3 n3) : F42 c0 0 n c 0 n2 c3 0 n3 age shear x y =
    some ⟨arrB (bnS c0 c c3 n n2 n3 age shear x y).1,0,(bnS c0 c c3 n n2 n3 age shear x y).1.length,(bnS c0 c c3 n n2 n3 age shear x y).2⟩:=by
  have hok:=F20_ok_of (age:=age) (shear:=shear) g1 g2 g3
  have k4 : F91_0 0 0 x y = (tkB x && tkB y):=F91_0_eq 0 0 x y
  unfold F42 rt42 bnS
  by_cases hz : F20_2 c0 0 n c 0 n2 c3 0 n3 age shear = 0
  · obtain ⟨hv,hn,hc⟩:=vld g1 g2 g3 hz
    rw [if_pos hz]
    by_cases hxy : (tkB x && tkB y) = true
    · rw [if_pos hxy]
      obtain ⟨a,b,hL⟩:=loop42 (tick:=x) (now:=y) hv g3 (by omega) (fun k hk=>dec_iff.2 ⟨hok,hz,tkQ hc hk hxy⟩) n3 0 [] 0 0 (by omega) rfl
      have hL' : L42_0 ⟨none,c3,0,n3,Int.ofNat n3,0,c0,0,n,c,0,n2,c3,0,n3,age,shear,0,0,x,y⟩ = _:=hL
      cases hb : bnds c0 c c3 n n2 age shear x y n3 0 with
      | none =>
        rw [hb] at hL'
        simp only [RT.val,hok,hz,F91_ok_eq,k4,hxy,eqCode_self,L42_0_k0,L42_0_k0_0,L42_0_k0_1,L42_0_k0_2,L42_0_k0_3,hL',decide_true,Bool.not_true,cond_true,cond_false]
        rfl
      | some R =>
        rw [hb] at hL'
        simp only [RT.val,hok,hz,F91_ok_eq,k4,hxy,eqCode_self,L42_0_k0,L42_0_k1,L42_0_k1_0,L42_0_k1_1,L42_0_k1_2,hL',decide_true,Bool.not_true,cond_true,cond_false,List.nil_append]
    · rw [if_neg hxy]
      rw [Bool.not_eq_true] at hxy
      simp only [RT.val,hok,hz,F91_ok_eq,k4,hxy,decide_true,Bool.not_true,Bool.not_false,cond_true,cond_false]
      rfl
  · rw [if_neg hz]
    simp only [RT.val,hok,hz,decide_false,Bool.not_false,cond_true]
    rfl
end
end
end Go.Proofs.Ytaglpbmnadlpgaa

namespace Go.Proofs.Ytaglpbmnadlpgaa
open Go.Gi Go.RowKit Go.Proofs.Ytaglpbmnadlpgaa.Old
noncomputable section
set_option maxRecDepth 100000
set_option linter.unusedVariables false
set_option linter.unusedSimpArgs false
section
variable {c0 c c3 : Array Value} {n n2 n3 : Nat} {age shear lo hi tick now x y : Int}
theorem cuts_up (g1 : GL L7 7 c0 n) (g2 : GL L5 5 c n2) (g3 : GL L1 1 c3 n3) (h : F20_2 c0 0 n c 0 n2 c3 0 n3 age shear = 0) : ∀ k,0 < k → k < n3 → getInt c3 (k - 1) < getInt c3 k:=by
  have hz:=ck_zero (show ck3 (some ⟨0,0,none⟩) (some ⟨1,0,none⟩) (some ⟨2,0,none⟩) n n2 n3 age shear [obF n c0,obF n2 c,obF n3 c3] = 0 from h)
  intro k h0 hk
  have:=hz.cut k hk
  rw [arrF2 (by omega)] at this
  unfold tmE at this
  simp only [offOf,Nat.zero_add] at this
  by_cases h1 : inB (getInt c3 k) 1 100000000 = false
  · rw [if_pos h1] at this; omega
  · rw [if_neg h1] at this
    by_cases h2 : 0 < k ∧ getInt c3 k ≤ getInt c3 (k - 1)
    · simp [h2] at this
    · omega
theorem ansO_sp {h : Hd} (e : ansO c0 c n n2 age shear lo hi tick now = some h) : spW h.xl h.xh ∧ spW h.yl h.yh:=by
  unfold ansO at e
  by_cases he : emp (all c0 c n2 age shear lo hi tick now (chB 128 (-1))) = true
  · rw [if_pos he] at e
    split at e
    · rename_i s hs
      simp only [Option.some.injEq] at e
      subst e
      exact all_spW (cul_mem n 0 (by rw [hs]; exact List.mem_cons_self))
    · cases e
  · rw [if_neg he] at e
    simp only [Option.some.injEq] at e
    subst e
    exact all_spW (by simpa using he)
theorem wLo_next {k : Nat} : wLo c3 ((k + 1 : Nat) : Int) = getInt c3 k:=by
  unfold wLo
  rw [if_pos (by omega)]
  congr 1
  omega
theorem bnds_valF (up : ∀ k,0 < k → k < n3 → getInt c3 (k - 1) < getInt c3 k) (hc : ∀ k,k < n3 → 1 ≤ getInt c3 k ∧ getInt c3 k ≤ 100000000) : ∀ m k R,k + m = n3 → bnds c0 c c3 n n2 age shear tick now m k = some R → valF (wLo c3 (k : Int)) R
  | 0,k,R,e,h=>by simp only [bnds,Option.some.injEq] at h; subst h; trivial
  | m + 1,k,R,e,h=>by
    unfold bnds at h
    split at h
    · cases h
    · rename_i H hH
      split at h
      · cases h
      · rename_i R' h'
        simp only [Option.some.injEq] at h
        subst h
        have hk:=hc k (by omega)
        have hlo : wLo c3 (k : Int) < getInt c3 k:=by
          cases k with
          | zero=>unfold wLo; rw [if_neg (by omega)]; omega
          | succ k=>rw [wLo_next]; exact up (k + 1) (by omega) (by omega)
        obtain ⟨s1,s2⟩:=ansO_sp hH
        refine ⟨⟨rfl,hlo,hk.2,s1,s2⟩,?_⟩
        rw [← wLo_next]
        exact bnds_valF up hc m (k + 1) R' (by omega) h'
theorem bnds_get : ∀ m k R,bnds c0 c c3 n n2 age shear tick now m k = some R → ∀ i (hi : i < R.length),∃ H,ansO c0 c n n2 age shear (wLo c3 ((k + i : Nat) : Int)) (wHi c3 ((k + i : Nat) : Int)) tick now = some H ∧ R[i] = ⟨wLo c3 ((k + i : Nat) : Int),getInt c3 (k + i),H.xl,H.xh,H.yl,H.yh⟩
  | 0,k,R,h,i,hi=>by simp only [bnds,Option.some.injEq] at h; subst h; simp at hi
  | m + 1,k,R,h,i,hi=>by
    unfold bnds at h
    split at h
    · cases h
    · rename_i H hH
      split at h
      · cases h
      · rename_i R' h'
        simp only [Option.some.injEq] at h
        subst h
        cases i with
        | zero=>exact ⟨H,hH,rfl⟩
        | succ i =>
          have:=bnds_get m (k + 1) R' h' i (by simpa using hi)
          rw [show k + (i + 1) = k + 1 + i by omega]
          simpa using this
theorem bnds_some : ∀ m k,(∀ i,i < m → ∃ H,ansO c0 c n n2 age shear (wLo c3 ((k + i : Nat) : Int)) (wHi c3 ((k + i : Nat) : Int)) tick now = some H) → ∃ R,bnds c0 c c3 n n2 age shear tick now m k = some R
  | 0,k,h=>⟨[],rfl⟩
  | m + 1,k,h=>by
    obtain ⟨H,hH⟩:=h 0 (by omega)
    obtain ⟨R,hR⟩:=bnds_some m (k + 1) fun i hi=>by
      have:=h (i + 1) (by omega)
      rw [show k + 1 + i = k + (i + 1) by omega]
      exact this
    unfold bnds
    rw [Nat.add_zero] at hH
    rw [hH,hR]
    exact ⟨_,rfl⟩
theorem begun_mono {a b s : Int} (hs : 0 < s) (ha : 0 ≤ a) (h : a ≤ b) : begunI a s ≤ begunI b s:=by
  unfold begunI
  rw [Int.tdiv_eq_ediv_of_nonneg (by omega),Int.tdiv_eq_ediv_of_nonneg (by omega)]
  exact Int.ediv_le_ediv hs (by omega)
theorem absI_nonneg (a b : Int) : 0 ≤ absI a b:=by unfold absI; omega
theorem dbI_mono {lo' hi' tick' : Int} {k : Nat} (ha : 0 ≤ age) (hs : 0 ≤ shear) (h1 : absI (getInt c (0 + k * 5 + 1)) tick ≤ absI (getInt c (0 + k * 5 + 1)) tick')
    (h2 : max (absI (getInt c (0 + k * 5 + 2)) lo) (absI (getInt c (0 + k * 5 + 2)) hi) ≤ max (absI (getInt c (0 + k * 5 + 2)) lo') (absI (getInt c (0 + k * 5 + 2)) hi')) :
    dbI c0 0 c 0 age shear lo hi tick k ≤ dbI c0 0 c 0 age shear lo' hi' tick' k:=by
  unfold dbI
  have b1:=begun_mono (s:=600) (by omega) (absI_nonneg _ _) h1
  have b2:=begun_mono (s:=100000) (by omega) (a:=max (absI (getInt c (0 + k * 5 + 2)) lo) (absI (getInt c (0 + k * 5 + 2)) hi)) (by have:=absI_nonneg (getInt c (0 + k * 5 + 2)) lo; omega) h2
  have m1:=Int.mul_le_mul_of_nonneg_left b1 ha
  have m2:=Int.mul_le_mul_of_nonneg_left b2 hs
  omega
end
end
end Go.Proofs.Ytaglpbmnadlpgaa

