/- Part 12 of the texts below the claim. Conditions: none. -/
import Derived.Test.YtaglpbmnadlpgaaMg11
import Derived.Test.YtaglpbmnadlpgaaMg10
import Derived.Test.YtaglpbmnadlpgaaMg6
import Derived.Test.YtaglpbmnadlpgaaMg8
import Derived.Test.YtaglpbmnadlpgaaMg5
namespace Go.Proofs.Ytaglpbmnadlpgaa
open Go.Gi Go.RowKit Go.Proofs.Ytaglpbmnadlpgaa.Old
noncomputable section
set_option maxRecDepth 100000
set_option linter.unusedVariables false
set_option linter.unusedSimpArgs false
section
variable {c0 c c3 : Array Value} {n n2 n3 : Nat} {age shear k x y : Int}
def blm (c0 c c3 : Array Value) (n n2 n3 : Nat) (age shear k x y : Int) : List Int × Bool × Int :=
  if F20_2 c0 0 n c 0 n2 c3 0 n3 age shear = 0 then
    (if qErr n3 k x y = 0 then (if emp (all c0 c n2 age shear (wLo c3 k) (wHi c3 k) x y (chB 128 (-1))) = true then (cul c0 c n2 age shear (wLo c3 k) (wHi c3 k) x y n 0,false,0) else ([],true,0)) else ([],false,qErr n3 k x y))
  else ([],false,F20_2 c0 0 n c 0 n2 c3 0 n3 age shear)
theorem F80_of (g : GL L1 1 c3 n3) (h : qErr n3 k x y = 0) : F80_ok c0 0 n c 0 n2 c3 0 n3 age shear k x y = true ∧ F80_0 c0 0 n c 0 n2 c3 0 n3 age shear k x y = wLo c3 k ∧ F80_1 c0 0 n c 0 n2 c3 0 n3 age shear k x y = wHi c3 k ∧
    F80_2 c0 0 n c 0 n2 c3 0 n3 age shear k x y = x ∧ F80_3 c0 0 n c 0 n2 c3 0 n3 age shear k x y = y ∧ F80_4 c0 0 n c 0 n2 c3 0 n3 age shear k x y = 0:=by
  have e:=F80_eq (c1:=c0) (c2:=c) (n1:=n) (n2:=n2) (age:=age) (shear:=shear) (k:=k) (x:=x) (y:=y) g
  rw [if_pos h] at e
  exact ⟨by simp [F80_ok,e],by simp [F80_0,e],by simp [F80_1,e],by simp [F80_2,e],by simp [F80_3,e],by simp [F80_4,e]⟩
theorem F80_err (g : GL L1 1 c3 n3) (h : ¬ qErr n3 k x y = 0) : F80_ok c0 0 n c 0 n2 c3 0 n3 age shear k x y = true ∧ F80_4 c0 0 n c 0 n2 c3 0 n3 age shear k x y = qErr n3 k x y:=by
  have e:=F80_eq (c1:=c0) (c2:=c) (n1:=n) (n2:=n2) (age:=age) (shear:=shear) (k:=k) (x:=x) (y:=y) g
  rw [if_neg h] at e
  exact ⟨by simp [F80_ok,e],by simp [F80_4,e]⟩
theorem F38_eq (g1 : GL L7 7 c0 n) (g2 : GL L5 5 c n2) (g3 : GL L1 1 c3 n3) : F38 c0 0 n c 0 n2 c3 0 n3 age shear k x y =
    some ⟨arrI (blm c0 c c3 n n2 n3 age shear k x y).1,0,(blm c0 c c3 n n2 n3 age shear k x y).1.length,(blm c0 c c3 n n2 n3 age shear k x y).2.1,(blm c0 c c3 n n2 n3 age shear k x y).2.2⟩:=by
  have hok:=F20_ok_of (age:=age) (shear:=shear) g1 g2 g3
  unfold F38 rt38 blm
  by_cases hz : F20_2 c0 0 n c 0 n2 c3 0 n3 age shear = 0
  · rw [if_pos hz]
    by_cases hq : qErr n3 k x y = 0
    · rw [if_pos hq]
      obtain ⟨hv,_,hc⟩:=vld g1 g2 g3 hz
      have hQ:=qst hc hq
      obtain ⟨k1,k2,k3,k4,k5,k6⟩:=F80_of (c0:=c0) (c:=c) (n:=n) (n2:=n2) (age:=age) (shear:=shear) g3 hq
      have h81 : F81ok c0 0 n c 0 n2 c3 0 n3 age shear (wLo c3 k) (wHi c3 k) x y = true:=dec_iff.2 ⟨hok,hz,hQ⟩
      obtain ⟨f1,f2,f3,f4⟩:=F81_of (c3:=c3) (off3:=0) (n3:=n3) (lo:=wLo c3 k) (hi:=wHi c3 k) (tick:=x) (now:=y) (g:=88) (q:=0) hv
      have e88 : all c0 c n2 age shear (wLo c3 k) (wHi c3 k) x y (chB 88 0) = all c0 c n2 age shear (wLo c3 k) (wHi c3 k) x y (chB 128 (-1)):=all_congr fun i hi=>by
        have:=hv.src i hi
        show true = !decide (getInt c (0 + i * 5) = -1)
        rw [decide_eq_false (by omega)]; rfl
      rw [e88] at f1 f2 f3 f4
      obtain ⟨m1,m2,m3,m4⟩:=F89_eq hv h81
      by_cases he : emp (all c0 c n2 age shear (wLo c3 k) (wHi c3 k) x y (chB 128 (-1))) = true
      · rw [if_pos he]
        unfold emp at he
        simp only [RT.val,hok,hz,k1,k2,k3,k4,k5,k6,h81,f1,f2,f3,f4,(F83_of _ _ _ _).1,(F83_of _ _ _ _).2,he,m1,m2,m3,m4,decide_true,Bool.not_true,cond_true,cond_false]
      · rw [if_neg he]
        unfold emp at he
        rw [Bool.not_eq_true] at he
        simp only [RT.val,hok,hz,k1,k2,k3,k4,k5,k6,h81,f1,f2,f3,f4,(F83_of _ _ _ _).1,(F83_of _ _ _ _).2,he,decide_true,Bool.not_true,Bool.not_false,cond_true,cond_false]
        rfl
    · rw [if_neg hq]
      obtain ⟨k1,k6⟩:=F80_err (c0:=c0) (c:=c) (n:=n) (n2:=n2) (age:=age) (shear:=shear) g3 hq
      simp only [RT.val,hok,hz,k1,k6,hq,decide_true,decide_false,Bool.not_true,Bool.not_false,cond_true,cond_false]
      rfl
  · rw [if_neg hz]
    simp only [RT.val,hok,hz,decide_false,Bool.not_false,cond_true]
    rfl
end
end
end Go.Proofs.Ytaglpbmnadlpgaa

namespace Go.Proofs.Ytaglpbmnadlpgaa
open Go.Gi Go.RowKit Go.Proofs.Ytaglpbmnadlpgaa.Old
noncomputable section
set_option maxRecDepth 100000
set_option linter.unusedVariables false
set_option linter.unusedSimpArgs false
theorem getInt_arrI (L : List Int) {i : Nat} (h : i < L.length) : getInt (arrI L) i = L[i]:=by
  simp [getInt,arrI,lget_eq,h]
def ansO (c0 c : Array Value) (n n2 : Nat) (age shear lo hi tick now : Int) : Option Hd :=
  if emp (all c0 c n2 age shear lo hi tick now (chB 128 (-1))) = true then
    (match cul c0 c n2 age shear lo hi tick now n 0 with
     | [s]=>some (all c0 c n2 age shear lo hi tick now (chB 128 s))
     | _=>none)
  else some (all c0 c n2 age shear lo hi tick now (chB 128 (-1)))
section
variable {c0 c c3 : Array Value} {n n2 n3 : Nat} {age shear lo hi tick now : Int}
theorem all88 (hv : Vld c0 0 n c 0 n2 age shear) : all c0 c n2 age shear lo hi tick now (chB 88 0) = all c0 c n2 age shear lo hi tick now (chB 128 (-1)):=all_congr fun i hi=>by
  have:=hv.src i hi
  show true = !decide (getInt c (0 + i * 5) = -1)
  rw [decide_eq_false (by omega)]; rfl
theorem F92_eq (hv : Vld c0 0 n c 0 n2 age shear) (h81 : F81ok c0 0 n c 0 n2 c3 0 n3 age shear lo hi tick now = true) :
    F92 c0 0 n c 0 n2 c3 0 n3 age shear lo hi tick now = some (match ansO c0 c n n2 age shear lo hi tick now with
      | some h=>⟨h.xl,h.xh,h.yl,h.yh,true⟩
      | none=>⟨0,0,0,0,false⟩):=by
  obtain ⟨f1,f2,f3,f4⟩:=F81_of (c3:=c3) (off3:=0) (n3:=n3) (lo:=lo) (hi:=hi) (tick:=tick) (now:=now) (g:=88) (q:=0) hv
  rw [all88 hv] at f1 f2 f3 f4
  obtain ⟨m1,m2,m3,m4⟩:=F89_eq hv h81
  unfold F92 rt92 ansO
  by_cases he : emp (all c0 c n2 age shear lo hi tick now (chB 128 (-1))) = true
  · rw [if_pos he]
    unfold emp at he
    cases hc : cul c0 c n2 age shear lo hi tick now n 0 with
    | nil =>
      rw [hc] at m2 m4
      simp only [RT.val,h81,f1,f2,f3,f4,(F83_of _ _ _ _).1,(F83_of _ _ _ _).2,he,m1,m2,m3,m4,cond_true]
      rfl
    | cons s r =>
      rw [hc] at m2 m4
      cases r with
      | nil =>
        obtain ⟨q1,q2,q3,q4⟩:=F81_of (c3:=c3) (off3:=0) (n3:=n3) (lo:=lo) (hi:=hi) (tick:=tick) (now:=now) (g:=128) (q:=s) hv
        have e1 : decide (Int.ofNat [s].length = (1 : Int)) = true:=rfl
        have e2 : decide ((0 : Int) < Int.ofNat [s].length) = true:=rfl
        have e3 : isInt .i64 (arrI [s]) (0 + 0) = true:=isInt_arrI [s] (by simp)
        have e4 : getInt (arrI [s]) (0 + 0) = s:=getInt_arrI [s] (by simp)
        simp only [RT.val,h81,f1,f2,f3,f4,(F83_of _ _ _ _).1,(F83_of _ _ _ _).2,he,m1,m2,m3,m4,e1,e2,e3,e4,F121_eq,q1,q2,q3,q4,arrEq_self,decide_true,Bool.and_self,Bool.not_true,cond_true,cond_false]
      | cons s2 r =>
        have e1 : decide (Int.ofNat (s :: s2 :: r).length = (1 : Int)) = false:=by
          rw [decide_eq_false_iff_not]; simp only [List.length_cons,Int.ofNat_eq_natCast]; omega
        simp only [RT.val,h81,f1,f2,f3,f4,(F83_of _ _ _ _).1,(F83_of _ _ _ _).2,he,m1,m2,m3,m4,e1,Bool.not_false,cond_true,cond_false]
  · rw [if_neg he]
    unfold emp at he
    rw [Bool.not_eq_true] at he
    simp only [RT.val,h81,f1,f2,f3,f4,(F83_of _ _ _ _).1,(F83_of _ _ _ _).2,he,decide_true,cond_true,cond_false]
end
end
end Go.Proofs.Ytaglpbmnadlpgaa

namespace Go.Proofs.Ytaglpbmnadlpgaa
open Go.Gi Go.RowKit Go.Proofs.Ytaglpbmnadlpgaa.Old
noncomputable section
set_option maxRecDepth 100000
set_option linter.unusedVariables false
set_option linter.unusedSimpArgs false
section
variable (c0 c : Array Value) (age shear lo hi tick now : Int)
def nearX (k : Nat) (v : Int) : Prop:=getInt c (0 + k * 5 + 3) - dbI c0 0 c 0 age shear lo hi tick k ≤ v ∧ v ≤ getInt c (0 + k * 5 + 3) + dbI c0 0 c 0 age shear lo hi tick k
def nearY (k : Nat) (v : Int) : Prop:=getInt c (0 + k * 5 + 4) - dbI c0 0 c 0 age shear lo hi tick k ≤ v ∧ v ≤ getInt c (0 + k * 5 + 4) + dbI c0 0 c 0 age shear lo hi tick k
def inX (h : Hd) (v : Int) : Prop:=h.xl ≤ v ∧ v ≤ h.xh
def inY (h : Hd) (v : Int) : Prop:=h.yl ≤ v ∧ v ≤ h.yh
theorem hdP_inX (p : Int → Bool) (v : Int) : ∀ (m k : Nat) (s : Hd),inX (hdP c0 c age shear lo hi tick now p m k s) v ↔
    inX s v ∧ ∀ i,k ≤ i → i < k + m → knP c0 0 c 0 now i = true → p (getInt c (0 + i * 5)) = true → nearX c0 c age shear lo hi tick i v
  | 0,k,s=>by
    unfold hdP
    exact ⟨fun h=>⟨h,fun i h1 h2=>by omega⟩,fun h=>h.1⟩
  | m + 1,k,s=>by
    unfold hdP
    rw [hdP_inX p v m (k + 1)]
    by_cases hk : knP c0 0 c 0 now k = true ∧ p (getInt c (0 + k * 5)) = true
    · rw [if_pos hk]
      constructor
      · rintro ⟨h1,h2⟩
        simp only [inX,upd] at h1
        refine ⟨⟨by omega,by omega⟩,fun i hi1 hi2 a b=>?_⟩
        rcases Nat.eq_or_lt_of_le hi1 with rfl | hlt
        · exact ⟨by omega,by omega⟩
        · exact h2 i (by omega) (by omega) a b
      · rintro ⟨h1,h2⟩
        have hn:=h2 k (Nat.le_refl k) (by omega) hk.1 hk.2
        simp only [nearX] at hn
        simp only [inX] at h1
        refine ⟨?_,fun i hi1 hi2 a b=>h2 i (by omega) (by omega) a b⟩
        simp only [inX,upd]
        exact ⟨by omega,by omega⟩
    · rw [if_neg hk]
      constructor
      · rintro ⟨h1,h2⟩
        refine ⟨h1,fun i hi1 hi2 a b=>?_⟩
        rcases Nat.eq_or_lt_of_le hi1 with rfl | hlt
        · exact absurd ⟨a,b⟩ hk
        · exact h2 i (by omega) (by omega) a b
      · rintro ⟨h1,h2⟩
        exact ⟨h1,fun i hi1 hi2 a b=>h2 i (by omega) (by omega) a b⟩
theorem hdP_inY (p : Int → Bool) (v : Int) : ∀ (m k : Nat) (s : Hd),inY (hdP c0 c age shear lo hi tick now p m k s) v ↔
    inY s v ∧ ∀ i,k ≤ i → i < k + m → knP c0 0 c 0 now i = true → p (getInt c (0 + i * 5)) = true → nearY c0 c age shear lo hi tick i v
  | 0,k,s=>by
    unfold hdP
    exact ⟨fun h=>⟨h,fun i h1 h2=>by omega⟩,fun h=>h.1⟩
  | m + 1,k,s=>by
    unfold hdP
    rw [hdP_inY p v m (k + 1)]
    by_cases hk : knP c0 0 c 0 now k = true ∧ p (getInt c (0 + k * 5)) = true
    · rw [if_pos hk]
      constructor
      · rintro ⟨h1,h2⟩
        simp only [inY,upd] at h1
        refine ⟨⟨by omega,by omega⟩,fun i hi1 hi2 a b=>?_⟩
        rcases Nat.eq_or_lt_of_le hi1 with rfl | hlt
        · exact ⟨by omega,by omega⟩
        · exact h2 i (by omega) (by omega) a b
      · rintro ⟨h1,h2⟩
        have hn:=h2 k (Nat.le_refl k) (by omega) hk.1 hk.2
        simp only [nearY] at hn
        simp only [inY] at h1
        refine ⟨?_,fun i hi1 hi2 a b=>h2 i (by omega) (by omega) a b⟩
        simp only [inY,upd]
        exact ⟨by omega,by omega⟩
    · rw [if_neg hk]
      constructor
      · rintro ⟨h1,h2⟩
        refine ⟨h1,fun i hi1 hi2 a b=>?_⟩
        rcases Nat.eq_or_lt_of_le hi1 with rfl | hlt
        · exact absurd ⟨a,b⟩ hk
        · exact h2 i (by omega) (by omega) a b
      · rintro ⟨h1,h2⟩
        exact ⟨h1,fun i hi1 hi2 a b=>h2 i (by omega) (by omega) a b⟩
theorem all_inX (n2 : Nat) (p : Int → Bool) (v : Int) : inX (all c0 c n2 age shear lo hi tick now p) v ↔
    (-20000 ≤ v ∧ v ≤ 20000) ∧ ∀ i,i < n2 → knP c0 0 c 0 now i = true → p (getInt c (0 + i * 5)) = true → nearX c0 c age shear lo hi tick i v:=by
  unfold all
  rw [hdP_inX]
  exact ⟨fun h=>⟨h.1,fun i hi a b=>h.2 i (by omega) (by omega) a b⟩,fun h=>⟨h.1,fun i _ hi a b=>h.2 i (by omega) a b⟩⟩
theorem all_inY (n2 : Nat) (p : Int → Bool) (v : Int) : inY (all c0 c n2 age shear lo hi tick now p) v ↔
    (-20000 ≤ v ∧ v ≤ 20000) ∧ ∀ i,i < n2 → knP c0 0 c 0 now i = true → p (getInt c (0 + i * 5)) = true → nearY c0 c age shear lo hi tick i v:=by
  unfold all
  rw [hdP_inY]
  exact ⟨fun h=>⟨h.1,fun i hi a b=>h.2 i (by omega) (by omega) a b⟩,fun h=>⟨h.1,fun i _ hi a b=>h.2 i (by omega) a b⟩⟩
end
theorem emp_iff (h : Hd) : emp h = false ↔ h.xl ≤ h.xh ∧ h.yl ≤ h.yh:=by
  unfold emp
  rw [Bool.or_eq_false_iff,decide_eq_false_iff_not,decide_eq_false_iff_not]
  omega
def wid (a b : Hd) : Prop:=a.xl ≤ b.xl ∧ b.xh ≤ a.xh ∧ a.yl ≤ b.yl ∧ b.yh ≤ a.yh
theorem wid_of {a b : Hd} (hb : emp b = false) (hx : ∀ v,inX b v → inX a v) (hy : ∀ v,inY b v → inY a v) : emp a = false ∧ wid a b:=by
  rw [emp_iff] at hb
  have x1:=hx b.xl ⟨Int.le_refl _,hb.1⟩
  have x2:=hx b.xh ⟨hb.1,Int.le_refl _⟩
  have y1:=hy b.yl ⟨Int.le_refl _,hb.2⟩
  have y2:=hy b.yh ⟨hb.2,Int.le_refl _⟩
  simp only [inX,inY] at x1 x2 y1 y2
  exact ⟨(emp_iff a).2 ⟨by omega,by omega⟩,by omega,by omega,by omega,by omega⟩
end
end Go.Proofs.Ytaglpbmnadlpgaa

namespace Go.Proofs.Ytaglpbmnadlpgaa
open Go.Gi Go.RowKit Go.Proofs.Ytaglpbmnadlpgaa.Old
noncomputable section
set_option maxRecDepth 100000
set_option maxHeartbeats 4000000
set_option linter.unusedVariables false
set_option linter.unusedSimpArgs false
structure X42_0 where
  own : Option (Array Value × Nat)
  (v0:Array Value)
  (v1 v2:Nat)
  (v3 v4:Int)
  (v5:Array Value)
  (v6 v7:Nat)
  (v8:Array Value)
  (v9 v10:Nat)
  (v11:Array Value)
  (v12 v13:Nat)
  (v14 v15:Int)
  (v16 v17:Int)
  (v18 v19:Int)
inductive D42_0 where
  | k0 (d0 : Array Value) (d1 d2:Nat) (d3:Int) (d4 : Array Value) (d5 d6:Nat) (d7 : Array Value) (d8 d9:Nat) (d10 : Array Value) (d11 d12:Nat) (d13 d14:Int) (d15 d16:Int) (d17 d18:Int)
  | k1 (d0 : Array Value) (d1 d2:Nat) (d3 : Array Value) (d4 d5:Nat) (d6 : Array Value) (d7 d8:Nat) (d9 : Array Value) (d10 d11:Nat) (d12 d13:Int) (d14 d15:Int) (d16 d17:Int)
noncomputable def Lp42_0 : LoopG X42_0 D42_0 where
  c:=(theLoop Try.prog 42 0)
  N:=66
  M:=2
  S:=[3,11,34,35,36]
  os:=12
  sz:=6
  z:=6
  own:=fun x=>x.own
  sl:=fun x=>[(Value.pointer (Option.some (Addr.mk 0 0 Option.none))),(Value.pointer (Option.some (Addr.mk 1 0 Option.none))),(lstV x.v0 x.v1 x.v2 1),(.int .i64 x.v3),(.int .i64 x.v4)]
  hp:=fun x=>[.cells ⟨[(lstV x.v5 x.v6 x.v7 7),(lstV x.v8 x.v9 x.v10 5),(lstV x.v11 x.v12 x.v13 1),(.int .i64 x.v14),(.int .i64 x.v15)]⟩ false,.cells ⟨[(.int .i64 x.v16),(.int .i64 x.v17),(.int .i64 x.v18),(.int .i64 x.v19)]⟩ false]
  ex:=fun d=>match d with | .k0 ..=>.ret | .k1 ..=>.exit 0
  pick:=fun e=>match e with | .ret=>[6,7] | .exit 0=>[12] | _=>[]
  dv:=fun d=>match d with | .k0 d0 d1 d2 d3 d4 d5 d6 d7 d8 d9 d10 d11 d12 d13 d14 d15 d16 d17 d18=>[(lstV d0 d1 d2 6),(.int .i64 d3)] | .k1 d0 d1 d2 d3 d4 d5 d6 d7 d8 d9 d10 d11 d12 d13 d14 d15 d16 d17=>[(lstV d0 d1 d2 6)]
  dh:=fun d=>match d with | .k0 d0 d1 d2 d3 d4 d5 d6 d7 d8 d9 d10 d11 d12 d13 d14 d15 d16 d17 d18=>[.cells ⟨[(lstV d4 d5 d6 7),(lstV d7 d8 d9 5),(lstV d10 d11 d12 1),(.int .i64 d13),(.int .i64 d14)]⟩ false,.cells ⟨[(.int .i64 d15),(.int .i64 d16),(.int .i64 d17),(.int .i64 d18)]⟩ false] | .k1 d0 d1 d2 d3 d4 d5 d6 d7 d8 d9 d10 d11 d12 d13 d14 d15 d16 d17=>[.cells ⟨[(lstV d3 d4 d5 7),(lstV d6 d7 d8 5),(lstV d9 d10 d11 1),(.int .i64 d12),(.int .i64 d13)]⟩ false,.cells ⟨[(.int .i64 d14),(.int .i64 d15),(.int .i64 d16),(.int .i64 d17)]⟩ false]
theorem ok42_0 : Lp42_0.OkG:=⟨⟨fun x=>rfl,fun x=>rfl,fun x=>rfl,fun x=>rfl,fun d=>by cases d <;> rfl,fun d=>by cases d <;> rfl,fun d=>by cases d <;> rfl,fun d=>by cases d <;> (intro h; cases h),fun d=>by cases d <;> rfl,fun d=>by cases d <;> rfl⟩,by decide,by decide,fun d=>match d with | .k0 ..=>(show ([6,7] : List Nat).Nodup by decide) | .k1 ..=>(show ([12] : List Nat).Nodup by decide),fun d=>match d with | .k0 ..=>(show ∀ k ∈ ([6,7] : List Nat),k < 66 by decide) | .k1 ..=>(show ∀ k ∈ ([12] : List Nat),k < 66 by decide)⟩
noncomputable def rd42_0 (x:X42_0) : RT (Sum X42_0 D42_0):=match x with
  | ⟨none,v0,v1,v2,v3,v4,v5,v6,v7,v8,v9,v10,v11,v12,v13,v14,v15,v16,v17,v18,v19⟩ =>
     .br (decide (v4 < v3))
     (.br (and (decide ((0 : Int) ≤ v4)) (decide (v4 < (Int.ofNat v2))))
     (.br (isInt .i64 v0 (v1+((Int.toNat v4)*1)))
     (.br (F94_ok v5 v6 v7 v8 v9 v10 v11 v12 v13 v14 v15 v4)
     (.br (F92_ok v5 v6 v7 v8 v9 v10 v11 v12 v13 v14 v15 (F94_0 v5 v6 v7 v8 v9 v10 v11 v12 v13 v14 v15 v4) (F94_1 v5 v6 v7 v8 v9 v10 v11 v12 v13 v14 v15 v4) v18 v19)
     (.br (not (F92_4 v5 v6 v7 v8 v9 v10 v11 v12 v13 v14 v15 (F94_0 v5 v6 v7 v8 v9 v10 v11 v12 v13 v14 v15 v4) (F94_1 v5 v6 v7 v8 v9 v10 v11 v12 v13 v14 v15 v4) v18 v19))
     (.leaf (.inr (.k0 (⟨[]⟩) 0 0 ((9 : Int)) v5 v6 v7 v8 v9 v10 v11 v12 v13 v14 v15 ((F94_0 v5 v6 v7 v8 v9 v10 v11 v12 v13 v14 v15 v4)) ((F94_1 v5 v6 v7 v8 v9 v10 v11 v12 v13 v14 v15 v4)) v18 v19)))
     (.leaf (.inl ⟨(some ((Array.extract ⟨[(.int .i64 (F94_0 v5 v6 v7 v8 v9 v10 v11 v12 v13 v14 v15 v4)),(.int .i64 (getInt v0 (v1+((Int.toNat v4)*1)))),(.int .i64 (F92_0 v5 v6 v7 v8 v9 v10 v11 v12 v13 v14 v15 (F94_0 v5 v6 v7 v8 v9 v10 v11 v12 v13 v14 v15 v4) (F94_1 v5 v6 v7 v8 v9 v10 v11 v12 v13 v14 v15 v4) v18 v19)),(.int .i64 (F92_1 v5 v6 v7 v8 v9 v10 v11 v12 v13 v14 v15 (F94_0 v5 v6 v7 v8 v9 v10 v11 v12 v13 v14 v15 v4) (F94_1 v5 v6 v7 v8 v9 v10 v11 v12 v13 v14 v15 v4) v18 v19)),(.int .i64 (F92_2 v5 v6 v7 v8 v9 v10 v11 v12 v13 v14 v15 (F94_0 v5 v6 v7 v8 v9 v10 v11 v12 v13 v14 v15 v4) (F94_1 v5 v6 v7 v8 v9 v10 v11 v12 v13 v14 v15 v4) v18 v19)),(.int .i64 (F92_3 v5 v6 v7 v8 v9 v10 v11 v12 v13 v14 v15 (F94_0 v5 v6 v7 v8 v9 v10 v11 v12 v13 v14 v15 v4) (F94_1 v5 v6 v7 v8 v9 v10 v11 v12 v13 v14 v15 v4) v18 v19))]⟩ 0 6),1)),v0,v1,v2,v3,(IntKind.wrap .i64 (v4+(1 : Int))),v5,v6,v7,v8,v9,v10,v11,v12,v13,v14,v15,(F94_0 v5 v6 v7 v8 v9 v10 v11 v12 v13 v14 v15 v4),(F94_1 v5 v6 v7 v8 v9 v10 v11 v12 v13 v14 v15 v4),v18,v19⟩)))
     (.no))
     (.no))
     (.no))
     (.no))
     (.leaf (.inr (.k1 (⟨[]⟩) 0 0 v5 v6 v7 v8 v9 v10 v11 v12 v13 v14 v15 v16 v17 v18 v19)))
  | ⟨some (oa,ol),v0,v1,v2,v3,v4,v5,v6,v7,v8,v9,v10,v11,v12,v13,v14,v15,v16,v17,v18,v19⟩ =>
     .br (decide (v4 < v3))
     (.br (and (decide ((0 : Int) ≤ v4)) (decide (v4 < (Int.ofNat v2))))
     (.br (isInt .i64 v0 (v1+((Int.toNat v4)*1)))
     (.br (F94_ok v5 v6 v7 v8 v9 v10 v11 v12 v13 v14 v15 v4)
     (.br (F92_ok v5 v6 v7 v8 v9 v10 v11 v12 v13 v14 v15 (F94_0 v5 v6 v7 v8 v9 v10 v11 v12 v13 v14 v15 v4) (F94_1 v5 v6 v7 v8 v9 v10 v11 v12 v13 v14 v15 v4) v18 v19)
     (.br (not (F92_4 v5 v6 v7 v8 v9 v10 v11 v12 v13 v14 v15 (F94_0 v5 v6 v7 v8 v9 v10 v11 v12 v13 v14 v15 v4) (F94_1 v5 v6 v7 v8 v9 v10 v11 v12 v13 v14 v15 v4) v18 v19))
     (.leaf (.inr (.k0 (⟨[]⟩) 0 0 ((9 : Int)) v5 v6 v7 v8 v9 v10 v11 v12 v13 v14 v15 ((F94_0 v5 v6 v7 v8 v9 v10 v11 v12 v13 v14 v15 v4)) ((F94_1 v5 v6 v7 v8 v9 v10 v11 v12 v13 v14 v15 v4)) v18 v19)))
     (.br (and (decide (((ol+1)*48) ≤ 140737488355328)) (decide ((ol+1) ≤ 4611686018427387904)))
     (.br (decide ((0+(ol*6)) ≤ (Array.size oa)))
     (.br (allFz (apB (Array.extract oa 0 (0+(ol*6))) (Array.extract ⟨[(.int .i64 (F94_0 v5 v6 v7 v8 v9 v10 v11 v12 v13 v14 v15 v4)),(.int .i64 (getInt v0 (v1+((Int.toNat v4)*1)))),(.int .i64 (F92_0 v5 v6 v7 v8 v9 v10 v11 v12 v13 v14 v15 (F94_0 v5 v6 v7 v8 v9 v10 v11 v12 v13 v14 v15 v4) (F94_1 v5 v6 v7 v8 v9 v10 v11 v12 v13 v14 v15 v4) v18 v19)),(.int .i64 (F92_1 v5 v6 v7 v8 v9 v10 v11 v12 v13 v14 v15 (F94_0 v5 v6 v7 v8 v9 v10 v11 v12 v13 v14 v15 v4) (F94_1 v5 v6 v7 v8 v9 v10 v11 v12 v13 v14 v15 v4) v18 v19)),(.int .i64 (F92_2 v5 v6 v7 v8 v9 v10 v11 v12 v13 v14 v15 (F94_0 v5 v6 v7 v8 v9 v10 v11 v12 v13 v14 v15 v4) (F94_1 v5 v6 v7 v8 v9 v10 v11 v12 v13 v14 v15 v4) v18 v19)),(.int .i64 (F92_3 v5 v6 v7 v8 v9 v10 v11 v12 v13 v14 v15 (F94_0 v5 v6 v7 v8 v9 v10 v11 v12 v13 v14 v15 v4) (F94_1 v5 v6 v7 v8 v9 v10 v11 v12 v13 v14 v15 v4) v18 v19))]⟩ 0 6)))
     (.leaf (.inl ⟨(some ((apB (Array.extract oa 0 (0+(ol*6))) (Array.extract ⟨[(.int .i64 (F94_0 v5 v6 v7 v8 v9 v10 v11 v12 v13 v14 v15 v4)),(.int .i64 (getInt v0 (v1+((Int.toNat v4)*1)))),(.int .i64 (F92_0 v5 v6 v7 v8 v9 v10 v11 v12 v13 v14 v15 (F94_0 v5 v6 v7 v8 v9 v10 v11 v12 v13 v14 v15 v4) (F94_1 v5 v6 v7 v8 v9 v10 v11 v12 v13 v14 v15 v4) v18 v19)),(.int .i64 (F92_1 v5 v6 v7 v8 v9 v10 v11 v12 v13 v14 v15 (F94_0 v5 v6 v7 v8 v9 v10 v11 v12 v13 v14 v15 v4) (F94_1 v5 v6 v7 v8 v9 v10 v11 v12 v13 v14 v15 v4) v18 v19)),(.int .i64 (F92_2 v5 v6 v7 v8 v9 v10 v11 v12 v13 v14 v15 (F94_0 v5 v6 v7 v8 v9 v10 v11 v12 v13 v14 v15 v4) (F94_1 v5 v6 v7 v8 v9 v10 v11 v12 v13 v14 v15 v4) v18 v19)),(.int .i64 (F92_3 v5 v6 v7 v8 v9 v10 v11 v12 v13 v14 v15 (F94_0 v5 v6 v7 v8 v9 v10 v11 v12 v13 v14 v15 v4) (F94_1 v5 v6 v7 v8 v9 v10 v11 v12 v13 v14 v15 v4) v18 v19))]⟩ 0 6)),(ol+1))),v0,v1,v2,v3,(IntKind.wrap .i64 (v4+(1 : Int))),v5,v6,v7,v8,v9,v10,v11,v12,v13,v14,v15,(F94_0 v5 v6 v7 v8 v9 v10 v11 v12 v13 v14 v15 v4),(F94_1 v5 v6 v7 v8 v9 v10 v11 v12 v13 v14 v15 v4),v18,v19⟩))
     (.no))
     (.no))
     (.no)))
     (.no))
     (.no))
     (.no))
     (.no))
     (.br (and (allFz oa) (decide ((0+(ol*6)) ≤ (Array.size oa))))
     (.leaf (.inr (.k1 oa 0 ol v5 v6 v7 v8 v9 v10 v11 v12 v13 v14 v15 v16 v17 v18 v19)))
     (.no))
theorem T42_0n  (y : List Value) (v0 : Array Value) (v1 v2:Nat) (v3 v4:Int) (v5 : Array Value) (v6 v7:Nat) (v8 : Array Value) (v9 v10:Nat) (v11 : Array Value) (v12 v13:Nat) (v14 v15:Int) (v16 v17:Int) (v18 v19:Int) : evC Try.prog (Ans.c ((p20V 20).or (p91.or (p92.or p94)))) 60 (.code none (theLoop Try.prog 42 0) ⟨sets (junkF 66 y) [(12,.slice none 0 0),(3,(Value.pointer (some (Addr.mk 0 0 none)))),(11,(Value.pointer (some (Addr.mk 1 0 none)))),(34,(lstV v0 v1 v2 1)),(35,(.int .i64 v3)),(36,(.int .i64 v4))],[],⟨[.cells ⟨[(lstV v5 v6 v7 7),(lstV v8 v9 v10 5),(lstV v11 v12 v13 1),(.int .i64 v14),(.int .i64 v15)]⟩ false,.cells ⟨[(.int .i64 v16),(.int .i64 v17),(.int .i64 v18),(.int .i64 v19)]⟩ false],0,[]⟩⟩) (gK 66 2 12 6 [3,11,34,35,36] Lp42_0.pick) = (rd42_0 ⟨none,v0,v1,v2,v3,v4,v5,v6,v7,v8,v9,v10,v11,v12,v13,v14,v15,v16,v17,v18,v19⟩).out Lp42_0.encG:=by kernel_rfl
theorem T42_0s  (y : List Value) (oa : Array Value) (ol : Nat) (v0 : Array Value) (v1 v2:Nat) (v3 v4:Int) (v5 : Array Value) (v6 v7:Nat) (v8 : Array Value) (v9 v10:Nat) (v11 : Array Value) (v12 v13:Nat) (v14 v15:Int) (v16 v17:Int) (v18 v19:Int) : evC Try.prog (Ans.c ((p20V 20).or (p91.or (p92.or p94)))) 60 (.code none (theLoop Try.prog 42 0) ⟨sets (junkF 66 y) [(12,.slice (some ⟨2,0,none⟩) ol 6),(3,(Value.pointer (some (Addr.mk 0 0 none)))),(11,(Value.pointer (some (Addr.mk 1 0 none)))),(34,(lstV v0 v1 v2 1)),(35,(.int .i64 v3)),(36,(.int .i64 v4))],[],⟨[.cells ⟨[(lstV v5 v6 v7 7),(lstV v8 v9 v10 5),(lstV v11 v12 v13 1),(.int .i64 v14),(.int .i64 v15)]⟩ false,.cells ⟨[(.int .i64 v16),(.int .i64 v17),(.int .i64 v18),(.int .i64 v19)]⟩ false,.cells oa false],0,[]⟩⟩) (gK 66 2 12 6 [3,11,34,35,36] Lp42_0.pick) = (rd42_0 ⟨some (oa,ol),v0,v1,v2,v3,v4,v5,v6,v7,v8,v9,v10,v11,v12,v13,v14,v15,v16,v17,v18,v19⟩).out Lp42_0.encG:=by kernel_rfl
theorem T42_0  (x : X42_0) (y : List Value) : evC Try.prog (Ans.c ((p20V 20).or (p91.or (p92.or p94)))) 60 (Lp42_0.headG x y) (gK Lp42_0.N Lp42_0.M Lp42_0.os Lp42_0.z Lp42_0.S Lp42_0.pick) = (rd42_0 x).out Lp42_0.encG:=by
  obtain ⟨own,v0,v1,v2,v3,v4,v5,v6,v7,v8,v9,v10,v11,v12,v13,v14,v15,v16,v17,v18,v19⟩:=x
  cases own with
  | none=>exact T42_0n  y v0 v1 v2 v3 v4 v5 v6 v7 v8 v9 v10 v11 v12 v13 v14 v15 v16 v17 v18 v19
  | some al=>obtain ⟨oa,ol⟩:=al; exact T42_0s  y oa ol v0 v1 v2 v3 v4 v5 v6 v7 v8 v9 v10 v11 v12 v13 v14 v15 v16 v17 v18 v19
noncomputable def L42_0 (x:X42_0) : Option D42_0:=loopR rd42_0 x
section
variable (x:X42_0)
noncomputable def L42_0_k0 : Bool:=match L42_0 x with | some (.k0 ..)=>true | _=>false
noncomputable def L42_0_k0_0 : Array Value:=match L42_0 x with | some (.k0 d _ _ _ _ _ _ _ _ _ _ _ _ _ _ _ _ _ _)=>d | _=>#[]
noncomputable def L42_0_k0_1 : Nat:=match L42_0 x with | some (.k0 _ d _ _ _ _ _ _ _ _ _ _ _ _ _ _ _ _ _)=>d | _=>0
noncomputable def L42_0_k0_2 : Nat:=match L42_0 x with | some (.k0 _ _ d _ _ _ _ _ _ _ _ _ _ _ _ _ _ _ _)=>d | _=>0
noncomputable def L42_0_k0_3 : Int:=match L42_0 x with | some (.k0 _ _ _ d _ _ _ _ _ _ _ _ _ _ _ _ _ _ _)=>d | _=>0
noncomputable def L42_0_k0_4 : Array Value:=match L42_0 x with | some (.k0 _ _ _ _ d _ _ _ _ _ _ _ _ _ _ _ _ _ _)=>d | _=>#[]
noncomputable def L42_0_k0_5 : Nat:=match L42_0 x with | some (.k0 _ _ _ _ _ d _ _ _ _ _ _ _ _ _ _ _ _ _)=>d | _=>0
noncomputable def L42_0_k0_6 : Nat:=match L42_0 x with | some (.k0 _ _ _ _ _ _ d _ _ _ _ _ _ _ _ _ _ _ _)=>d | _=>0
noncomputable def L42_0_k0_7 : Array Value:=match L42_0 x with | some (.k0 _ _ _ _ _ _ _ d _ _ _ _ _ _ _ _ _ _ _)=>d | _=>#[]
noncomputable def L42_0_k0_8 : Nat:=match L42_0 x with | some (.k0 _ _ _ _ _ _ _ _ d _ _ _ _ _ _ _ _ _ _)=>d | _=>0
noncomputable def L42_0_k0_9 : Nat:=match L42_0 x with | some (.k0 _ _ _ _ _ _ _ _ _ d _ _ _ _ _ _ _ _ _)=>d | _=>0
noncomputable def L42_0_k0_10 : Array Value:=match L42_0 x with | some (.k0 _ _ _ _ _ _ _ _ _ _ d _ _ _ _ _ _ _ _)=>d | _=>#[]
noncomputable def L42_0_k0_11 : Nat:=match L42_0 x with | some (.k0 _ _ _ _ _ _ _ _ _ _ _ d _ _ _ _ _ _ _)=>d | _=>0
noncomputable def L42_0_k0_12 : Nat:=match L42_0 x with | some (.k0 _ _ _ _ _ _ _ _ _ _ _ _ d _ _ _ _ _ _)=>d | _=>0
noncomputable def L42_0_k0_13 : Int:=match L42_0 x with | some (.k0 _ _ _ _ _ _ _ _ _ _ _ _ _ d _ _ _ _ _)=>d | _=>0
noncomputable def L42_0_k0_14 : Int:=match L42_0 x with | some (.k0 _ _ _ _ _ _ _ _ _ _ _ _ _ _ d _ _ _ _)=>d | _=>0
noncomputable def L42_0_k0_15 : Int:=match L42_0 x with | some (.k0 _ _ _ _ _ _ _ _ _ _ _ _ _ _ _ d _ _ _)=>d | _=>0
noncomputable def L42_0_k0_16 : Int:=match L42_0 x with | some (.k0 _ _ _ _ _ _ _ _ _ _ _ _ _ _ _ _ d _ _)=>d | _=>0
noncomputable def L42_0_k0_17 : Int:=match L42_0 x with | some (.k0 _ _ _ _ _ _ _ _ _ _ _ _ _ _ _ _ _ d _)=>d | _=>0
noncomputable def L42_0_k0_18 : Int:=match L42_0 x with | some (.k0 _ _ _ _ _ _ _ _ _ _ _ _ _ _ _ _ _ _ d)=>d | _=>0
noncomputable def L42_0_k1 : Bool:=match L42_0 x with | some (.k1 ..)=>true | _=>false
noncomputable def L42_0_k1_0 : Array Value:=match L42_0 x with | some (.k1 d _ _ _ _ _ _ _ _ _ _ _ _ _ _ _ _ _)=>d | _=>#[]
noncomputable def L42_0_k1_1 : Nat:=match L42_0 x with | some (.k1 _ d _ _ _ _ _ _ _ _ _ _ _ _ _ _ _ _)=>d | _=>0
noncomputable def L42_0_k1_2 : Nat:=match L42_0 x with | some (.k1 _ _ d _ _ _ _ _ _ _ _ _ _ _ _ _ _ _)=>d | _=>0
noncomputable def L42_0_k1_3 : Array Value:=match L42_0 x with | some (.k1 _ _ _ d _ _ _ _ _ _ _ _ _ _ _ _ _ _)=>d | _=>#[]
noncomputable def L42_0_k1_4 : Nat:=match L42_0 x with | some (.k1 _ _ _ _ d _ _ _ _ _ _ _ _ _ _ _ _ _)=>d | _=>0
noncomputable def L42_0_k1_5 : Nat:=match L42_0 x with | some (.k1 _ _ _ _ _ d _ _ _ _ _ _ _ _ _ _ _ _)=>d | _=>0
noncomputable def L42_0_k1_6 : Array Value:=match L42_0 x with | some (.k1 _ _ _ _ _ _ d _ _ _ _ _ _ _ _ _ _ _)=>d | _=>#[]
noncomputable def L42_0_k1_7 : Nat:=match L42_0 x with | some (.k1 _ _ _ _ _ _ _ d _ _ _ _ _ _ _ _ _ _)=>d | _=>0
noncomputable def L42_0_k1_8 : Nat:=match L42_0 x with | some (.k1 _ _ _ _ _ _ _ _ d _ _ _ _ _ _ _ _ _)=>d | _=>0
noncomputable def L42_0_k1_9 : Array Value:=match L42_0 x with | some (.k1 _ _ _ _ _ _ _ _ _ d _ _ _ _ _ _ _ _)=>d | _=>#[]
noncomputable def L42_0_k1_10 : Nat:=match L42_0 x with | some (.k1 _ _ _ _ _ _ _ _ _ _ d _ _ _ _ _ _ _)=>d | _=>0
noncomputable def L42_0_k1_11 : Nat:=match L42_0 x with | some (.k1 _ _ _ _ _ _ _ _ _ _ _ d _ _ _ _ _ _)=>d | _=>0
noncomputable def L42_0_k1_12 : Int:=match L42_0 x with | some (.k1 _ _ _ _ _ _ _ _ _ _ _ _ d _ _ _ _ _)=>d | _=>0
noncomputable def L42_0_k1_13 : Int:=match L42_0 x with | some (.k1 _ _ _ _ _ _ _ _ _ _ _ _ _ d _ _ _ _)=>d | _=>0
noncomputable def L42_0_k1_14 : Int:=match L42_0 x with | some (.k1 _ _ _ _ _ _ _ _ _ _ _ _ _ _ d _ _ _)=>d | _=>0
noncomputable def L42_0_k1_15 : Int:=match L42_0 x with | some (.k1 _ _ _ _ _ _ _ _ _ _ _ _ _ _ _ d _ _)=>d | _=>0
noncomputable def L42_0_k1_16 : Int:=match L42_0 x with | some (.k1 _ _ _ _ _ _ _ _ _ _ _ _ _ _ _ _ d _)=>d | _=>0
noncomputable def L42_0_k1_17 : Int:=match L42_0 x with | some (.k1 _ _ _ _ _ _ _ _ _ _ _ _ _ _ _ _ _ d)=>d | _=>0
end
noncomputable def dec42_0 : Task → Option (Code × X42_0)
  | .code none (.loop code) ⟨t,[],⟨[.cells ⟨[(.func (.via 0 ⟨[]⟩ 0 true) v5 ⟨[.slice (some ⟨0,v6,none⟩) v7 7]⟩),(.func (.via 0 ⟨[]⟩ 0 true) v8 ⟨[.slice (some ⟨0,v9,none⟩) v10 5]⟩),(.func (.via 0 ⟨[]⟩ 0 true) v11 ⟨[.slice (some ⟨0,v12,none⟩) v13 1]⟩),(.int .i64 v14),(.int .i64 v15)]⟩ false,.cells ⟨[(.int .i64 v16),(.int .i64 v17),(.int .i64 v18),(.int .i64 v19)]⟩ false],0,[]⟩⟩ =>
    (match Nat.beq (firstReg code) 9,lenIs t 66,lget t 12,lget t 3,lget t 11,lget t 34,lget t 35,lget t 36 with
    | true,true,.slice none 0 0,(Value.pointer (Option.some (Addr.mk 0 0 Option.none))),(Value.pointer (Option.some (Addr.mk 1 0 Option.none))),(.func (.via 0 ⟨[]⟩ 0 true) v0 ⟨[.slice (some ⟨0,v1,none⟩) v2 1]⟩),(.int .i64 v3),(.int .i64 v4)=>some (code,⟨none,v0,v1,v2,v3,v4,v5,v6,v7,v8,v9,v10,v11,v12,v13,v14,v15,v16,v17,v18,v19⟩)
    | _,_,_,_,_,_,_,_=>none)
  | .code none (.loop code) ⟨t,[],⟨[.cells ⟨[(.func (.via 0 ⟨[]⟩ 0 true) v5 ⟨[.slice (some ⟨0,v6,none⟩) v7 7]⟩),(.func (.via 0 ⟨[]⟩ 0 true) v8 ⟨[.slice (some ⟨0,v9,none⟩) v10 5]⟩),(.func (.via 0 ⟨[]⟩ 0 true) v11 ⟨[.slice (some ⟨0,v12,none⟩) v13 1]⟩),(.int .i64 v14),(.int .i64 v15)]⟩ false,.cells ⟨[(.int .i64 v16),(.int .i64 v17),(.int .i64 v18),(.int .i64 v19)]⟩ false,.cells oa false],0,[]⟩⟩ =>
    (match Nat.beq (firstReg code) 9,lenIs t 66,lget t 12,lget t 3,lget t 11,lget t 34,lget t 35,lget t 36 with
    | true,true,.slice (some ⟨2,0,none⟩) ol 6,(Value.pointer (Option.some (Addr.mk 0 0 Option.none))),(Value.pointer (Option.some (Addr.mk 1 0 Option.none))),(.func (.via 0 ⟨[]⟩ 0 true) v0 ⟨[.slice (some ⟨0,v1,none⟩) v2 1]⟩),(.int .i64 v3),(.int .i64 v4)=>some (code,⟨(some (oa,ol)),v0,v1,v2,v3,v4,v5,v6,v7,v8,v9,v10,v11,v12,v13,v14,v15,v16,v17,v18,v19⟩)
    | _,_,_,_,_,_,_,_=>none)
  | _=>none
noncomputable def alt42_0 (x:X42_0) (j : List Value) : AT:=match x.own with
  | none=>.br (L42_0_k0 x) (loopEnd 66 (.ret) [(6,(lstV (L42_0_k0_0 x) (L42_0_k0_1 x) (L42_0_k0_2 x) 6)),(7,(.int .i64 (L42_0_k0_3 x)))] ⟨[.cells ⟨[(lstV (L42_0_k0_4 x) (L42_0_k0_5 x) (L42_0_k0_6 x) 7),(lstV (L42_0_k0_7 x) (L42_0_k0_8 x) (L42_0_k0_9 x) 5),(lstV (L42_0_k0_10 x) (L42_0_k0_11 x) (L42_0_k0_12 x) 1),(.int .i64 (L42_0_k0_13 x)),(.int .i64 (L42_0_k0_14 x))]⟩ false,.cells ⟨[(.int .i64 (L42_0_k0_15 x)),(.int .i64 (L42_0_k0_16 x)),(.int .i64 (L42_0_k0_17 x)),(.int .i64 (L42_0_k0_18 x))]⟩ false],0,[]⟩ j) (.br (L42_0_k1 x) (loopEnd 66 (.exit 0) [(12,(lstV (L42_0_k1_0 x) (L42_0_k1_1 x) (L42_0_k1_2 x) 6))] ⟨[.cells ⟨[(lstV (L42_0_k1_3 x) (L42_0_k1_4 x) (L42_0_k1_5 x) 7),(lstV (L42_0_k1_6 x) (L42_0_k1_7 x) (L42_0_k1_8 x) 5),(lstV (L42_0_k1_9 x) (L42_0_k1_10 x) (L42_0_k1_11 x) 1),(.int .i64 (L42_0_k1_12 x)),(.int .i64 (L42_0_k1_13 x))]⟩ false,.cells ⟨[(.int .i64 (L42_0_k1_14 x)),(.int .i64 (L42_0_k1_15 x)),(.int .i64 (L42_0_k1_16 x)),(.int .i64 (L42_0_k1_17 x))]⟩ false],0,[]⟩ j) (.no))
  | some (oa,ol)=>.br (allFz oa) (.br (L42_0_k0 x) (loopEnd 66 (.ret) [(6,(lstV (L42_0_k0_0 x) (L42_0_k0_1 x) (L42_0_k0_2 x) 6)),(7,(.int .i64 (L42_0_k0_3 x)))] ⟨[.cells ⟨[(lstV (L42_0_k0_4 x) (L42_0_k0_5 x) (L42_0_k0_6 x) 7),(lstV (L42_0_k0_7 x) (L42_0_k0_8 x) (L42_0_k0_9 x) 5),(lstV (L42_0_k0_10 x) (L42_0_k0_11 x) (L42_0_k0_12 x) 1),(.int .i64 (L42_0_k0_13 x)),(.int .i64 (L42_0_k0_14 x))]⟩ false,.cells ⟨[(.int .i64 (L42_0_k0_15 x)),(.int .i64 (L42_0_k0_16 x)),(.int .i64 (L42_0_k0_17 x)),(.int .i64 (L42_0_k0_18 x))]⟩ false,.dead],0,[]⟩ j) (.br (L42_0_k1 x) (loopEnd 66 (.exit 0) [(12,(lstV (L42_0_k1_0 x) (L42_0_k1_1 x) (L42_0_k1_2 x) 6))] ⟨[.cells ⟨[(lstV (L42_0_k1_3 x) (L42_0_k1_4 x) (L42_0_k1_5 x) 7),(lstV (L42_0_k1_6 x) (L42_0_k1_7 x) (L42_0_k1_8 x) 5),(lstV (L42_0_k1_9 x) (L42_0_k1_10 x) (L42_0_k1_11 x) 1),(.int .i64 (L42_0_k1_12 x)),(.int .i64 (L42_0_k1_13 x))]⟩ false,.cells ⟨[(.int .i64 (L42_0_k1_14 x)),(.int .i64 (L42_0_k1_15 x)),(.int .i64 (L42_0_k1_16 x)),(.int .i64 (L42_0_k1_17 x))]⟩ false,.dead],0,[]⟩ j) (.no))) .no
noncomputable def la42_0 (J : Task → List Value) : Ans:=loopAns Lp42_0.c dec42_0 alt42_0 J
theorem ha42_0 : ∀ (x:X42_0) (j : List Value) (o:Out),(alt42_0 x j).out = some o → (∀ a l,Lp42_0.own x = some (a,l) → allFz a = true) ∧ ∃ d,loopR rd42_0 x = some d ∧ o = Lp42_0.tailG x d j:=by
  intro x j o h
  obtain ⟨own,v0,v1,v2,v3,v4,v5,v6,v7,v8,v9,v10,v11,v12,v13,v14,v15,v16,v17,v18,v19⟩:=x
  cases own with
  | none =>
    refine ⟨fun a l e=>(by cases e),?_⟩
    cases hL : L42_0 ⟨none,v0,v1,v2,v3,v4,v5,v6,v7,v8,v9,v10,v11,v12,v13,v14,v15,v16,v17,v18,v19⟩ with
    | none=>simp [alt42_0,L42_0_k0,L42_0_k0_0,L42_0_k0_1,L42_0_k0_2,L42_0_k0_3,L42_0_k0_4,L42_0_k0_5,L42_0_k0_6,L42_0_k0_7,L42_0_k0_8,L42_0_k0_9,L42_0_k0_10,L42_0_k0_11,L42_0_k0_12,L42_0_k0_13,L42_0_k0_14,L42_0_k0_15,L42_0_k0_16,L42_0_k0_17,L42_0_k0_18,L42_0_k1,L42_0_k1_0,L42_0_k1_1,L42_0_k1_2,L42_0_k1_3,L42_0_k1_4,L42_0_k1_5,L42_0_k1_6,L42_0_k1_7,L42_0_k1_8,L42_0_k1_9,L42_0_k1_10,L42_0_k1_11,L42_0_k1_12,L42_0_k1_13,L42_0_k1_14,L42_0_k1_15,L42_0_k1_16,L42_0_k1_17,hL,AT.out] at h
    | some d =>
      refine ⟨d,hL,?_⟩
      cases d <;> (simp only [alt42_0,L42_0_k0,L42_0_k0_0,L42_0_k0_1,L42_0_k0_2,L42_0_k0_3,L42_0_k0_4,L42_0_k0_5,L42_0_k0_6,L42_0_k0_7,L42_0_k0_8,L42_0_k0_9,L42_0_k0_10,L42_0_k0_11,L42_0_k0_12,L42_0_k0_13,L42_0_k0_14,L42_0_k0_15,L42_0_k0_16,L42_0_k0_17,L42_0_k0_18,L42_0_k1,L42_0_k1_0,L42_0_k1_1,L42_0_k1_2,L42_0_k1_3,L42_0_k1_4,L42_0_k1_5,L42_0_k1_6,L42_0_k1_7,L42_0_k1_8,L42_0_k1_9,L42_0_k1_10,L42_0_k1_11,L42_0_k1_12,L42_0_k1_13,L42_0_k1_14,L42_0_k1_15,L42_0_k1_16,L42_0_k1_17,hL,AT.out,loopEnd,cond_true,cond_false,Option.some.injEq] at h; rw [← h]; rfl)
  | some al =>
    obtain ⟨oa,ol⟩:=al
    obtain ⟨h1,h⟩:=cond_some (show cond (allFz oa) _ none = some o from h)
    refine ⟨fun a l e=>(by cases e; exact h1),?_⟩
    cases hL : L42_0 ⟨some (oa,ol),v0,v1,v2,v3,v4,v5,v6,v7,v8,v9,v10,v11,v12,v13,v14,v15,v16,v17,v18,v19⟩ with
    | none=>simp [L42_0_k0,L42_0_k0_0,L42_0_k0_1,L42_0_k0_2,L42_0_k0_3,L42_0_k0_4,L42_0_k0_5,L42_0_k0_6,L42_0_k0_7,L42_0_k0_8,L42_0_k0_9,L42_0_k0_10,L42_0_k0_11,L42_0_k0_12,L42_0_k0_13,L42_0_k0_14,L42_0_k0_15,L42_0_k0_16,L42_0_k0_17,L42_0_k0_18,L42_0_k1,L42_0_k1_0,L42_0_k1_1,L42_0_k1_2,L42_0_k1_3,L42_0_k1_4,L42_0_k1_5,L42_0_k1_6,L42_0_k1_7,L42_0_k1_8,L42_0_k1_9,L42_0_k1_10,L42_0_k1_11,L42_0_k1_12,L42_0_k1_13,L42_0_k1_14,L42_0_k1_15,L42_0_k1_16,L42_0_k1_17,hL,AT.out] at h
    | some d =>
      refine ⟨d,hL,?_⟩
      cases d <;> (simp only [L42_0_k0,L42_0_k0_0,L42_0_k0_1,L42_0_k0_2,L42_0_k0_3,L42_0_k0_4,L42_0_k0_5,L42_0_k0_6,L42_0_k0_7,L42_0_k0_8,L42_0_k0_9,L42_0_k0_10,L42_0_k0_11,L42_0_k0_12,L42_0_k0_13,L42_0_k0_14,L42_0_k0_15,L42_0_k0_16,L42_0_k0_17,L42_0_k0_18,L42_0_k1,L42_0_k1_0,L42_0_k1_1,L42_0_k1_2,L42_0_k1_3,L42_0_k1_4,L42_0_k1_5,L42_0_k1_6,L42_0_k1_7,L42_0_k1_8,L42_0_k1_9,L42_0_k1_10,L42_0_k1_11,L42_0_k1_12,L42_0_k1_13,L42_0_k1_14,L42_0_k1_15,L42_0_k1_16,L42_0_k1_17,hL,AT.out,loopEnd,cond_true,cond_false,Option.some.injEq] at h; rw [← h]; rfl)
theorem hd42_0 : ∀ (t:Task) (c:Code) (x:X42_0),dec42_0 t = some (c,x) → c = Lp42_0.c → ∃ T,t = .code none (.loop Lp42_0.c) ⟨T,[],⟨Lp42_0.hp x ++ Lp42_0.ownB x,0,[]⟩⟩ ∧ T.length = Lp42_0.N ∧ ∀ kv ∈ (Lp42_0.os :: Lp42_0.S).zip (Lp42_0.ownV x :: Lp42_0.sl x),lget T kv.1 = kv.2:=by
  intro t c x h hc
  unfold dec42_0 at h
  split at h
  case h_3=>cases h
  all_goals
    split at h
    case h_2=>cases h
    simp only [Option.some.injEq,Prod.mk.injEq] at h
    obtain ⟨rfl,rfl⟩:=h
    subst hc
    refine ⟨_,rfl,lenIs_eq _ _ (by assumption),?_⟩
    intro kv hk
    simp only [Lp42_0,LoopG.ownV,List.zip_cons_cons,List.zip_nil_right,List.mem_cons,List.not_mem_nil,or_false] at hk
    rcases hk with rfl | rfl | rfl | rfl | rfl | rfl <;> assumption
theorem kl42_0 : ∃ J,Known Try.prog (la42_0 J):=by
  exact LoopG.known noNG mixed ok42_0 (Known.or (known20V (known20v known20)) (Known.or known91 (Known.or known92 known94))) (n:=60) (rd:=rd42_0) (fun x j _=>T42_0  x j) dec42_0 alt42_0 hd42_0 ha42_0
structure R42 where
  (r0:Array Value)
  (r1 r2:Nat)
  (r3:Int)
structure A42 where
  (a0:Array Value)
  (a1 a2:Nat)
  (a3:Array Value)
  (a4 a5:Nat)
  (a6:Array Value)
  (a7 a8:Nat)
  (a9 a10:Int)
  (a11 a12:Int)
noncomputable def rt42 (a0 : Array Value) (a1 a2:Nat) (a3 : Array Value) (a4 a5:Nat) (a6 : Array Value) (a7 a8:Nat) (a9 a10:Int) (a11 a12:Int) : RT R42 :=
  .br (F20_ok a0 a1 a2 a3 a4 a5 a6 a7 a8 a9 a10)
  (.br (not (decide ((F20_2 a0 a1 a2 a3 a4 a5 a6 a7 a8 a9 a10) = (0 : Int))))
   (.leaf ⟨⟨[]⟩,0,0,(F20_2 a0 a1 a2 a3 a4 a5 a6 a7 a8 a9 a10)⟩)
   (.br (F91_ok (0 : Int) (0 : Int) a11 a12)
    (.br (not (F91_0 (0 : Int) (0 : Int) a11 a12))
     (.leaf ⟨⟨[]⟩,0,0,(7 : Int)⟩)
     (.br (eqCode (Lp42_0.c) (Lp42_0.c))
     (.br (L42_0_k0 (X42_0.mk none a6 a7 a8 (Int.ofNat a8) (0 : Int) a0 a1 a2 a3 a4 a5 a6 a7 a8 a9 a10 (0 : Int) (0 : Int) a11 a12))
     (.leaf ⟨(L42_0_k0_0 (X42_0.mk none a6 a7 a8 (Int.ofNat a8) (0 : Int) a0 a1 a2 a3 a4 a5 a6 a7 a8 a9 a10 (0 : Int) (0 : Int) a11 a12)),(L42_0_k0_1 (X42_0.mk none a6 a7 a8 (Int.ofNat a8) (0 : Int) a0 a1 a2 a3 a4 a5 a6 a7 a8 a9 a10 (0 : Int) (0 : Int) a11 a12)),(L42_0_k0_2 (X42_0.mk none a6 a7 a8 (Int.ofNat a8) (0 : Int) a0 a1 a2 a3 a4 a5 a6 a7 a8 a9 a10 (0 : Int) (0 : Int) a11 a12)),(L42_0_k0_3 (X42_0.mk none a6 a7 a8 (Int.ofNat a8) (0 : Int) a0 a1 a2 a3 a4 a5 a6 a7 a8 a9 a10 (0 : Int) (0 : Int) a11 a12))⟩)
     (.br (L42_0_k1 (X42_0.mk none a6 a7 a8 (Int.ofNat a8) (0 : Int) a0 a1 a2 a3 a4 a5 a6 a7 a8 a9 a10 (0 : Int) (0 : Int) a11 a12))
     (.leaf ⟨(L42_0_k1_0 (X42_0.mk none a6 a7 a8 (Int.ofNat a8) (0 : Int) a0 a1 a2 a3 a4 a5 a6 a7 a8 a9 a10 (0 : Int) (0 : Int) a11 a12)),(L42_0_k1_1 (X42_0.mk none a6 a7 a8 (Int.ofNat a8) (0 : Int) a0 a1 a2 a3 a4 a5 a6 a7 a8 a9 a10 (0 : Int) (0 : Int) a11 a12)),(L42_0_k1_2 (X42_0.mk none a6 a7 a8 (Int.ofNat a8) (0 : Int) a0 a1 a2 a3 a4 a5 a6 a7 a8 a9 a10 (0 : Int) (0 : Int) a11 a12)),(0 : Int)⟩)
     (.no)))
     (.no)))
    (.no)))
  (.no)
noncomputable def en42 (r:R42) : Value:=(.tuple ⟨[(lstV r.r0 r.r1 r.r2 6),(.int .i64 r.r3)]⟩)
theorem T42 (J0 : Task → List Value) (a0 : Array Value) (a1 a2:Nat) (a3 : Array Value) (a4 a5:Nat) (a6 : Array Value) (a7 a8:Nat) (a9 a10:Int) (a11 a12:Int) : evC Try.prog (Ans.c ((p20V 20).or (p91.or (p92.or (p94.or (la42_0 J0)))))) 60 (.call 42 ⟨[(.agg ⟨[(lstV a0 a1 a2 7),(lstV a3 a4 a5 5),(lstV a6 a7 a8 1),(.int .i64 a9),(.int .i64 a10)]⟩),(.int .i64 a11),(.int .i64 a12)]⟩ ⟨[],0,[]⟩) (frzK [6,0]) = (rt42 a0 a1 a2 a3 a4 a5 a6 a7 a8 a9 a10 a11 a12).out (fun r=>.ret (en42 r) ⟨[],0,[]⟩):=by kernel_rfl
noncomputable def F42 (a0 : Array Value) (a1 a2:Nat) (a3 : Array Value) (a4 a5:Nat) (a6 : Array Value) (a7 a8:Nat) (a9 a10:Int) (a11 a12:Int) : Option R42:=(rt42 a0 a1 a2 a3 a4 a5 a6 a7 a8 a9 a10 a11 a12).val
section
variable (a0 : Array Value) (a1 a2:Nat) (a3 : Array Value) (a4 a5:Nat) (a6 : Array Value) (a7 a8:Nat) (a9 a10:Int) (a11 a12:Int)
noncomputable def F42_ok : Bool:=(F42 a0 a1 a2 a3 a4 a5 a6 a7 a8 a9 a10 a11 a12).isSome
noncomputable def F42_0 : Array Value:=match F42 a0 a1 a2 a3 a4 a5 a6 a7 a8 a9 a10 a11 a12 with | some r=>r.r0 | none=>#[]
noncomputable def F42_1 : Nat:=match F42 a0 a1 a2 a3 a4 a5 a6 a7 a8 a9 a10 a11 a12 with | some r=>r.r1 | none=>0
noncomputable def F42_2 : Nat:=match F42 a0 a1 a2 a3 a4 a5 a6 a7 a8 a9 a10 a11 a12 with | some r=>r.r2 | none=>0
noncomputable def F42_3 : Int:=match F42 a0 a1 a2 a3 a4 a5 a6 a7 a8 a9 a10 a11 a12 with | some r=>r.r3 | none=>0
end
noncomputable def dec42 : Task → Option (A42 × Hp)
  | .call g ⟨[(.agg ⟨[(.func (.via 0 ⟨[]⟩ 0 true) a0 ⟨[.slice (some ⟨0,a1,none⟩) a2 7]⟩),(.func (.via 0 ⟨[]⟩ 0 true) a3 ⟨[.slice (some ⟨0,a4,none⟩) a5 5]⟩),(.func (.via 0 ⟨[]⟩ 0 true) a6 ⟨[.slice (some ⟨0,a7,none⟩) a8 1]⟩),(.int .i64 a9),(.int .i64 a10)]⟩),(.int .i64 a11),(.int .i64 a12)]⟩ h=>(match Nat.beq g 42 with | true=>some (⟨a0,a1,a2,a3,a4,a5,a6,a7,a8,a9,a10,a11,a12⟩,h) | false=>none)
  | _=>none
noncomputable def alt42 (x:A42) (h:Hp) : AT:=.br (F42_ok x.a0 x.a1 x.a2 x.a3 x.a4 x.a5 x.a6 x.a7 x.a8 x.a9 x.a10 x.a11 x.a12) (.leaf (.ret (.tuple ⟨[(lstV (F42_0 x.a0 x.a1 x.a2 x.a3 x.a4 x.a5 x.a6 x.a7 x.a8 x.a9 x.a10 x.a11 x.a12) (F42_1 x.a0 x.a1 x.a2 x.a3 x.a4 x.a5 x.a6 x.a7 x.a8 x.a9 x.a10 x.a11 x.a12) (F42_2 x.a0 x.a1 x.a2 x.a3 x.a4 x.a5 x.a6 x.a7 x.a8 x.a9 x.a10 x.a11 x.a12) 6),(.int .i64 (F42_3 x.a0 x.a1 x.a2 x.a3 x.a4 x.a5 x.a6 x.a7 x.a8 x.a9 x.a10 x.a11 x.a12))]⟩) h)) .no
noncomputable def p42 : Ans:=fnAns dec42 alt42
theorem ha42 : ∀ (x:A42) (h:Hp) (o:Out),(alt42 x h).out = some o → ∃ r,(rt42 x.a0 x.a1 x.a2 x.a3 x.a4 x.a5 x.a6 x.a7 x.a8 x.a9 x.a10 x.a11 x.a12).val = some r ∧ o = .ret (en42 r) h:=by
  intro x h o e
  unfold alt42 at e
  cases hF : F42 x.a0 x.a1 x.a2 x.a3 x.a4 x.a5 x.a6 x.a7 x.a8 x.a9 x.a10 x.a11 x.a12 with
  | none=>simp [F42_ok,hF,AT.out] at e
  | some r =>
    refine ⟨r,hF,?_⟩
    simp only [F42_ok,F42_0,F42_1,F42_2,F42_3,hF,AT.out,Option.isSome_some,cond_true,Option.some.injEq] at e
    rw [← e]; rfl
theorem hd42 : ∀ (t:Task) (x:A42) (h:Hp),dec42 t = some (x,h) → t = .call 42 ⟨[(.agg ⟨[(lstV x.a0 x.a1 x.a2 7),(lstV x.a3 x.a4 x.a5 5),(lstV x.a6 x.a7 x.a8 1),(.int .i64 x.a9),(.int .i64 x.a10)]⟩),(.int .i64 x.a11),(.int .i64 x.a12)]⟩ h:=by
  intro t x h e
  unfold dec42 at e
  split at e
  case h_2=>cases e
  split at e
  case h_2=>cases e
  rename_i hg
  simp only [Option.some.injEq,Prod.mk.injEq] at e
  obtain ⟨rfl,rfl⟩:=e
  rw [Nat.eq_of_beq_eq_true hg]
theorem known42 : Known Try.prog p42:=by
  obtain ⟨J0,hJ0⟩:=kl42_0
  exact Known.fn noNG mixed (Known.or (known20V (known20v known20)) (Known.or known91 (Known.or known92 (Known.or known94 hJ0)))) (n:=60) (zs:=[6,0]) 42 (fun x : A42=>[(.agg ⟨[(lstV x.a0 x.a1 x.a2 7),(lstV x.a3 x.a4 x.a5 5),(lstV x.a6 x.a7 x.a8 1),(.int .i64 x.a9),(.int .i64 x.a10)]⟩),(.int .i64 x.a11),(.int .i64 x.a12)]) (fun x=>rt42 x.a0 x.a1 x.a2 x.a3 x.a4 x.a5 x.a6 x.a7 x.a8 x.a9 x.a10 x.a11 x.a12) en42 (fun x=>T42 J0 x.a0 x.a1 x.a2 x.a3 x.a4 x.a5 x.a6 x.a7 x.a8 x.a9 x.a10 x.a11 x.a12) (fun x=>rfl) dec42 alt42 hd42 ha42
end
end Go.Proofs.Ytaglpbmnadlpgaa

namespace Go.Proofs.Ytaglpbmnadlpgaa
open Go.Gi Go.RowKit Go.Proofs.Ytaglpbmnadlpgaa.Old
noncomputable section
set_option maxRecDepth 100000
set_option linter.unusedVariables false
set_option linter.unusedSimpArgs false
structure Bd where
  f : Int
  t : Int
  xl : Int
  xh : Int
  yl : Int
  yh : Int
def Bd.row (b : Bd) : List Value:=[.int .i64 b.f,.int .i64 b.t,.int .i64 b.xl,.int .i64 b.xh,.int .i64 b.yl,.int .i64 b.yh]
def rowsB : List Bd → List Value
  | []=>[]
  | b :: r=>b.row ++ rowsB r
def arrB (L : List Bd) : Array Value:=⟨rowsB L⟩
theorem rowsB_app : ∀ L M : List Bd,rowsB (L ++ M) = rowsB L ++ rowsB M
  | [],_=>rfl
  | b :: r,M=>by simp only [List.cons_append,rowsB,rowsB_app r M,List.append_assoc]
theorem rowsB_len : ∀ L : List Bd,(rowsB L).length = L.length * 6
  | []=>rfl
  | b :: r=>by simp only [rowsB,List.length_append,rowsB_len r,List.length_cons,Bd.row,List.length_nil]; omega
def encB (L : List Bd) : Option (Array Value × Nat):=match L with
  | []=>none
  | a :: r=>some (arrB (a :: r),(a :: r).length)
theorem apB_arrB (L : List Bd) (b : Bd) : apB (Array.extract (arrB L) 0 (0 + (L.length * 6))) (Array.extract ⟨b.row⟩ 0 6) = arrB (L ++ [b]):=by
  simp only [apB,arrB,Nat.zero_add,List.extract_toArray,rowsB_app]
  rw [List.extract_eq_take_drop,List.extract_eq_take_drop]
  simp only [List.drop_zero,Nat.sub_zero,rowsB,List.append_nil]
  rw [List.take_of_length_le (by rw [rowsB_len]; omega),List.take_of_length_le (by simp [Bd.row])]
  simp
theorem allFz_arrB : ∀ L : List Bd,allFz (arrB L) = true:=by
  intro L
  simp only [allFz,arrB]
  induction L with
  | nil=>rfl
  | cons b r ih=>simp only [rowsB,List.all_append,ih,Bool.and_true]; rfl
theorem size_arrB (L : List Bd) : (arrB L).size = L.length * 6:=rowsB_len L
theorem drop_rows : ∀ (L : List Bd) (i : Nat) (h : i < L.length),∃ r,(rowsB L).drop (i * 6) = (L[i]).row ++ r
  | b :: r,0,_=>⟨rowsB r,rfl⟩
  | b :: r,i + 1,h=>by
    obtain ⟨q,e⟩:=drop_rows r i (by simpa using h)
    refine ⟨q,?_⟩
    rw [show (i + 1) * 6 = 6 + i * 6 by omega]
    show (b.row ++ rowsB r).drop (6 + i * 6) = _
    rw [← List.drop_drop]
    exact e
theorem lget_drop (l : List Value) (i j : Nat) : lget (l.drop i) j = lget l (i + j):=by
  rw [lget_eq,lget_eq]
  simp [Array.getD_eq_getD_getElem?,List.getElem?_drop]
def bnds (c0 c c3 : Array Value) (n n2 : Nat) (age shear tick now : Int) : Nat → Nat → Option (List Bd)
  | 0,_=>some []
  | m + 1,k=>match ansO c0 c n n2 age shear (wLo c3 (k : Int)) (wHi c3 (k : Int)) tick now with
    | none=>none
    | some h=>match bnds c0 c c3 n n2 age shear tick now m (k + 1) with
      | none=>none
      | some R=>some (⟨wLo c3 (k : Int),getInt c3 k,h.xl,h.xh,h.yl,h.yh⟩ :: R)
section
variable {c0 c c3 : Array Value} {n n2 n3 : Nat} {age shear lo hi tick now : Int}
theorem bnds_len : ∀ m k R,bnds c0 c c3 n n2 age shear tick now m k = some R → R.length = m
  | 0,k,R,h=>by simp only [bnds,Option.some.injEq] at h; subst h; rfl
  | m + 1,k,R,h=>by
    unfold bnds at h
    split at h
    · cases h
    · split at h
      · cases h
      · rename_i R' h'
        simp only [Option.some.injEq] at h
        subst h
        simp only [List.length_cons,bnds_len m (k + 1) R' h']
theorem F92_some {h : Hd} (hv : Vld c0 0 n c 0 n2 age shear) (h81 : F81ok c0 0 n c 0 n2 c3 0 n3 age shear lo hi tick now = true) (e : ansO c0 c n n2 age shear lo hi tick now = some h) :
    F92_ok c0 0 n c 0 n2 c3 0 n3 age shear lo hi tick now = true ∧ F92_0 c0 0 n c 0 n2 c3 0 n3 age shear lo hi tick now = h.xl ∧ F92_1 c0 0 n c 0 n2 c3 0 n3 age shear lo hi tick now = h.xh ∧
    F92_2 c0 0 n c 0 n2 c3 0 n3 age shear lo hi tick now = h.yl ∧ F92_3 c0 0 n c 0 n2 c3 0 n3 age shear lo hi tick now = h.yh ∧ F92_4 c0 0 n c 0 n2 c3 0 n3 age shear lo hi tick now = true:=by
  have q:=F92_eq hv h81
  rw [e] at q
  exact ⟨by simp [F92_ok,q],by simp [F92_0,q],by simp [F92_1,q],by simp [F92_2,q],by simp [F92_3,q],by simp [F92_4,q]⟩
theorem F92_none (hv : Vld c0 0 n c 0 n2 age shear) (h81 : F81ok c0 0 n c 0 n2 c3 0 n3 age shear lo hi tick now = true) (e : ansO c0 c n n2 age shear lo hi tick now = none) :
    F92_ok c0 0 n c 0 n2 c3 0 n3 age shear lo hi tick now = true ∧ F92_4 c0 0 n c 0 n2 c3 0 n3 age shear lo hi tick now = false:=by
  have q:=F92_eq hv h81
  rw [e] at q
  exact ⟨by simp [F92_ok,q],by simp [F92_4,q]⟩
theorem loop42 (hv : Vld c0 0 n c 0 n2 age shear) (g3 : GL L1 1 c3 n3) (few : n3 ≤ 1000) (h81 : ∀ k : Nat,k < n3 → F81ok c0 0 n c 0 n2 c3 0 n3 age shear (wLo c3 (k : Int)) (wHi c3 (k : Int)) tick now = true) :
    ∀ (m k : Nat) (L : List Bd) (lo hi : Int),k + m = n3 → L.length = k → ∃ a b,
    loopR rd42_0
      ⟨encB L,c3,0,n3,(n3 : Int),(k : Int),c0,0,n,c,0,n2,c3,0,n3,age,shear,lo,hi,tick,now⟩ =
    some (match bnds c0 c c3 n n2 age shear tick now m k with
      | none=>.k0 ⟨[]⟩ 0 0 9 c0 0 n c 0 n2 c3 0 n3 age shear a b tick now
      | some R=>.k1 (arrB (L ++ R)) 0 (L ++ R).length c0 0 n c 0 n2 c3 0 n3 age shear a b tick now)
  | 0,k,L,lo,hi,e,hl=>⟨lo,hi,loopR_done (by
      obtain rfl : k = n3:=by omega
      have h1 : ¬ ((k : Int) < (k : Int)):=by omega
      cases L with
      | nil=>simp only [rd42_0,encB,RT.val,h1,Int.ofNat_eq_natCast,decide_false,cond_false,bnds]; rfl
      | cons a r =>
        simp only [rd42_0,encB,RT.val,h1,Int.ofNat_eq_natCast,decide_false,cond_false,cond_true,allFz_arrB,size_arrB,Nat.zero_add,Nat.le_refl,decide_true,Bool.and_self,bnds,List.append_nil])⟩
  | m + 1,k,L,lo,hi,e,hl=>by
    have hki : (k : Int) < (n3 : Int):=by omega
    have h0 : (0 : Int) ≤ (k : Int):=by omega
    have hidx : 0 + (Int.toNat (k : Int)) * 1 = k:=by simp
    have hi1 : isInt .i64 c3 k = true:=g3.int (by omega)
    have h3 : IntKind.wrap .i64 ((k : Int) + 1) = ((k + 1 : Nat) : Int):=by rw [wrap64_id (by omega) (by omega)]; omega
    obtain ⟨w1,w2,w3⟩:=F94_of (c1:=c0) (c2:=c) (n1:=n) (n2:=n2) (age:=age) (shear:=shear) (k:=(k : Int)) g3 (by omega) (by omega)
    have h81k:=h81 k (by omega)
    cases ha : ansO c0 c n n2 age shear (wLo c3 (k : Int)) (wHi c3 (k : Int)) tick now with
    | none =>
      obtain ⟨f1,f2⟩:=F92_none hv h81k ha
      refine ⟨wLo c3 (k : Int),wHi c3 (k : Int),loopR_done ?_⟩
      cases L with
      | nil=>simp only [rd42_0,encB,RT.val,Int.ofNat_eq_natCast,hki,h0,hidx,hi1,w1,w2,w3,f1,f2,decide_true,Bool.and_self,Bool.not_false,cond_true,bnds,ha]
      | cons a r=>simp only [rd42_0,encB,RT.val,Int.ofNat_eq_natCast,hki,h0,hidx,hi1,w1,w2,w3,f1,f2,decide_true,Bool.and_self,Bool.not_false,cond_true,bnds,ha]
    | some h =>
      obtain ⟨f1,f2,f3,f4,f5,f6⟩:=F92_some hv h81k ha
      obtain ⟨a,b,ih⟩:=loop42 hv g3 few h81 m (k + 1) (L ++ [⟨wLo c3 (k : Int),getInt c3 k,h.xl,h.xh,h.yl,h.yh⟩]) (wLo c3 (k : Int)) (wHi c3 (k : Int)) (by omega) (by simp; omega)
      refine ⟨a,b,(loopR_next ?_).trans (ih.trans ?_)⟩
      · cases L with
        | nil =>
          simp only [rd42_0,encB,RT.val,Int.ofNat_eq_natCast,hki,h0,hidx,hi1,w1,w2,w3,f1,f2,f3,f4,f5,f6,decide_true,Bool.and_self,Bool.not_true,cond_true,cond_false,h3]
          rfl
        | cons q r =>
          have hb:=apB_arrB (q :: r) ⟨wLo c3 (k : Int),getInt c3 k,h.xl,h.xh,h.yl,h.yh⟩
          simp only [Bd.row] at hb
          have hl1 : ((q :: r).length + 1) * 48 ≤ 140737488355328 ∧ (q :: r).length + 1 ≤ 4611686018427387904 ∧ 0 + (q :: r).length * 6 ≤ (arrB (q :: r)).size:=by rw [size_arrB]; omega
          simp only [rd42_0,encB,RT.val,Int.ofNat_eq_natCast,hki,h0,hidx,hi1,w1,w2,w3,f1,f2,f3,f4,f5,f6,decide_true,Bool.and_self,Bool.not_true,cond_true,cond_false,h3,hb,allFz_arrB,hl1.1,hl1.2.1,hl1.2.2]
          simp [encB]
      · conv=>rhs; unfold bnds
        rw [ha]
        cases bnds c0 c c3 n n2 age shear tick now m (k + 1) with
        | none=>rfl
        | some R=>simp
end
end
end Go.Proofs.Ytaglpbmnadlpgaa

namespace Go.Proofs.Ytaglpbmnadlpgaa
open Go.Gi Go.RowKit Go.Proofs.Ytaglpbmnadlpgaa.Old
noncomputable section
set_option maxRecDepth 100000
set_option linter.unusedVariables false
set_option linter.unusedSimpArgs false
theorem cellsB (L : List Bd) {i : Nat} (h : i < L.length) : ∀ j,lget (arrB L).toList (0 + i * 6 + j) = lget ((L[i]).row ++ (rowsB L).drop (i * 6 + 6)) j:=by
  obtain ⟨r,e⟩:=drop_rows L i h
  intro j
  have hr : (rowsB L).drop (i * 6 + 6) = r:=by
    rw [← List.drop_drop,e]; rfl
  rw [hr,← e,lget_drop,Nat.zero_add]; rfl
theorem getB (L : List Bd) {i : Nat} (h : i < L.length) : getInt (arrB L) (0 + i * 6) = L[i].f ∧ getInt (arrB L) (0 + i * 6 + 1) = L[i].t ∧ getInt (arrB L) (0 + i * 6 + 1 + 1) = L[i].xl ∧
    getInt (arrB L) (0 + i * 6 + 1 + 1 + 1) = L[i].xh ∧ getInt (arrB L) (0 + i * 6 + 1 + 1 + 1 + 1) = L[i].yl ∧ getInt (arrB L) (0 + i * 6 + 1 + 1 + 1 + 1 + 1) = L[i].yh:=by
  have g:=cellsB L h
  have g0:=g 0
  have g1:=g 1
  have g2:=g 2
  have g3:=g 3
  have g4:=g 4
  have g5:=g 5
  simp only [Nat.add_zero,Nat.add_assoc,Nat.reduceAdd] at g0 g1 g2 g3 g4 g5
  simp only [getInt,Nat.add_assoc,Nat.reduceAdd,g0,g1,g2,g3,g4,g5]
  exact ⟨rfl,rfl,rfl,rfl,rfl,rfl⟩
end
end Go.Proofs.Ytaglpbmnadlpgaa

namespace Go.Proofs.Ytaglpbmnadlpgaa
open Go.Gi Go.RowKit Go.Proofs.Ytaglpbmnadlpgaa.Old
noncomputable section
set_option maxRecDepth 100000
set_option maxHeartbeats 4000000
set_option linter.unusedVariables false
set_option linter.unusedSimpArgs false
structure R70 where
  (r0:Bool)
structure A70 where
  (a0:Int)
noncomputable def rt70 (a0:Int) : RT R70 :=
  .br (decide ((0 : Int) ≤ a0))
 (.leaf ⟨(decide (a0 < (100000000 : Int)))⟩)
 (.leaf ⟨false⟩)
noncomputable def en70 (r:R70) : Value:=(.bool r.r0)
theorem T70  (a0 : Int) : evC Try.prog (Ans.c (fun _=>none : Ans)) 60 (.call 70 ⟨[(.int .i64 a0)]⟩ ⟨[],0,[]⟩) (frzK [0]) = (rt70 a0).out (fun r=>.ret (en70 r) ⟨[],0,[]⟩):=by kernel_rfl
noncomputable def F70 (a0:Int) : Option R70:=(rt70 a0).val
section
variable (a0:Int)
noncomputable def F70_ok : Bool:=(F70 a0).isSome
noncomputable def F70_0 : Bool:=match F70 a0 with | some r=>r.r0 | none=>false
end
noncomputable def dec70 : Task → Option (A70 × Hp)
  | .call g ⟨[(.int .i64 a0)]⟩ h=>(match Nat.beq g 70 with | true=>some (⟨a0⟩,h) | false=>none)
  | _=>none
noncomputable def alt70 (x:A70) (h:Hp) : AT:=.br (F70_ok x.a0) (.leaf (.ret (.bool (F70_0 x.a0)) h)) .no
noncomputable def p70 : Ans:=fnAns dec70 alt70
theorem ha70 : ∀ (x:A70) (h:Hp) (o:Out),(alt70 x h).out = some o → ∃ r,(rt70 x.a0).val = some r ∧ o = .ret (en70 r) h:=by
  intro x h o e
  unfold alt70 at e
  cases hF : F70 x.a0 with
  | none=>simp [F70_ok,hF,AT.out] at e
  | some r =>
    refine ⟨r,hF,?_⟩
    simp only [F70_ok,F70_0,hF,AT.out,Option.isSome_some,cond_true,Option.some.injEq] at e
    rw [← e]; rfl
theorem hd70 : ∀ (t:Task) (x:A70) (h:Hp),dec70 t = some (x,h) → t = .call 70 ⟨[(.int .i64 x.a0)]⟩ h:=by
  intro t x h e
  unfold dec70 at e
  split at e
  case h_2=>cases e
  split at e
  case h_2=>cases e
  rename_i hg
  simp only [Option.some.injEq,Prod.mk.injEq] at e
  obtain ⟨rfl,rfl⟩:=e
  rw [Nat.eq_of_beq_eq_true hg]
theorem known70 : Known Try.prog p70:=by
  exact Known.fn noNG mixed (Known.nothing Try.prog) (n:=60) (zs:=[0]) 70 (fun x : A70=>[(.int .i64 x.a0)]) (fun x=>rt70 x.a0) en70 (fun x=>T70  x.a0) (fun x=>rfl) dec70 alt70 hd70 ha70
end
end Go.Proofs.Ytaglpbmnadlpgaa

namespace Go.Proofs.Ytaglpbmnadlpgaa
open Go.Gi Go.RowKit Go.Proofs.Ytaglpbmnadlpgaa.Old
noncomputable section
set_option maxRecDepth 100000
set_option maxHeartbeats 4000000
set_option linter.unusedVariables false
set_option linter.unusedSimpArgs false
structure R40 where
  (r0 r1:Int)
  (r2 r3 r4:Int)
structure A40 where
  (a0:Array Value)
  (a1 a2:Nat)
  (a3:Array Value)
  (a4 a5:Nat)
  (a6:Array Value)
  (a7 a8:Nat)
  (a9 a10:Int)
  (a11 a12 a13:Int)
noncomputable def rt40 (a0 : Array Value) (a1 a2:Nat) (a3 : Array Value) (a4 a5:Nat) (a6 : Array Value) (a7 a8:Nat) (a9 a10:Int) (a11 a12 a13:Int) : RT R40 :=
  .br (F20_ok a0 a1 a2 a3 a4 a5 a6 a7 a8 a9 a10)
 (.br (not (decide ((F20_2 a0 a1 a2 a3 a4 a5 a6 a7 a8 a9 a10) = (0 : Int))))
 (.leaf ⟨(0 : Int),(0 : Int),(0 : Int),(0 : Int),(F20_2 a0 a1 a2 a3 a4 a5 a6 a7 a8 a9 a10)⟩)
 (.br (F70_ok a11)
 (.br (not (F70_0 a11))
 (.leaf ⟨(0 : Int),(0 : Int),(0 : Int),(0 : Int),(7 : Int)⟩)
 (.br (F91_ok a11 a11 a12 a13)
 (.br (not (F91_0 a11 a11 a12 a13))
 (.leaf ⟨(0 : Int),(0 : Int),(0 : Int),(0 : Int),(7 : Int)⟩)
 (.br (F92_ok a0 a1 a2 a3 a4 a5 a6 a7 a8 a9 a10 a11 a11 a12 a13)
 (.br (not (F92_4 a0 a1 a2 a3 a4 a5 a6 a7 a8 a9 a10 a11 a11 a12 a13))
 (.leaf ⟨(0 : Int),(0 : Int),(0 : Int),(0 : Int),(9 : Int)⟩)
 (.br (decide ((F92_2 a0 a1 a2 a3 a4 a5 a6 a7 a8 a9 a10 a11 a11 a12 a13) = (F92_2 a0 a1 a2 a3 a4 a5 a6 a7 a8 a9 a10 a11 a11 a12 a13)))
 (.br (decide ((F92_3 a0 a1 a2 a3 a4 a5 a6 a7 a8 a9 a10 a11 a11 a12 a13) = (F92_3 a0 a1 a2 a3 a4 a5 a6 a7 a8 a9 a10 a11 a11 a12 a13)))
 (.br (decide ((F92_2 a0 a1 a2 a3 a4 a5 a6 a7 a8 a9 a10 a11 a11 a12 a13) = (F92_2 a0 a1 a2 a3 a4 a5 a6 a7 a8 a9 a10 a11 a11 a12 a13)))
 (.br (decide ((F92_3 a0 a1 a2 a3 a4 a5 a6 a7 a8 a9 a10 a11 a11 a12 a13) = (F92_3 a0 a1 a2 a3 a4 a5 a6 a7 a8 a9 a10 a11 a11 a12 a13)))
 (.leaf ⟨(F92_0 a0 a1 a2 a3 a4 a5 a6 a7 a8 a9 a10 a11 a11 a12 a13),(F92_1 a0 a1 a2 a3 a4 a5 a6 a7 a8 a9 a10 a11 a11 a12 a13),(F92_2 a0 a1 a2 a3 a4 a5 a6 a7 a8 a9 a10 a11 a11 a12 a13),(F92_3 a0 a1 a2 a3 a4 a5 a6 a7 a8 a9 a10 a11 a11 a12 a13),(0 : Int)⟩)
 (.no))
 (.no))
 (.no))
 (.no)))
 (.no)))
 (.no)))
 (.no)))
 (.no)
noncomputable def en40 (r:R40) : Value:=(.tuple ⟨[(.agg ⟨[(.int .i64 r.r0),(.int .i64 r.r1)]⟩),(.agg ⟨[(.int .i64 r.r2),(.int .i64 r.r3)]⟩),(.int .i64 r.r4)]⟩)
theorem T40  (a0 : Array Value) (a1 a2:Nat) (a3 : Array Value) (a4 a5:Nat) (a6 : Array Value) (a7 a8:Nat) (a9 a10:Int) (a11 a12 a13:Int) : evC Try.prog (Ans.c ((p20V 20).or (p70.or (p91.or p92)))) 60 (.call 40 ⟨[(.agg ⟨[(lstV a0 a1 a2 7),(lstV a3 a4 a5 5),(lstV a6 a7 a8 1),(.int .i64 a9),(.int .i64 a10)]⟩),(.int .i64 a11),(.int .i64 a12),(.int .i64 a13)]⟩ ⟨[],0,[]⟩) (frzK [0,0,0]) = (rt40 a0 a1 a2 a3 a4 a5 a6 a7 a8 a9 a10 a11 a12 a13).out (fun r=>.ret (en40 r) ⟨[],0,[]⟩):=by kernel_rfl
noncomputable def F40 (a0 : Array Value) (a1 a2:Nat) (a3 : Array Value) (a4 a5:Nat) (a6 : Array Value) (a7 a8:Nat) (a9 a10:Int) (a11 a12 a13:Int) : Option R40:=(rt40 a0 a1 a2 a3 a4 a5 a6 a7 a8 a9 a10 a11 a12 a13).val
section
variable (a0 : Array Value) (a1 a2:Nat) (a3 : Array Value) (a4 a5:Nat) (a6 : Array Value) (a7 a8:Nat) (a9 a10:Int) (a11 a12 a13:Int)
noncomputable def F40_ok : Bool:=(F40 a0 a1 a2 a3 a4 a5 a6 a7 a8 a9 a10 a11 a12 a13).isSome
noncomputable def F40_0 : Int:=match F40 a0 a1 a2 a3 a4 a5 a6 a7 a8 a9 a10 a11 a12 a13 with | some r=>r.r0 | none=>0
noncomputable def F40_1 : Int:=match F40 a0 a1 a2 a3 a4 a5 a6 a7 a8 a9 a10 a11 a12 a13 with | some r=>r.r1 | none=>0
noncomputable def F40_2 : Int:=match F40 a0 a1 a2 a3 a4 a5 a6 a7 a8 a9 a10 a11 a12 a13 with | some r=>r.r2 | none=>0
noncomputable def F40_3 : Int:=match F40 a0 a1 a2 a3 a4 a5 a6 a7 a8 a9 a10 a11 a12 a13 with | some r=>r.r3 | none=>0
noncomputable def F40_4 : Int:=match F40 a0 a1 a2 a3 a4 a5 a6 a7 a8 a9 a10 a11 a12 a13 with | some r=>r.r4 | none=>0
end
noncomputable def dec40 : Task → Option (A40 × Hp)
  | .call g ⟨[(.agg ⟨[(.func (.via 0 ⟨[]⟩ 0 true) a0 ⟨[.slice (some ⟨0,a1,none⟩) a2 7]⟩),(.func (.via 0 ⟨[]⟩ 0 true) a3 ⟨[.slice (some ⟨0,a4,none⟩) a5 5]⟩),(.func (.via 0 ⟨[]⟩ 0 true) a6 ⟨[.slice (some ⟨0,a7,none⟩) a8 1]⟩),(.int .i64 a9),(.int .i64 a10)]⟩),(.int .i64 a11),(.int .i64 a12),(.int .i64 a13)]⟩ h=>(match Nat.beq g 40 with | true=>some (⟨a0,a1,a2,a3,a4,a5,a6,a7,a8,a9,a10,a11,a12,a13⟩,h) | false=>none)
  | _=>none
noncomputable def alt40 (x:A40) (h:Hp) : AT:=.br (F40_ok x.a0 x.a1 x.a2 x.a3 x.a4 x.a5 x.a6 x.a7 x.a8 x.a9 x.a10 x.a11 x.a12 x.a13) (.leaf (.ret (.tuple ⟨[(.agg ⟨[(.int .i64 (F40_0 x.a0 x.a1 x.a2 x.a3 x.a4 x.a5 x.a6 x.a7 x.a8 x.a9 x.a10 x.a11 x.a12 x.a13)),(.int .i64 (F40_1 x.a0 x.a1 x.a2 x.a3 x.a4 x.a5 x.a6 x.a7 x.a8 x.a9 x.a10 x.a11 x.a12 x.a13))]⟩),(.agg ⟨[(.int .i64 (F40_2 x.a0 x.a1 x.a2 x.a3 x.a4 x.a5 x.a6 x.a7 x.a8 x.a9 x.a10 x.a11 x.a12 x.a13)),(.int .i64 (F40_3 x.a0 x.a1 x.a2 x.a3 x.a4 x.a5 x.a6 x.a7 x.a8 x.a9 x.a10 x.a11 x.a12 x.a13))]⟩),(.int .i64 (F40_4 x.a0 x.a1 x.a2 x.a3 x.a4 x.a5 x.a6 x.a7 x.a8 x.a9 x.a10 x.a11 x.a12 x.a13))]⟩) h)) .no
noncomputable def p40 : Ans:=fnAns dec40 alt40
theorem ha40 : ∀ (x:A40) (h:Hp) (o:Out),(alt40 x h).out = some o → ∃ r,(rt40 x.a0 x.a1 x.a2 x.a3 x.a4 x.a5 x.a6 x.a7 x.a8 x.a9 x.a10 x.a11 x.a12 x.a13).val = some r ∧ o = .ret (en40 r) h:=by
  intro x h o e
  unfold alt40 at e
  cases hF : F40 x.a0 x.a1 x.a2 x.a3 x.a4 x.a5 x.a6 x.a7 x.a8 x.a9 x.a10 x.a11 x.a12 x.a13 with
  | none=>simp [F40_ok,hF,AT.out] at e
  | some r =>
    refine ⟨r,hF,?_⟩
    simp only [F40_ok,F40_0,F40_1,F40_2,F40_3,F40_4,hF,AT.out,Option.isSome_some,cond_true,Option.some.injEq] at e
    rw [← e]; rfl
theorem hd40 : ∀ (t:Task) (x:A40) (h:Hp),dec40 t = some (x,h) → t = .call 40 ⟨[(.agg ⟨[(lstV x.a0 x.a1 x.a2 7),(lstV x.a3 x.a4 x.a5 5),(lstV x.a6 x.a7 x.a8 1),(.int .i64 x.a9),(.int .i64 x.a10)]⟩),(.int .i64 x.a11),(.int .i64 x.a12),(.int .i64 x.a13)]⟩ h:=by
  intro t x h e
  unfold dec40 at e
  split at e
  case h_2=>cases e
  split at e
  case h_2=>cases e
  rename_i hg
  simp only [Option.some.injEq,Prod.mk.injEq] at e
  obtain ⟨rfl,rfl⟩:=e
  rw [Nat.eq_of_beq_eq_true hg]
theorem known40 : Known Try.prog p40:=by
  exact Known.fn noNG mixed (Known.or (known20V (known20v known20)) (Known.or known70 (Known.or known91 known92))) (n:=60) (zs:=[0,0,0]) 40 (fun x : A40=>[(.agg ⟨[(lstV x.a0 x.a1 x.a2 7),(lstV x.a3 x.a4 x.a5 5),(lstV x.a6 x.a7 x.a8 1),(.int .i64 x.a9),(.int .i64 x.a10)]⟩),(.int .i64 x.a11),(.int .i64 x.a12),(.int .i64 x.a13)]) (fun x=>rt40 x.a0 x.a1 x.a2 x.a3 x.a4 x.a5 x.a6 x.a7 x.a8 x.a9 x.a10 x.a11 x.a12 x.a13) en40 (fun x=>T40  x.a0 x.a1 x.a2 x.a3 x.a4 x.a5 x.a6 x.a7 x.a8 x.a9 x.a10 x.a11 x.a12 x.a13) (fun x=>rfl) dec40 alt40 hd40 ha40
end
end Go.Proofs.Ytaglpbmnadlpgaa

namespace Go.Proofs.Ytaglpbmnadlpgaa
open Go.Gi Go.RowKit Go.Proofs.Ytaglpbmnadlpgaa.Old
noncomputable section
set_option maxRecDepth 100000
set_option linter.unusedVariables false
set_option linter.unusedSimpArgs false
def tkB (x : Int) : Bool:=decide (0 ≤ x) && decide (x ≤ 100000)
def hgB (x : Int) : Bool:=decide (0 ≤ x) && decide (x ≤ 99999999)
theorem F70_of (a : Int) : F70_ok a = true ∧ F70_0 a = hgB a:=by
  have h : F70 a = some ⟨hgB a⟩:=by
    have e : decide (a < 100000000) = decide (a ≤ 99999999):=by rw [decide_eq_decide]; omega
    unfold F70 rt70 hgB
    by_cases h : 0 ≤ a <;> simp [RT.val,h,e]
  exact ⟨by simp [F70_ok,h],by simp [F70_0,h]⟩
section
variable {c0 c c3 : Array Value} {n n2 n3 : Nat} {age shear h x y : Int}
def atS (c0 c c3 : Array Value) (n n2 n3 : Nat) (age shear h x y : Int) : Hd × Int :=
  if F20_2 c0 0 n c 0 n2 c3 0 n3 age shear = 0 then
    (if (hgB h && (tkB x && tkB y)) = true then
      (match ansO c0 c n n2 age shear h h x y with
       | some H=>(H,0)
       | none=>(⟨0,0,0,0,false⟩,9))
     else (⟨0,0,0,0,false⟩,7))
  else (⟨0,0,0,0,false⟩,F20_2 c0 0 n c 0 n2 c3 0 n3 age shear)
theorem hgQ (hh : hgB h = true) (hx : tkB x = true) (hy : tkB y = true) : Qst h h x y:=by
  simp only [hgB,tkB,Bool.and_eq_true,decide_eq_true_eq] at hh hx hy
  exact ⟨⟨by omega,by omega⟩,⟨by omega,by omega⟩,hx,hy⟩
theorem F40_eq (g1 : GL L7 7 c0 n) (g2 : GL L5 5 c n2) (g3 : GL L1 1 c3 n3) : F40 c0 0 n c 0 n2 c3 0 n3 age shear h x y =
    some ⟨(atS c0 c c3 n n2 n3 age shear h x y).1.xl,(atS c0 c c3 n n2 n3 age shear h x y).1.xh,(atS c0 c c3 n n2 n3 age shear h x y).1.yl,(atS c0 c c3 n n2 n3 age shear h x y).1.yh,(atS c0 c c3 n n2 n3 age shear h x y).2⟩:=by
  have hok:=F20_ok_of (age:=age) (shear:=shear) g1 g2 g3
  obtain ⟨k1,k2⟩:=F70_of h
  have k4 : F91_0 h h x y = (tkB x && tkB y):=F91_0_eq h h x y
  unfold F40 rt40 atS
  by_cases hz : F20_2 c0 0 n c 0 n2 c3 0 n3 age shear = 0
  · obtain ⟨hv,_,hc⟩:=vld g1 g2 g3 hz
    rw [if_pos hz]
    by_cases hh : hgB h = true
    · by_cases hxy : (tkB x && tkB y) = true
      · rw [if_pos (by rw [hh,hxy]; rfl)]
        have hq:=hgQ hh (Bool.and_eq_true _ _ ▸ hxy).1 (Bool.and_eq_true _ _ ▸ hxy).2
        have h81 : F81ok c0 0 n c 0 n2 c3 0 n3 age shear h h x y = true:=dec_iff.2 ⟨hok,hz,hq⟩
        cases ha : ansO c0 c n n2 age shear h h x y with
        | none =>
          obtain ⟨f1,f2⟩:=F92_none hv h81 ha
          simp only [RT.val,hok,hz,k1,k2,hh,F91_ok_eq,k4,hxy,f1,f2,decide_true,Bool.not_true,Bool.not_false,cond_true,cond_false]
        | some H =>
          obtain ⟨f1,f2,f3,f4,f5,f6⟩:=F92_some hv h81 ha
          simp only [RT.val,hok,hz,k1,k2,hh,F91_ok_eq,k4,hxy,f1,f2,f3,f4,f5,f6,decide_true,Bool.not_true,cond_true,cond_false]
      · rw [if_neg (by rw [hh]; simpa using hxy)]
        rw [Bool.not_eq_true] at hxy
        simp only [RT.val,hok,hz,k1,k2,hh,F91_ok_eq,k4,hxy,decide_true,Bool.not_true,Bool.not_false,cond_true,cond_false]
    · rw [if_neg (by simp [hh])]
      rw [Bool.not_eq_true] at hh
      simp only [RT.val,hok,hz,k1,k2,hh,decide_true,Bool.not_true,Bool.not_false,cond_true,cond_false]
  · rw [if_neg hz]
    simp only [RT.val,hok,hz,decide_false,Bool.not_false,cond_true]
def bnS (c0 c c3 : Array Value) (n n2 n3 : Nat) (age shear x y : Int) : List Bd × Int :=
  if F20_2 c0 0 n c 0 n2 c3 0 n3 age shear = 0 then
    (if (tkB x && tkB y) = true then
      (match bnds c0 c c3 n n2 age shear x y n3 0 with
       | some R=>(R,0)
       | none=>([],9))
     else ([],7))
  else ([],F20_2 c0 0 n c 0 n2 c3 0 n3 age shear)
theorem tkQ {k : Nat} (hc : ∀ k,k < n3 → 1 ≤ getInt c3 k ∧ getInt c3 k ≤ 100000000) (hk : k < n3) (hxy : (tkB x && tkB y) = true) : Qst (wLo c3 (k : Int)) (wHi c3 (k : Int)) x y :=
  qst hc (show qErr n3 (k : Int) x y = 0 by
    unfold qErr
    rw [if_neg (by omega)]
    exact if_pos hxy)
theorem F42_eq (g1 : GL L7 7 c0 n) (g2 : GL L5 5 c n2) (g3 : GL L1 1 c3 n3) : F42 c0 0 n c 0 n2 c3 0 n3 age shear x y =
    some ⟨arrB (bnS c0 c c3 n n2 n3 age shear x y).1,0,(bnS c0 c c3 n n2 n3 age shear x y).1.length,(bnS c0 c c3 n n2 n3 age shear x y).2⟩:=by
  have hok:=F20_ok_of (age:=age) (shear:=shear) g1 g2 g3
  have k4 : F91_0 0 0 x y = (tkB x && tkB y):=F91_0_eq 0 0 x y
  unfold F42 rt42 bnS
  by_cases hz : F20_2 c0 0 n c 0 n2 c3 0 n3 age shear = 0
  · obtain ⟨hv,hn,hc⟩:=vld g1 g2 g3 hz
    rw [if_pos hz]
    by_cases hxy : (tkB x && tkB y) = true
    · rw [if_pos hxy]
      obtain ⟨a,b,hL⟩:=loop42 (tick:=x) (now:=y) hv g3 (by omega) (fun k hk=>dec_iff.2 ⟨hok,hz,tkQ hc hk hxy⟩) n3 0 [] 0 0 (by omega) rfl
      have hL' : L42_0 ⟨none,c3,0,n3,Int.ofNat n3,0,c0,0,n,c,0,n2,c3,0,n3,age,shear,0,0,x,y⟩ = _:=hL
      cases hb : bnds c0 c c3 n n2 age shear x y n3 0 with
      | none =>
        rw [hb] at hL'
        simp only [RT.val,hok,hz,F91_ok_eq,k4,hxy,eqCode_self,L42_0_k0,L42_0_k0_0,L42_0_k0_1,L42_0_k0_2,L42_0_k0_3,hL',decide_true,Bool.not_true,cond_true,cond_false]
        rfl
      | some R =>
        rw [hb] at hL'
        simp only [RT.val,hok,hz,F91_ok_eq,k4,hxy,eqCode_self,L42_0_k0,L42_0_k1,L42_0_k1_0,L42_0_k1_1,L42_0_k1_2,hL',decide_true,Bool.not_true,cond_true,cond_false,List.nil_append]
    · rw [if_neg hxy]
      rw [Bool.not_eq_true] at hxy
      simp only [RT.val,hok,hz,F91_ok_eq,k4,hxy,decide_true,Bool.not_true,Bool.not_false,cond_true,cond_false]
      rfl
  · rw [if_neg hz]
    simp only [RT.val,hok,hz,decide_false,Bool.not_false,cond_true]
    rfl
end
end
end Go.Proofs.Ytaglpbmnadlpgaa

namespace Go.Proofs.Ytaglpbmnadlpgaa
open Go.Gi Go.RowKit Go.Proofs.Ytaglpbmnadlpgaa.Old
noncomputable section
set_option maxRecDepth 100000
set_option linter.unusedVariables false
set_option linter.unusedSimpArgs false
section
variable {c0 c c3 : Array Value} {n n2 n3 : Nat} {age shear lo hi tick now x y : Int}
theorem wLo_next {k : Nat} : wLo c3 ((k + 1 : Nat) : Int) = getInt c3 k:=by
  unfold wLo
  rw [if_pos (by omega)]
  congr 1
  omega
theorem bnds_get : ∀ m k R,bnds c0 c c3 n n2 age shear tick now m k = some R → ∀ i (hi : i < R.length),∃ H,ansO c0 c n n2 age shear (wLo c3 ((k + i : Nat) : Int)) (wHi c3 ((k + i : Nat) : Int)) tick now = some H ∧ R[i] = ⟨wLo c3 ((k + i : Nat) : Int),getInt c3 (k + i),H.xl,H.xh,H.yl,H.yh⟩
  | 0,k,R,h,i,hi=>by simp only [bnds,Option.some.injEq] at h; subst h; simp at hi
  | m + 1,k,R,h,i,hi=>by
    unfold bnds at h
    split at h
    · cases h
    · rename_i H hH
      split at h
      · cases h
      · rename_i R' h'
        simp only [Option.some.injEq] at h
        subst h
        cases i with
        | zero=>exact ⟨H,hH,rfl⟩
        | succ i =>
          have:=bnds_get m (k + 1) R' h' i (by simpa using hi)
          rw [show k + (i + 1) = k + 1 + i by omega]
          simpa using this
theorem begun_mono {a b s : Int} (hs : 0 < s) (ha : 0 ≤ a) (h : a ≤ b) : begunI a s ≤ begunI b s:=by
  unfold begunI
  rw [Int.tdiv_eq_ediv_of_nonneg (by omega),Int.tdiv_eq_ediv_of_nonneg (by omega)]
  exact Int.ediv_le_ediv hs (by omega)
theorem absI_nonneg (a b : Int) : 0 ≤ absI a b:=by unfold absI; omega
theorem dbI_mono {lo' hi' tick' : Int} {k : Nat} (ha : 0 ≤ age) (hs : 0 ≤ shear) (h1 : absI (getInt c (0 + k * 5 + 1)) tick ≤ absI (getInt c (0 + k * 5 + 1)) tick')
    (h2 : max (absI (getInt c (0 + k * 5 + 2)) lo) (absI (getInt c (0 + k * 5 + 2)) hi) ≤ max (absI (getInt c (0 + k * 5 + 2)) lo') (absI (getInt c (0 + k * 5 + 2)) hi')) :
    dbI c0 0 c 0 age shear lo hi tick k ≤ dbI c0 0 c 0 age shear lo' hi' tick' k:=by
  unfold dbI
  have b1:=begun_mono (s:=600) (by omega) (absI_nonneg _ _) h1
  have b2:=begun_mono (s:=100000) (by omega) (a:=max (absI (getInt c (0 + k * 5 + 2)) lo) (absI (getInt c (0 + k * 5 + 2)) hi)) (by have:=absI_nonneg (getInt c (0 + k * 5 + 2)) lo; omega) h2
  have m1:=Int.mul_le_mul_of_nonneg_left b1 ha
  have m2:=Int.mul_le_mul_of_nonneg_left b2 hs
  omega
end
end
end Go.Proofs.Ytaglpbmnadlpgaa

namespace Go.Proofs.Ytaglpbmnadlpgaa
open Go.Gi Go.RowKit Go.Proofs.Ytaglpbmnadlpgaa.Old
noncomputable section
set_option maxRecDepth 100000
set_option linter.unusedVariables false
set_option linter.unusedSimpArgs false
section
variable {c0 c c3 : Array Value} {n n2 n3 : Nat} {age shear tick now x y : Int}
def winA (c0 c c3 : Array Value) (n2 : Nat) (age shear tick now : Int) (k : Nat) : Hd:=all c0 c n2 age shear (wLo c3 (k : Int)) (wHi c3 (k : Int)) tick now (chB 128 (-1))
theorem F38_at {k : Nat} (g1 : GL L7 7 c0 n) (g2 : GL L5 5 c n2) (g3 : GL L1 1 c3 n3) (hz : F20_2 c0 0 n c 0 n2 c3 0 n3 age shear = 0) (hxy : (tkB tick && tkB now) = true) (hk : k < n3) :
    F38_ok c0 0 n c 0 n2 c3 0 n3 age shear (k : Int) tick now = true ∧ F38_4 c0 0 n c 0 n2 c3 0 n3 age shear (k : Int) tick now = 0 ∧ F38_3 c0 0 n c 0 n2 c3 0 n3 age shear (k : Int) tick now = !emp (winA c0 c c3 n2 age shear tick now k):=by
  have e:=F38_eq (age:=age) (shear:=shear) (k:=(k : Int)) (x:=tick) (y:=now) g1 g2 g3
  have hq : qErr n3 (k : Int) tick now = 0:=by
    unfold qErr
    rw [if_neg (by omega)]
    exact if_pos hxy
  unfold blm at e
  rw [if_pos hz,if_pos hq] at e
  by_cases he : emp (winA c0 c c3 n2 age shear tick now k) = true
  · have he':=he
    unfold winA at he
    rw [if_pos he] at e
    refine ⟨by simp only [F38_ok,e]; rfl,by simp only [F38_4,e],by simp only [F38_3,e,he']; rfl⟩
  · have he':=he
    unfold winA at he
    rw [if_neg he] at e
    rw [Bool.not_eq_true] at he'
    refine ⟨by simp only [F38_ok,e]; rfl,by simp only [F38_4,e],by simp only [F38_3,e,he']; rfl⟩
theorem bnS_ok (h : (bnS c0 c c3 n n2 n3 age shear x y).2 = 0) : F20_2 c0 0 n c 0 n2 c3 0 n3 age shear = 0 ∧ (tkB x && tkB y) = true ∧ ∃ R,bnds c0 c c3 n n2 age shear x y n3 0 = some R ∧ bnS c0 c c3 n n2 n3 age shear x y = (R,0):=by
  unfold bnS at h ⊢
  by_cases hz : F20_2 c0 0 n c 0 n2 c3 0 n3 age shear = 0
  · rw [if_pos hz] at h ⊢
    by_cases hxy : (tkB x && tkB y) = true
    · rw [if_pos hxy] at h ⊢
      cases hb : bnds c0 c c3 n n2 age shear x y n3 0 with
      | none=>rw [hb] at h; simp at h
      | some R=>exact ⟨hz,hxy,R,rfl,rfl⟩
    · rw [if_neg hxy] at h; simp at h
  · rw [if_neg hz] at h; exact absurd h hz
end
end
end Go.Proofs.Ytaglpbmnadlpgaa

namespace Go.Proofs.Ytaglpbmnadlpgaa
open Go.Gi Go.RowKit Go.Proofs.Ytaglpbmnadlpgaa.Old
noncomputable section
set_option maxRecDepth 100000
set_option linter.unusedVariables false
set_option linter.unusedSimpArgs false
section
variable {c0 c c3 : Array Value} {n n2 n3 : Nat} {age shear a b now x y : Int}
theorem wLo_pos {i : Nat} (h : 0 < i) : wLo c3 (i : Int) = getInt c3 (i - 1):=by
  obtain ⟨k,rfl⟩ : ∃ k,i = k + 1:=⟨i - 1,by omega⟩
  rw [wLo_next,Nat.add_sub_cancel]
end
end
end Go.Proofs.Ytaglpbmnadlpgaa

namespace Go.Proofs.Ytaglpbmnadlpgaa
open Go.Gi Go.RowKit Go.Proofs.Ytaglpbmnadlpgaa.Old
noncomputable section
set_option maxRecDepth 100000
set_option linter.unusedVariables false
set_option linter.unusedSimpArgs false
structure SdOk (c0 : Array Value) (n : Nat) (c : Array Value) (k : Nat) : Prop where
  src : 0 ≤ getInt c (0 + k * 5) ∧ getInt c (0 + k * 5) < n
  tick : 0 ≤ getInt c (0 + k * 5 + 1) ∧ getInt c (0 + k * 5 + 1) ≤ 100000
  height : getInt c0 (0 + (getInt c (0 + k * 5)).toNat * 7 + 5) ≤ getInt c (0 + k * 5 + 2) ∧ getInt c (0 + k * 5 + 2) ≤ getInt c0 (0 + (getInt c (0 + k * 5)).toNat * 7 + 6)
  x : -20000 ≤ getInt c (0 + k * 5 + 3) ∧ getInt c (0 + k * 5 + 3) ≤ 20000
  y : -20000 ≤ getInt c (0 + k * 5 + 4) ∧ getInt c (0 + k * 5 + 4) ≤ 20000
  uniq : ∀ j,j < k → ¬ (getInt c (0 + j * 5) = getInt c (0 + k * 5) ∧ getInt c (0 + j * 5 + 1) = getInt c (0 + k * 5 + 1) ∧ getInt c (0 + j * 5 + 2) = getInt c (0 + k * 5 + 2))
  up : getInt c0 (0 + (getInt c (0 + k * 5)).toNat * 7 + 1) = 2 → ∀ j,j < k → getInt c (0 + j * 5) = getInt c (0 + k * 5) → getInt c (0 + j * 5 + 1) ≤ getInt c (0 + k * 5 + 1) ∧ getInt c (0 + j * 5 + 2) ≤ getInt c (0 + k * 5 + 2)
theorem fB_of {p : Nat → Bool} {m : Nat} (h : ∀ k,k < m → p k = false) : fB p m 0 = false:=by
  unfold fB
  rw [← Bool.not_eq_true,fst_iff2]
  rintro ⟨j,_,h2,h3⟩
  rw [h j (by omega)] at h3; cases h3
theorem ck_of {a b d : Option Addr} {n n2 n3 : Nat} {age shear : Int} {H : List Ob} (h : CkZ a b d n n2 n3 age shear H) : ck3 a b d n n2 n3 age shear H = 0:=by
  obtain ⟨h1,h2,h3,h4,h5,h6,h7,h8,h9⟩:=h
  unfold ck3 ckR
  rw [if_neg (by omega),if_neg,if_neg,if_neg,if_neg]
  · rw [inB_iff,inB_iff]; omega
  · rw [fB_of fun k hk=>?_]
    · decide
    · unfold tmP; rw [h7 k hk]; rfl
  · rw [fB_of fun k hk=>?_]
    · decide
    · unfold soP soE; rw [h6 k hk]; rfl
  · rw [fB_of fun k hk=>?_]
    · decide
    · unfold srP srE; rw [h5 k hk]; rfl
section
variable {c0 c c3 c' : Array Value} {n n2 n3 n2' : Nat} {age shear tick now lo hi : Int}
structure Sub (c' : Array Value) (n2' : Nat) (c : Array Value) (n2 : Nat) (f : Nat → Nat) : Prop where
  lt : ∀ j,j < n2' → f j < n2
  up : ∀ i j,i < j → j < n2' → f i < f j
  le : n2' ≤ n2
  row : ∀ j,j < n2' → getInt c' (0 + j * 5) = getInt c (0 + f j * 5) ∧ getInt c' (0 + j * 5 + 1) = getInt c (0 + f j * 5 + 1) ∧ getInt c' (0 + j * 5 + 2) = getInt c (0 + f j * 5 + 2) ∧ getInt c' (0 + j * 5 + 3) = getInt c (0 + f j * 5 + 3) ∧ getInt c' (0 + j * 5 + 4) = getInt c (0 + f j * 5 + 4)
theorem Sub.ok {f : Nat → Nat} (hs : Sub c' n2' c n2 f) (h : ∀ k,k < n2 → SdOk c0 n c k) : ∀ k,k < n2' → SdOk c0 n c' k:=by
  intro k hk
  obtain ⟨h1,h2,h3,h4,h5,h6,h7⟩:=h (f k) (hs.lt k hk)
  obtain ⟨r1,r2,r3,r4,r5⟩:=hs.row k hk
  refine ⟨by rw [r1]; exact h1,by rw [r2]; exact h2,by rw [r1,r3]; exact h3,by rw [r4]; exact h4,by rw [r5]; exact h5,fun j hj=>?_,fun hkind j hj=>?_⟩
  · obtain ⟨q1,q2,q3,_,_⟩:=hs.row j (by omega)
    rw [q1,q2,q3,r1,r2,r3]
    exact h6 (f j) (hs.up j k hj hk)
  · obtain ⟨q1,q2,q3,_,_⟩:=hs.row j (by omega)
    rw [r1] at hkind
    rw [q1,q2,q3,r1,r2,r3]
    exact h7 hkind (f j) (hs.up j k hj hk)
theorem ckZ_of (g1 : GL L7 7 c0 n) (g2 : GL L5 5 c n2) (g3 : GL L1 1 c3 n3) (h : F20_2 c0 0 n c 0 n2 c3 0 n3 age shear = 0) : CkZ (some ⟨0,0,none⟩) (some ⟨1,0,none⟩) (some ⟨2,0,none⟩) n n2 n3 age shear [obF n c0,obF n2 c,obF n3 c3] :=
  ck_zero (show ck3 (some ⟨0,0,none⟩) (some ⟨1,0,none⟩) (some ⟨2,0,none⟩) n n2 n3 age shear [obF n c0,obF n2 c,obF n3 c3] = 0 from h)
end
end
end Go.Proofs.Ytaglpbmnadlpgaa

namespace Go.Proofs.Ytaglpbmnadlpgaa
open Go.Gi Go.RowKit Go.Proofs.Ytaglpbmnadlpgaa.Old
noncomputable section
set_option maxRecDepth 100000
set_option linter.unusedVariables false
set_option linter.unusedSimpArgs false
section
variable {c0 c c3 : Array Value} {n n2 n3 : Nat} {age shear h lo hi tick now x y : Int}
theorem all_between {lo' hi' : Int} {p : Int → Bool} (hv : Vld c0 0 n c 0 n2 age shear) (h1 : lo ≤ lo') (h2 : lo' ≤ hi') (h3 : hi' ≤ hi) (he : emp (all c0 c n2 age shear lo' hi' tick now p) = false) :
    emp (all c0 c n2 age shear lo hi tick now p) = false ∧ wid (all c0 c n2 age shear lo hi tick now p) (all c0 c n2 age shear lo' hi' tick now p):=by
  have key : ∀ i,dbI c0 0 c 0 age shear lo' hi' tick i ≤ dbI c0 0 c 0 age shear lo hi tick i:=by
    intro i
    refine dbI_mono hv.age.1 hv.shear.1 (Int.le_refl _) ?_
    unfold absI; omega
  refine wid_of he (fun v hx=>?_) (fun v hy=>?_)
  · rw [all_inX] at hx ⊢
    refine ⟨hx.1,fun i hi2 hk hp=>?_⟩
    have q:=hx.2 i hi2 hk hp
    have:=key i
    unfold nearX at q ⊢
    omega
  · rw [all_inY] at hy ⊢
    refine ⟨hy.1,fun i hi2 hk hp=>?_⟩
    have q:=hy.2 i hi2 hk hp
    have:=key i
    unfold nearY at q ⊢
    omega
theorem GL1_arrI {L : List Int} (h : L.length ≤ maxLen) : GL L1 1 (arrI L) L.length:=by
  refine ⟨⟨?_,fun k hk=>?_⟩,by rw [size_arrI]; omega,h⟩
  · simp only [arrI,List.all_map]
    exact List.all_eq_true.2 fun x _=>rfl
  · simp only [show L1.length = 1 from rfl,show L1 = [Leaf.int .i64] from rfl,rdOk,rdLeaf,Nat.mul_one,Bool.and_true]
    exact isInt_arrI L hk
theorem check_cuts {L : List Int} (g1 : GL L7 7 c0 n) (g2 : GL L5 5 c n2) (g3 : GL L1 1 c3 n3) (hz : F20_2 c0 0 n c 0 n2 c3 0 n3 age shear = 0) (l1 : 1 ≤ L.length) (l2 : L.length ≤ 20)
    (hc : ∀ k (hk : k < L.length),1 ≤ L[k] ∧ L[k] ≤ 100000000 ∧ (0 < k → getInt (arrI L) (k - 1) < L[k])) : F20_2 c0 0 n c 0 n2 (arrI L) 0 L.length age shear = 0:=by
  have hq:=ckZ_of g1 g2 g3 hz
  obtain ⟨hv,_,_⟩:=vld g1 g2 g3 hz
  refine (ck_of ⟨hq.few,hq.few2,l1,l2,fun k hk=>?_,fun k hk=>?_,fun k hk=>?_,hq.age,hq.shear⟩ : ck3 (some ⟨0,0,none⟩) (some ⟨1,0,none⟩) (some ⟨2,0,none⟩) n n2 L.length age shear [obF n c0,obF n2 c,obF L.length (arrI L)] = 0)
  · have:=hq.src k hk
    rw [arrF0 (by omega)] at this ⊢
    exact this
  · have h1:=hq.snd k hk
    have hs:=hv.src k hk
    rw [arrF0 (by omega),arrF1 (by omega)] at h1 ⊢
    exact h1
  · rw [arrF2 (by omega)]
    unfold tmE
    simp only [offOf,Nat.zero_add]
    have hg : getInt (arrI L) k = L[k]:=getInt_arrI L hk
    obtain ⟨a1,a2,a3⟩:=hc k hk
    rw [hg,if_neg (by rw [inB_iff]; omega),if_neg]
    rintro ⟨b1,b2⟩
    have:=a3 b1
    omega
end
end
end Go.Proofs.Ytaglpbmnadlpgaa

namespace Go.Gi
open Go.RowKit
noncomputable section
def thV (y : Nat) (bl : List Ob) (v : Value) : Option (Value × Bool × List Nat) :=
  match v with
  | .slice (some ⟨b,off,none⟩) len sz=>match nthO bl b with
    | some (.cells c false)=>some (lstV c off len sz,allFz c && decide (off + len * sz ≤ c.size),[b])
    | _=>none
  | .slice none 0 0=>some (lstV ⟨[]⟩ 0 0 y,true,[])
  | v=>if fz0 v then some (v,true,[]) else none
def thL (bl : List Ob) : List Nat → List Value → Option (List Value × Bool × List Nat)
  | _,[]=>some ([],true,[])
  | ys,v :: r=>match thV (ys.headD 0) bl v with
    | some (u,b,S)=>match thL bl ys.tail r with
      | some (us,b',S')=>some (u :: us,b && b',S ++ S')
      | none=>none
    | none=>none
def thA (ys : List Nat) (bl : List Ob) (v : Value) : Option (Value × Bool × List Nat) :=
  match v with
  | .agg ⟨l⟩=>match thL bl ys l with
    | some (us,b,S)=>some (.agg ⟨us⟩,b,S)
    | none=>none
  | v=>thV (ys.headD 0) bl v
def thAll (bl : List Ob) : List (List Nat) → List Value → Option (List Value × Bool × List Nat)
  | _,[]=>some ([],true,[])
  | ys,v :: r=>match thA (ys.headD []) bl v with
    | some (u,b,S)=>match thAll bl ys.tail r with
      | some (us,b',S')=>some (u :: us,b && b',S ++ S')
      | none=>none
    | none=>none
def inS1 (S : List Nat) (b : Nat) : Bool:=S.any fun x=>Nat.beq x b
def killB (S : List Nat) : Nat → List Ob → List Ob
  | _,[]=>[]
  | i,o :: r=>(match inS1 S i with | true=>Ob.dead | false=>o) :: killB S (i + 1) r
theorem killB_get (S : List Nat) : ∀ (X : List Ob) (i b : Nat),(killB S i X)[b]? = X[b]?.map fun o=>match inS1 S (i + b) with | true=>Ob.dead | false=>o
  | [],_,_=>by simp [killB]
  | o :: r,i,0=>by simp [killB]
  | o :: r,i,b + 1=>by
    have:=killB_get S r (i + 1) b
    rw [show i + 1 + b = i + (b + 1) by omega] at this
    simpa [killB] using this
theorem killB_len (S : List Nat) : ∀ (X : List Ob) (i : Nat),(killB S i X).length = X.length
  | [],_=>rfl
  | _ :: r,i=>by simp [killB,killB_len S r]
theorem killB_live {S : List Nat} {X : List Ob} {b : Nat} {ob : Ob} (h : (killB S 0 X)[b]? = some ob) (hl : ob.live = true) : X[b]? = some ob ∧ inS1 S b = false:=by
  rw [killB_get,Nat.zero_add] at h
  cases hx : X[b]? with
  | none=>rw [hx] at h; cases h
  | some o =>
    rw [hx,Option.map_some,Option.some.injEq] at h
    cases hs : inS1 S b with
    | true=>rw [hs] at h; subst h; cases hl
    | false=>rw [hs] at h; subst h; exact ⟨rfl,rfl⟩
open Classical in
def zS (φ : Phi) (X : List Ob) (S : List Nat) (w : World) : Nat → Option Obj:=fun B=>if ∃ b ob x,inS1 S b = true ∧ X[b]? = some ob ∧ ob.rw = true ∧ φ b = some x ∧ x.1 = B then w.heap[B]? else φ.z B
section
variable {K : Nat → Prop} {w0 w : World} {φ : Phi} {X : List Ob} {S : List Nat}
theorem zS_le (hF : Inv K w0 φ X w) : ∀ B o,φ.z B = some o → zS φ X S w B = some o:=by
  intro B o hB
  unfold zS
  split
  · exact hF.frz B o hB
  · exact hB
theorem zS_frz (hF : Inv K w0 φ X w) : ∀ B o,zS φ X S w B = some o → w.heap[B]? = some o:=by
  intro B o hB
  unfold zS at hB
  split at hB
  · exact hB
  · exact hF.frz B o hB
theorem zS_k (hF : Inv K w0 φ X w) {k : Nat} (hk : K k) : zS φ X S w k = none:=by
  unfold zS
  rw [if_neg]
  · exact hF.zk k hk
  · rintro ⟨b,ob,x,_,h2,h3,h4,rfl⟩
    exact hF.prot b ob x h2 h3 h4 hk
theorem madeS (hF : Inv K w0 φ X w) : Made X.length (zS φ X S w) φ X w :=
  ⟨zS_le hF,fun b c hb hm=>by rw [List.getElem?_eq_none hm] at hb; cases hb⟩
theorem thV_ok (hF : Inv K w0 φ X w) {y : Nat} {v v' u : Value} {b : Bool} {S1 : List Nat} (e : thV y X v = some (u,b,S1)) (hb : b = true) (hs : ∀ x ∈ S1,x ∈ S) (hv : VR φ v v') : FR (zS φ X S w) u v':=by
  unfold thV at e
  split at e
  · rename_i b0 off len sz
    rw [nthO_eq] at e
    split at e
    · rename_i c hb0
      simp only [Option.some.injEq,Prod.mk.injEq] at e
      obtain ⟨rfl,h1,rfl⟩:=e
      rw [hb,Bool.and_eq_true,decide_eq_true_eq] at h1
      obtain ⟨B,base,tot,h3,C,el,fr,h5,h6,h7⟩:=hF.obs b0 _ hb0 rfl
      obtain ⟨h8,h9,_⟩:=h7 rfl
      cases hv with
      | sliceZ _ a' k'=>exact .lstZ _ _ _ _
      | slice hφ hl hc =>
        rw [h3] at hφ; cases hφ
        have hin : inS1 S b0 = true:=by
          unfold inS1
          rw [List.any_eq_true]
          exact ⟨b0,hs b0 (List.mem_singleton.2 rfl),Nat.beq_refl b0⟩
        have hz : zS φ X S w B = some (.cells C el fr):=by
          unfold zS
          rw [if_pos ⟨b0,_,_,hin,hb0,rfl,h3,rfl⟩]
          exact h5
        exact .lst hz (by omega) (cells_fr (madeS hF) h1.1 h6) hl h1.2
    · cases e
  · simp only [Option.some.injEq,Prod.mk.injEq] at e
    obtain ⟨rfl,_,_⟩:=e
    cases hv
    exact .lstZ _ _ _ _
  · split at e
    · rename_i hf
      simp only [Option.some.injEq,Prod.mk.injEq] at e
      obtain ⟨rfl,_,_⟩:=e
      exact fz0_fr (madeS hF) hf hv
    · cases e
theorem thL_ok (hF : Inv K w0 φ X w) : ∀ {ys : List Nat} {l l' us : List Value} {b : Bool} {S1 : List Nat},thL X ys l = some (us,b,S1) → b = true → (∀ x ∈ S1,x ∈ S) → VRl φ l l' → FRl (zS φ X S w) us l'
  | _,[],_,_,_,_,e,hb,hs,hv=>by
    simp only [thL,Option.some.injEq,Prod.mk.injEq] at e
    obtain ⟨rfl,_,_⟩:=e
    cases hv; exact .nil
  | ys,v :: r,_,_,_,_,e,hb,hs,hv=>by
    unfold thL at e
    split at e
    · rename_i u b1 S1 h1
      split at e
      · rename_i us b2 S2 h2
        simp only [Option.some.injEq,Prod.mk.injEq] at e
        obtain ⟨rfl,rfl,rfl⟩:=e
        rw [Bool.and_eq_true] at hb
        cases hv with
        | cons hv hr =>
          exact .cons (thV_ok hF h1 hb.1 (fun x hx=>hs x (List.mem_append_left _ hx)) hv) (thL_ok hF h2 hb.2 (fun x hx=>hs x (List.mem_append_right _ hx)) hr)
      · cases e
    · cases e
theorem thA_ok (hF : Inv K w0 φ X w) {ys : List Nat} {v v' u : Value} {b : Bool} {S1 : List Nat} (e : thA ys X v = some (u,b,S1)) (hb : b = true) (hs : ∀ x ∈ S1,x ∈ S) (hv : VR φ v v') : FR (zS φ X S w) u v':=by
  unfold thA at e
  split at e
  · rename_i l
    split at e
    · rename_i us b1 S2 h1
      simp only [Option.some.injEq,Prod.mk.injEq] at e
      obtain ⟨rfl,rfl,rfl⟩:=e
      obtain ⟨⟨zs⟩,rfl,hs'⟩:=hv.agg_inv
      exact (thL_ok hF h1 hb hs hs'.toList).fr
    · cases e
  · exact thV_ok hF e hb hs hv
theorem thAll_ok (hF : Inv K w0 φ X w) : ∀ {ys : List (List Nat)} {l l' us : List Value} {b : Bool} {S1 : List Nat},thAll X ys l = some (us,b,S1) → b = true → (∀ x ∈ S1,x ∈ S) → VRl φ l l' → FRl (zS φ X S w) us l'
  | _,[],_,_,_,_,e,hb,hs,hv=>by
    simp only [thAll,Option.some.injEq,Prod.mk.injEq] at e
    obtain ⟨rfl,_,_⟩:=e
    cases hv; exact .nil
  | ys,v :: r,_,_,_,_,e,hb,hs,hv=>by
    unfold thAll at e
    split at e
    · rename_i u b1 S1 h1
      split at e
      · rename_i us b2 S2 h2
        simp only [Option.some.injEq,Prod.mk.injEq] at e
        obtain ⟨rfl,rfl,rfl⟩:=e
        rw [Bool.and_eq_true] at hb
        cases hv with
        | cons hv hr =>
          exact .cons (thA_ok hF h1 hb.1 (fun x hx=>hs x (List.mem_append_left _ hx)) hv) (thAll_ok hF h2 hb.2 (fun x hx=>hs x (List.mem_append_right _ hx)) hr)
      · cases e
    · cases e
theorem FRl.vrl {ψ : Phi} {l l' : List Value} (h : FRl ψ.z l l') : VRl ψ l l':=by
  induction h with
  | nil=>exact .nil
  | cons h _ ih=>exact .cons h.vr ih
theorem Inv.kill (hF : Inv K w0 φ X w) : Inv K w0 ⟨fun b=>φ b,zS φ X S w⟩ (killB S 0 X) w:=by
  have hle : Gi.le φ ⟨fun b=>φ b,zS φ X S w⟩:=⟨fun _ _ h=>h,zS_le hF⟩
  refine ⟨?_,?_,?_,hF.keep,hF.klt,hF.size,hF.os,hF.tape,hF.output,?_,zS_frz hF,?_,fun k hk=>zS_k hF hk⟩
  · intro b ob hb hl
    obtain ⟨h1,_⟩:=killB_live hb hl
    obtain ⟨B,base,tot,h2,h3⟩:=hF.obs b ob h1 hl
    exact ⟨B,base,tot,h2,h3.keep hle rfl⟩
  · intro b b' ob ob' x y hne hb hb' hrw hl hx hy
    exact hF.sep b b' ob ob' x y hne (killB_live hb (Ob.live_of_rw hrw)).1 (killB_live hb' hl).1 hrw hl hx hy
  · intro b ob x hb hrw hx
    exact hF.prot b ob x (killB_live hb (Ob.live_of_rw hrw)).1 hrw hx
  · intro b hb
    rw [killB_len] at hb
    exact hF.top b hb
  · intro b ob x hb hrw hx
    obtain ⟨h1,h2⟩:=killB_live hb (Ob.live_of_rw hrw)
    show zS φ X S w x.1 = none
    unfold zS
    rw [if_neg]
    · exact hF.zsep b ob x h1 hrw hx
    · rintro ⟨b',ob',x',k1,k2,k3,k4,k5⟩
      refine hF.sep b b' ob ob' x x' ?_ h1 k2 hrw (Ob.live_of_rw k3) hx k4 k5.symm
      rintro rfl
      rw [h2] at k1; cases k1
end
section
variable {P : Program}
theorem Fact.thawK {zss : List (List Nat)} {f : FuncId} {l us : List Value} {v : Value} {b : Bool} {S : List Nat} {h h1 : Hp} (ht : thAll h.bl zss l = some (us,b,S)) (hb : b = true) (hS : (S.all fun x=>Nat.ble h.base x) = true)
    (hf : Fact P (.call f ⟨us⟩ ⟨killB S 0 h.bl,h.base,h.wr⟩) (.ret v h1)) : Fact P (.call f ⟨l⟩ h) (.ret v h1):=by
  refine ⟨fun hb0=>?_,trivial⟩
  obtain ⟨hp,hh⟩:=hf.1 (by show h.base ≤ (killB S 0 h.bl).length; rw [killB_len]; exact hb0)
  have hq : Pres h ⟨killB S 0 h.bl,h.base,h.wr⟩:=by
   refine ⟨rfl,by show h.bl.length ≤ (killB S 0 h.bl).length; rw [killB_len]; exact Nat.le_refl _,?_,?_⟩
   · intro b hb1 hn
     refine ⟨hn,?_⟩
     show (killB S 0 h.bl)[b]? = h.bl[b]?
     rw [killB_get,Nat.zero_add]
     have : inS1 S b = false:=by
      unfold inS1
      rw [← Bool.not_eq_true,List.any_eq_true]
      rintro ⟨x,hx,he⟩
      have h2:=Nat.le_of_ble_eq_true (List.all_eq_true.1 hS x hx)
      have h3:=Nat.eq_of_beq_eq_true he
      omega
     rw [this]
     cases h.bl[b]? <;> rfl
   · intro b ob hb1 hl _
     exact (killB_live hb1 hl).1
  refine ⟨hq.trans hp,?_⟩
  · intro K w0 φ w args' n hI hA
    obtain ⟨ys⟩:=args'
    have hA1:=thAll_ok (S:=S) hI ht hb (fun _ h=>h) hA.toList
    have hle : le φ ⟨fun b=>φ b,zS φ h.bl S w⟩:=⟨fun _ _ h=>h,zS_le hI⟩
    refine (hh K w0 _ w ⟨ys⟩ n (hI.kill (S:=S)) (FRl.vrl (ψ:=⟨fun b=>φ b,zS φ h.bl S w⟩) hA1).vrs).mono ?_
    intro e w' he
    cases e with
    | returned v' =>
      obtain ⟨φ',h1,h2,h3⟩:=he
      exact ⟨φ',le_trans hle h1,h2,h3⟩
    | panicked ch=>exact he.elim
    | outgrown=>exact he.elim
def AT.grH (h : Hp) : AT → AT
  | .leaf (.ret v _)=>match gr v with | true=>.leaf (.ret v h) | false=>.no
  | .br b x y=>.br b (x.grH h) (y.grH h)
  | _=>.no
def AT.retO : AT → AT
  | .leaf (.ret v h)=>.leaf (.ret v h)
  | .br b x y=>.br b x.retO y.retO
  | _=>.no
theorem AT.retO_out {o : Out} : ∀ {a : AT},a.retO.out = some o → ∃ v h1,a.out = some (.ret v h1) ∧ o = .ret v h1
  | .leaf o',e=>by
    cases o' with
    | ret v h1=>simp only [AT.retO,AT.out,Option.some.injEq] at e; exact ⟨v,h1,rfl,e.symm⟩
    | _=>cases e
  | .no,e=>by cases e
  | .br b x y,e=>by
    cases b with
    | true=>exact AT.retO_out (a:=x) e
    | false=>exact AT.retO_out (a:=y) e
def thawG (g : Nat) (zss : List (List Nat)) (p : Ans) : Ans
  | .call f ⟨l⟩ h=>match Nat.beq f g with
    | true=>match thAll h.bl zss l with
      | some (us,b,_)=>match p (.call f ⟨us⟩ ⟨[],0,[]⟩) with
        | some a=>some (.br b (a.grH h) .no)
        | none=>none
      | none=>none
    | false=>none
  | _=>none
def thawK (g : Nat) (zss : List (List Nat)) (p : Ans) : Ans
  | .call f ⟨l⟩ h=>match Nat.beq f g with
    | true=>match thAll h.bl zss l with
      | some (us,b,S)=>match S.all fun x=>Nat.ble h.base x with
        | true=>match p (.call f ⟨us⟩ ⟨killB S 0 h.bl,h.base,h.wr⟩) with
          | some a=>some (.br b a.retO .no)
          | none=>none
        | false=>none
      | none=>none
    | false=>none
  | _=>none
theorem Known.thawK {p : Ans} (hp : Known P p) (g : Nat) (zss : List (List Nat)) : Known P (thawK g zss p):=by
  intro t x o e ho
  unfold Gi.thawK at e
  split at e
  case h_2=>cases e
  rename_i f l h
  split at e
  case h_2=>cases e
  split at e
  case h_2=>cases e
  rename_i us b S ht
  split at e
  case h_2=>cases e
  rename_i hS
  split at e
  case h_2=>cases e
  rename_i a ha
  simp only [Option.some.injEq] at e
  subst e
  obtain ⟨hb,h2⟩:=cond_some (show cond b a.retO.out none = some o from ho)
  obtain ⟨v,h1,h3,rfl⟩:=AT.retO_out h2
  exact Fact.thawK ht hb hS (hp _ a _ ha h3)
end
end
end Go.Gi

namespace Go.Gi
open Go.RowKit
noncomputable section
def fgS (n : Nat) (v : Value) : Value:=match scT n v with
  | true=>v
  | false=>lo v
theorem fgS_R (n : Nat) (v : Value) : SlotR n v (fgS n v):=by
  unfold fgS
  cases h : scT n v with
  | true=>exact .inr (.inr ⟨rfl,h⟩)
  | false=>exact .inl rfl
theorem fgS_Rs (n : Nat) : ∀ l : List Value,SlotRs n l (l.map (fgS n))
  | []=>.nil
  | v :: r=>.cons (fgS_R n v) (fgS_Rs n r)
def keptB (n : Nat) : List Ob → List Ob → Bool
  | [],[]=>true
  | a :: r,b :: s=>obKept n a b && keptB n r s
  | _,_=>false
theorem keptB_ok {n : Nat} : ∀ {H H1 : List Ob},keptB n H H1 = true → ObsKept n H H1
  | [],[],_=>.nil
  | a :: r,b :: s,h=>by
    simp only [keptB,Bool.and_eq_true] at h
    exact .cons h.1 (keptB_ok h.2)
  | [],_ :: _,h=>by cases h
  | _ :: _,[],h=>by cases h
def AT.fg (m base : Nat) (H0 G : List Ob) : AT → AT
  | .leaf (.ex e ⟨L,[],⟨bl1,_,wr1⟩⟩)=>match noPanic e,keptB m H0 (bl1.take m) with
    | true,true=>.leaf (.ex e ⟨L.map (fgS m),[],⟨bl1.take m ++ G,base,wr1⟩⟩)
    | _,_=>.no
  | .br b x y=>.br b (x.fg m base H0 G) (y.fg m base H0 G)
  | _=>.no
theorem AT.fg_out {m base : Nat} {H0 G : List Ob} {o : Out} : ∀ {a : AT},(a.fg m base H0 G).out = some o →
    ∃ e L bl1 b1 wr1,a.out = some (.ex e ⟨L,[],⟨bl1,b1,wr1⟩⟩) ∧ noPanic e = true ∧ keptB m H0 (bl1.take m) = true ∧ o = .ex e ⟨L.map (fgS m),[],⟨bl1.take m ++ G,base,wr1⟩⟩
  | .no,e=>by cases e
  | .br b x y,e=>by
    cases b with
    | true=>exact AT.fg_out (a:=x) e
    | false=>exact AT.fg_out (a:=y) e
  | .leaf o',h=>by
    unfold AT.fg at h
    split at h
    · rename_i e L bl1 b1 wr1 heq
      injection heq with heq
      subst heq
      split at h
      · rename_i h1 h2
        simp only [AT.out,Option.some.injEq] at h
        exact ⟨e,L,bl1,b1,wr1,rfl,h1,h2,h.symm⟩
      · cases h
    · rename_i heq; cases heq
    · cases h
def fgt (m : Nat) (p : Ans) : Ans
  | .code none c ⟨t,[],⟨bl,base,wr⟩⟩=>match Nat.ble m bl.length,Nat.ble base m,(bl.take m).all (obSc m) with
    | true,true,true=>match p (.code none c ⟨t.map (fgS m),[],⟨bl.take m,base,wr⟩⟩) with
      | some a=>some (a.fg m base (bl.take m) (bl.drop m))
      | none=>none
    | _,_,_=>none
  | _=>none
variable {P : Program}
theorem Known.fgt {p : Ans} (hp : Known P p) (m : Nat) : Known P (fgt m p):=by
  intro t x o e ho
  unfold Gi.fgt at e
  split at e
  case h_2=>cases e
  rename_i c tl bl base wr
  split at e
  case h_2=>cases e
  rename_i h1 h2 h3
  split at e
  case h_2=>cases e
  rename_i a ha
  simp only [Option.some.injEq] at e
  subst e
  obtain ⟨ex,L,bl1,b1,wr1,k1,k2,k3,rfl⟩:=AT.fg_out ho
  have hl : (bl.take m).length = m:=by rw [List.length_take]; have:=Nat.le_of_ble_eq_true h1; omega
  have hf:=hp _ a _ ha k1
  have hk:=keptB_ok k3
  have:=Fact.forget (G:=bl.drop m) (H0:=bl.take m) (H1:=bl1.take m) (X:=bl1.drop m) (c:=c) (t:=tl) (t0:=tl.map (fgS m)) (L:=L) (T:=L.map (fgS m)) (base:=base) (base1:=b1) (wr:=wr) (wr1:=wr1) (e:=ex)
    (by rw [List.take_append_drop]; exact hf) (by rw [hl]; exact Nat.le_of_ble_eq_true h2) (by rw [hl]; exact hk) (by rw [hl]; exact h3) (by rw [hl]; exact fgS_Rs m tl) (by rw [hl]; exact fgS_Rs m L) k2
  rwa [List.take_append_drop] at this
end
end Go.Gi

