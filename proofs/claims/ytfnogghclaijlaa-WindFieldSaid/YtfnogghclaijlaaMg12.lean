/- Part 12 of the texts below the claim. Conditions: none. -/
import Derived.Test.YtfnogghclaijlaaMg11
import Derived.Test.YtfnogghclaijlaaMg10
import Derived.Test.YtfnogghclaijlaaMg6
import Derived.Test.YtfnogghclaijlaaMg5
set_option linter.unusedVariables false
set_option linter.unusedSimpArgs false
namespace Go.Proofs.Ytfnogghclaijlaa
open Go.Gi Go.RowKit Go.Proofs.Ytfnogghclaijlaa.Old
noncomputable section
set_option maxRecDepth 100000
section
variable {c0 c c3:Array Value}{n n2 n3:Nat}{age shear k x y:Int}
def blm (c0 c c3:Array Value)(n n2 n3:Nat)(age shear k x y:Int):List Int×Bool×Int :=
  if F20_2 c0 0 n c 0 n2 c3 0 n3 age shear=0 then
    (if qErr n3 k x y=0 then (if emp (all c0 c n2 age shear (wLo c3 k) (wHi c3 k) x y (chB 128 (-1)))=true then (cul c0 c n2 age shear (wLo c3 k) (wHi c3 k) x y n 0,false,0) else ([],true,0)) else ([],false,qErr n3 k x y))
  else ([],false,F20_2 c0 0 n c 0 n2 c3 0 n3 age shear)
theorem F80_of (g:GL L1 1 c3 n3)(h:qErr n3 k x y=0):F80_ok c0 0 n c 0 n2 c3 0 n3 age shear k x y=true∧F80_0 c0 0 n c 0 n2 c3 0 n3 age shear k x y=wLo c3 k∧F80_1 c0 0 n c 0 n2 c3 0 n3 age shear k x y=wHi c3 k ∧
    F80_2 c0 0 n c 0 n2 c3 0 n3 age shear k x y=x∧F80_3 c0 0 n c 0 n2 c3 0 n3 age shear k x y=y∧F80_4 c0 0 n c 0 n2 c3 0 n3 age shear k x y=0:=by
  have e:=F80_eq (c1:=c0) (c2:=c) (n1:=n) (n2:=n2) (age:=age) (shear:=shear) (k:=k) (x:=x) (y:=y) g
  rw [if_pos h]at e
  exact ⟨by simp [F80_ok,e],by simp [F80_0,e],by simp [F80_1,e],by simp [F80_2,e],by simp [F80_3,e],by simp [F80_4,e]⟩
theorem F80_err (g:GL L1 1 c3 n3)(h:¬qErr n3 k x y=0):F80_ok c0 0 n c 0 n2 c3 0 n3 age shear k x y=true∧F80_4 c0 0 n c 0 n2 c3 0 n3 age shear k x y=qErr n3 k x y:=by
  have e:=F80_eq (c1:=c0) (c2:=c) (n1:=n) (n2:=n2) (age:=age) (shear:=shear) (k:=k) (x:=x) (y:=y) g
  rw [if_neg h]at e
  exact ⟨by simp [F80_ok,e],by simp [F80_4,e]⟩
theorem F38_eq (g1:GL L7 7 c0 n)(g2:GL L5 5 c n2)(g3:GL L1 1 c3 n3):F38 c0 0 n c 0 n2 c3 0 n3 age shear k x y =
    some ⟨arrI (blm c0 c c3 n n2 n3 age shear k x y).1,0,(blm c0 c c3 n n2 n3 age shear k x y).1.length,(blm c0 c c3 n n2 n3 age shear k x y).2.1,(blm c0 c c3 n n2 n3 age shear k x y).2.2⟩:=by
  have hok:=F20_ok_of (age:=age) (shear:=shear) g1 g2 g3
  unfold F38 rt38 blm
  by_cases hz:F20_2 c0 0 n c 0 n2 c3 0 n3 age shear=0
  · rw [if_pos hz]
    by_cases hq:qErr n3 k x y=0
    · rw [if_pos hq]
      obtain ⟨hv,_,hc⟩:=vld g1 g2 g3 hz
      have hQ:=qst hc hq
      obtain ⟨k1,k2,k3,k4,k5,k6⟩:=F80_of (c0:=c0) (c:=c) (n:=n) (n2:=n2) (age:=age) (shear:=shear) g3 hq
      have h81:F81ok c0 0 n c 0 n2 c3 0 n3 age shear (wLo c3 k) (wHi c3 k) x y=true:=dec_iff.2 ⟨hok,hz,hQ⟩
      obtain ⟨f1,f2,f3,f4⟩:=F81_of (c3:=c3) (off3:=0) (n3:=n3) (lo:=wLo c3 k) (hi:=wHi c3 k) (tick:=x) (now:=y) (g:=88) (q:=0) hv
      have e88:all c0 c n2 age shear (wLo c3 k) (wHi c3 k) x y (chB 88 0)=all c0 c n2 age shear (wLo c3 k) (wHi c3 k) x y (chB 128 (-1)):=all_congr fun i hi=>by
        have:=hv.src i hi
        show true=!decide (getInt c (0+i*5)=-1)
        rw [decide_eq_false (by omega)];rfl
      rw [e88]at f1 f2 f3 f4
      obtain ⟨m1,m2,m3,m4⟩:=F89_eq hv h81
      by_cases he:emp (all c0 c n2 age shear (wLo c3 k) (wHi c3 k) x y (chB 128 (-1)))=true
      · rw [if_pos he]
        unfold emp at he
        simp only [RT.val,hok,hz,k1,k2,k3,k4,k5,k6,h81,f1,f2,f3,f4,(F83_of _ _ _ _).1,(F83_of _ _ _ _).2,he,m1,m2,m3,m4,decide_true,Bool.not_true,cond_true,cond_false]
      · rw [if_neg he]
        unfold emp at he
        rw [Bool.not_eq_true]at he
        simp only [RT.val,hok,hz,k1,k2,k3,k4,k5,k6,h81,f1,f2,f3,f4,(F83_of _ _ _ _).1,(F83_of _ _ _ _).2,he,decide_true,Bool.not_true,Bool.not_false,cond_true,cond_false]
        rfl
    · rw [if_neg hq]
      obtain ⟨k1,k6⟩:=F80_err (c0:=c0) (c:=c) (n:=n) (n2:=n2) (age:=age) (shear:=shear) g3 hq
      simp only [RT.val,hok,hz,k1,k6,hq,decide_true,decide_false,Bool.not_true,Bool.not_false,cond_true,cond_false]
      rfl
  · rw [if_neg hz]
    simp only [RT.val,hok,hz,decide_false,Bool.not_false,cond_true]
    rfl
end
theorem getInt_arrI (L:List Int) {i:Nat}(h:i<L.length):getInt (arrI L) i=L[i]:=by
  simp [getInt,arrI,lget_eq,h]
def ansO (c0 c:Array Value)(n n2:Nat)(age shear lo hi tick now:Int):Option Hd :=
  if emp (all c0 c n2 age shear lo hi tick now (chB 128 (-1)))=true then
    (match cul c0 c n2 age shear lo hi tick now n 0 with
     | [s]=>some (all c0 c n2 age shear lo hi tick now (chB 128 s))
     | _=>none)
  else some (all c0 c n2 age shear lo hi tick now (chB 128 (-1)))
section
variable {c0 c c3:Array Value}{n n2 n3:Nat}{age shear lo hi tick now:Int}
theorem all88 (hv:Vld c0 0 n c 0 n2 age shear):all c0 c n2 age shear lo hi tick now (chB 88 0)=all c0 c n2 age shear lo hi tick now (chB 128 (-1)):=all_congr fun i hi=>by
  have:=hv.src i hi
  show true=!decide (getInt c (0+i*5)=-1)
  rw [decide_eq_false (by omega)];rfl
theorem F92_eq (hv:Vld c0 0 n c 0 n2 age shear)(h81:F81ok c0 0 n c 0 n2 c3 0 n3 age shear lo hi tick now=true) :
    F92 c0 0 n c 0 n2 c3 0 n3 age shear lo hi tick now=some (match ansO c0 c n n2 age shear lo hi tick now with
      | some h=>⟨h.xl,h.xh,h.yl,h.yh,true⟩
      | none=>⟨0,0,0,0,false⟩):=by
  obtain ⟨f1,f2,f3,f4⟩:=F81_of (c3:=c3) (off3:=0) (n3:=n3) (lo:=lo) (hi:=hi) (tick:=tick) (now:=now) (g:=88) (q:=0) hv
  rw [all88 hv]at f1 f2 f3 f4
  obtain ⟨m1,m2,m3,m4⟩:=F89_eq hv h81
  unfold F92 rt92 ansO
  by_cases he:emp (all c0 c n2 age shear lo hi tick now (chB 128 (-1)))=true
  · rw [if_pos he]
    unfold emp at he
    cases hc:cul c0 c n2 age shear lo hi tick now n 0 with
    | nil =>
      rw [hc]at m2 m4
      simp only [RT.val,h81,f1,f2,f3,f4,(F83_of _ _ _ _).1,(F83_of _ _ _ _).2,he,m1,m2,m3,m4,cond_true]
      rfl
    | cons s r =>
      rw [hc]at m2 m4
      cases r with
      | nil =>
        obtain ⟨q1,q2,q3,q4⟩:=F81_of (c3:=c3) (off3:=0) (n3:=n3) (lo:=lo) (hi:=hi) (tick:=tick) (now:=now) (g:=128) (q:=s) hv
        have e1:decide (Int.ofNat [s].length=(1:Int))=true:=rfl
        have e2:decide ((0:Int)<Int.ofNat [s].length)=true:=rfl
        have e3:isInt .i64 (arrI [s]) (0+0)=true:=isInt_arrI [s] (by simp)
        have e4:getInt (arrI [s]) (0+0)=s:=getInt_arrI [s] (by simp)
        simp only [RT.val,h81,f1,f2,f3,f4,(F83_of _ _ _ _).1,(F83_of _ _ _ _).2,he,m1,m2,m3,m4,e1,e2,e3,e4,F121_eq,q1,q2,q3,q4,arrEq_self,decide_true,Bool.and_self,Bool.not_true,cond_true,cond_false]
      | cons s2 r =>
        have e1:decide (Int.ofNat (s::s2::r).length=(1:Int))=false:=by
          rw [decide_eq_false_iff_not];simp only [List.length_cons,Int.ofNat_eq_natCast];omega
        simp only [RT.val,h81,f1,f2,f3,f4,(F83_of _ _ _ _).1,(F83_of _ _ _ _).2,he,m1,m2,m3,m4,e1,Bool.not_false,cond_true,cond_false]
  · rw [if_neg he]
    unfold emp at he
    rw [Bool.not_eq_true]at he
    simp only [RT.val,h81,f1,f2,f3,f4,(F83_of _ _ _ _).1,(F83_of _ _ _ _).2,he,decide_true,cond_true,cond_false]
theorem cul_mem {c0 c:Array Value}{n2:Nat}{age shear lo hi tick now s:Int}:∀m k,s∈cul c0 c n2 age shear lo hi tick now m k→emp (all c0 c n2 age shear lo hi tick now (chB 128 s))=false
  | 0,_,h=>by simp [cul]at h
  | m+1,k,h=>by
    unfold cul at h
    by_cases he:emp (all c0 c n2 age shear lo hi tick now (chB 128 (k:Int)))=true
    · rw [if_pos he]at h;exact cul_mem m (k+1) h
    · rw [if_neg he]at h
      rcases List.mem_cons.1 h with rfl | h
      · rw [Bool.not_eq_true]at he;exact he
      · exact cul_mem m (k+1) h
end
section
variable (c0 c:Array Value) (age shear lo hi tick now:Int)
def nearX (k:Nat)(v:Int):Prop:=getInt c (0+k*5+3)-dbI c0 0 c 0 age shear lo hi tick k≤v∧v≤getInt c (0+k*5+3)+dbI c0 0 c 0 age shear lo hi tick k
def nearY (k:Nat)(v:Int):Prop:=getInt c (0+k*5+4)-dbI c0 0 c 0 age shear lo hi tick k≤v∧v≤getInt c (0+k*5+4)+dbI c0 0 c 0 age shear lo hi tick k
def inX (h:Hd)(v:Int):Prop:=h.xl≤v∧v≤h.xh
def inY (h:Hd)(v:Int):Prop:=h.yl≤v∧v≤h.yh
theorem hdP_inX (p:Int→Bool)(v:Int):∀(m k:Nat) (s:Hd),inX (hdP c0 c age shear lo hi tick now p m k s) v ↔
    inX s v∧∀i,k≤i→i<k+m→knP c0 0 c 0 now i=true→p (getInt c (0+i*5))=true→nearX c0 c age shear lo hi tick i v
  | 0,k,s=>by
    unfold hdP
    exact ⟨fun h=>⟨h,fun i h1 h2=>by omega⟩,fun h=>h.1⟩
  | m+1,k,s=>by
    unfold hdP
    rw [hdP_inX p v m (k+1)]
    by_cases hk:knP c0 0 c 0 now k=true∧p (getInt c (0+k*5))=true
    · rw [if_pos hk]
      constructor
      · rintro ⟨h1,h2⟩
        simp only [inX,upd]at h1
        refine ⟨⟨by omega,by omega⟩,fun i hi1 hi2 a b=>?_⟩
        rcases Nat.eq_or_lt_of_le hi1 with rfl | hlt
        · exact ⟨by omega,by omega⟩
        · exact h2 i (by omega) (by omega) a b
      · rintro ⟨h1,h2⟩
        have hn:=h2 k (Nat.le_refl k) (by omega) hk.1 hk.2
        simp only [nearX]at hn
        simp only [inX]at h1
        refine ⟨?_,fun i hi1 hi2 a b=>h2 i (by omega) (by omega) a b⟩
        simp only [inX,upd]
        exact ⟨by omega,by omega⟩
    · rw [if_neg hk]
      constructor
      · rintro ⟨h1,h2⟩
        refine ⟨h1,fun i hi1 hi2 a b=>?_⟩
        rcases Nat.eq_or_lt_of_le hi1 with rfl | hlt
        · exact absurd ⟨a,b⟩ hk
        · exact h2 i (by omega) (by omega) a b
      · rintro ⟨h1,h2⟩
        exact ⟨h1,fun i hi1 hi2 a b=>h2 i (by omega) (by omega) a b⟩
theorem hdP_inY (p:Int→Bool)(v:Int):∀(m k:Nat) (s:Hd),inY (hdP c0 c age shear lo hi tick now p m k s) v ↔
    inY s v∧∀i,k≤i→i<k+m→knP c0 0 c 0 now i=true→p (getInt c (0+i*5))=true→nearY c0 c age shear lo hi tick i v
  | 0,k,s=>by
    unfold hdP
    exact ⟨fun h=>⟨h,fun i h1 h2=>by omega⟩,fun h=>h.1⟩
  | m+1,k,s=>by
    unfold hdP
    rw [hdP_inY p v m (k+1)]
    by_cases hk:knP c0 0 c 0 now k=true∧p (getInt c (0+k*5))=true
    · rw [if_pos hk]
      constructor
      · rintro ⟨h1,h2⟩
        simp only [inY,upd]at h1
        refine ⟨⟨by omega,by omega⟩,fun i hi1 hi2 a b=>?_⟩
        rcases Nat.eq_or_lt_of_le hi1 with rfl | hlt
        · exact ⟨by omega,by omega⟩
        · exact h2 i (by omega) (by omega) a b
      · rintro ⟨h1,h2⟩
        have hn:=h2 k (Nat.le_refl k) (by omega) hk.1 hk.2
        simp only [nearY]at hn
        simp only [inY]at h1
        refine ⟨?_,fun i hi1 hi2 a b=>h2 i (by omega) (by omega) a b⟩
        simp only [inY,upd]
        exact ⟨by omega,by omega⟩
    · rw [if_neg hk]
      constructor
      · rintro ⟨h1,h2⟩
        refine ⟨h1,fun i hi1 hi2 a b=>?_⟩
        rcases Nat.eq_or_lt_of_le hi1 with rfl | hlt
        · exact absurd ⟨a,b⟩ hk
        · exact h2 i (by omega) (by omega) a b
      · rintro ⟨h1,h2⟩
        exact ⟨h1,fun i hi1 hi2 a b=>h2 i (by omega) (by omega) a b⟩
theorem all_inX (n2:Nat)(p:Int→Bool)(v:Int):inX (all c0 c n2 age shear lo hi tick now p) v ↔
    (-20000≤v∧v≤20000)∧∀i,i<n2→knP c0 0 c 0 now i=true→p (getInt c (0+i*5))=true→nearX c0 c age shear lo hi tick i v:=by
  unfold all
  rw [hdP_inX]
  exact ⟨fun h=>⟨h.1,fun i hi a b=>h.2 i (by omega) (by omega) a b⟩,fun h=>⟨h.1,fun i _ hi a b=>h.2 i (by omega) a b⟩⟩
theorem all_inY (n2:Nat)(p:Int→Bool)(v:Int):inY (all c0 c n2 age shear lo hi tick now p) v ↔
    (-20000≤v∧v≤20000)∧∀i,i<n2→knP c0 0 c 0 now i=true→p (getInt c (0+i*5))=true→nearY c0 c age shear lo hi tick i v:=by
  unfold all
  rw [hdP_inY]
  exact ⟨fun h=>⟨h.1,fun i hi a b=>h.2 i (by omega) (by omega) a b⟩,fun h=>⟨h.1,fun i _ hi a b=>h.2 i (by omega) a b⟩⟩
end
theorem emp_iff (h:Hd):emp h=false↔h.xl≤h.xh∧h.yl≤h.yh:=by
  unfold emp
  rw [Bool.or_eq_false_iff,decide_eq_false_iff_not,decide_eq_false_iff_not]
  omega
theorem all_spW {c0 c:Array Value}{n2:Nat}{age shear lo hi tick now:Int}{p:Int→Bool}(h:emp (all c0 c n2 age shear lo hi tick now p)=false) :
    (let H:=all c0 c n2 age shear lo hi tick now p;(H.xl≤H.xh∧-20000≤H.xl∧H.xl≤20000∧-20000≤H.xh∧H.xh≤20000)∧(H.yl≤H.yh∧-20000≤H.yl∧H.yl≤20000∧-20000≤H.yh∧H.yh≤20000)):=by
  have h':=(emp_iff _).1 h
  have x1:=((all_inX c0 c age shear lo hi tick now n2 p _).1 ⟨Int.le_refl _,h'.1⟩).1
  have x2:=((all_inX c0 c age shear lo hi tick now n2 p _).1 ⟨h'.1,Int.le_refl _⟩).1
  have y1:=((all_inY c0 c age shear lo hi tick now n2 p _).1 ⟨Int.le_refl _,h'.2⟩).1
  have y2:=((all_inY c0 c age shear lo hi tick now n2 p _).1 ⟨h'.2,Int.le_refl _⟩).1
  exact ⟨⟨h'.1,x1.1,x1.2,x2.1,x2.2⟩,⟨h'.2,y1.1,y1.2,y2.1,y2.2⟩⟩
def clampI (m v:Int):Int:=max (-m) (min m v)
def pI (first rise turn age shear h k:Int):Int:=first+(clampI shear rise*h) / 100000+(clampI age turn*k) / 600
theorem clamp_bd {m v:Int}(h:0≤m):-m≤clampI m v∧clampI m v≤m:=by unfold clampI;omega
theorem mul_bd {c m h H:Int}(h1:-m≤c) (h2:c≤m) (h3:0≤h) (h4:h≤H) (h5:0≤m):-(m*H)≤c*h∧c*h≤m*H:=by
  have a1:c*h≤m*h:=Int.mul_le_mul_of_nonneg_right h2 h3
  have a2:m*h≤m*H:=Int.mul_le_mul_of_nonneg_left h4 h5
  have a3:-m*h≤c*h:=Int.mul_le_mul_of_nonneg_right h1 h3
  have a4:-m*h=-(m*h):=Int.neg_mul m h
  omega
theorem tdiv_neg' {a s:Int}(h:a<0):Int.tdiv a s=-((-a) / s):=by
  have:Int.tdiv a s=-(Int.tdiv (-a) s):=by rw [Int.neg_tdiv,Int.neg_neg]
  rw [this,Int.tdiv_eq_ediv_of_nonneg (by omega)]
theorem F127_h {a:Int}(h1:-1000000000000≤a) (h2:a≤1000000000000):F127_ok a 100000=true∧F127_0 a 100000=a / 100000:=by
  have e:F127 a 100000=some ⟨a / 100000⟩:=by
    unfold F127 rt127
    rcases Int.lt_or_le a 0 with h | h
    · have ht:=tdiv_neg' (s:=100000) h
      have w0:IntKind.wrap .i64 (Int.tdiv a 100000)=Int.tdiv a 100000:=wrap64_id (by rw [ht];omega) (by rw [ht];omega)
      have w1:IntKind.wrap .i64 (Int.tdiv a 100000*100000)=Int.tdiv a 100000*100000:=wrap64_id (by rw [ht];omega) (by rw [ht];omega)
      have w2:IntKind.wrap .i64 (Int.tdiv a 100000-1)=Int.tdiv a 100000-1:=wrap64_id (by rw [ht];omega) (by rw [ht];omega)
      by_cases q:a<Int.tdiv a 100000*100000
      · simp only [RT.val,w0,w1,w2,q,show ¬((100000:Int)=0) by decide,decide_true,decide_false,Bool.not_false,cond_true]
        rw [ht]at q ⊢
        congr 2;omega
      · simp only [RT.val,w0,w1,w2,q,show ¬((100000:Int)=0) by decide,decide_true,decide_false,Bool.not_false,cond_true,cond_false]
        rw [ht]at q ⊢
        congr 2;omega
    · have ht:Int.tdiv a 100000=a / 100000:=Int.tdiv_eq_ediv_of_nonneg h
      have w0:IntKind.wrap .i64 (a / 100000)=a / 100000:=wrap64_id (by omega) (by omega)
      have w1:IntKind.wrap .i64 (a / 100000*100000)=a / 100000*100000:=wrap64_id (by omega) (by omega)
      have q:¬a<a / 100000*100000:=by omega
      simp only [RT.val,ht,w0,w1,q,show ¬((100000:Int)=0) by decide,decide_false,Bool.not_false,cond_true,cond_false]
  exact ⟨by simp only [F127_ok,e];rfl,by simp only [F127_0,e]⟩
theorem F127_m {a:Int}(h1:-1000000000000≤a) (h2:a≤1000000000000):F127_ok a 600=true∧F127_0 a 600=a / 600:=by
  have e:F127 a 600=some ⟨a / 600⟩:=by
    unfold F127 rt127
    rcases Int.lt_or_le a 0 with h | h
    · have ht:=tdiv_neg' (s:=600) h
      have w0:IntKind.wrap .i64 (Int.tdiv a 600)=Int.tdiv a 600:=wrap64_id (by rw [ht];omega) (by rw [ht];omega)
      have w1:IntKind.wrap .i64 (Int.tdiv a 600*600)=Int.tdiv a 600*600:=wrap64_id (by rw [ht];omega) (by rw [ht];omega)
      have w2:IntKind.wrap .i64 (Int.tdiv a 600-1)=Int.tdiv a 600-1:=wrap64_id (by rw [ht];omega) (by rw [ht];omega)
      by_cases q:a<Int.tdiv a 600*600
      · simp only [RT.val,w0,w1,w2,q,show ¬((600:Int)=0) by decide,decide_true,decide_false,Bool.not_false,cond_true]
        rw [ht]at q ⊢
        congr 2;omega
      · simp only [RT.val,w0,w1,w2,q,show ¬((600:Int)=0) by decide,decide_true,decide_false,Bool.not_false,cond_true,cond_false]
        rw [ht]at q ⊢
        congr 2;omega
    · have ht:Int.tdiv a 600=a / 600:=Int.tdiv_eq_ediv_of_nonneg h
      have w0:IntKind.wrap .i64 (a / 600)=a / 600:=wrap64_id (by omega) (by omega)
      have w1:IntKind.wrap .i64 (a / 600*600)=a / 600*600:=wrap64_id (by omega) (by omega)
      have q:¬a<a / 600*600:=by omega
      simp only [RT.val,ht,w0,w1,q,show ¬((600:Int)=0) by decide,decide_false,Bool.not_false,cond_true,cond_false]
  exact ⟨by simp only [F127_ok,e];rfl,by simp only [F127_0,e]⟩
def I16 (x:Int):Prop:=-32768≤x∧x≤32767
section
variable {c0 c c3:Array Value}{n n2 n3 o0 o2 o3:Nat}{age shear h k:Int}
theorem F103_of {a r t:Int}(ha:I16 a) (hr:I16 r) (ht:I16 t) (g1:0≤age∧age≤1000) (g2:0≤shear∧shear≤1000) (h1:0≤h∧h≤100000000) (h2:0≤k∧k≤100000) :
    F103_ok a r t c0 o0 n c o2 n2 c3 o3 n3 age shear h k=true∧F103_0 a r t c0 o0 n c o2 n2 c3 o3 n3 age shear h k=pI a r t age shear h k:=by
  unfold I16 at ha hr ht
  have w1:IntKind.wrap .i64 (0-shear)=-shear:=by rw [wrap64_id (by omega) (by omega)];omega
  have w2:IntKind.wrap .i64 (0-age)=-age:=by rw [wrap64_id (by omega) (by omega)];omega
  have w3:IntKind.wrap .i64 r=r:=wrap64_id (by omega) (by omega)
  have w4:IntKind.wrap .i64 t=t:=wrap64_id (by omega) (by omega)
  have w5:IntKind.wrap .i64 a=a:=wrap64_id (by omega) (by omega)
  have e1:max (-shear) (min shear r)=clampI shear r:=rfl
  have e2:max (-age) (min age t)=clampI age t:=rfl
  have c1:=clamp_bd (v:=r) g2.1
  have c2:=clamp_bd (v:=t) g1.1
  have m1:=mul_bd c1.1 c1.2 h1.1 h1.2 g2.1
  have m2:=mul_bd c2.1 c2.2 h2.1 h2.2 g1.1
  have b1:-100000000000≤clampI shear r*h∧clampI shear r*h≤100000000000:=by omega
  have b2:-100000000≤clampI age t*k∧clampI age t*k≤100000000:=by omega
  have w6:IntKind.wrap .i64 (clampI shear r*h)=clampI shear r*h:=wrap64_id (by omega) (by omega)
  have w7:IntKind.wrap .i64 (clampI age t*k)=clampI age t*k:=wrap64_id (by omega) (by omega)
  obtain ⟨f1,f2⟩:=F127_h (a:=clampI shear r*h) (by omega) (by omega)
  obtain ⟨f3,f4⟩:=F127_m (a:=clampI age t*k) (by omega) (by omega)
  have w8:IntKind.wrap .i64 (a+clampI shear r*h / 100000)=a+clampI shear r*h / 100000:=wrap64_id (by omega) (by omega)
  have w9:IntKind.wrap .i64 (a+clampI shear r*h / 100000+clampI age t*k / 600)=a+clampI shear r*h / 100000+clampI age t*k / 600:=wrap64_id (by omega) (by omega)
  have e:F103 a r t c0 o0 n c o2 n2 c3 o3 n3 age shear h k=some ⟨pI a r t age shear h k⟩:=by
    unfold F103 rt103 pI
    simp only [RT.val,w1,w2,w3,w4,w5,e1,e2,w6,w7,f1,f2,f3,f4,w8,w9,cond_true]
  constructor
  · unfold F103_ok;rw [e];rfl
  · show (match F103 a r t c0 o0 n c o2 n2 c3 o3 n3 age shear h k with | some r=>r.r0 | none=>0)=_
    rw [e]
end
theorem begun_ge {l s:Int}(hs:0<s) (hl:0≤l):l≤s*begunI l s:=by
  unfold begunI
  rw [Int.tdiv_eq_ediv_of_nonneg (by omega)]
  have h1:=Int.emod_lt_of_pos (l+s-1) hs
  have h2:=Int.mul_ediv_add_emod (l+s-1) s
  omega
theorem floor_lip {c m h h' s:Int}(hs:0<s) (h1:-m≤c) (h2:c≤m) (hm:0≤m):(c*h) / s≤(c*h') / s+m*begunI (absI h h') s:=by
  have hd:0≤absI h h':=by unfold absI;omega
  have hb:=begun_ge hs hd
  have k1:c*(h-h')≤m*absI h h':=by
    rcases Int.le_total 0 (h-h') with q | q
    · have a1:c*(h-h')≤m*(h-h'):=Int.mul_le_mul_of_nonneg_right h2 q
      have a2:m*(h-h')≤m*absI h h':=Int.mul_le_mul_of_nonneg_left (by unfold absI;omega) hm
      omega
    · have a1:-m*(h' - h)≤c*(h' - h):=Int.mul_le_mul_of_nonneg_right h1 (by omega)
      have a2:m*(h' - h)≤m*absI h h':=Int.mul_le_mul_of_nonneg_left (by unfold absI;omega) hm
      have a3:-m*(h' - h)=-(m*(h' - h)):=Int.neg_mul _ _
      have a4:c*(h-h')=-(c*(h' - h)):=by rw [← Int.mul_neg];congr 1;omega
      omega
  have k2:m*absI h h'≤m*(s*begunI (absI h h') s):=Int.mul_le_mul_of_nonneg_left hb hm
  have k3:m*(s*begunI (absI h h') s)=s*(m*begunI (absI h h') s):=by
    rw [← Int.mul_assoc,← Int.mul_assoc,Int.mul_comm m s]
  have k4:c*h=c*h'+c*(h-h'):=by rw [← Int.mul_add];congr 1;omega
  have k5:c*h≤c*h'+s*(m*begunI (absI h h') s):=by omega
  have k6:(c*h) / s≤(c*h'+s*(m*begunI (absI h h') s)) / s:=Int.ediv_le_ediv hs k5
  rwa [Int.add_mul_ediv_left _ _ (by omega)]at k6
theorem absI_comm (a b:Int):absI a b=absI b a:=by unfold absI;omega
theorem begun_mono {a b s:Int}(hs:0<s) (h0:0≤a) (h:a≤b):begunI a s≤begunI b s:=by
  unfold begunI
  rw [Int.tdiv_eq_ediv_of_nonneg (by omega),Int.tdiv_eq_ediv_of_nonneg (by omega)]
  exact Int.ediv_le_ediv hs (by omega)
theorem pI_lip {a r t age shear h k h' k':Int}(g1:0≤age) (g2:0≤shear):pI a r t age shear h k≤pI a r t age shear h' k'+age*begunI (absI k k') 600+shear*begunI (absI h h') 100000:=by
  have c1:=clamp_bd (v:=r) g2
  have c2:=clamp_bd (v:=t) g1
  have l1:=floor_lip (h:=h) (h':=h') (s:=100000) (by decide) c1.1 c1.2 g2
  have l2:=floor_lip (h:=k) (h':=k') (s:=600) (by decide) c2.1 c2.2 g1
  unfold pI
  omega
theorem pI_near {a r t age shear h tick hs ts v err lo hi db:Int}(g1:0≤age) (g2:0≤shear) (h1:lo≤h) (h2:h≤hi) (hv:-err≤v-pI a r t age shear hs ts∧v-pI a r t age shear hs ts≤err)
    (hd:db=err+age*begunI (absI ts tick) 600+shear*begunI (max (absI hs lo) (absI hs hi)) 100000) :
    v-db≤pI a r t age shear h tick∧pI a r t age shear h tick≤v+db:=by
  have l1:=pI_lip (a:=a) (r:=r) (t:=t) (h:=h) (k:=tick) (h':=hs) (k':=ts) g1 g2
  have l2:=pI_lip (a:=a) (r:=r) (t:=t) (h:=hs) (k:=ts) (h':=h) (k':=tick) g1 g2
  have m1:absI h hs≤max (absI hs lo) (absI hs hi):=by unfold absI;omega
  have m2:begunI (absI h hs) 100000≤begunI (max (absI hs lo) (absI hs hi)) 100000:=begun_mono (by decide) (by unfold absI;omega) m1
  have m3:shear*begunI (absI h hs) 100000≤shear*begunI (max (absI hs lo) (absI hs hi)) 100000:=Int.mul_le_mul_of_nonneg_left m2 g2
  rw [absI_comm tick ts]at l1
  rw [absI_comm hs h]at l2
  omega
section
variable {w c0 c c3:Array Value}{nw ow n n2 n3 o0 o2 o3:Nat}{x y rx ry tx ty age shear h k:Int}
def isW (a b:Int):Bool:=(decide (-20000≤a)&&decide (a≤20000))&&(decide (-20000≤b)&&decide (b≤20000))
theorem F55_of (hx:I16 x)(hy:I16 y)(h1:I16 rx)(h2:I16 ry)(h3:I16 tx)(h4:I16 ty)(g1:0≤age∧age≤1000)(g2:0≤shear∧shear≤1000)(hh:0≤h∧h≤100000000)(hk:0≤k∧k≤100000) :
    F55 x y rx ry tx ty w ow nw c0 o0 n c o2 n2 c3 o3 n3 age shear h k=some ⟨pI x rx tx age shear h k,pI y ry ty age shear h k,isW (pI x rx tx age shear h k) (pI y ry ty age shear h k)⟩:=by
  obtain ⟨a1,a2⟩:=F103_of (c0:=c0) (c:=c) (c3:=c3) (n:=n) (n2:=n2) (n3:=n3) (o0:=o0) (o2:=o2) (o3:=o3) hx h1 h3 g1 g2 hh hk
  obtain ⟨b1,b2⟩:=F103_of (c0:=c0) (c:=c) (c3:=c3) (n:=n) (n2:=n2) (n3:=n3) (o0:=o0) (o2:=o2) (o3:=o3) hy h2 h4 g1 g2 hh hk
  unfold F55 rt55 isW
  simp only [RT.val,a1,a2,b1,b2,arrEq_self,decide_true,Bool.and_self,cond_true]
  by_cases q1:(-20000:Int)≤pI x rx tx age shear h k
  · by_cases q2:pI x rx tx age shear h k≤20000
    · by_cases q3:(-20000:Int)≤pI y ry ty age shear h k
      · simp only [q1,q2,q3,decide_true,Bool.and_self,Bool.true_and,cond_true]
      · simp only [q1,q2,q3,decide_true,decide_false,Bool.and_self,Bool.false_and,Bool.and_false,cond_true,cond_false]
    · simp only [q1,q2,decide_true,decide_false,Bool.and_false,Bool.false_and,cond_true,cond_false]
  · simp only [q1,decide_false,Bool.false_and,cond_false]
theorem F55_at (hx:I16 x)(hy:I16 y)(h1:I16 rx)(h2:I16 ry)(h3:I16 tx)(h4:I16 ty)(g1:0≤age∧age≤1000)(g2:0≤shear∧shear≤1000)(hh:0≤h∧h≤100000000)(hk:0≤k∧k≤100000) :
    F55_ok x y rx ry tx ty w ow nw c0 o0 n c o2 n2 c3 o3 n3 age shear h k=true∧F55_0 x y rx ry tx ty w ow nw c0 o0 n c o2 n2 c3 o3 n3 age shear h k=pI x rx tx age shear h k ∧
    F55_1 x y rx ry tx ty w ow nw c0 o0 n c o2 n2 c3 o3 n3 age shear h k=pI y ry ty age shear h k∧F55_2 x y rx ry tx ty w ow nw c0 o0 n c o2 n2 c3 o3 n3 age shear h k=isW (pI x rx tx age shear h k) (pI y ry ty age shear h k):=by
  have e:=F55_of (w:=w) (ow:=ow) (nw:=nw) (c0:=c0) (c:=c) (c3:=c3) (n:=n) (n2:=n2) (n3:=n3) (o0:=o0) (o2:=o2) (o3:=o3) hx hy h1 h2 h3 h4 g1 g2 hh hk
  refine ⟨?_,?_,?_,?_⟩
  · unfold F55_ok;rw [e];rfl
  · show (match F55 x y rx ry tx ty w ow nw c0 o0 n c o2 n2 c3 o3 n3 age shear h k with | some r=>r.r0 | none=>0)=_
    rw [e]
  · show (match F55 x y rx ry tx ty w ow nw c0 o0 n c o2 n2 c3 o3 n3 age shear h k with | some r=>r.r1 | none=>0)=_
    rw [e]
  · show (match F55 x y rx ry tx ty w ow nw c0 o0 n c o2 n2 c3 o3 n3 age shear h k with | some r=>r.r2 | none=>false)=_
    rw [e]
theorem F102_at {i most:Int}(hw:∀j,j<nw→isInt .i8 w (0+j)=true∧getInt w (0+j)≤127∧-128≤getInt w (0+j)) (hn:nw≤maxLen) (hi:0≤i) (m0:0≤most) (m1:most≤5000) :
    F102_ok x y rx ry tx ty w 0 nw i most=true∧-most≤F102_0 x y rx ry tx ty w 0 nw i most∧F102_0 x y rx ry tx ty w 0 nw i most≤most:=by
  have hm:maxLen=9223372036854775807:=rfl
  have key:∃v,F102 x y rx ry tx ty w 0 nw i most=some ⟨v⟩∧-most≤v∧v≤most:=by
    by_cases h0:nw=0
    · refine ⟨0,?_,by omega,by omega⟩
      subst h0
      unfold F102 rt102
      simp only [RT.val,Int.ofNat_eq_natCast,show (((0:Nat):Int)=0) from rfl,decide_true,cond_true]
    · have p1:=Int.tmod_nonneg (nw:Int) hi
      have p2:=Int.tmod_lt_of_pos i (show (0:Int)<(nw:Int) by omega)
      obtain ⟨j,hj⟩:∃j:Nat,Int.tmod i (nw:Int)=(j:Int):=⟨(Int.tmod i (nw:Int)).toNat,by omega⟩
      rw [hj]at p1 p2
      have hjn:j<nw:=by omega
      obtain ⟨q1,q2,q3⟩:=hw j hjn
      have p0:¬(nw:Int)=0:=by omega
      have w1:IntKind.wrap .i64 (getInt w (0+j))=getInt w (0+j):=wrap64_id (by omega) (by omega)
      have hg:-127≤max (-127) (getInt w (0+j))∧max (-127) (getInt w (0+j))≤127:=by omega
      generalize hG:max (-127) (getInt w (0+j))=G at hg
      have b1:most*G≤most*127:=Int.mul_le_mul_of_nonneg_left hg.2 m0
      have b2:most*(-127)≤most*G:=Int.mul_le_mul_of_nonneg_left hg.1 m0
      have w2:IntKind.wrap .i64 (most*G)=most*G:=wrap64_id (by omega) (by omega)
      have b3:-most≤Int.tdiv (most*G) 127∧Int.tdiv (most*G) 127≤most:=by
        rcases Int.lt_or_le (most*G) 0 with hlt | hge
        · rw [tdiv_neg' hlt];omega
        · rw [Int.tdiv_eq_ediv_of_nonneg hge];omega
      have w3:IntKind.wrap .i64 (Int.tdiv (most*G) 127)=Int.tdiv (most*G) 127:=wrap64_id (by omega) (by omega)
      refine ⟨Int.tdiv (most*G) 127,?_,b3.1,b3.2⟩
      unfold F102 rt102
      simp only [RT.val,Int.ofNat_eq_natCast,hj,p0,p1,p2,Int.toNat_natCast,Nat.mul_one,q1,w1,hG,w2,w3,decide_true,decide_false,Bool.and_self,Bool.not_false,cond_true,cond_false]
  obtain ⟨v,e,b1,b2⟩:=key
  have e0:F102_0 x y rx ry tx ty w 0 nw i most=v:=by simp only [F102_0,e]
  rw [e0]
  exact ⟨by simp only [F102_ok,e];rfl,b1,b2⟩
end
end
end Go.Proofs.Ytfnogghclaijlaa
namespace Go.Gi
open Go.RowKit
noncomputable section
def thV (y:Nat)(bl:List Ob)(v:Value):Option (Value×Bool×List Nat) :=
  match v with
  | .slice (some ⟨b,off,none⟩) len sz=>match nthO bl b with
    | some (.cells c false)=>some (lstV c off len sz,allFz c&&decide (off+len*sz≤c.size),[b])
    | _=>none
  | .slice none 0 0=>some (lstV ⟨[]⟩ 0 0 y,true,[])
  | v=>if fz0 v then some (v,true,[]) else none
def thL (bl:List Ob):List Nat→List Value→Option (List Value×Bool×List Nat)
  | _,[]=>some ([],true,[])
  | ys,v::r=>match thV (ys.headD 0) bl v with
    | some (u,b,S)=>match thL bl ys.tail r with
      | some (us,b',S')=>some (u::us,b&&b',S++S')
      | none=>none
    | none=>none
def thA (ys:List Nat)(bl:List Ob)(v:Value):Option (Value×Bool×List Nat) :=
  match v with
  | .agg ⟨l⟩=>match thL bl ys l with
    | some (us,b,S)=>some (.agg ⟨us⟩,b,S)
    | none=>none
  | v=>thV (ys.headD 0) bl v
def thAll (bl:List Ob):List (List Nat)→List Value→Option (List Value×Bool×List Nat)
  | _,[]=>some ([],true,[])
  | ys,v::r=>match thA (ys.headD []) bl v with
    | some (u,b,S)=>match thAll bl ys.tail r with
      | some (us,b',S')=>some (u::us,b&&b',S++S')
      | none=>none
    | none=>none
def inS1 (S:List Nat)(b:Nat):Bool:=S.any fun x=>Nat.beq x b
def killB (S:List Nat):Nat→List Ob→List Ob
  | _,[]=>[]
  | i,o::r=>(match inS1 S i with | true=>Ob.dead | false=>o)::killB S (i+1) r
open Classical in
def zS (φ:Phi)(X:List Ob)(S:List Nat)(w:World):Nat→Option Obj:=fun B=>if ∃b ob x,inS1 S b=true∧X[b]?=some ob∧ob.rw=true∧φ b=some x∧x.1=B then w.heap[B]? else φ.z B
section
variable {K:Nat→Prop}{w0 w:World} {φ:Phi}{X:List Ob}{S:List Nat}
theorem zS_le (hF:Inv K w0 φ X w):∀B o,φ.z B=some o→zS φ X S w B=some o:=by
  intro B o hB
  unfold zS
  split
  · exact hF.frz B o hB
  · exact hB
theorem zS_frz (hF:Inv K w0 φ X w):∀B o,zS φ X S w B=some o→w.heap[B]?=some o:=by
  intro B o hB
  unfold zS at hB
  split at hB
  · exact hB
  · exact hF.frz B o hB
theorem madeS (hF:Inv K w0 φ X w):Made X.length (zS φ X S w) φ X w :=
  ⟨zS_le hF,fun b c hb hm=>by rw [List.getElem?_eq_none hm]at hb;cases hb⟩
theorem thV_ok (hF:Inv K w0 φ X w) {y:Nat} {v v' u:Value}{b:Bool}{S1:List Nat}(e:thV y X v=some (u,b,S1)) (hb:b=true) (hs:∀x∈S1,x∈S) (hv:VR φ v v'):FR (zS φ X S w) u v':=by
  unfold thV at e
  split at e
  · rename_i b0 off len sz
    rw [nthO_eq]at e
    split at e
    · rename_i c hb0
      simp only [Option.some.injEq,Prod.mk.injEq]at e
      obtain ⟨rfl,h1,rfl⟩:=e
      rw [hb,Bool.and_eq_true,decide_eq_true_eq]at h1
      obtain ⟨B,base,tot,h3,C,el,fr,h5,h6,h7⟩:=hF.obs b0 _ hb0 rfl
      obtain ⟨h8,h9,_⟩:=h7 rfl
      cases hv with
      | sliceZ _ a' k'=>exact .lstZ _ _ _ _
      | slice hφ hl hc =>
        rw [h3]at hφ;cases hφ
        have hin:inS1 S b0=true:=by
          unfold inS1
          rw [List.any_eq_true]
          exact ⟨b0,hs b0 (List.mem_singleton.2 rfl),Nat.beq_refl b0⟩
        have hz:zS φ X S w B=some (.cells C el fr):=by
          unfold zS
          rw [if_pos ⟨b0,_,_,hin,hb0,rfl,h3,rfl⟩]
          exact h5
        exact .lst hz (by omega) (cells_fr (madeS hF) h1.1 h6) hl h1.2
    · cases e
  · simp only [Option.some.injEq,Prod.mk.injEq]at e
    obtain ⟨rfl,_,_⟩:=e
    cases hv
    exact .lstZ _ _ _ _
  · split at e
    · rename_i hf
      simp only [Option.some.injEq,Prod.mk.injEq]at e
      obtain ⟨rfl,_,_⟩:=e
      exact fz0_fr (madeS hF) hf hv
    · cases e
theorem thL_ok (hF:Inv K w0 φ X w):∀{ys:List Nat} {l l' us:List Value}{b:Bool}{S1:List Nat},thL X ys l=some (us,b,S1)→b=true→(∀x∈S1,x∈S)→VRl φ l l'→FRl (zS φ X S w) us l'
  | _,[],_,_,_,_,e,hb,hs,hv=>by
    simp only [thL,Option.some.injEq,Prod.mk.injEq]at e
    obtain ⟨rfl,_,_⟩:=e
    cases hv;exact .nil
  | ys,v::r,_,_,_,_,e,hb,hs,hv=>by
    unfold thL at e
    split at e
    · rename_i u b1 S1 h1
      split at e
      · rename_i us b2 S2 h2
        simp only [Option.some.injEq,Prod.mk.injEq]at e
        obtain ⟨rfl,rfl,rfl⟩:=e
        rw [Bool.and_eq_true]at hb
        cases hv with
        | cons hv hr =>
          exact .cons (thV_ok hF h1 hb.1 (fun x hx=>hs x (List.mem_append_left _ hx)) hv) (thL_ok hF h2 hb.2 (fun x hx=>hs x (List.mem_append_right _ hx)) hr)
      · cases e
    · cases e
theorem thA_ok (hF:Inv K w0 φ X w) {ys:List Nat} {v v' u:Value}{b:Bool}{S1:List Nat}(e:thA ys X v=some (u,b,S1)) (hb:b=true) (hs:∀x∈S1,x∈S) (hv:VR φ v v'):FR (zS φ X S w) u v':=by
  unfold thA at e
  split at e
  · rename_i l
    split at e
    · rename_i us b1 S2 h1
      simp only [Option.some.injEq,Prod.mk.injEq]at e
      obtain ⟨rfl,rfl,rfl⟩:=e
      obtain ⟨⟨zs⟩,rfl,hs'⟩:=hv.agg_inv
      exact (thL_ok hF h1 hb hs hs'.toList).fr
    · cases e
  · exact thV_ok hF e hb hs hv
theorem thAll_ok (hF:Inv K w0 φ X w):∀{ys:List (List Nat)} {l l' us:List Value}{b:Bool}{S1:List Nat},thAll X ys l=some (us,b,S1)→b=true→(∀x∈S1,x∈S)→VRl φ l l'→FRl (zS φ X S w) us l'
  | _,[],_,_,_,_,e,hb,hs,hv=>by
    simp only [thAll,Option.some.injEq,Prod.mk.injEq]at e
    obtain ⟨rfl,_,_⟩:=e
    cases hv;exact .nil
  | ys,v::r,_,_,_,_,e,hb,hs,hv=>by
    unfold thAll at e
    split at e
    · rename_i u b1 S1 h1
      split at e
      · rename_i us b2 S2 h2
        simp only [Option.some.injEq,Prod.mk.injEq]at e
        obtain ⟨rfl,rfl,rfl⟩:=e
        rw [Bool.and_eq_true]at hb
        cases hv with
        | cons hv hr =>
          exact .cons (thA_ok hF h1 hb.1 (fun x hx=>hs x (List.mem_append_left _ hx)) hv) (thAll_ok hF h2 hb.2 (fun x hx=>hs x (List.mem_append_right _ hx)) hr)
      · cases e
    · cases e
theorem FRl.vrl {ψ:Phi} {l l':List Value}(h:FRl ψ.z l l'):VRl ψ l l':=by
  induction h with
  | nil=>exact .nil
  | cons h _ ih=>exact .cons h.vr ih
end
section
variable {P:Program}
theorem Fact.thawG {zss:List (List Nat)}{f:FuncId}{l us:List Value}{v:Value}{b:Bool}{S:List Nat}{h h1:Hp}(ht:thAll h.bl zss l=some (us,b,S)) (hb:b=true)
    (hf:Fact P (.call f ⟨us⟩ ⟨[],0,[]⟩) (.ret v h1)) (hg:gr v=true):Fact P (.call f ⟨l⟩ h) (.ret v h):=by
  obtain ⟨_,hh⟩:=hf.1 (Nat.le_refl _)
  refine ⟨fun _=>⟨Pres.refl _,?_⟩,trivial⟩
  intro K w0 φ w args' n hI hA
  obtain ⟨ys⟩:=args'
  have hA1:=thAll_ok (S:=S) hI ht hb (fun _ h=>h) hA.toList
  have hZ:Inv (fun k=>k<w.heap.size∧zS φ h.bl S w k=none) w ⟨fun _=>none,zS φ h.bl S w⟩ ([]:List Ob) w :=
    ⟨fun b ob h=>by simp at h,fun b b' ob ob' x y _ h=>by simp at h,fun b ob x h=>by simp at h,fun _ _=>rfl,fun _ h=>h.1,Nat.le_refl _,rfl,rfl,rfl,fun _ _=>rfl,zS_frz hI,fun b ob x h=>by simp at h,fun _ h=>h.2⟩
  have hA2:VRs ⟨fun _=>none,zS φ h.bl S w⟩ ⟨us⟩ ⟨ys⟩:=(FRl.vrl (ψ:=⟨fun _=>none,zS φ h.bl S w⟩) hA1).vrs
  refine (hh _ w _ w ⟨ys⟩ n hZ hA2).mono ?_
  intro e w' he
  cases e with
  | returned v' =>
    obtain ⟨φ',hle,hv',hF⟩:=he
    have hI':Inv K w0 φ ([]++h.bl) w:=hI
    have hsame:∀k,k<w.heap.size→w'.heap[k]?=w.heap[k]?:=by
      intro k hk
      cases hz:zS φ h.bl S w k with
      | none=>exact hF.keep k ⟨hk,hz⟩
      | some o=>rw [hF.frz k o (hle.zz k o hz),zS_frz hI k o hz]
    have hW:Inv (fun k=>k<w.heap.size∧¬RwAt φ ([]:List Ob) k∧φ.z k=none) w ⟨fun _=>none,φ.z⟩ (([]:List Ob)++[]) w' :=
      ⟨fun b ob h=>by simp at h,fun b b' ob ob' x y _ h=>by simp at h,fun b ob x h=>by simp at h,fun k hk=>hsame k hk.1,fun _ h=>h.1,hF.size,hF.os,hF.tape,hF.output,fun _ _=>rfl,
        fun B o hB=>by
          have h1:=hI.frz B o hB
          rw [hsame B ((Array.getElem?_eq_some_iff.1 h1).1)];exact h1,
        fun b ob x h=>by simp at h,fun _ h=>h.2.2⟩
    have hlec:le (cut φ ([]:List Ob).length) ⟨fun _=>none,φ.z⟩:=⟨fun b x hx=>(by rw [cut_ge (show ([]:List Ob).length≤b from Nat.zero_le b)]at hx;cases hx),fun _ _ h=>h⟩
    obtain ⟨φ'',q1,q2,q3⟩:=hI'.widen (H1:=[]) (X:=[]) hW hlec .nil
    refine ⟨φ'',q1,?_,q3⟩
    rw [gr_eq hg hv'];exact gr_refl hg
  | panicked ch=>exact he.elim
  | outgrown=>exact he.elim
def AT.grH (h:Hp):AT→AT
  | .leaf (.ret v _)=>match gr v with | true=>.leaf (.ret v h) | false=>.no
  | .br b x y=>.br b (x.grH h) (y.grH h)
  | _=>.no
theorem AT.grH_out {h:Hp}{o:Out}:∀{a:AT},(a.grH h).out=some o→∃v h1,a.out=some (.ret v h1)∧gr v=true∧o=.ret v h
  | .leaf o',e=>by
    cases o' with
    | ret v h1 =>
      unfold AT.grH at e
      cases hg:gr v with
      | true=>rw [hg]at e;simp only [AT.out,Option.some.injEq]at e;exact ⟨v,h1,rfl,hg,e.symm⟩
      | false=>rw [hg]at e;cases e
    | _=>cases e
  | .no,e=>by cases e
  | .br b x y,e=>by
    cases b with
    | true=>exact AT.grH_out (a:=x) e
    | false=>exact AT.grH_out (a:=y) e
def thawG (g:Nat)(zss:List (List Nat))(p:Ans):Ans
  | .call f ⟨l⟩ h=>match Nat.beq f g with
    | true=>match thAll h.bl zss l with
      | some (us,b,_)=>match p (.call f ⟨us⟩ ⟨[],0,[]⟩) with
        | some a=>some (.br b (a.grH h) .no)
        | none=>none
      | none=>none
    | false=>none
  | _=>none
theorem Known.thawG {p:Ans}(hp:Known P p) (g:Nat) (zss:List (List Nat)):Known P (thawG g zss p):=by
  intro t x o e ho
  unfold Gi.thawG at e
  split at e
  case h_2=>cases e
  rename_i f l h
  split at e
  case h_2=>cases e
  split at e
  case h_2=>cases e
  rename_i us b S ht
  split at e
  case h_2=>cases e
  rename_i a ha
  simp only [Option.some.injEq]at e
  subst e
  obtain ⟨hb,h2⟩:=cond_some (show cond b (a.grH h).out none=some o from ho)
  obtain ⟨v,h1,h3,h4,rfl⟩:=AT.grH_out h2
  exact Fact.thawG ht hb (hp _ a _ ha h3) h4
end
end
end Go.Gi
namespace Go.Gi
open Go.RowKit
noncomputable section
def boxD (m:Nat):Ob→Bool
  | .dead=>true
  | ob=>boxB m ob
theorem boxD_live {m:Nat}{ob:Ob}(h:boxD m ob=true) (hl:ob.live=true):ob.rw=true∧obSc m ob=true:=by
  cases ob with
  | dead=>cases hl
  | _ =>
    simp only [boxD,boxB,Bool.and_eq_true]at h
    exact ⟨h.1.2,h.2⟩
theorem boxD_arr {m:Nat}{a:Array Value}(h:allFz a=true):boxD m (.cells a false)=true:=by
  simp only [boxD,boxB,own_sc h m,Bool.and_true]
  rfl
theorem all_box_nil {m:Nat}:([]:List Ob).all (boxD m)=true:=rfl
theorem all_box_cons {m:Nat}{b:Ob}{l:List Ob}(h:boxD m b=true) (hl:l.all (boxD m)=true):(b::l).all (boxD m)=true:=by
  rw [List.all_cons,h,hl];rfl
section
variable {K:Nat→Prop}{w0 w:World} {φ ψ:Phi}{X H2:List Ob} {κ:Nat→Nat}
theorem Inv.view (hF:Inv K w0 φ X w)
    (hv:∀(i:Nat) (ob:Ob),H2[i]?=some ob→ob.live=true→∃ob',X[κ i]?=some ob'∧ob'.live=true∧(ob.rw=true→ob'.rw=true)∧ψ i=φ (κ i)∧∀B base tot,ObR φ w ob' B base tot→ObR ψ w ob B base tot)
    (hi:∀(i i':Nat) (ob ob':Ob),H2[i]?=some ob→H2[i']?=some ob'→ob.live=true→ob'.live=true→κ i=κ i'→i=i')
    (ht:∀i,H2.length≤i→ψ i=none) (hz:∀B o,ψ.z B=some o→w.heap[B]?=some o)
    (hs:∀(i:Nat) (ob:Ob) (x:Nat×Nat×Nat),H2[i]?=some ob→ob.rw=true→ψ i=some x→ψ.z x.1=none) (hk:∀k,K k→ψ.z k=none):Inv K w0 ψ H2 w:=by
  refine ⟨?_,?_,?_,hF.keep,hF.klt,hF.size,hF.os,hF.tape,hF.output,ht,hz,hs,hk⟩
  · intro i ob h1 h2
    obtain ⟨ob',k1,k2,_,k4,k5⟩:=hv i ob h1 h2
    obtain ⟨B,base,tot,q1,q2⟩:=hF.obs _ ob' k1 k2
    exact ⟨B,base,tot,k4.trans q1,k5 _ _ _ q2⟩
  · intro i i' ob ob' x y hne h1 h1' hrw hl hx hy
    obtain ⟨o1,k1,k2,k3,k4,_⟩:=hv i ob h1 (Ob.live_of_rw hrw)
    obtain ⟨o2,l1,l2,_,l4,_⟩:=hv i' ob' h1' hl
    exact hF.sep _ _ o1 o2 x y (fun he=>hne (hi i i' ob ob' h1 h1' (Ob.live_of_rw hrw) hl he)) k1 l1 (k3 hrw) l2 (k4 ▸ hx) (l4 ▸ hy)
  · intro i ob x h1 hrw hx
    obtain ⟨o1,k1,_,k3,k4,_⟩:=hv i ob h1 (Ob.live_of_rw hrw)
    exact hF.prot _ o1 x k1 (k3 hrw) (k4 ▸ hx)
theorem zF_frz (hF:Inv K w0 φ X w)(m:Nat):∀B o,zF φ X m w B=some o→w.heap[B]?=some o:=by
  intro B o hB
  unfold zF at hB
  split at hB
  · exact hB
  · exact hF.frz B o hB
theorem zF_sep (hF:Inv K w0 φ X w) {m b:Nat}{ob:Ob}{x:Nat×Nat×Nat}(h1:b<m) (h2:X[b]?=some ob) (hrw:ob.rw=true) (hx2:φ b=some x):zF φ X m w x.1=none:=by
  unfold zF
  rw [if_neg]
  · exact hF.zsep b ob x h2 hrw hx2
  · rintro ⟨b',ob',x',k1,k2,k3,k4,k5⟩
    exact hF.sep b b' ob ob' x x' (by omega) h2 k2 hrw (Ob.live_of_rw k3) hx2 k4 k5.symm
theorem VRs.picks {tm:Array Value}:∀(pk:List Nat) (vs:List Value) (T:List Value),VRs ψ T.toArray tm→VRl ψ vs (pk.map fun i=>tm.getD i undef)→vs.all (fun v=>notU v)=true→VRs ψ (sets T (pk.zip vs)).toArray tm:=by
  intro pk
  induction pk with
  | nil=>intro vs T h _ _;cases vs<;>exact h
  | cons i r ih =>
    intro vs T h hv hall
    cases hv with
    | cons h1' h2' =>
      rename_i v vs'
      simp only [List.all_cons,Bool.and_eq_true]at hall
      refine ih vs' _ ?_ h2' hall.2
      rcases Nat.lt_or_ge i tm.size with hi | hi
      · have e:tm=tm.setIfInBounds i (tm.getD i undef):=by
          apply Array.ext_getElem?
          intro q
          rw [Array.getElem?_setIfInBounds]
          split
          · rename_i hq
            subst hq
            first
            | (rw [Array.getElem?_eq_getElem hi];rfl)
            | (rw [if_pos hi,Array.getD_eq_getD_getElem?,Array.getElem?_eq_getElem hi];rfl)
          · rfl
        rw [lset_eq]
        have:=h.set h1' i
        rw [← e]at this
        exact this
      · have hT:T.length≤i:=by have:=h.size;simp at this;omega
        have e:lset T i v=T:=by rw [lset_set,List.set_eq_of_length_le hT]
        rw [e];exact h
theorem VRs.lo {LL:List Value}{N:Nat}{tm:Array Value}(hl:LL.length=N) (h:VRs φ LL.toArray tm):VRs ψ (junkF N (LL.map Go.Gi.lo)).toArray tm:=by
  rw [junkF_eq (by simpa using hl)]
  intro i
  have hVi:=h i
  rw [List.getElem?_toArray]at hVi ⊢
  rw [List.getElem?_map]
  generalize LL[i]?=q at hVi
  generalize tm[i]?=q' at hVi ⊢
  cases hVi with
  | none=>exact .none
  | some h=>exact .some (cl_vr h)
end
def obCells:Ob→Option (List Value)
  | .cells ⟨c⟩ false=>some c
  | .loop _ _ ⟨t⟩ _ _ _ _=>some t
  | _=>none
def obPut:Ob→List Value→Ob
  | .cells _ r,c=>.cells ⟨c⟩ r
  | .loop st pend _ ps asn bd d,c=>.loop st pend ⟨c⟩ ps asn bd d
  | ob,_=>ob
theorem obPut_cells {ob:Ob}{cq:List Value}(h:obCells ob=some cq) (c:List Value):obCells (obPut ob c)=some c:=by
  unfold obCells at h
  split at h
  · rfl
  · rfl
  · cases h
theorem obPut_live {ob:Ob}{cq:List Value}(h:obCells ob=some cq):ob.live=true∧ob.rw=true∧∀c,(obPut ob c).live=true∧(obPut ob c).rw=true:=by
  unfold obCells at h
  split at h
  · exact ⟨rfl,rfl,fun c=>⟨rfl,rfl⟩⟩
  · exact ⟨rfl,rfl,fun c=>⟨rfl,rfl⟩⟩
  · cases h
theorem obPut_same {o1 o2:Ob}{c1 c2 x1 x2:List Value}(h1:obCells o1=some c1) (h2:obCells o2=some c2) (h:obPut o1 x1=obPut o2 x2):x1=x2∧∀z,obPut o1 z=obPut o2 z:=by
  unfold obCells at h1 h2
  split at h1
  · split at h2
    · simp only [obPut,Ob.cells.injEq,Array.mk.injEq,and_true]at h
      exact ⟨h,fun z=>rfl⟩
    · simp [obPut]at h
    · cases h2
  · split at h2
    · simp [obPut]at h
    · simp only [obPut,Ob.loop.injEq,Array.mk.injEq]at h
      obtain ⟨a1,a2,a3,a4,a5,a6,a7⟩:=h
      refine ⟨a3,fun z=>?_⟩
      simp only [obPut,a1,a2,a4,a5,a6,a7]
    · cases h2
  · cases h1
theorem obPut_self {ob:Ob}{cq:List Value}(h:obCells ob=some cq):obPut ob cq=ob:=by
  unfold obCells at h
  split at h
  · simp only [Option.some.injEq]at h;subst h;rfl
  · simp only [Option.some.injEq]at h;subst h;rfl
  · cases h
section
variable {φ ψ:Phi}{w:World}{B base tot n:Nat}
theorem obR_put {ob:Ob}{cq c2:List Value}(h:obCells ob=some cq) (hl:c2.length=cq.length) (hc:∀(k:Nat) (u u2:Value),cq[k]?=some u→c2[k]?=some u2→∀v',VR φ u v'→VR ψ u2 v') (hle:le (cut φ n) ψ)
    (hs:∃z,obSc n (obPut ob z)=true) (hr:ObR φ w ob B base tot):ObR ψ w (obPut ob c2) B base tot:=by
  unfold obCells at h
  split at h
  · rename_i c
    simp only [Option.some.injEq]at h;subst h
    obtain ⟨C,el,fr,r1,r2,r3⟩:=hr
    refine ⟨C,el,fr,r1,fun k u hu=>?_,fun hh=>?_⟩
    · simp only [List.getElem?_toArray]at hu
      have hk:k<c.length:=by have:=lt_of_get hu;omega
      obtain ⟨v',r4,r5⟩:=r2 k c[k] (by rw [List.getElem?_toArray];exact List.getElem?_eq_getElem hk)
      exact ⟨v',r4,hc k _ u (List.getElem?_eq_getElem hk) hu v' r5⟩
    · have:=r3 hh
      simp only [List.size_toArray]at this ⊢
      rw [hl];exact this
  · rename_i st pend c ps asn bd d
    simp only [Option.some.injEq]at h;subst h
    obtain ⟨r0,fn,tm,D,r1,r2,td,r3⟩:=hr
    refine ⟨r0,fn,tm,D,r1,fun k=>?_,td,hle.fn _ _ ?_⟩
    · have hk:=r2 k
      rw [List.getElem?_toArray]at hk ⊢
      rcases Nat.lt_or_ge k c.length with h1 | h1
      · have e1:c[k]?=some c[k]:=List.getElem?_eq_getElem h1
        have e2:c2[k]?=some (c2[k]'(by omega)):=List.getElem?_eq_getElem (by omega)
        rw [e1]at hk
        rw [e2]
        generalize tm[k]?=y at hk
        cases hk with
        | some hv=>exact .some (hc k _ _ e1 e2 _ hv)
      · rw [List.getElem?_eq_none h1]at hk
        rw [List.getElem?_eq_none (by omega)]
        generalize tm[k]?=y at hk
        cases hk;exact .none
    · obtain ⟨z,hs⟩:=hs
      simp only [obPut,obSc,Bool.and_eq_true,decide_eq_true_eq]at hs
      exact (cut_lt hs.2).trans r3
  · cases h
end
theorem obCells_sc {ob:Ob}{cq:List Value}{n k:Nat} {u v':Value} {φ:Phi}(h:obCells ob=some cq) (hs:obSc n ob=true) (hu:cq[k]?=some u) (hv:VR φ u v'):VR (cut φ n) u v':=by
  unfold obCells at h
  split at h
  · simp only [Option.some.injEq]at h;subst h
    simp only [obSc,List.all_eq_true]at hs
    exact sc1_cut (hs u (List.mem_of_getElem? hu)) hv
  · simp only [Option.some.injEq]at h;subst h
    simp only [obSc,Bool.and_eq_true,List.all_eq_true]at hs
    exact scT_cut (hs.1 u (List.mem_of_getElem? hu)) hv
  · cases h
inductive Fgl:List Value→List Value→Prop
  | nil:Fgl [] []
  | same {v:Value} {l l':List Value} (h:Fgl l l'):Fgl (v::l) (v::l')
  | lo {v u:Value} {l l':List Value} (e:Go.Gi.lo v=u) (h:Fgl l l'):Fgl (v::l) (u::l')
theorem Fgl.get {φ:Phi} {l l':List Value}(h:Fgl l l'):∀{x:Array Value},VRs φ l.toArray x→VRs φ l'.toArray x:=by
  have key:∀{l l':List Value},Fgl l l'→∀i:Nat,OR (fun v u=>∀x,VR φ v x→VR φ u x) l[i]? l'[i]?:=by
    intro l l' h
    induction h with
    | nil=>intro i;simp;exact .none
    | same _ ih =>
      intro i
      cases i with
      | zero=>simp only [List.getElem?_cons_zero];exact .some fun x h=>h
      | succ i=>simpa using ih i
    | lo e _ ih =>
      intro i
      cases i with
      | zero=>simp only [List.getElem?_cons_zero];exact .some fun x h=>e ▸ cl_vr h
      | succ i=>simpa using ih i
  intro x hx i
  have h1:=key h i
  have h2:=hx i
  rw [List.getElem?_toArray]at h2 ⊢
  generalize l[i]?=a at h1 h2
  generalize l'[i]?=b at h1 ⊢
  generalize x[i]?=y at h2 ⊢
  cases h1 with
  | none=>cases h2;exact .none
  | some h3=>cases h2 with
    | some h4=>exact .some (h3 _ h4)
inductive Forgets:List Ob→List Ob→Prop
  | nil:Forgets [] []
  | same {o:Ob} {l l':List Ob} (h:Forgets l l'):Forgets (o::l) (o::l')
  | loop {st:LoopState} {pend:Option Code} {t t':List Value} {ps:Array Tmp} {asn bd:Code} {d:Nat} {l l':List Ob} (e:Fgl t t') (h:Forgets l l'):Forgets (.loop st pend ⟨t⟩ ps asn bd d::l) (.loop st pend ⟨t'⟩ ps asn bd d::l')
theorem Forgets.len {H' H:List Ob}(h:Forgets H' H):H'.length=H.length:=by
  induction h with
  | nil=>rfl
  | same _ ih=>simp [ih]
  | loop _ _ ih=>simp [ih]
theorem Forgets.refl:∀H:List Ob,Forgets H H
  | []=>.nil
  | _::r=>.same (Forgets.refl r)
theorem Forgets.get {H' H:List Ob}(h:Forgets H' H):∀(i:Nat) (ob:Ob),H[i]?=some ob→∃ob',H'[i]?=some ob'∧ob'.live=ob.live∧ob'.rw=ob.rw∧(ob.rw=false→ob'=ob)∧∀(φ:Phi) (w:World) (B base tot:Nat),ObR φ w ob' B base tot→ObR φ w ob B base tot:=by
  induction h with
  | nil=>intro i ob h;simp at h
  | same _ ih =>
    intro i ob hi
    cases i with
    | zero=>simp only [List.getElem?_cons_zero,Option.some.injEq]at hi;subst hi;exact ⟨_,rfl,rfl,rfl,fun _=>rfl,fun _ _ _ _ _ h=>h⟩
    | succ i=>exact ih i ob (by simpa using hi)
  | loop e _ ih =>
    intro i ob hi
    cases i with
    | zero =>
      simp only [List.getElem?_cons_zero,Option.some.injEq]at hi;subst hi
      refine ⟨_,rfl,rfl,rfl,fun h=>(by cases h),?_⟩
      rintro φ w B base tot ⟨r0,fn,tm,D,r1,r2,r3⟩
      exact ⟨r0,fn,tm,D,r1,e.get r2,r3⟩
    | succ i=>exact ih i ob (by simpa using hi)
theorem Forgets.inv {K:Nat→Prop}{w0 w:World} {φ:Phi} {H' H:List Ob}(h:Forgets H' H) (hI:Inv K w0 φ H' w):Inv K w0 φ H w:=by
  refine hI.view (κ:=id) (fun i ob hi hl=>?_) (fun i i' _ _ _ _ _ _ h=>h) (fun i hi=>hI.top i (by rw [h.len];exact hi)) hI.frz (fun i ob x hi hrw hx=>?_) hI.zk
  · obtain ⟨ob',h1,h2,h3,_,h4⟩:=h.get i ob hi
    exact ⟨ob',h1,h2.trans hl,fun h=>h3.trans h,rfl,fun B base tot hr=>h4 φ w B base tot hr⟩
  · obtain ⟨ob',h1,h2,h3,_,h4⟩:=h.get i ob hi
    exact hI.zsep i ob' x h1 (h3.trans hrw) hx
theorem Forgets.ro {H' H:List Ob}{b:Nat}{ob:Ob}(h:Forgets H' H) (hr:ob.rw=false) (hb:H[b]?=some ob):H'[b]?=some ob:=by
  obtain ⟨ob',h1,_,_,h4,_⟩:=h.get b ob hb
  rw [h1,h4 hr]
def gB:List Nat→List Ob→Bool
  | [],_=>true
  | b::r,H=>(match nthO H b with | some (.cells a false)=>allFz a | _=>false)&&gB r H
def gC (H:List Ob)(k:Option Out):List Nat→Option Out
  | []=>k
  | b::r=>match nthO H b with
    | some (.cells a false)=>cond (allFz a) (gC H k r) none
    | _=>none
theorem gC_ok {H:List Ob}{k:Option Out}{o:Out}:∀{Bs:List Nat},gC H k Bs=some o→gB Bs H=true∧k=some o
  | [],h=>⟨rfl,h⟩
  | b::r,h=>by
    unfold gC at h
    unfold gB
    split at h
    · rename_i a hb
      obtain ⟨h1,h2⟩:=cond_some h
      obtain ⟨h3,h4⟩:=gC_ok h2
      exact ⟨by rw [h1,h3];rfl,h4⟩
    · cases h
section
variable {X D:Type}
structure LoopS (X D:Type) where
  c:Code
  N:Nat
  M:Nat
  S:List Nat
  Bs:List Nat
  q:Option (Nat×Nat)
  sz:Nat
  z:Nat
  sl:X→List Value
  hp:X→Value→List Ob
  own:X→Option (Array Value×Nat)
  ex:D→Ex
  pick:Ex→List Nat
  dv:D→List Value
  dh:D→List Ob
def LoopS.ownB (L:LoopS X D)(x:X):List Ob:=match L.own x with
  | none=>[]
  | some (a,_)=>[.cells a false]
def LoopS.ownV (L:LoopS X D)(x:X):Value:=match L.own x with
  | none=>.slice none 0 0
  | some (_,l)=>.slice (some ⟨L.M,0,none⟩) l L.sz
def LoopS.H (L:LoopS X D)(x:X):List Ob:=L.hp x (L.ownV x)++L.ownB x
def LoopS.good (L:LoopS X D)(x:X):Prop:=gB L.Bs (L.hp x (L.ownV x))=true∧∀a l,L.own x=some (a,l)→allFz a=true
def LoopS.encS (L:LoopS X D):Sum X D→Out
  | .inl x=>.ex .normal ⟨L.sl x,[],⟨L.H x,L.N,[]⟩⟩
  | .inr d=>.ex (L.ex d) ⟨L.dv d,[],⟨L.dh d,L.N,[]⟩⟩
def LoopS.headS (L:LoopS X D)(x:X)(j:List Value):Task:=.code none L.c ⟨sets (junkF L.N j) (L.S.zip (L.sl x)),[],⟨L.H x,0,[]⟩⟩
def LoopS.tailS (L:LoopS X D)(x:X)(d:D)(j:List Value):Out:=.ex (L.ex d) ⟨sets (junkF L.N j) ((L.pick (L.ex d)).zip (L.dv d)),[],⟨L.dh d++List.replicate (L.ownB x).length .dead,0,[]⟩⟩
def kS (N M:Nat)(S:List Nat)(pick:Ex→List Nat)(Bs:List Nat)(z:Nat)(q:Option (Nat×Nat)):Kn
  | .ex e s=>match s.d,lenIs s.t N with
    | [],true=>(match e with
      | .normal=>(match q with
        | none=>gC (s.h.bl.take M) (some (.ex .normal ⟨S.map (lget s.t),[],⟨s.h.bl.take M,N,s.h.wr⟩⟩)) Bs
        | some (q,j)=>(match nthO s.h.bl q with
          | some ob=>(match obCells ob with
            | some cq=>(match lget cq j with
              | .slice none 0 0=>gC (s.h.bl.take M) (some (.ex .normal ⟨S.map (lget s.t),[],⟨s.h.bl.take M,N,s.h.wr⟩⟩)) Bs
              | .slice (some ⟨b,0,none⟩) l zz=>(match Nat.ble M b,nthO s.h.bl b with
                | true,some (.cells a false)=>cond (allFz a) (gC ((s.h.bl.take M).set q (obPut ob (lset cq j (.slice (some ⟨M,0,none⟩) l zz)))) (some (.ex .normal ⟨S.map (lget s.t),[],⟨(s.h.bl.take M).set q (obPut ob (lset cq j (.slice (some ⟨M,0,none⟩) l zz)))++[.cells a false],N,s.h.wr⟩⟩)) Bs) none
                | _,_=>none)
              | _=>none)
            | _=>none)
          | _=>none))
      | e=>(match q with
        | none=>gC (s.h.bl.take M) (some (.ex e ⟨(pick e).map (lget s.t),[],⟨s.h.bl.take M,N,s.h.wr⟩⟩)) Bs
        | some (q,j)=>(match nthO s.h.bl q with
          | some ob=>(match obCells ob with
            | some cq=>frzG M z s.h.bl [lget cq j] fun us=>frzG M z s.h.bl ((pick e).map (lget s.t)) fun vs =>
                gC ((s.h.bl.take M).set q (obPut ob (lset cq j (us.headD undef)))) (some (.ex e ⟨vs,[],⟨(s.h.bl.take M).set q (obPut ob (lset cq j (us.headD undef))),N,s.h.wr⟩⟩)) Bs
            | _=>none)
          | _=>none)))
    | _,_=>none
  | _=>none
structure LoopS.OkS (L:LoopS X D):Prop where
  s2:∀x,(L.sl x).all (fun v=>notU v&&scT L.M v)=true
  s1:∀x,(L.sl x).length=L.S.length
  h1:∀x v,(L.hp x v).length=L.M
  h2:∀x,gB L.Bs (L.hp x (.slice none 0 0))=true→(L.hp x (.slice none 0 0)).all (boxD L.M)=true
  h3:∀x v,match L.q with
    | none=>L.hp x v=L.hp x (.slice none 0 0)
    | some (q,j)=>∃(ob0:Ob) (cs:List Value),(L.hp x (.slice none 0 0))[q]?=some ob0∧obCells ob0=some cs∧j<cs.length∧L.hp x v=(L.hp x (.slice none 0 0)).set q (obPut ob0 (cs.set j v))
  h4:∀x v,gB L.Bs (L.hp x v)=gB L.Bs (L.hp x (.slice none 0 0))
  qM:∀q j,L.q=some (q,j)→q<L.M
  d1:∀d,(L.dv d).all (fun v=>notU v&&scT L.M v)=true
  d2:∀d,(L.dh d).length=L.M
  d3:∀d,gB L.Bs (L.dh d)=true→(L.dh d).all (boxD L.M)=true
  e1:∀d,L.ex d≠.normal
  e2:∀d,noPanic (L.ex d)=true
  e3:∀d,(L.pick (L.ex d)).length=(L.dv d).length
  nd:L.S.Nodup
  lt:∀k∈L.S,k<L.N
theorem LoopS.own_cases {L:LoopS X D}(x:X):(L.own x=none∧L.ownB x=[]∧L.ownV x=.slice none 0 0)∨∃a l,L.own x=some (a,l)∧L.ownB x=[.cells a false]∧L.ownV x=.slice (some ⟨L.M,0,none⟩) l L.sz:=by
  unfold LoopS.ownB LoopS.ownV
  cases h:L.own x with
  | none=>exact .inl ⟨rfl,rfl,rfl⟩
  | some al=>obtain ⟨a,l⟩:=al;exact .inr ⟨a,l,rfl,rfl,rfl⟩
theorem all_boxD {m:Nat}{H:List Ob}(h:H.all (boxD m)=true) {i:Nat}{ob:Ob}(hi:H[i]?=some ob):boxD m ob=true:=by
  rw [List.all_eq_true]at h
  exact h ob (List.mem_of_getElem? hi)
def turnP (φ:Phi)(M b:Nat)(o:Bool):Phi:=⟨fun i=>if i<M then φ i else if i=M∧o=true then φ b else none,φ.z⟩
theorem turn_le {φ:Phi}{M b:Nat}{o:Bool}:le (cut φ M) (turnP φ M b o):=by
  refine ⟨fun i y hi=>?_,fun B o hB=>hB⟩
  rcases Nat.lt_or_ge i M with h | h
  · rw [cut_lt h]at hi
    show (if i<M then φ i else _)=some y
    rw [if_pos h];exact hi
  · rw [cut_ge h]at hi;cases hi
theorem take_get {bl H1:List Ob}{M:Nat}(h:bl.take M=H1) {b:Nat}{ob:Ob}(hb:H1[b]?=some ob):b<M∧bl[b]?=some ob:=by
  rw [← h,List.getElem?_take]at hb
  split at hb
  · exact ⟨by assumption,hb⟩
  · cases hb
theorem LoopS.same {L:LoopS X D}(ok:L.OkS) {x:X}{bl:List Ob}(ho:L.own x=none) (e:bl.take L.M=L.H x) (hg:gB L.Bs (bl.take L.M)=true) :
    L.good x∧∀(K:Nat→Prop) (w0:World) (φ:Phi) (w:World),Inv K w0 φ bl w→Inv K w0 (turnP φ L.M 0 false) (L.H x) w:=by
  have hV:L.ownV x=.slice none 0 0:=by unfold LoopS.ownV;rw [ho]
  have hB:L.ownB x=[]:=by unfold LoopS.ownB;rw [ho]
  have hH:L.H x=L.hp x (.slice none 0 0):=by unfold LoopS.H;rw [hV,hB,List.append_nil]
  have hgb:gB L.Bs (L.hp x (.slice none 0 0))=true:=by rw [← hH,← e];exact hg
  have hbox:=ok.h2 x hgb
  refine ⟨⟨by rw [hV];exact hgb,fun a l h=>by rw [ho]at h;cases h⟩,fun K w0 φ w hF=>?_⟩
  rw [hH]at e ⊢
  refine hF.view (κ:=id) (fun i ob hi hl=>?_) (fun i i' _ _ _ _ _ _ h=>h) (fun i hi=>?_) hF.frz (fun i ob y hi hrw hy=>?_) hF.zk
  · obtain ⟨k1,k2⟩:=take_get e hi
    refine ⟨ob,k2,hl,fun h=>h,if_pos k1,fun B base tot hr=>?_⟩
    exact (obSc_cut (boxD_live (all_boxD hbox hi) hl).2 hr).keep turn_le rfl
  · rw [ok.h1]at hi
    show (if i<L.M then _ else if i=L.M∧false=true then _ else none)=none
    rw [if_neg (by omega),if_neg (by simp)]
  · obtain ⟨k1,k2⟩:=take_get e hi
    have hy':(if i<L.M then φ i else if i=L.M∧false=true then φ 0 else none)=some y:=hy
    rw [if_pos k1]at hy'
    exact hF.zsep i ob y k2 hrw hy'
theorem LoopS.turn {L:LoopS X D}(ok:L.OkS) {e:Ex}{LL:List Value}{bl:List Ob}{b1:Nat}{wr:List Nat}{x:X}
    (h:kS L.N L.M L.S L.pick L.Bs L.z L.q (.ex e ⟨LL,[],⟨bl,b1,wr⟩⟩)=some (L.encS (.inl x))) :
    e=.normal∧LL.length=L.N∧L.good x∧L.S.map (lget LL)=L.sl x∧∃b o,∀(K:Nat→Prop) (w0:World) (φ:Phi) (w:World),Inv K w0 φ bl w→Inv K w0 (turnP φ L.M b o) (L.H x) w:=by
  unfold kS at h
  simp only at h
  split at h
  case h_2=>cases h
  rename_i hlen
  have k4:=lenIs_eq _ _ hlen
  have nil:∀{k:Option Out},gC (bl.take L.M) (some (.ex .normal ⟨L.S.map (lget LL),[],⟨bl.take L.M,L.N,wr⟩⟩)) L.Bs=some (L.encS (.inl x)) →
      L.good x∧L.S.map (lget LL)=L.sl x∧∃b o,∀(K:Nat→Prop) (w0:World) (φ:Phi) (w:World),Inv K w0 φ bl w→Inv K w0 (turnP φ L.M b o) (L.H x) w:=by
    intro _ h
    obtain ⟨g1,g2⟩:=gC_ok h
    simp only [LoopS.encS,Option.some.injEq,Out.ex.injEq,St.mk.injEq,Hp.mk.injEq,true_and]at g2
    obtain ⟨q1,q2,_⟩:=g2
    have ho:L.own x=none:=by
      rcases LoopS.own_cases (L:=L) x with ⟨p1,_,_⟩ | ⟨a,l,p1,p2,_⟩
      · exact p1
      · have:=congrArg List.length q2
        unfold LoopS.H at this
        rw [List.length_append,ok.h1,p2,List.length_take]at this
        simp only [List.length_cons,List.length_nil]at this
        omega
    obtain ⟨s1,s2⟩:=LoopS.same ok ho q2 g1
    exact ⟨s1,q1,0,false,s2⟩
  split at h
  · split at h
    · exact ⟨rfl,k4,nil (k:=none) h⟩
    · rename_i q j hq
      split at h
      case h_2=>cases h
      rename_i obq hobq
      rw [nthO_eq]at hobq
      split at h
      case h_2=>cases h
      rename_i cq hcq
      split at h
      · exact ⟨rfl,k4,nil (k:=none) h⟩
      · rename_i b l zz hsl
        split at h
        case h_2=>cases h
        rename_i a hmb hX
        rw [nthO_eq]at hX
        have hMb:=Nat.le_of_ble_eq_true hmb
        obtain ⟨ha,h⟩:=cond_some h
        obtain ⟨g1,g2⟩:=gC_ok h
        simp only [LoopS.encS,Option.some.injEq,Out.ex.injEq,St.mk.injEq,Hp.mk.injEq,true_and]at g2
        obtain ⟨q1,q2,_⟩:=g2
        have hqM:=ok.qM q j hq
        have hblM:L.M≤bl.length:=by have:=lt_of_get hX;omega
        have hlen2:((bl.take L.M).set q (obPut obq (lset cq j (.slice (some ⟨L.M,0,none⟩) l zz)))).length=(L.hp x (L.ownV x)).length:=by
          rw [List.length_set,List.length_take,ok.h1];omega
        obtain ⟨q3,q4⟩:=List.append_inj (show _++_=L.hp x (L.ownV x)++L.ownB x from q2) hlen2
        rcases LoopS.own_cases (L:=L) x with ⟨p1,p2,p3⟩ | ⟨a2,l2,p1,p2,p3⟩
        · rw [p2]at q4;cases q4
        · rw [p2]at q4
          simp only [List.cons.injEq,Ob.cells.injEq,and_true]at q4
          subst q4
          have h3:=ok.h3 x (L.ownV x)
          rw [hq]at h3
          obtain ⟨ob0,cs,c1,c0,c2,c3⟩:=h3
          rw [c3]at q3
          have hqlt:q<(bl.take L.M).length:=by rw [List.length_take];omega
          have hqn:q<(L.hp x (.slice none 0 0)).length:=by rw [ok.h1];exact hqM
          have e0:=congrArg (fun z=>z[q]?) q3
          simp only [List.getElem?_set_self hqlt,List.getElem?_set_self hqn,Option.some.injEq]at e0
          obtain ⟨e1,e6⟩:=obPut_same hcq c0 e0
          have e2:∀i,i≠q→i<L.M→bl[i]?=(L.hp x (.slice none 0 0))[i]?:=by
            intro i hi him
            have:=congrArg (fun z=>z[i]?) q3
            simp only [List.getElem?_set_ne (Ne.symm hi)]at this
            rw [← this,List.getElem?_take,if_pos him]
          rw [lset_set]at e1
          have e3:cq.length=cs.length:=by
            have:=congrArg List.length e1
            simpa using this
          have e4:L.ownV x=.slice (some ⟨L.M,0,none⟩) l zz:=by
            have:=congrArg (fun z=>z[j]?) e1
            simp only [List.getElem?_set_self (show j<cq.length by omega),List.getElem?_set_self c2,Option.some.injEq]at this
            exact this.symm
          have e5:∀k,k≠j→cq[k]?=cs[k]?:=by
            intro k hk
            have:=congrArg (fun z=>z[k]?) e1
            simpa only [List.getElem?_set_ne (Ne.symm hk)] using this
          have hgb:gB L.Bs (L.hp x (L.ownV x))=true:=by rw [c3,← q3];exact g1
          have hgb0:gB L.Bs (L.hp x (.slice none 0 0))=true:=by rw [← ok.h4 x (L.ownV x)];exact hgb
          have hbox:=ok.h2 x hgb0
          refine ⟨rfl,k4,⟨hgb,fun a' l' h'=>by rw [p1]at h';simp only [Option.some.injEq,Prod.mk.injEq]at h';rw [← h'.1];exact ha⟩,q1,b,true,fun K w0 φ w hF=>?_⟩
          have hsl':cq[j]?=some (.slice (some ⟨b,0,none⟩) l zz):=getElem_of_lget hsl rfl
          have hHget:∀{i:Nat} {ob:Ob},(L.H x)[i]?=some ob→(i<L.M∧(L.hp x (L.ownV x))[i]?=some ob)∨(i=L.M∧ob=.cells a false):=by
            intro i ob hi
            unfold LoopS.H at hi
            rcases get_app hi with ⟨h1,h2⟩ | ⟨h1,h2⟩
            · exact .inl ⟨by rwa [ok.h1]at h1,h2⟩
            · rw [ok.h1]at h1 h2
              rw [p2,List.getElem?_singleton]at h2
              split at h2
              · simp only [Option.some.injEq]at h2
                exact .inr ⟨by omega,h2.symm⟩
              · cases h2
          have hlt:∀{i:Nat},i<L.M→turnP φ L.M b true i=φ i:=fun h=>if_pos h
          have hM:turnP φ L.M b true L.M=φ b:=by
            show (if L.M<L.M then _ else if L.M=L.M∧true=true then φ b else none)=φ b
            rw [if_neg (by omega),if_pos ⟨rfl,rfl⟩]
          have hback:∀{i:Nat} {ob:Ob},(L.H x)[i]?=some ob→ob.live=true→∃ob',bl[if i=L.M then b else i]?=some ob'∧ob'.live=true∧(ob.rw=true→ob'.rw=true)∧turnP φ L.M b true i=φ (if i=L.M then b else i)∧∀B base tot,ObR φ w ob' B base tot→ObR (turnP φ L.M b true) w ob B base tot:=by
            intro i ob hi hl
            rcases hHget hi with ⟨hiM,h2⟩ | ⟨rfl,rfl⟩
            · rw [if_neg (by omega),hlt hiM]
              rw [c3]at h2
              by_cases hiq:i=q
              · subst hiq
                rw [List.getElem?_set_self hqn,Option.some.injEq]at h2
                subst h2
                have hsc:=(boxD_live (all_boxD hbox c1) (obPut_live c0).1).2
                refine ⟨obq,hobq,(obPut_live hcq).1,fun _=>(obPut_live hcq).2.1,rfl,fun B base tot hr=>?_⟩
                rw [← e6]
                refine obR_put (n:=L.M) hcq (by rw [List.length_set,e3]) (fun k u u2 hu hu2 v' hv=>?_) turn_le ⟨cs,by rw [e6,obPut_self c0];exact hsc⟩ hr
                by_cases hkj:k=j
                · subst hkj
                  rw [List.getElem?_set_self c2,Option.some.injEq]at hu2
                  subst hu2
                  rw [hsl',Option.some.injEq]at hu
                  subst hu
                  rw [e4]
                  cases hv with
                  | sliceZ hp' a2 c2'=>exact .sliceZ (a:=⟨L.M,0,none⟩) (hM.trans hp') a2 _
                  | slice hp' hl' hc'=>exact .slice (hM.trans hp') hl' hc'
                · rw [List.getElem?_set_ne (Ne.symm hkj),← e5 k hkj,hu,Option.some.injEq]at hu2
                  subst hu2
                  exact (obCells_sc c0 hsc (by rw [← e5 k hkj];exact hu) hv).mono turn_le
              · rw [List.getElem?_set_ne (Ne.symm hiq)]at h2
                have h2':=h2
                rw [← e2 i hiq hiM]at h2'
                refine ⟨ob,h2',hl,fun h=>h,rfl,fun B base tot hr=>?_⟩
                exact (obSc_cut (boxD_live (all_boxD hbox h2) hl).2 hr).keep turn_le rfl
            · rw [if_pos rfl]
              refine ⟨_,hX,rfl,fun _=>rfl,hM,fun B base tot hr=>?_⟩
              refine (obSc_cut (own_sc ha L.M) hr).keep turn_le rfl
          refine hF.view (κ:=fun i=>if i=L.M then b else i) (fun i ob hi hl=>hback hi hl) (fun i i' ob ob' hi hi' hl hl' he=>?_) (fun i hi=>?_) hF.frz (fun i ob y hi hrw hy=>?_) hF.zk
          · have g1:i≤L.M:=by rcases hHget hi with ⟨h,_⟩ | ⟨h,_⟩<;>omega
            have g2:i'≤L.M:=by rcases hHget hi' with ⟨h,_⟩ | ⟨h,_⟩<;>omega
            split at he<;>split at he<;>omega
          · unfold LoopS.H at hi
            rw [List.length_append,ok.h1,p2]at hi
            simp only [List.length_cons,List.length_nil]at hi
            show (if i<L.M then _ else if i=L.M∧true=true then _ else none)=none
            rw [if_neg (by omega),if_neg (by omega)]
          · obtain ⟨ob',k1,k2,k3,k5,_⟩:=hback hi (Ob.live_of_rw hrw)
            rw [k5]at hy
            exact hF.zsep _ ob' y k1 (k3 hrw) hy
      · cases h
  · rename_i e' hne
    exfalso
    split at h
    · obtain ⟨_,g2⟩:=gC_ok h
      simp only [LoopS.encS,Option.some.injEq,Out.ex.injEq]at g2
      exact hne g2.1
    · split at h
      case h_2=>cases h
      split at h
      case h_2=>cases h
      obtain ⟨us,h1,_⟩:=frzG_all h
      obtain ⟨vs,h2,_⟩:=frzG_all h1
      obtain ⟨_,g2⟩:=gC_ok h2
      simp only [LoopS.encS,Option.some.injEq,Out.ex.injEq]at g2
      exact hne g2.1
def leaveP (φ φ0:Phi)(bl:List Ob)(M:Nat)(w:World):Phi:=⟨fun i=>if i<M then φ i else φ0 i,zF φ bl M w⟩
theorem LoopS.leave {L:LoopS X D}(ok:L.OkS) {e:Ex}{LL:List Value}{bl:List Ob}{b1:Nat}{wr:List Nat}{d:D}
    (h:kS L.N L.M L.S L.pick L.Bs L.z L.q (.ex e ⟨LL,[],⟨bl,b1,wr⟩⟩)=some (L.encS (.inr d))) :
    e=L.ex d∧LL.length=L.N∧gB L.Bs (L.dh d)=true∧∀(K:Nat→Prop) (w0:World) (φ φ0:Phi) (w:World) (tm:Array Value) (nb:Nat),Inv K w0 φ bl w→VRs φ LL.toArray tm→(∀i y,i<L.M→φ0 i=some y→φ i=some y)→(∀B o,φ0.z B=some o→φ.z B=some o)→(∀i,L.M+nb≤i→φ0 i=none) →
      ∃ψ,le φ0 ψ∧VRs ψ (sets (junkF L.N (LL.map lo)) ((L.pick (L.ex d)).zip (L.dv d))).toArray tm∧Inv K w0 ψ (L.dh d++List.replicate nb .dead) w:=by
  unfold kS at h
  simp only at h
  split at h
  case h_2=>cases h
  rename_i hlen
  have k4:=lenIs_eq _ _ hlen
  have hle0:∀{K:Nat→Prop} {w0:World} {φ φ0:Phi} {w:World},Inv K w0 φ bl w→(∀i y,i<L.M→φ0 i=some y→φ i=some y)→(∀B o,φ0.z B=some o→φ.z B=some o)→le φ0 (leaveP φ φ0 bl L.M w):=by
    intro K w0 φ φ0 w hF h1 h2
    refine ⟨fun i y hi=>?_,fun B o hB=>(zF_made hF L.M).le B o (h2 B o hB)⟩
    show (if i<L.M then φ i else φ0 i)=some y
    split
    · rename_i h;exact h1 i y h hi
    · exact hi
  have hcut:∀{K:Nat→Prop} {w0:World} {φ φ0:Phi} {w:World},Inv K w0 φ bl w→le (cut φ L.M) (leaveP φ φ0 bl L.M w):=by
    intro K w0 φ φ0 w hF
    refine ⟨fun i y hi=>?_,fun B o hB=>(zF_made hF L.M).le B o hB⟩
    rcases Nat.lt_or_ge i L.M with h | h
    · rw [cut_lt h]at hi
      show (if i<L.M then φ i else φ0 i)=some y
      rw [if_pos h];exact hi
    · rw [cut_ge h]at hi;cases hi
  have fin:∀{K:Nat→Prop} {w0:World} {φ φ0:Phi} {w:World} {nb:Nat},Inv K w0 φ bl w→(∀i,L.M+nb≤i→φ0 i=none)→gB L.Bs (L.dh d)=true →
      (∀(i:Nat) (ob:Ob),(L.dh d)[i]?=some ob→ob.live=true→i<L.M∧∃ob',bl[i]?=some ob'∧ob'.live=true∧(ob.rw=true→ob'.rw=true)∧(bl[i]?=some ob∨∀B base tot,ObR φ w ob' B base tot→ObR (leaveP φ φ0 bl L.M w) w ob B base tot)) →
      Inv K w0 (leaveP φ φ0 bl L.M w) (L.dh d++List.replicate nb .dead) w:=by
    intro K w0 φ φ0 w nb hF htop hg hv
    have hbox:=ok.d3 d hg
    have hget:∀{i:Nat} {ob:Ob},(L.dh d++List.replicate nb Ob.dead)[i]?=some ob→ob.live=true→(L.dh d)[i]?=some ob:=by
      intro i ob hi hl
      rcases get_app hi with ⟨_,h2⟩ | ⟨_,h2⟩
      · exact h2
      · rw [List.getElem?_replicate]at h2
        split at h2
        · simp only [Option.some.injEq]at h2;subst h2;cases hl
        · cases h2
    refine hF.view (κ:=id) (fun i ob hi hl=>?_) (fun i i' _ _ _ _ _ _ h=>h) (fun i hi=>?_) (zF_frz hF L.M) (fun i ob y hi hrw hy=>?_) (fun k hk=>zF_k hF L.M hk)
    · obtain ⟨hiM,ob',g1,g2,g3,g4⟩:=hv i ob (hget hi hl) hl
      refine ⟨ob',g1,g2,g3,if_pos hiM,fun B base tot hr=>?_⟩
      rcases g4 with g4 | g4
      · rw [g1,Option.some.injEq]at g4
        subst g4
        exact (obSc_cut (boxD_live (all_boxD hbox (hget hi hl)) hl).2 hr).keep (hcut hF) rfl
      · exact g4 B base tot hr
    · rw [List.length_append,ok.d2,List.length_replicate]at hi
      show (if i<L.M then φ i else φ0 i)=none
      rw [if_neg (by omega)]
      exact htop i hi
    · have hl:=Ob.live_of_rw hrw
      obtain ⟨hiM,ob',g1,g2,g3,_⟩:=hv i ob (hget hi hl) hl
      have hy':(if i<L.M then φ i else φ0 i)=some y:=hy
      rw [if_pos hiM]at hy'
      exact zF_sep hF hiM g1 (g3 hrw) hy'
  split at h
  · exfalso
    have no:∀{T:List Value} {H:List Ob} {wr:List Nat},¬(some (Out.ex .normal ⟨T,[],⟨H,L.N,wr⟩⟩)=some (L.encS (.inr d))):=by
      intro T H wr hh
      simp only [LoopS.encS,Option.some.injEq,Out.ex.injEq]at hh
      exact ok.e1 d hh.1.symm
    split at h
    · exact no (gC_ok h).2
    · split at h
      case h_2=>cases h
      split at h
      case h_2=>cases h
      split at h
      · exact no (gC_ok h).2
      · split at h
        case h_2=>cases h
        obtain ⟨_,h⟩:=cond_some h
        exact no (gC_ok h).2
      · cases h
  · rename_i e' hne
    split at h
    · obtain ⟨g1,g2⟩:=gC_ok h
      simp only [LoopS.encS,Option.some.injEq,Out.ex.injEq,St.mk.injEq,Hp.mk.injEq,true_and]at g2
      obtain ⟨rfl,q1,q2,_⟩:=g2
      refine ⟨rfl,k4,by rw [← q2];exact g1,fun K w0 φ φ0 w tm nb hF hV ha hz ht=>⟨leaveP φ φ0 bl L.M w,hle0 hF ha hz,?_,?_⟩⟩
      · have hs:SlotRs L.M LL (sets (junkF L.N (LL.map lo)) ((L.pick (L.ex d)).zip (L.dv d))):=by
          refine slotRs_known k4 fun kv hkv=>?_
          have hm:=ok.d1 d
          rw [List.all_eq_true]at hm
          have hm1:=hm _ (List.of_mem_zip hkv).2
          rw [Bool.and_eq_true]at hm1
          rw [← q1]at hkv
          have h5:=zip_get (show (kv.1,kv.2)∈(L.pick (L.ex d)).zip ((L.pick (L.ex d)).map (lget LL)) from hkv)
          exact ⟨getElem_of_lget h5.symm hm1.1,hm1.2⟩
        exact (hs.vrs hV).mono (hcut hF)
      · refine fin hF ht (by rw [← q2];exact g1) fun i ob hi hl=>?_
        obtain ⟨k1,k2⟩:=take_get q2 hi
        exact ⟨k1,ob,k2,hl,fun h=>h,.inl k2⟩
    · rename_i q j hq
      split at h
      case h_2=>cases h
      rename_i obq hobq
      rw [nthO_eq]at hobq
      split at h
      case h_2=>cases h
      rename_i cq hcq
      obtain ⟨us,h1,u1,u2⟩:=frzG_all h
      obtain ⟨vs,h2,v1,v2⟩:=frzG_all h1
      obtain ⟨g1,g2⟩:=gC_ok h2
      simp only [LoopS.encS,Option.some.injEq,Out.ex.injEq,St.mk.injEq,Hp.mk.injEq,true_and]at g2
      obtain ⟨rfl,q1,q2,_⟩:=g2
      have hqM:=ok.qM q j hq
      have hqb:q<(bl.take L.M).length:=by rw [List.length_take];have:=lt_of_get hobq;omega
      refine ⟨rfl,k4,by rw [← q2];exact g1,fun K w0 φ φ0 w tm nb hF hV ha hz ht=>⟨leaveP φ φ0 bl L.M w,hle0 hF ha hz,?_,?_⟩⟩
      · have hpick:VRl φ ((L.pick (L.ex d)).map (lget LL)) ((L.pick (L.ex d)).map (fun i=>tm.getD i undef)):=by
          generalize L.pick (L.ex d)=pk
          induction pk with
          | nil=>exact .nil
          | cons i r ih =>
            refine .cons ?_ ih
            have:=hV.getD i
            rw [← lget_eq]at this
            exact this
        obtain ⟨u,hu,hu2⟩:=frzG_ok (ψ:=leaveP φ φ0 bl L.M w) (zF_made hF L.M) (hcut hF) h1 hpick
        obtain ⟨_,g3⟩:=gC_ok hu2
        simp only [LoopS.encS,Option.some.injEq,Out.ex.injEq,St.mk.injEq,Hp.mk.injEq,true_and]at g3
        obtain ⟨rfl,_,_⟩:=g3
        refine VRs.picks _ _ _ (VRs.lo k4 hV) hu ?_
        have hm:=ok.d1 d
        rw [List.all_eq_true]at hm ⊢
        intro v hv
        have:=hm v hv
        rw [Bool.and_eq_true]at this
        exact this.1
      · refine fin hF ht (by rw [← q2];exact g1) fun i ob hi hl=>?_
        rw [← q2]at hi
        by_cases hiq:i=q
        · subst hiq
          rw [List.getElem?_set_self hqb,Option.some.injEq]at hi
          subst hi
          refine ⟨hqM,obq,hobq,(obPut_live hcq).1,fun _=>(obPut_live hcq).2.1,.inr fun B base tot hr=>?_⟩
          have hgd:gB L.Bs (L.dh d)=true:=by rw [← q2];exact g1
          have hget:(L.dh d)[i]?=some (obPut obq (lset cq j (us.headD undef))):=by rw [← q2,List.getElem?_set_self hqb]
          have hsc:=(boxD_live (all_boxD (ok.d3 d hgd) hget) ((obPut_live hcq).2.2 _).1).2
          have hput:=obPut_cells hcq (lset cq j (us.headD undef))
          refine obR_put (n:=L.M) hcq (by rw [lset_set,List.length_set]) (fun k u u2 hu hu2 v' hv=>?_) (hcut hF) ⟨_,hsc⟩ hr
          by_cases hkj:k=j
          · subst hkj
            have hlg:lget cq k=u:=by
              rw [lget_eq,Array.getD_eq_getD_getElem?,List.getElem?_toArray,hu];rfl
            obtain ⟨w1,hw,hw2⟩:=frzG_ok (ψ:=leaveP φ φ0 bl L.M w) (zF_made hF L.M) (hcut hF) h (show VRl φ [lget cq k] [v'] by rw [hlg];exact .cons hv .nil)
            obtain ⟨vs',h2',_,_⟩:=frzG_all hw2
            obtain ⟨_,g3⟩:=gC_ok h2'
            simp only [LoopS.encS,Option.some.injEq,Out.ex.injEq,St.mk.injEq,Hp.mk.injEq,true_and]at g3
            obtain ⟨_,g4,_⟩:=g3
            have e1:=congrArg (fun z=>z[i]?) (g4.trans q2.symm)
            simp only [List.getElem?_set_self hqb,Option.some.injEq]at e1
            obtain ⟨e1,_⟩:=obPut_same hcq hcq e1
            have e2:=congrArg (fun z=>z[k]?) e1
            have hkl:k<cq.length:=lt_of_get hu
            simp only [lset_set,List.getElem?_set_self hkl,Option.some.injEq]at e2
            rw [lset_set,List.getElem?_set_self hkl,Option.some.injEq]at hu2
            subst hu2
            rw [← e2]
            cases hw with
            | cons hw3 hw4=>cases hw4;exact hw3
          · rw [lset_set,List.getElem?_set_ne (Ne.symm hkj),hu,Option.some.injEq]at hu2
            subst hu2
            exact (obCells_sc hput hsc (by rw [lset_set,List.getElem?_set_ne (Ne.symm hkj)];exact hu) hv).mono (hcut hF)
        · rw [List.getElem?_set_ne (Ne.symm hiq)]at hi
          obtain ⟨k1,k2⟩:=take_get rfl hi
          exact ⟨k1,ob,k2,hl,fun h=>h,.inl k2⟩
section
variable {P:Program}(hN:NoNG P) (hm:P.follows .mixedOrders=true)
include hN hm
omit hN hm in
theorem told_slots {M N:Nat}{S:List Nat}{vs t:List Value}(ht:t.length=N) (hv:vs.all (fun v=>notU v&&scT M v)=true) (hS:∀kv∈S.zip vs,lget t kv.1=kv.2):SlotRs M t (sets (junkF N (t.map lo)) (S.zip vs)):=by
  refine slotRs_known ht fun kv hkv=>?_
  rw [List.all_eq_true]at hv
  have:=hv _ (List.of_mem_zip hkv).2
  rw [Bool.and_eq_true]at this
  exact ⟨getElem_of_lget (hS kv hkv) this.1,this.2⟩
theorem LoopS.sem {L:LoopS X D}(ok:L.OkS) {a:Ans}(hk:Known P a) {n:Nat}{rd:X→RT (Sum X D)}
    (hr:∀x j,L.good x→evC P a.c n (L.headS x j) (kS L.N L.M L.S L.pick L.Bs L.z L.q)=(rd x).out L.encS):∀{m:Nat} {x:X} {d:D},loopV rd m x=some d→L.good x →
    ∀{t:List Value},t.length=L.N→(∀kv∈L.S.zip (L.sl x),lget t kv.1=kv.2)→∃j,gB L.Bs (L.dh d)=true∧∀(K:Nat→Prop) (w0:World) (φ φ0:Phi) (w:World) (ac:Act) (F:Fence) (n:Nat) (nb:Nat),
      Inv K w0 φ (L.H x) w→VRs φ t.toArray ac.tmps→DRs φ [] ac.defers→FenceOk φ none F→(∀i y,i<L.M→φ0 i=some y→φ i=some y)→(∀B o,φ0.z B=some o→φ.z B=some o)→(∀i,L.M+nb≤i→φ0 i=none) →
      wpLoopIn F n P L.c (CodeR K w0 φ0 (L.ex d) ⟨sets (junkF L.N j) ((L.pick (L.ex d)).zip (L.dv d)),[],⟨L.dh d++List.replicate nb .dead,0,[]⟩⟩) ac w
  | 0,_,_,h,_,_,_,_=>by cases h
  | m+1,x,d,h,hx,t,ht,hS=>by
    have hev:∀{y:Sum X D},(rd x).val=some y→∃e LL bl b1 wr,Fact P (.code none L.c ⟨sets (junkF L.N (t.map lo)) (L.S.zip (L.sl x)),[],⟨L.H x,0,[]⟩⟩) (.ex e ⟨LL,[],⟨bl,b1,wr⟩⟩)∧kS L.N L.M L.S L.pick L.Bs L.z L.q (.ex e ⟨LL,[],⟨bl,b1,wr⟩⟩)=some (L.encS y):=by
      intro y hy
      have h1:=hr x (t.map lo) hx
      rw [RT.out_val,hy,Option.map_some]at h1
      obtain ⟨o,h2,hf⟩:=hk.factK hN hm h1
      have h3:=h2
      unfold kS at h3
      split at h3
      case h_2=>cases h3
      rename_i e s
      split at h3
      case h_2=>cases h3
      rename_i hd _
      obtain ⟨LL,d0,⟨bl,b1,wr1⟩⟩:=s
      simp only at hd
      subst hd
      exact ⟨e,LL,bl,b1,wr1,hf,h2⟩
    have hsl:=told_slots ht (ok.s2 x) hS
    have dnil:∀{φ ψ:Phi} {l:List Deferred},DRs φ [] l→DRs ψ [] l:=fun h=>by cases h;exact .nil
    unfold loopV at h
    split at h
    · rename_i y hy
      obtain ⟨e,LL,bl,b1,wr,hf,hks⟩:=hev hy
      obtain ⟨rfl,k4,hgy,hsy,b,o,hturn⟩:=LoopS.turn ok hks
      have hTl:(sets (junkF L.N (LL.map lo)) (L.S.zip (L.sl y))).length=L.N:=len_sets _
      have hTs:SlotRs L.M LL (sets (junkF L.N (LL.map lo)) (L.S.zip (L.sl y))):=told_slots k4 (ok.s2 y) fun kv hkv=>by
        rw [← hsy]at hkv
        exact (zip_get (show (kv.1,kv.2)∈L.S.zip (L.S.map (lget LL)) from hkv)).symm
      obtain ⟨j,hgd,hj⟩:=LoopS.sem ok hk hr h hgy hTl (lget_setsL ok.nd ok.lt (ok.s1 y) _)
      refine ⟨j,hgd,fun K w0 φ φ0 w ac F n nb hI hV hD hF ha hz htop=>?_⟩
      obtain ⟨_,hh⟩:=hf.1 (Nat.zero_le _)
      refine rounds_of (wpIn_mono (hh K w0 φ w ac F n hI ((hsl.vrs hV).mono (cut_le φ _)) hD hF) ?_)
      rintro x' a' w' ⟨φ',hle,hx',ht',hd',hI'⟩
      cases hx'
      show wpLoopIn F n P L.c _ a' w'
      refine hj K w0 (turnP φ' L.M b o) φ0 w' a' F n nb (hturn K w0 φ' w' hI') ((hTs.vrs ht').mono turn_le) (dnil hd') hF (fun i y hi h0=>?_) (fun B o h0=>hle.zz B o (hz B o h0)) htop
      show (if i<L.M then φ' i else _)=some y
      rw [if_pos hi]
      exact hle _ _ (ha i y hi h0)
    · rename_i d' hd
      simp only [Option.some.injEq]at h
      subst h
      obtain ⟨e,LL,bl,b1,wr,hf,hks⟩:=hev hd
      obtain ⟨rfl,k4,hgd,hleave⟩:=LoopS.leave ok hks
      refine ⟨LL.map lo,hgd,fun K w0 φ φ0 w ac F n nb hI hV hD hF ha hz htop=>?_⟩
      obtain ⟨_,hh⟩:=hf.1 (Nat.zero_le _)
      refine rounds_of (wpIn_mono (hh K w0 φ w ac F n hI ((hsl.vrs hV).mono (cut_le φ _)) hD hF) ?_)
      rintro x' a' w' ⟨φ',hle,hx',ht',hd',hI'⟩
      obtain ⟨ψ,p1,p2,p3⟩:=hleave K w0 φ' φ0 w' a'.tmps nb hI' ht' (fun i y hi h0=>hle _ _ (ha i y hi h0)) (fun B o h0=>hle.zz B o (hz B o h0)) htop
      have hc:CodeR K w0 φ0 (L.ex d') ⟨sets (junkF L.N (LL.map lo)) ((L.pick (L.ex d')).zip (L.dv d')),[],⟨L.dh d'++List.replicate nb .dead,0,[]⟩⟩ x' a' w':=⟨ψ,p1,hx'.any (ok.e2 d'),p2,dnil hd',p3⟩
      have hne:=ok.e1 d'
      revert hc
      generalize CodeR K w0 φ0 (L.ex d') ⟨sets (junkF L.N (LL.map lo)) ((L.pick (L.ex d')).zip (L.dv d')),[],⟨L.dh d'++List.replicate nb .dead,0,[]⟩⟩=Q
      intro hc
      generalize L.ex d'=q at hx' hne
      cases hx' with
      | normal=>exact absurd rfl hne
      | _=>exact hc
    · cases h
theorem LoopS.fact {L:LoopS X D}(ok:L.OkS) {a:Ans}(hk:Known P a) {n:Nat}{rd:X→RT (Sum X D)}
    (hr:∀x j,L.good x→evC P a.c n (L.headS x j) (kS L.N L.M L.S L.pick L.Bs L.z L.q)=(rd x).out L.encS) {m:Nat} {x:X} {d:D} (h:loopV rd m x=some d) (hx:L.good x)
    {t:List Value} (ht:t.length=L.N) (hS:∀kv∈L.S.zip (L.sl x),lget t kv.1=kv.2):∃j,Fact P (.code none (.loop L.c) ⟨t,[],⟨L.H x,0,[]⟩⟩) (L.tailS x d j):=by
  obtain ⟨j,hg,hj⟩:=LoopS.sem hN hm ok hk hr h hx ht hS
  have hlen:(L.H x).length=L.M+(L.ownB x).length:=by unfold LoopS.H;rw [List.length_append,ok.h1]
  have key:∀(K:Nat→Prop) (w0:World) (φ:Phi) (w:World) (ac:Act) (F:Fence) (n:Nat),Inv K w0 φ (L.H x) w→VRs φ t.toArray ac.tmps→DRs φ [] ac.defers→FenceOk φ none F →
      wpLoopIn F n P L.c (CodeR K w0 φ (L.ex d) ⟨sets (junkF L.N j) ((L.pick (L.ex d)).zip (L.dv d)),[],⟨L.dh d++List.replicate (L.ownB x).length .dead,0,[]⟩⟩) ac w:=fun K w0 φ w ac F n hI ht hd hF =>
    hj K w0 φ φ w ac F n (L.ownB x).length hI ht hd hF (fun _ _ _ h=>h) (fun _ _ h=>h) fun i hi=>hI.top i (by rw [hlen];exact hi)
  refine ⟨j,fun _=>⟨⟨rfl,?_,fun b hb _=>absurd hb (Nat.not_lt_zero _),fun b ob hb hl hrw=>?_⟩,fun K w0 φ w ac F n hI ht hd hF=>wpIn_of_rounds (key K w0 φ w ac F n hI ht hd hF)⟩,fun _ K w0 φ w ac F n hI ht hd hF=>key K w0 φ w ac F n hI ht hd hF⟩
  · show (L.H x).length≤(L.dh d++List.replicate (L.ownB x).length Ob.dead).length
    rw [hlen,List.length_append,ok.d2,List.length_replicate]
    exact Nat.le_refl _
  · exfalso
    rcases get_app hb with ⟨_,h2⟩ | ⟨_,h2⟩
    · rw [(boxD_live (all_boxD (ok.d3 d hg) h2) hl).1]at hrw;cases hrw
    · rw [List.getElem?_replicate]at h2
      split at h2
      · simp only [Option.some.injEq]at h2;subst h2;cases hl
      · cases h2
omit hN hm in
theorem Fact.tells {c:Code}{t:List Value} {H H':List Ob}{o:Out}(hf:Fact P (.code none (.loop c) ⟨t,[],⟨H,0,[]⟩⟩) o) (hg:Forgets H' H):Fact P (.code none (.loop c) ⟨t,[],⟨H',0,[]⟩⟩) o:=by
  cases o with
  | ex e s =>
    obtain ⟨h1,h2⟩:=hf
    refine ⟨fun hb=>?_,fun hb K w0 φ w a F n hI ht hd hF=>h2 (Nat.zero_le _) K w0 φ w a F n (hg.inv hI) ht hd hF⟩
    obtain ⟨hp,hh⟩:=h1 (Nat.zero_le _)
    refine ⟨⟨hp.base,?_,fun b hb=>absurd hb (Nat.not_lt_zero _),fun b ob hx hl hr=>?_⟩,fun K w0 φ w a F n hI ht hd hF=>hh K w0 φ w a F n (hg.inv hI) ht hd hF⟩
    · have h3:=hp.len
      have h4:=hg.len
      show H'.length≤_
      rw [h4];exact h3
    · exact hg.ro hr (hp.ro b ob hx hl hr)
  | _=>exact absurd hf.1 (by intro h;exact h)
theorem LoopS.known {L:LoopS X D}(ok:L.OkS) {a:Ans}(hk:Known P a) {n:Nat}{rd:X→RT (Sum X D)}
    (hr:∀x j,L.good x→evC P a.c n (L.headS x j) (kS L.N L.M L.S L.pick L.Bs L.z L.q)=(rd x).out L.encS) {c0:Code} (dec:Task→Option (Code×X)) (alt:X→List Value→AT)
    (hd:∀t c x,dec t=some (c,x)→c=c0→∃T H',t=.code none (.loop L.c) ⟨T,[],⟨H',0,[]⟩⟩∧Forgets H' (L.H x)∧T.length=L.N∧∀kv∈L.S.zip (L.sl x),lget T kv.1=kv.2)
    (ha:∀x j o,(alt x j).out=some o→L.good x∧∃d,loopR rd x=some d∧o=L.tailS x d j) :
    ∃J:Task→List Value,Known P (loopAns c0 dec alt J):=by
  classical
  let good:Task→List Value→Prop:=fun t j=>∀c x d,dec t=some (c,x)→c=c0→L.good x→loopR rd x=some d→Fact P t (L.tailS x d j)
  have hex:∀t,∃j,good t j:=by
    intro t
    cases hdt:dec t with
    | none=>exact ⟨[],fun c x d h=>by rw [hdt]at h;cases h⟩
    | some cx =>
      obtain ⟨c,x⟩:=cx
      by_cases hc:c=c0
      · by_cases hx:L.good x
        · cases hl:loopR rd x with
          | none=>exact ⟨[],fun c' x' d h _ _ hr=>by rw [hdt]at h;cases h;rw [hl]at hr;cases hr⟩
          | some d =>
            obtain ⟨T,H',rfl,hg,hT,hS⟩:=hd t c x hdt hc
            obtain ⟨m,hm'⟩:=loopR_some hl
            obtain ⟨j,hj⟩:=LoopS.fact hN hm ok hk hr hm' hx hT hS
            exact ⟨j,fun c' x' d' h _ _ hr=>by rw [hdt]at h;cases h;rw [hl]at hr;cases hr;exact hj.tells hg⟩
        · exact ⟨[],fun c' x' d h _ h' _=>by rw [hdt]at h;cases h;exact absurd h' hx⟩
      · exact ⟨[],fun c' x' d h h' _ _=>by rw [hdt]at h;cases h;exact absurd h' hc⟩
  refine ⟨fun t=>Classical.choose (hex t),?_⟩
  intro t at' o ht ho
  cases hdt:dec t with
  | none=>simp only [loopAns,hdt]at ht;cases ht
  | some cx =>
    obtain ⟨c,x⟩:=cx
    simp only [loopAns,hdt,Option.some.injEq]at ht
    subst ht
    simp only [AT.out]at ho
    obtain ⟨h1,h2⟩:=cond_some ho
    obtain ⟨hx,d,h3,rfl⟩:=ha x _ o h2
    exact Classical.choose_spec (hex t) c x d hdt (eqCode_eq h1) hx h3
end
end
def dPt (b off:Nat)(v:Value):Option Unit:=match v with
  | .pointer (some ⟨b',off',none⟩)=>(match Nat.beq b' b,Nat.beq off' off with | true,true=>some () | _,_=>none)
  | _=>none
theorem dPt_eq {b off:Nat}{v:Value}{u:Unit}(h:dPt b off v=some u):v=.pointer (some ⟨b,off,none⟩):=by
  unfold dPt at h
  split at h
  · split at h
    · rename_i h1 h2
      rw [Nat.eq_of_beq_eq_true h1,Nat.eq_of_beq_eq_true h2]
    · cases h
  · cases h
def dNl (v:Value):Option Unit:=match v with
  | .slice none 0 0=>some ()
  | _=>none
theorem dNl_eq {v:Value}{u:Unit}(h:dNl v=some u):v=.slice none 0 0:=by
  unfold dNl at h
  split at h
  · rfl
  · cases h
def dSl (b z:Nat)(v:Value):Option Nat:=match v with
  | .slice (some ⟨b',0,none⟩) n z'=>(match Nat.beq b' b,Nat.beq z' z with | true,true=>some n | _,_=>none)
  | _=>none
theorem dSl_eq {b z n:Nat}{v:Value}(h:dSl b z v=some n):v=.slice (some ⟨b,0,none⟩) n z:=by
  unfold dSl at h
  split at h
  · split at h
    · rename_i h1 h2
      simp only [Option.some.injEq]at h
      rw [Nat.eq_of_beq_eq_true h1,Nat.eq_of_beq_eq_true h2,h]
    · cases h
  · cases h
def dCe (ob:Ob):Option (List Value):=match ob with
  | .cells ⟨l⟩ false=>some l
  | _=>none
theorem dCe_eq {ob:Ob}{l:List Value}(h:dCe ob=some l):ob=.cells ⟨l⟩ false:=by
  unfold dCe at h
  split at h
  · simp only [Option.some.injEq]at h;rw [h]
  · cases h
def dAr (ob:Ob):Option (Array Value):=match ob with
  | .cells c false=>some c
  | _=>none
theorem dAr_eq {ob:Ob}{l:Array Value}(h:dAr ob=some l):ob=.cells l false:=by
  unfold dAr at h
  split at h
  · simp only [Option.some.injEq]at h;rw [h]
  · cases h
def dDe (ob:Ob):Option Unit:=match ob with
  | .dead=>some ()
  | _=>none
theorem dDe_eq {ob:Ob}{u:Unit}(h:dDe ob=some u):ob=.dead:=by
  unfold dDe at h
  split at h
  · rfl
  · cases h
end
end Go.Gi
