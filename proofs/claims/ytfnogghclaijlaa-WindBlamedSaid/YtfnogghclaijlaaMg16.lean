/- WindBlamed proved: if all sources but one measure a wind, and they do not agree for a band, this source is to blame; if it alone is, the wind is in the spans there. Conditions: none. -/
import Derived.Test.YtfnogghclaijlaaMg14
import Derived.Test.YtfnogghclaijlaaMg15
set_option linter.unusedVariables false
set_option linter.unusedSimpArgs false
namespace Go.Proofs.Ytfnogghclaijlaa
open Go.Gi Go.RowKit Go.Proofs.Ytfnogghclaijlaa.Old
noncomputable section
set_option maxRecDepth 100000
set_option maxHeartbeats 1000000
theorem F56_eq (a b v:Int):F56_ok a b v=true∧F56_0 a b v=(decide (a≤v)&&decide (v≤b)):=by
  have e:F56 a b v=some ⟨decide (a≤v)&&decide (v≤b)⟩:=by
    unfold F56 rt56
    by_cases h:a≤v<;>simp [RT.val,h]
  exact ⟨by simp only [F56_ok,e];rfl,by simp only [F56_0,e]⟩
theorem cul_has {c0 c:Array Value}{n2:Nat}{age shear lo hi tick now:Int}:∀m k s:Nat,k≤s→s<k+m→emp (all c0 c n2 age shear lo hi tick now (chB 128 (s:Int)))=false→(s:Int)∈cul c0 c n2 age shear lo hi tick now m k
  | 0,k,s,h1,h2,_=>by omega
  | m+1,k,s,h1,h2,h=>by
    unfold cul
    rcases Nat.eq_or_lt_of_le h1 with rfl | h3
    · rw [if_neg (by rw [h];decide)]
      exact List.mem_cons_self
    · have:=cul_has m (k+1) s h3 (by omega) h
      split
      · exact this
      · exact List.mem_cons_of_mem _ this
section
variable {w c0 c fin c3 B cA c3A:Array Value}{nw n n2 n3 bo bl nA n2A n3A oA o2A o3A:Nat}{but tick now x y rx ry tx ty age shear ageA shearA dn i:Int}{ag:Bool}{L:List Int}
theorem loop12_1 (hl:L.length≤1000):∀(m k:Nat) (b:Bool),k+m=L.length →
    loopR rd12_1 ⟨B,bo,bl,dn,i,arrI L,0,L.length,ag,b,(k:Int),c0,oA,nA,cA,o2A,n2A,c3A,o3A,n3A,ageA,shearA,x,y,rx,ry,tx,ty,w,0,nw,but,tick,now,c0,0,n,fin,0,n2,c3,0,n3,age,shear⟩ =
    some (.k0 B bo bl dn i (arrI L) 0 L.length ag (b||decide (but∈L.drop k)) c0 oA nA cA o2A n2A c3A o3A n3A ageA shearA x y rx ry tx ty w 0 nw but tick now c0 0 n fin 0 n2 c3 0 n3 age shear)
  | 0,k,b,e=>by
    obtain rfl:k=L.length:=by omega
    have h1:¬((L.length:Int)<(L.length:Int)):=by omega
    refine loopR_done ?_
    simp only [rd12_1,RT.val,h1,Int.ofNat_eq_natCast,decide_false,cond_false,List.drop_length,List.not_mem_nil,Bool.or_false]
  | m+1,k,b,e=>by
    have hk:k<L.length:=by omega
    have hki:(k:Int)<(L.length:Int):=by omega
    have h0:(0:Int)≤(k:Int):=by omega
    have h3:IntKind.wrap .i64 ((k:Int)+1)=((k+1:Nat):Int):=by rw [wrap64_id (by omega) (by omega)];omega
    have hi:=isInt_arrI L hk
    have hg:=getInt_arrI L hk
    rw [Nat.zero_add]at hi
    have ed:L.drop k=L[k]::L.drop (k+1):=List.drop_eq_getElem_cons hk
    cases b with
    | true =>
      refine (loopR_next ?_).trans ((loop12_1 hl m (k+1) true (by omega)).trans ?_)
      · simp only [rd12_1,RT.val,hki,h3,Int.ofNat_eq_natCast,decide_true,cond_true]
      · simp only [Bool.true_or]
    | false =>
      refine (loopR_next ?_).trans ((loop12_1 hl m (k+1) (decide (L[k]=but)) (by omega)).trans ?_)
      · simp only [rd12_1,RT.val,hki,h0,h3,hi,hg,Int.ofNat_eq_natCast,Int.toNat_natCast,Nat.zero_add,Nat.mul_one,decide_true,Bool.and_self,cond_true,cond_false]
      · have:(decide (L[k]=but)||decide (but∈L.drop (k+1)))=(false||decide (but∈L.drop k)):=by
          rw [ed,Bool.false_or,← Bool.decide_or]
          congr 1
          simp only [List.mem_cons]
          exact propext ⟨fun h=>h.imp (fun h=>h.symm) id,fun h=>h.imp (fun h=>h.symm) id⟩
        rw [this]
theorem chB_ne {q s:Int}(h:chB 128 q s=true):s≠q:=by
  have h':(!decide (s=q))=true:=h
  simpa using h'
theorem isB0 (R:List Bd) {k:Nat}(h:k<R.length):isInt .i64 (arrB R) (k*6)=true∧getInt (arrB R) (k*6)=R[k].f:=by
  have g:=cellsB R h 0
  simp only [Nat.zero_add,Nat.add_zero]at g
  refine ⟨?_,?_⟩
  · unfold isInt;rw [g];rfl
  · unfold getInt;rw [g];rfl
theorem rd2 {c:Array Value}{j:Nat}(h1:isInt .i64 c j=true) (h2:isInt .i64 c (j+1)=true):rdOk c [Leaf.int .i64,Leaf.int .i64] j=true:=by
  simp only [rdOk,rdLeaf,h1,h2,Bool.and_self]
theorem round12 {k:Nat}(g1:GL L7 7 c0 n) (g5:GL L5 5 fin n2) (g3:GL L1 1 c3 n3) (hz:F20_2 c0 0 n fin 0 n2 c3 0 n3 age shear=0) {c:Array Value}(M:Ms c0 c n2 but x y rx ry tx ty age shear n2 fin) (fl:Fld x y rx ry tx ty w nw) (hxy:(tkB tick&&tkB now)=true)
    (hw:∀i,i<n3→isW (pI x rx tx age shear (wLo c3 (i:Int)) tick) (pI y ry ty age shear (wLo c3 (i:Int)) tick)=true) (hk:k<n3) :
    (rd12_0 ⟨arrB (bnS c0 fin c3 n n2 n3 age shear tick now).1,0,(bnS c0 fin c3 n n2 n3 age shear tick now).1.length,(bnS c0 fin c3 n n2 n3 age shear tick now).2,(k:Int),c0,oA,nA,cA,o2A,n2A,c3A,o3A,n3A,ageA,shearA,x,y,rx,ry,tx,ty,w,0,nw,but,tick,now,c0,0,n,fin,0,n2,c3,0,n3,age,shear⟩).val =
    some (.inl ⟨arrB (bnS c0 fin c3 n n2 n3 age shear tick now).1,0,(bnS c0 fin c3 n n2 n3 age shear tick now).1.length,(bnS c0 fin c3 n n2 n3 age shear tick now).2,((k+1:Nat):Int),c0,oA,nA,cA,o2A,n2A,c3A,o3A,n3A,ageA,shearA,x,y,rx,ry,tx,ty,w,0,nw,but,tick,now,c0,0,n,fin,0,n2,c3,0,n3,age,shear⟩):=by
  obtain ⟨hv,hn,hc⟩:=vld g1 g5 g3 hz
  have up:=cuts_up g1 g5 g3 hz
  have hki:(k:Int)<(n3:Int):=by omega
  have h3:IntKind.wrap .i64 ((k:Int)+1)=((k+1:Nat):Int):=by rw [wrap64_id (by omega) (by omega)];omega
  have ht:0≤tick∧tick≤100000:=by
    simp only [tkB,Bool.and_eq_true,decide_eq_true_eq]at hxy
    omega
  obtain ⟨f1,f2,f3⟩:=F38_at (k:=k) g1 g5 g3 hz hxy hk
  have e38:=F38_eq (age:=age) (shear:=shear) (k:=(k:Int)) (x:=tick) (y:=now) g1 g5 g3
  obtain ⟨S,hS⟩:∃S,S=bnS c0 fin c3 n n2 n3 age shear tick now:=⟨_,rfl⟩
  rw [← hS]
  obtain ⟨L,hLd⟩:∃L,L=(blm c0 fin c3 n n2 n3 age shear (k:Int) tick now).1:=⟨_,rfl⟩
  have f0:F38_0 c0 0 n fin 0 n2 c3 0 n3 age shear (k:Int) tick now=arrI L:=by simp only [F38_0,e38,hLd]
  have f01:F38_1 c0 0 n fin 0 n2 c3 0 n3 age shear (k:Int) tick now=0:=by simp only [F38_1,e38]
  have f02:F38_2 c0 0 n fin 0 n2 c3 0 n3 age shear (k:Int) tick now=L.length:=by simp only [F38_2,e38,hLd]
  have hq:qErr n3 (k:Int) tick now=0:=by
    unfold qErr
    rw [if_neg (by omega)]
    exact if_pos hxy
  have hwin:wLo c3 (k:Int)≤wHi c3 (k:Int):=by
    rw [wHi_at (hc k hk)]
    rcases Nat.eq_zero_or_pos k with h0 | h0
    · subst h0;rw [wLo_zero];have:=hc 0 hk;omega
    · rw [wLo_pos h0];have:=up k h0 hk;omega
  have hlo:0≤wLo c3 (k:Int)∧wLo c3 (k:Int)≤100000000:=by
    rcases Nat.eq_zero_or_pos k with h0 | h0
    · subst h0;rw [wLo_zero];omega
    · rw [wLo_pos h0];have:=hc (k-1) (by omega);omega
  have hLcase:(emp (winA c0 fin c3 n2 age shear tick now k)=false∧L=[])∨(emp (winA c0 fin c3 n2 age shear tick now k)=true∧L=cul c0 fin n2 age shear (wLo c3 (k:Int)) (wHi c3 (k:Int)) tick now n 0):=by
    unfold blm at hLd
    rw [if_pos hz,if_pos hq]at hLd
    cases he:emp (winA c0 fin c3 n2 age shear tick now k) with
    | false =>
      unfold winA at he
      rw [if_neg (by rw [he];decide)]at hLd
      exact .inl ⟨rfl,hLd⟩
    | true =>
      unfold winA at he
      rw [if_pos he]at hLd
      exact .inr ⟨rfl,hLd⟩
  have hLlen:L.length≤1000:=by
    rcases hLcase with ⟨_,h⟩ | ⟨_,h⟩
    · rw [h];simp
    · rw [h]
      have:=cul_len c0 fin n2 age shear (wLo c3 (k:Int)) (wHi c3 (k:Int)) tick now n 0
      have:=hv.few
      omega
  generalize hX:(⟨arrB S.1,0,S.1.length,S.2,(k:Int),c0,oA,nA,cA,o2A,n2A,c3A,o3A,n3A,ageA,shearA,x,y,rx,ry,tx,ty,w,0,nw,but,tick,now,c0,0,n,fin,0,n2,c3,0,n3,age,shear⟩:X12_0)=X
  have hY:Ya X=⟨arrB S.1,0,S.1.length,S.2,(k:Int),arrI L,0,L.length,(!emp (winA c0 fin c3 n2 age shear tick now k)),false,((0:Nat):Int),c0,oA,nA,cA,o2A,n2A,c3A,o3A,n3A,ageA,shearA,x,y,rx,ry,tx,ty,w,0,nw,but,tick,now,c0,0,n,fin,0,n2,c3,0,n3,age,shear⟩:=by
    subst hX
    unfold Ya
    simp only [f0,f01,f02,f3]
    rfl
  have hL:=(congrArg L12_1 hY).trans (loop12_1 hLlen L.length 0 false (by omega))
  rw [List.drop_zero,Bool.false_or]at hL
  have hZ:Z12_0_1 X=.inl ⟨arrB S.1,0,S.1.length,S.2,((k+1:Nat):Int),c0,oA,nA,cA,o2A,n2A,c3A,o3A,n3A,ageA,shearA,x,y,rx,ry,tx,ty,w,0,nw,but,tick,now,c0,0,n,fin,0,n2,c3,0,n3,age,shear⟩:=by
    rw [show Z12_0_1 X=.inl ⟨(Qm0 (Ya X)),(Qm1 (Ya X)),(Qm2 (Ya X)),(Qm3 (Ya X)),(IntKind.wrap .i64 ((Qm4 (Ya X))+(1:Int))),(Qm10 (Ya X)),(Qm11 (Ya X)),(Qm12 (Ya X)),(Qm13 (Ya X)),(Qm14 (Ya X)),(Qm15 (Ya X)),(Qm16 (Ya X)),(Qm17 (Ya X)),(Qm18 (Ya X)),(Qm19 (Ya X)),(Qm20 (Ya X)),(Qm21 (Ya X)),(Qm22 (Ya X)),(Qm23 (Ya X)),(Qm24 (Ya X)),(Qm25 (Ya X)),(Qm26 (Ya X)),(Qm27 (Ya X)),(Qm28 (Ya X)),(Qm29 (Ya X)),(Qm30 (Ya X)),(Qm31 (Ya X)),(Qm32 (Ya X)),(Qm33 (Ya X)),(Qm34 (Ya X)),(Qm35 (Ya X)),(Qm36 (Ya X)),(Qm37 (Ya X)),(Qm38 (Ya X)),(Qm39 (Ya X)),(Qm40 (Ya X)),(Qm41 (Ya X)),(Qm42 (Ya X)),(Qm43 (Ya X))⟩ from rfl]
    simp only [Qm0,Qm1,Qm2,Qm3,Qm4,Qm5,Qm6,Qm7,Qm8,Qm9,Qm10,Qm11,Qm12,Qm13,Qm14,Qm15,Qm16,Qm17,Qm18,Qm19,Qm20,Qm21,Qm22,Qm23,Qm24,Qm25,Qm26,Qm27,Qm28,Qm29,Qm30,Qm31,Qm32,Qm33,Qm34,Qm35,Qm36,Qm37,Qm38,Qm39,Qm40,Qm41,Qm42,Qm43,hL,h3]
  rcases hLcase with ⟨he,hnil⟩ | ⟨he,hcul⟩
  · rw [he,hnil]at hL
    have hL':L12_1 (Ya X)=_:=hL
    rw [← hZ]
    subst hX
    simp only [rd12_0,RT.val,Int.ofNat_eq_natCast,hki,f1,f2,eqCode_self,L12_1_k0,Qm7,Qm8,Qm9,hL',List.length_nil,Bool.not_false,Bool.not_true,show ¬((0:Int)<((0:Nat):Int)) by decide,decide_true,decide_false,cond_true,cond_false]
  · have hem:∀p:Int→Bool,(∀i,i<n2→p (getInt fin (0+i*5))=true→getInt fin (0+i*5)≠but)→emp (all c0 fin n2 age shear (wLo c3 (k:Int)) (wHi c3 (k:Int)) tick now p)=false:=fun p hp =>
      true_emp hv M hp (Int.le_refl _) hwin (hw k hk)
    have hsel:but∈L:=by
      rw [hcul]
      by_cases hb:0≤but∧but<(n:Int)
      · have hb2:but=((but.toNat:Nat):Int):=by omega
        have hb3:=cul_has (c0:=c0) (c:=fin) (n2:=n2) (age:=age) (shear:=shear) (lo:=wLo c3 (k:Int)) (hi:=wHi c3 (k:Int)) (tick:=tick) (now:=now) n 0 but.toNat (by omega) (by omega) (by
          rw [← hb2]
          exact hem _ fun i hi h=>chB_ne h)
        rw [← hb2]at hb3
        exact hb3
      · exfalso
        have:=hem (chB 128 (-1)) fun i hi h=>by have:=hv.src i hi;omega
        unfold winA at he
        rw [this]at he
        cases he
    rw [he,decide_eq_true hsel]at hL
    have hL':L12_1 (Ya X)=_:=hL
    have hpos:0<L.length:=List.length_pos_of_mem hsel
    have p1:(0:Int)<(L.length:Int):=by omega
    by_cases h1:L.length=1
    · have p2:(L.length:Int)=1:=by omega
      by_cases hs0:S.2=0
      · obtain ⟨_,_,R,hR,hs⟩:=bnS_ok (hS ▸ hs0)
        obtain rfl:R=S.1:=by rw [hS,hs]
        have hl:=bnds_len n3 0 S.1 hR
        have hkR:k<S.1.length:=by omega
        have pl:(S.1.length:Int)=(n3:Int):=by omega
        have pk:(k:Int)<(S.1.length:Int):=by omega
        have p0:(0:Int)≤(k:Int):=by omega
        obtain ⟨H,g1',g2'⟩:=bnds_get n3 0 S.1 hR k hkR
        rw [Nat.zero_add]at g1' g2'
        obtain ⟨s,hLs⟩:=List.length_eq_one_iff.1 h1
        have hsb:s=but:=by rw [hLs]at hsel;exact (List.mem_singleton.1 hsel).symm
        subst hsb
        have he':=he
        unfold winA at he'
        unfold ansO at g1'
        rw [if_pos he',← hcul,hLs,Option.some.injEq]at g1'
        obtain ⟨t1,t2⟩:=true_in (p:=chB 128 s) (now:=now) hv M (fun i hi h=>chB_ne h) (Int.le_refl _) hwin (hw k hk)
        rw [g1']at t1 t2
        unfold inX at t1
        unfold inY at t2
        obtain ⟨b1,b2,b3,b4⟩:=getB' S.1 hkR
        obtain ⟨i1,i2,i3,i4⟩:=isB S.1 hkR
        obtain ⟨j1,j2⟩:=isB0 S.1 hkR
        rw [g2']at b1 b2 b3 b4 j2
        have r1:=rd2 i1 i2
        have r2:=rd2 i3 i4
        obtain ⟨q1,q2,q3,q4⟩:=F55_at (w:=w) (ow:=0) (nw:=nw) (c0:=c0) (c:=fin) (c3:=c3) (n:=n) (n2:=n2) (n3:=n3) (o0:=0) (o2:=0) (o3:=0) fl.x fl.y fl.rx fl.ry fl.tx fl.ty hv.age hv.shear hlo ht
        have hwk:=hw k hk
        rw [← hZ]
        subst hX
        rw [hs0]at hL'
        simp only [rd12_0,RT.val,Int.ofNat_eq_natCast,hki,f1,f2,eqCode_self,L12_1_k0,Qm0,Qm1,Qm2,Qm3,Qm4,Qm5,Qm6,Qm7,Qm8,Qm9,Qm10,Qm11,Qm12,Qm13,Qm14,Qm15,Qm16,Qm17,Qm18,Qm19,Qm20,Qm21,Qm22,Qm23,Qm24,Qm25,Qm26,Qm27,Qm28,Qm29,Qm30,Qm31,Qm32,Qm33,Qm34,Qm35,Qm36,Qm37,Qm38,Qm39,Qm40,Qm41,Qm42,Qm43,hL',p0,p1,p2,pl,pk,hs0,j1,j2,b1,b2,b3,b4,r1,r2,q1,q2,q3,q4,hwk,(F56_eq _ _ _).1,(F56_eq _ _ _).2,t1.1,t1.2,t2.1,t2.2,Int.toNat_natCast,Nat.zero_add,Nat.add_zero,Bool.not_false,Bool.not_true,Bool.and_self,decide_true,decide_false,cond_true,cond_false]
      · rw [← hZ]
        subst hX
        simp only [rd12_0,RT.val,Int.ofNat_eq_natCast,hki,f1,f2,eqCode_self,L12_1_k0,Qm3,Qm7,Qm8,Qm9,hL',p1,p2,hs0,Bool.not_false,Bool.not_true,decide_true,decide_false,cond_true,cond_false]
    · have p2:¬(L.length:Int)=1:=by omega
      rw [← hZ]
      subst hX
      simp only [rd12_0,RT.val,Int.ofNat_eq_natCast,hki,f1,f2,eqCode_self,L12_1_k0,Qm3,Qm7,Qm8,Qm9,hL',p1,p2,Bool.not_false,Bool.not_true,decide_true,decide_false,cond_true,cond_false]
def isK1:D12_0→Bool | .k1 ..=>true | _=>false
theorem loop12_0 (g1:GL L7 7 c0 n)(g5:GL L5 5 fin n2)(g3:GL L1 1 c3 n3)(hz:F20_2 c0 0 n fin 0 n2 c3 0 n3 age shear=0) {c:Array Value}(M:Ms c0 c n2 but x y rx ry tx ty age shear n2 fin) (fl:Fld x y rx ry tx ty w nw) (hxy:(tkB tick&&tkB now)=true)
    (hw:∀i,i<n3→isW (pI x rx tx age shear (wLo c3 (i:Int)) tick) (pI y ry ty age shear (wLo c3 (i:Int)) tick)=true):∀m k:Nat,k+m=n3 →
    ∃d,loopR rd12_0 ⟨arrB (bnS c0 fin c3 n n2 n3 age shear tick now).1,0,(bnS c0 fin c3 n n2 n3 age shear tick now).1.length,(bnS c0 fin c3 n n2 n3 age shear tick now).2,(k:Int),c0,oA,nA,cA,o2A,n2A,c3A,o3A,n3A,ageA,shearA,x,y,rx,ry,tx,ty,w,0,nw,but,tick,now,c0,0,n,fin,0,n2,c3,0,n3,age,shear⟩=some d∧isK1 d=true
  | 0,k,e=>by
    obtain rfl:k=n3:=by omega
    have h1:¬((k:Int)<(k:Int)):=by omega
    refine ⟨.k1 c0 oA nA cA o2A n2A c3A o3A n3A ageA shearA x y rx ry tx ty w 0 nw but tick now c0 0 n fin 0 n2 c3 0 k age shear,loopR_done ?_,rfl⟩
    simp only [rd12_0,RT.val,h1,Int.ofNat_eq_natCast,decide_false,cond_false]
  | m+1,k,e=>by
    obtain ⟨d,h1,h2⟩:=loop12_0 g1 g5 g3 hz M fl hxy hw m (k+1) (by omega)
    exact ⟨d,(loopR_next (round12 g1 g5 g3 hz M fl hxy hw (by omega))).trans h1,h2⟩
end
theorem true12:True12:=by
  intro c1 n1 c2 n2 c3 n3 age shear x y rx ry tx ty w nw x0 x1 x2 g1 g2 g3 fl w2 w3 w4
  obtain ⟨r,hr,hm⟩:=F54_cases (age:=age) (shear:=shear) (but:=x0) (tick:=x1) g1 g2 g3 fl
  have ok54:F54_ok x y rx ry tx ty w 0 nw c1 0 n1 c2 0 n2 c3 0 n3 age shear x0 x1=true:=by simp only [F54_ok,hr];rfl
  have e11:F54_11 x y rx ry tx ty w 0 nw c1 0 n1 c2 0 n2 c3 0 n3 age shear x0 x1=r.r11:=by simp only [F54_11,hr]
  rcases hm with h | ⟨fin,rfl,hz,ht,M,hz2,hw⟩
  · unfold rt12
    simp only [RT.val,ok54,e11,h,Bool.not_false,cond_true]
  · have g5:GL L5 5 fin n2:=GL5_of M.size M.ints g2.few
    by_cases t0:x2<0
    · unfold rt12
      simp only [RT.val,ok54,e11,t0,Bool.not_true,decide_true,cond_true,cond_false]
    by_cases t1:100000<x2
    · unfold rt12
      simp only [RT.val,ok54,e11,t0,t1,Bool.not_true,decide_true,decide_false,cond_true,cond_false]
    have hxy:(tkB x1&&tkB x2)=true:=by
      simp only [tkB,Bool.and_eq_true,decide_eq_true_eq]
      omega
    have e42:=F42_eq (age:=age) (shear:=shear) (x:=x1) (y:=x2) g1 g5 g3
    have ok42:F42_ok c1 0 n1 fin 0 n2 c3 0 n3 age shear x1 x2=true:=by simp only [F42_ok,e42];rfl
    obtain ⟨d,hd,hk⟩:=loop12_0 (oA:=0) (nA:=n1) (cA:=c2) (o2A:=0) (n2A:=n2) (c3A:=c3) (o3A:=0) (n3A:=n3) (ageA:=age) (shearA:=shear) g1 g5 g3 hz2 M fl hxy hw n3 0 (by omega)
    generalize hY:Y12_0 c1 0 n1 c2 0 n2 c3 0 n3 age shear x y rx ry tx ty w 0 nw x0 x1 x2=Y
    have hL:L12_0 Y=some d:=by
      rw [← hd,← hY]
      unfold Y12_0 L12_0
      simp only [F54_0,F54_1,F54_2,F54_3,F54_4,F54_5,F54_6,F54_7,F54_8,F54_9,F54_10,F54_11,hr,F42_0,F42_1,F42_2,F42_3,e42]
      rfl
    unfold rt12
    rw [hY]
    cases d with
    | k0=>cases hk
    | k1 =>
      simp only [RT.val,ok54,e11,t0,t1,F54_0,F54_1,F54_2,F54_3,F54_4,F54_5,F54_6,F54_7,F54_8,F54_9,F54_10,hr,ok42,eqCode_self,L12_0_k0,L12_0_k1,hL,Bool.not_true,decide_true,decide_false,cond_true,cond_false]
theorem windBlamedProved:Rows.WindBlamedSaid:=said12 true12
end
end Go.Proofs.Ytfnogghclaijlaa
