/- WindField proved: soundings of a wind that changes as the task says, wrong by at most Error, agree for all bands, and the wind is in the spans of Bands, At and Over. Conditions: none. -/
import Derived.Test.YtfnogghclaijlaaMg15
set_option linter.unusedVariables false
set_option linter.unusedSimpArgs false
namespace Go.Proofs.Ytfnogghclaijlaa
open Go.Gi Go.RowKit Go.Proofs.Ytfnogghclaijlaa.Old
noncomputable section
set_option maxRecDepth 100000
set_option maxHeartbeats 1000000
theorem F56_at (a b v:Int):F56_ok a b v=true∧F56_0 a b v=(decide (a≤v)&&decide (v≤b)):=by
  have e:F56 a b v=some ⟨decide (a≤v)&&decide (v≤b)⟩:=by
    unfold F56 rt56
    by_cases h:a≤v<;>simp [RT.val,h]
  exact ⟨by simp only [F56_ok,e];rfl,by simp only [F56_0,e]⟩
section
variable {w c0 c fin c3 cA c3A:Array Value}{nw n n2 n3 nA n2A n3A oA o2A o3A:Nat}{q tick now x y rx ry tx ty age shear ageA shearA lo hi h:Int}
theorem agree11 (hv:Vld c0 0 n fin 0 n2 age shear)(M:Ms c0 c n2 (-1) x y rx ry tx ty age shear n2 fin)(h1:lo≤h)(h2:h≤hi)(hw:isW (pI x rx tx age shear h tick) (pI y ry ty age shear h tick)=true) :
    emp (all c0 fin n2 age shear lo hi tick now (chB 128 (-1)))=false :=
  true_emp hv M (fun i hi h=>by have:=hv.src i hi;omega) h1 h2 hw
theorem in11 (hv:Vld c0 0 n fin 0 n2 age shear)(M:Ms c0 c n2 (-1) x y rx ry tx ty age shear n2 fin)(h1:lo≤h)(h2:h≤hi)(hw:isW (pI x rx tx age shear h tick) (pI y ry ty age shear h tick)=true) :
    inX (all c0 fin n2 age shear lo hi tick now (chB 128 (-1))) (pI x rx tx age shear h tick)∧inY (all c0 fin n2 age shear lo hi tick now (chB 128 (-1))) (pI y ry ty age shear h tick) :=
  true_in hv M (fun i hi h=>by have:=hv.src i hi;omega) h1 h2 hw
theorem win_le (g1:GL L7 7 c0 n)(g5:GL L5 5 fin n2)(g3:GL L1 1 c3 n3)(hz:F20_2 c0 0 n fin 0 n2 c3 0 n3 age shear=0) {k:Nat}(hk:k<n3):wLo c3 (k:Int)≤wHi c3 (k:Int):=by
  obtain ⟨hv,hn,hc⟩:=vld g1 g5 g3 hz
  have up:=cuts_up g1 g5 g3 hz
  rw [wHi_at (hc k hk)]
  rcases Nat.eq_zero_or_pos k with h0 | h0
  · subst h0;rw [wLo_zero];have:=hc 0 hk;omega
  · rw [wLo_pos h0];have:=up k h0 hk;omega
theorem emp11 (g1:GL L7 7 c0 n)(g5:GL L5 5 fin n2)(g3:GL L1 1 c3 n3)(hz:F20_2 c0 0 n fin 0 n2 c3 0 n3 age shear=0)(M:Ms c0 c n2 (-1) x y rx ry tx ty age shear n2 fin)
    (hw:∀i,i<n3→isW (pI x rx tx age shear (wLo c3 (i:Int)) tick) (pI y ry ty age shear (wLo c3 (i:Int)) tick)=true) {k:Nat} (hk:k<n3):emp (winA c0 fin c3 n2 age shear tick now k)=false :=
  agree11 (vld g1 g5 g3 hz).1 M (Int.le_refl _) (win_le g1 g5 g3 hz hk) (hw k hk)
theorem round11 {k:Nat}(g1:GL L7 7 c0 n) (g5:GL L5 5 fin n2) (g3:GL L1 1 c3 n3) (hz:F20_2 c0 0 n fin 0 n2 c3 0 n3 age shear=0) (M:Ms c0 c n2 (-1) x y rx ry tx ty age shear n2 fin) (hxy:(tkB tick&&tkB now)=true)
    (hw:∀i,i<n3→isW (pI x rx tx age shear (wLo c3 (i:Int)) tick) (pI y ry ty age shear (wLo c3 (i:Int)) tick)=true) (hk:k<n3) :
    (rd11_0 ⟨(k:Int),c0,oA,nA,cA,o2A,n2A,c3A,o3A,n3A,ageA,shearA,x,y,rx,ry,tx,ty,w,0,nw,q,tick,now,c0,0,n,fin,0,n2,c3,0,n3,age,shear⟩).val =
    some (.inl ⟨((k+1:Nat):Int),c0,oA,nA,cA,o2A,n2A,c3A,o3A,n3A,ageA,shearA,x,y,rx,ry,tx,ty,w,0,nw,q,tick,now,c0,0,n,fin,0,n2,c3,0,n3,age,shear⟩):=by
  obtain ⟨hv,hn,hc⟩:=vld g1 g5 g3 hz
  have hki:(k:Int)<(n3:Int):=by omega
  have h3:IntKind.wrap .i64 ((k:Int)+1)=((k+1:Nat):Int):=by rw [wrap64_id (by omega) (by omega)];omega
  obtain ⟨f1,f2,f3⟩:=F38_at (k:=k) g1 g5 g3 hz hxy hk
  have e38:=F38_eq (age:=age) (shear:=shear) (k:=(k:Int)) (x:=tick) (y:=now) g1 g5 g3
  have he:=emp11 (now:=now) g1 g5 g3 hz M hw hk
  have hq:qErr n3 (k:Int) tick now=0:=by
    unfold qErr
    rw [if_neg (by omega)]
    exact if_pos hxy
  have hb:(blm c0 fin c3 n n2 n3 age shear (k:Int) tick now).1=[]:=by
    have he':=he
    unfold winA at he'
    unfold blm
    rw [if_pos hz,if_pos hq,if_neg (by rw [he'];decide)]
  have f02:F38_2 c0 0 n fin 0 n2 c3 0 n3 age shear (k:Int) tick now=0:=by simp only [F38_2,e38,hb,List.length_nil]
  simp only [rd11_0,RT.val,hki,h3,f1,f2,f3,f02,he,Int.ofNat_eq_natCast,show ¬((0:Int)<((0:Nat):Int)) by decide,Bool.not_false,Bool.not_true,decide_true,decide_false,cond_true,cond_false]
theorem loop11_0 (g1:GL L7 7 c0 n)(g5:GL L5 5 fin n2)(g3:GL L1 1 c3 n3)(hz:F20_2 c0 0 n fin 0 n2 c3 0 n3 age shear=0)(M:Ms c0 c n2 (-1) x y rx ry tx ty age shear n2 fin)(hxy:(tkB tick&&tkB now)=true)
    (hw:∀i,i<n3→isW (pI x rx tx age shear (wLo c3 (i:Int)) tick) (pI y ry ty age shear (wLo c3 (i:Int)) tick)=true):∀m k:Nat,k+m=n3 →
    loopR rd11_0 ⟨(k:Int),c0,oA,nA,cA,o2A,n2A,c3A,o3A,n3A,ageA,shearA,x,y,rx,ry,tx,ty,w,0,nw,q,tick,now,c0,0,n,fin,0,n2,c3,0,n3,age,shear⟩ =
    some (.k1 c0 oA nA cA o2A n2A c3A o3A n3A ageA shearA x y rx ry tx ty w 0 nw q tick now c0 0 n fin 0 n2 c3 0 n3 age shear)
  | 0,k,e=>by
    obtain rfl:k=n3:=by omega
    have h1:¬((k:Int)<(k:Int)):=by omega
    refine loopR_done ?_
    simp only [rd11_0,RT.val,h1,Int.ofNat_eq_natCast,decide_false,cond_false]
  | m+1,k,e=>(loopR_next (round11 g1 g5 g3 hz M hxy hw (by omega))).trans (loop11_0 g1 g5 g3 hz M hxy hw m (k+1) (by omega))
theorem bands11 (g1:GL L7 7 c0 n)(g5:GL L5 5 fin n2)(g3:GL L1 1 c3 n3)(hz:F20_2 c0 0 n fin 0 n2 c3 0 n3 age shear=0)(M:Ms c0 c n2 (-1) x y rx ry tx ty age shear n2 fin)(hxy:(tkB tick&&tkB now)=true)
    (hw:∀i,i<n3→isW (pI x rx tx age shear (wLo c3 (i:Int)) tick) (pI y ry ty age shear (wLo c3 (i:Int)) tick)=true) :
    ∃R,bnds c0 fin c3 n n2 age shear tick now n3 0=some R∧bnS c0 fin c3 n n2 n3 age shear tick now=(R,0)∧R.length=n3∧valF 0 R ∧
      ∀i (hi:i<R.length),R[i].t=getInt c3 i∧R[i]=⟨wLo c3 (i:Int),getInt c3 i,(winA c0 fin c3 n2 age shear tick now i).xl,(winA c0 fin c3 n2 age shear tick now i).xh,(winA c0 fin c3 n2 age shear tick now i).yl,(winA c0 fin c3 n2 age shear tick now i).yh⟩:=by
  obtain ⟨hv,hn,hc⟩:=vld g1 g5 g3 hz
  have up:=cuts_up g1 g5 g3 hz
  have ans:∀i,i<n3→ansO c0 fin n n2 age shear (wLo c3 (i:Int)) (wHi c3 (i:Int)) tick now=some (winA c0 fin c3 n2 age shear tick now i):=fun i hi=>by
    have he:=emp11 (now:=now) g1 g5 g3 hz M hw hi
    unfold winA at he
    unfold ansO winA
    rw [if_neg (by rw [he];decide)]
  obtain ⟨R,hR⟩:=bnds_some (c0:=c0) (c:=fin) (c3:=c3) (n:=n) (n2:=n2) (age:=age) (shear:=shear) (tick:=tick) (now:=now) n3 0 fun i hi=>⟨_,by rw [Nat.zero_add];exact ans i hi⟩
  have hl:=bnds_len n3 0 R hR
  refine ⟨R,hR,?_,hl,?_,fun i hi=>?_⟩
  · unfold bnS
    rw [if_pos hz,if_pos hxy,hR]
  · have:=bnds_valF up hc n3 0 R (by omega) hR
    rwa [wLo_zero]at this
  · obtain ⟨H,h1,h2⟩:=bnds_get n3 0 R hR i hi
    rw [Nat.zero_add]at h1 h2
    rw [ans i (by omega),Option.some.injEq]at h1
    rw [← h1]at h2
    refine ⟨?_,h2⟩
    rw [h2]
end
theorem true11:True11:=by
  intro c1 n1 c2 n2 c3 n3 age shear x y rx ry tx ty w nw x0 x1 x2 g1 g2 g3 fl w2 w3 w4
  obtain ⟨r,hr,hm⟩:=F54_cases (age:=age) (shear:=shear) (but:=(-1:Int)) (tick:=x1) g1 g2 g3 fl
  have ok54:F54_ok x y rx ry tx ty w 0 nw c1 0 n1 c2 0 n2 c3 0 n3 age shear (-1) x1=true:=by simp only [F54_ok,hr];rfl
  have e11:F54_11 x y rx ry tx ty w 0 nw c1 0 n1 c2 0 n2 c3 0 n3 age shear (-1) x1=r.r11:=by simp only [F54_11,hr]
  rcases hm with h | ⟨fin,rfl,hz,ht,M,hz2,hw⟩
  · unfold rt11
    simp only [RT.val,ok54,e11,h,Bool.not_false,cond_true]
  have g5:GL L5 5 fin n2:=GL5_of M.size M.ints g2.few
  by_cases t0:x2<0
  · unfold rt11
    simp only [RT.val,ok54,e11,t0,Bool.not_true,decide_true,cond_true,cond_false]
  by_cases t1:100000<x2
  · unfold rt11
    simp only [RT.val,ok54,e11,t0,t1,Bool.not_true,decide_true,decide_false,cond_true,cond_false]
  by_cases s0:x0<0
  · unfold rt11
    simp only [RT.val,ok54,e11,t0,t1,s0,Bool.not_true,decide_true,decide_false,cond_true,cond_false]
  by_cases s1:100000000≤x0
  · unfold rt11
    simp only [RT.val,ok54,e11,t0,t1,s0,s1,Bool.not_true,decide_true,decide_false,cond_true,cond_false]
  have hh:hgB x0=true:=by
    simp only [hgB,Bool.and_eq_true,decide_eq_true_eq]
    omega
  have hx1:tkB x1=true:=by
    simp only [tkB,Bool.and_eq_true,decide_eq_true_eq]
    omega
  have hx2:tkB x2=true:=by
    simp only [tkB,Bool.and_eq_true,decide_eq_true_eq]
    omega
  have hxy:(tkB x1&&tkB x2)=true:=by rw [hx1,hx2];rfl
  obtain ⟨hv,hn,hc⟩:=vld g1 g5 g3 hz2
  have up:=cuts_up g1 g5 g3 hz2
  have hl:=loop11_0 (w:=w) (nw:=nw) (oA:=0) (nA:=n1) (cA:=c2) (o2A:=0) (n2A:=n2) (c3A:=c3) (o3A:=0) (n3A:=n3) (ageA:=age) (shearA:=shear) (q:=x0) g1 g5 g3 hz2 M hxy hw n3 0 (by omega)
  generalize hY:Y11_0 c1 0 n1 c2 0 n2 c3 0 n3 age shear x y rx ry tx ty w 0 nw x0 x1 x2=Y
  have hL:L11_0 Y=some (.k1 c1 0 n1 c2 0 n2 c3 0 n3 age shear x y rx ry tx ty w 0 nw x0 x1 x2 c1 0 n1 fin 0 n2 c3 0 n3 age shear):=by
    rw [← hY]
    unfold Y11_0 L11_0
    simp only [F54_0,F54_1,F54_2,F54_3,F54_4,F54_5,F54_6,F54_7,F54_8,F54_9,F54_10,hr]
    exact hl
  obtain ⟨R,hR,hS,hRl,hRv,hRg⟩:=bands11 (now:=x2) g1 g5 g3 hz2 M hxy hw
  have e42:=F42_eq (age:=age) (shear:=shear) (x:=x1) (y:=x2) g1 g5 g3
  rw [hS]at e42
  have ok42:F42_ok c1 0 n1 fin 0 n2 c3 0 n3 age shear x1 x2=true:=by simp only [F42_ok,e42];rfl
  have q42:F42_0 c1 0 n1 fin 0 n2 c3 0 n3 age shear x1 x2=arrB R∧F42_1 c1 0 n1 fin 0 n2 c3 0 n3 age shear x1 x2=0∧F42_2 c1 0 n1 fin 0 n2 c3 0 n3 age shear x1 x2=R.length∧F42_3 c1 0 n1 fin 0 n2 c3 0 n3 age shear x1 x2=0 :=
    ⟨by simp only [F42_0,e42],by simp only [F42_1,e42],by simp only [F42_2,e42],by simp only [F42_3,e42]⟩
  obtain ⟨q420,q421,q422,q423⟩:=q42
  have hRi:(R.length:Int)=(n3:Int):=by omega
  obtain ⟨a1,a2,a3,a4⟩:=F55_at (w:=w) (ow:=0) (nw:=nw) (c0:=c1) (c:=fin) (c3:=c3) (n:=n1) (n2:=n2) (n3:=n3) (o0:=0) (o2:=0) (o3:=0) (h:=x0) (k:=x1) fl.x fl.y fl.rx fl.ry fl.tx fl.ty hv.age hv.shear (by omega) ht
  cases hW:isW (pI x rx tx age shear x0 x1) (pI y ry ty age shear x0 x1) with
  | false =>
    rw [hW]at a4
    unfold rt11
    rw [hY]
    simp only [RT.val,ok54,e11,t0,t1,s0,s1,L11_0_k0,L11_0_k1,Qq0,Qq1,Qq2,Qq3,Qq4,Qq5,Qq6,Qq7,Qq8,Qq9,Qq10,Qq11,Qq12,Qq13,Qq14,Qq15,Qq16,Qq17,Qq18,Qq19,Qq20,Qq21,Qq22,Qq23,Qq24,Qq25,Qq26,Qq27,Qq28,Qq29,Qq30,Qq31,Qq32,Qq33,hL,ok42,q420,q421,q422,q423,hRi,a1,a2,a3,a4,eqCode_self,Int.ofNat_eq_natCast,Bool.not_true,Bool.not_false,decide_true,decide_false,cond_true,cond_false]
  | true =>
    rw [hW]at a4
    obtain ⟨i1,i2⟩:=in11 (lo:=x0) (hi:=x0) (now:=x2) hv M (Int.le_refl _) (Int.le_refl _) hW
    have he0:=agree11 (lo:=x0) (hi:=x0) (now:=x2) hv M (Int.le_refl _) (Int.le_refl _) hW
    have e40:=F40_eq (age:=age) (shear:=shear) (h:=x0) (x:=x1) (y:=x2) g1 g5 g3
    have hat:atS c1 fin c3 n1 n2 n3 age shear x0 x1 x2=(all c1 fin n2 age shear x0 x0 x1 x2 (chB 128 (-1)),0):=by
      unfold atS ansO
      rw [if_pos hz2,if_pos (by rw [hh,hxy];rfl),if_neg (by rw [he0];decide)]
    rw [hat]at e40
    unfold inX at i1
    unfold inY at i2
    obtain ⟨W,hWd⟩:∃W,W=all c1 fin n2 age shear x0 x0 x1 x2 (chB 128 (-1)):=⟨_,rfl⟩
    rw [← hWd]at e40 i1 i2
    have o40:F40_ok c1 0 n1 fin 0 n2 c3 0 n3 age shear x0 x1 x2=true:=by simp only [F40_ok,e40];rfl
    have q0:F40_0 c1 0 n1 fin 0 n2 c3 0 n3 age shear x0 x1 x2=W.xl:=by simp only [F40_0,e40]
    have q1:F40_1 c1 0 n1 fin 0 n2 c3 0 n3 age shear x0 x1 x2=W.xh:=by simp only [F40_1,e40]
    have q2:F40_2 c1 0 n1 fin 0 n2 c3 0 n3 age shear x0 x1 x2=W.yl:=by simp only [F40_2,e40]
    have q3:F40_3 c1 0 n1 fin 0 n2 c3 0 n3 age shear x0 x1 x2=W.yh:=by simp only [F40_3,e40]
    have q4:F40_4 c1 0 n1 fin 0 n2 c3 0 n3 age shear x0 x1 x2=0:=by simp only [F40_4,e40]
    rcases F27_of (h:=x0) (show 1≤R.length by omega) (show R.length≤20 by omega) hRv hh with ⟨k,hk,p1,p2,p3⟩ | ⟨p1,p3⟩
    · obtain ⟨b1,b2⟩:=hRg k hk
      rw [b1]at p1
      have hk3:k<n3:=by omega
      have hlo:wLo c3 (k:Int)≤x0:=by
        rcases Nat.eq_zero_or_pos k with h0 | h0
        · subst h0;rw [wLo_zero];omega
        · rw [wLo_pos h0]
          have:=p2 (k-1) (by omega) (by omega)
          rw [(hRg (k-1) (by omega)).1]at this
          exact this
      have hhi:x0≤wHi c3 (k:Int):=by rw [wHi_at (hc k hk3)];omega
      obtain ⟨j1,j2⟩:=in11 (lo:=wLo c3 (k:Int)) (hi:=wHi c3 (k:Int)) (now:=x2) hv M hlo hhi hW
      unfold inX at j1
      unfold inY at j2
      have r1:R[k].xl≤pI x rx tx age shear x0 x1∧pI x rx tx age shear x0 x1≤R[k].xh:=by rw [b2];exact j1
      have r2:R[k].yl≤pI y ry ty age shear x0 x1∧pI y ry ty age shear x0 x1≤R[k].yh:=by rw [b2];exact j2
      have o27:F27_ok (arrB R) 0 R.length x0=true:=by simp only [F27_ok,p3];rfl
      have z0:F27_0 (arrB R) 0 R.length x0=R[k].xl:=by simp only [F27_0,p3]
      have z1:F27_1 (arrB R) 0 R.length x0=R[k].xh:=by simp only [F27_1,p3]
      have z2:F27_2 (arrB R) 0 R.length x0=R[k].yl:=by simp only [F27_2,p3]
      have z3:F27_3 (arrB R) 0 R.length x0=R[k].yh:=by simp only [F27_3,p3]
      have z4:F27_4 (arrB R) 0 R.length x0=0:=by simp only [F27_4,p3]
      unfold rt11
      rw [hY]
      simp only [RT.val,ok54,e11,t0,t1,s0,s1,L11_0_k0,L11_0_k1,Qq0,Qq1,Qq2,Qq3,Qq4,Qq5,Qq6,Qq7,Qq8,Qq9,Qq10,Qq11,Qq12,Qq13,Qq14,Qq15,Qq16,Qq17,Qq18,Qq19,Qq20,Qq21,Qq22,Qq23,Qq24,Qq25,Qq26,Qq27,Qq28,Qq29,Qq30,Qq31,Qq32,Qq33,hL,ok42,q420,q421,q422,q423,hRi,a1,a2,a3,a4,o40,q0,q1,q2,q3,q4,o27,z0,z1,z2,z3,z4,(F56_at _ _ _).1,(F56_at _ _ _).2,i1.1,i1.2,i2.1,i2.2,r1.1,r1.2,r2.1,r2.2,show ¬((0:Int)=4) by decide,eqCode_self,Int.ofNat_eq_natCast,Bool.and_self,Bool.not_true,Bool.not_false,decide_true,decide_false,cond_true,cond_false]
    · have o27:F27_ok (arrB R) 0 R.length x0=true:=by simp only [F27_ok,p3];rfl
      have z4:F27_4 (arrB R) 0 R.length x0=4:=by simp only [F27_4,p3]
      have u1:IntKind.wrap .i64 ((n3:Int)-1)=((n3-1:Nat):Int):=by rw [wrap64_id (by omega) (by omega)];omega
      have u2:(0:Int)≤((n3-1:Nat):Int):=by omega
      have u3:((n3-1:Nat):Int)<(n3:Int):=by omega
      have u4:=g3.int (show n3-1<n3 by omega)
      have u5:getInt c3 (n3-1)≤x0:=by
        have:=p1 (n3-1) (by omega)
        rw [(hRg (n3-1) (by omega)).1]at this
        exact this
      unfold rt11
      rw [hY]
      simp only [RT.val,ok54,e11,t0,t1,s0,s1,L11_0_k0,L11_0_k1,Qq0,Qq1,Qq2,Qq3,Qq4,Qq5,Qq6,Qq7,Qq8,Qq9,Qq10,Qq11,Qq12,Qq13,Qq14,Qq15,Qq16,Qq17,Qq18,Qq19,Qq20,Qq21,Qq22,Qq23,Qq24,Qq25,Qq26,Qq27,Qq28,Qq29,Qq30,Qq31,Qq32,Qq33,hL,ok42,q420,q421,q422,q423,hRi,a1,a2,a3,a4,o40,q0,q1,q2,q3,q4,o27,z4,u1,u2,u3,u4,u5,(F56_at _ _ _).1,(F56_at _ _ _).2,i1.1,i1.2,i2.1,i2.2,eqCode_self,Int.toNat_natCast,Nat.zero_add,Nat.mul_one,Int.ofNat_eq_natCast,Bool.and_self,Bool.not_true,Bool.not_false,decide_true,decide_false,cond_true,cond_false]
theorem windFieldProved:Rows.WindFieldSaid:=said11 true11
end
end Go.Proofs.Ytfnogghclaijlaa
