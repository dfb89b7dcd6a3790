/- FlightBands proved: the wind at a height is that which wind.Over returns; the winds and the air of heights hold those of all heights between, for any bands, vehicle and heights. Conditions: none. -/
import Derived.Test.YtggaomgopenkfaaMg18
set_option linter.unusedVariables false
set_option linter.unusedSimpArgs false
namespace Go.Proofs.Ytggaomgopenkfaa
open Go.Gi Go.RowKit
noncomputable section
set_option maxRecDepth 100000
set_option maxHeartbeats 1000000
theorem u8_in {x:Int}(h:(Lit.int .u8 x).wf=true):0≤x∧x≤255:=by
 simp only[Lit.wf,Bool.and_eq_true,decide_eq_true_eq]at h;exact h
theorem share_in {zl zh s:Int}(h1:zl≤zh) (h2:-2000000000≤zl) (h3:zh≤2000000000) (s0:0≤s) (s1:s≤255) :
  ∃h,IntKind.wrap .i64 (zl+IntKind.wrap .i64 (Int.tdiv (IntKind.wrap .i64 (IntKind.wrap .i64 (zh-zl)*IntKind.wrap .i64 s)) 255))=h∧zl≤h∧h≤zh:=by
 have w1:IntKind.wrap .i64 (zh-zl)=zh-zl:=wrap64_id (by omega) (by omega)
 have w2:IntKind.wrap .i64 s=s:=wrap64_id (by omega) (by omega)
 have p0:0≤(zh-zl)*s:=Int.mul_nonneg (by omega) s0
 have p1:(zh-zl)*s≤(zh-zl)*255:=Int.mul_le_mul_of_nonneg_left s1 (by omega)
 have w3:IntKind.wrap .i64 ((zh-zl)*s)=(zh-zl)*s:=wrap64_id (by omega) (by omega)
 have t:Int.tdiv ((zh-zl)*s) 255=((zh-zl)*s) / 255:=Int.tdiv_eq_ediv_of_nonneg p0;rw[w1,w2,w3,t]
 have d0:0≤((zh-zl)*s) / 255:=Int.ediv_nonneg p0 (by omega)
 have d1:((zh-zl)*s) / 255≤zh-zl:=by omega
 rw[wrap64_id (x:=((zh-zl)*s) / 255) (by omega) (by omega),wrap64_id (by omega) (by omega)]
 exact ⟨_,rfl,by omega,by omega⟩
theorem F26_of (a b:Int):F26_0 a b=a∧F26_1 a b=b:=by
 have q:F26 a b=some ⟨a,b⟩:=rfl
 exact ⟨by unfold F26_0;rw[q],by unfold F26_1;rw[q]⟩
theorem F40_of {a b c d:Int}(h1:a≤c) (h2:d≤b):F40_ok a b c d=true∧F40_0 a b c d=true:=by
 have q:F40 a b c d=some ⟨true⟩:=by
  unfold F40 rt40;simp only[RT.val,mq,h1,h2,decide_true,cond_true]
 exact ⟨by unfold F40_ok;rw[q];rfl,by unfold F40_0;rw[q]⟩
theorem la_sub {fr:Nat→Int}{n:Nat}{zl zh h:Int}(h1:zl≤h) (h2:h≤zh) {j:Nat}(q:La fr n h h j):La fr n zl zh j :=
 ⟨q.1,q.2.1.imp id fun w=>by omega,fun w=>by have:=q.2.2 w;omega⟩
section
variable {l:Array Value}{n:Nat}{zl zh h:Int}
theorem F80_of (a:Int):F80_ok a=true∧F80_0 a=(decide (0≤a)&&decide (a<100000000)):=by
 have q:F80 a=some ⟨decide (0≤a)&&decide (a<100000000)⟩:=by
  unfold F80 rt80
  by_cases h:(0:Int)≤a<;>simp [RT.val,mq,h]
 exact ⟨by unfold F80_ok;rw[q];rfl,by unfold F80_0;rw[q]⟩
theorem loop41 (g:GL I6 6 l n)(few:n≤1000)(hb:∀k,k<n→bdE l k=0)(h0:0≤h):∀m k,k+m=n→(k=0∨wF l n k≤h) →
  (∃j,j<n∧wF l n j≤h∧h<wF l n (j+1)∧loopR rd41_0 ⟨h,l,0,n,(n:Int),(k:Int),0,0,0,0⟩=some (.k0 0 (wV l n 0 j) (wV l n 1 j) (wV l n 2 j) (wV l n 3 j))) ∨
  loopR rd41_0 ⟨h,l,0,n,(n:Int),(k:Int),0,0,0,0⟩=some (.k1 0 0 0 0)
 | 0,k,hk,_=>by
  obtain rfl:k=n:=by omega
  have z1:¬(k:Int)<(k:Int):=by omega
  exact .inr (loopR_done (by simp only[rd41_0,RT.val,mq,z1,decide_false,cond_false]))
 | m+1,k,hm,hf=>by
  have hk:k<n:=by omega
  obtain ⟨p1,p2,p3⟩:=pre1 n few k hk;have hr:rdOk l I6 (0+k*6)=true:=g.good.2 k hk;rw[Nat.zero_add]at hr;unfold I6 at hr;have e1:getInt l (k*6+1)=wF l n (k+1):=(wF_next hb hk).symm
  have hn:¬k=n:=by omega
  have v0:getInt l (k*6+2)=wV l n 0 k:=by unfold wV;rw[if_neg hn]
  have v1:getInt l (k*6+3)=wV l n 1 k:=by unfold wV;rw[if_neg hn]
  have v2:getInt l (k*6+4)=wV l n 2 k:=by unfold wV;rw[if_neg hn]
  have v3:getInt l (k*6+5)=wV l n 3 k:=by unfold wV;rw[if_neg hn]
  by_cases hx:h<wF l n (k+1)
  ·refine .inl ⟨k,hk,?_,hx,loopR_done ?_⟩
   ·rcases hf with rfl | hf
    ·have:=(bd_ft (hb 0 hk)).1
     rw[wF_mid hk,this];exact h0
    ·exact hf
   ·simp only[rd41_0,RT.val,mq,p1,p2,p3,hr,Int.toNat_natCast,Int.ofNat_eq_natCast,Nat.zero_add,decide_true,Bool.and_self,cond_true]
    simp only[Nat.add_assoc,Nat.reduceAdd,e1,v0,v1,v2,v3,hx,decide_true,cond_true]
  ·have st:(rd41_0 ⟨h,l,0,n,(n:Int),(k:Int),0,0,0,0⟩).val=some (.inl ⟨h,l,0,n,(n:Int),((k+1:Nat):Int),0,0,0,0⟩):=by
    simp only[rd41_0,RT.val,mq,p1,p2,p3,hr,Int.toNat_natCast,Int.ofNat_eq_natCast,Nat.zero_add,decide_true,Bool.and_self,cond_true];simp only[e1,hx,decide_false,cond_false]
   rcases loop41 g few hb h0 m (k+1) (by omega) (.inr (by omega)) with ⟨j,j1,j2,j3,j4⟩ | q
   ·exact .inl ⟨j,j1,j2,j3,(loopR_next st).trans j4⟩
   ·exact .inr ((loopR_next st).trans q)
theorem F41_of (g:GL I6 6 l n)(h:Int):∃p q r s e,F41 l 0 n h=some ⟨p,q,r,s,e⟩∧(e=0→(bnF l n).2=0∧∃j,j<n∧wF l n j≤h∧h<wF l n (j+1)∧p=wV l n 0 j∧q=wV l n 1 j∧r=wV l n 2 j∧s=wV l n 3 j):=by
 have p:=F53_eq g
 have o1:F53_ok l 0 n=true:=by unfold F53_ok;rw[p];rfl
 have o2:F53_1 l 0 n=(bnF l n).2:=by unfold F53_1;rw[p]
 by_cases hc:(bnF l n).2=0
 ·cases hi:(decide (0≤h)&&decide (h<100000000)) with
  | false =>
   refine ⟨0,0,0,0,7,?_,fun h=>by cases h⟩
   unfold F41 rt41;simp only[RT.val,mq,o1,o2,hc,(F80_of _).1,(F80_of _).2,hi,decide_true,Bool.not_true,Bool.not_false,cond_true,cond_false]
  | true =>
   have h0:0≤h:=by
    rw[Bool.and_eq_true]at hi;exact of_decide_eq_true hi.1
   obtain ⟨pos,few,hb⟩:=bn_of hc;have z:((0:Nat):Int)=0:=rfl
   rcases loop41 g (by omega) hb h0 n 0 (by omega) (.inl rfl) with ⟨j,j1,j2,j3,j4⟩ | q
   ·have lp:L41_0 (X41_0.mk h l 0 n (n:Int) 0 0 0 0 0)=some (.k0 0 (wV l n 0 j) (wV l n 1 j) (wV l n 2 j) (wV l n 3 j)):=j4
    refine ⟨wV l n 0 j,wV l n 1 j,wV l n 2 j,wV l n 3 j,0,?_,fun _=>⟨hc,j,j1,j2,j3,rfl,rfl,rfl,rfl⟩⟩
    unfold F41 rt41;simp only[RT.val,mq,o1,o2,hc,(F80_of _).1,(F80_of _).2,hi,Int.ofNat_eq_natCast,eqCode_self,L41_0_k0,Ql0,Ql1,Ql2,Ql3,Ql4,lp,decide_true,Bool.not_true,cond_true,cond_false]
   ·have lp:L41_0 (X41_0.mk h l 0 n (n:Int) 0 0 0 0 0)=some (.k1 0 0 0 0):=q
    refine ⟨0,0,0,0,4,?_,fun h=>by cases h⟩
    unfold F41 rt41;simp only[RT.val,mq,o1,o2,hc,(F80_of _).1,(F80_of _).2,hi,Int.ofNat_eq_natCast,eqCode_self,L41_0_k0,L41_0_k1,lp,decide_true,Bool.not_true,cond_true,cond_false]
 ·refine ⟨0,0,0,0,_,?_,fun h=>absurd h hc⟩
  unfold F41 rt41;simp only[RT.val,mq,o1,o2,hc,decide_false,Bool.not_false,cond_true]
theorem la_one (hb:∀k,k<n→bdE l k=0) {j:Nat}(hj:j<n) (h1:wF l n j≤h) (h2:h<wF l n (j+1)) (i:Nat):i=j↔La (wF l n) (n+1) h h i:=by
 have inc:=w_inc hb
 constructor
 ·rintro rfl
  exact ⟨by omega,.inr h1,fun _=>h2⟩
 ·intro ⟨a,b,c⟩
  rcases Nat.lt_trichotomy i j with q | q | q
  ·have:=c (by omega)
   have:=inc_le inc (show i+1≤j by omega) (by omega)
   omega
  ·exact q
  ·have:=inc_le inc (show j+1≤i by omega) a
   rcases b with b | b<;>omega
end
theorem true12:True12:=by
 intro lc ln nm g1 g2 ca na cp np c n zl zh sh hl h1 h2 h3 hs;obtain ⟨s0,s1⟩:=u8_in hs;obtain ⟨a,b,d,f,x,p,hp⟩:=F18_of (zl:=zl) (zh:=zh) hl;obtain ⟨s,t,y,p2,hp2⟩:=F20_of (nm:=nm) (g1:=g1) (g2:=g2) (zl:=zl) (zh:=zh) h1 h2 h3;unfold rt12
 by_cases z1:zh<zl
 ·have hh:htE zl zh≠0:=fun e=>by have:=sp_le (ht_sp e);omega
  have x0:¬x=0:=by rw[hp.1];split;exact hh;assumption
  have y0:¬y=0:=by rw[hp2.1];split;exact hh;assumption
  simp only[RT.val,mq,F18_ok,F18_4,F20_ok,F20_2,p,p2,z1,x0,y0,Option.isSome_some,decide_true,decide_false,Bool.not_false,cond_true]
 by_cases z2:zl < -2000000000
 ·have hh:htE zl zh≠0:=fun e=>by have:=sp_le (ht_sp e);omega
  have x0:¬x=0:=by rw[hp.1];split;exact hh;assumption
  have y0:¬y=0:=by rw[hp2.1];split;exact hh;assumption
  simp only[RT.val,mq,F18_ok,F18_4,F20_ok,F20_2,p,p2,z1,z2,x0,y0,Option.isSome_some,decide_true,decide_false,Bool.not_false,cond_true,cond_false]
 by_cases z3:2000000000<zh
 ·have hh:htE zl zh≠0:=fun e=>by have:=sp_le (ht_sp e);omega
  have x0:¬x=0:=by rw[hp.1];split;exact hh;assumption
  have y0:¬y=0:=by rw[hp2.1];split;exact hh;assumption
  simp only[RT.val,mq,F18_ok,F18_4,F20_ok,F20_2,p,p2,z1,z2,z3,x0,y0,Option.isSome_some,decide_true,decide_false,Bool.not_false,cond_true,cond_false]
 obtain ⟨h,hw,w1,w2⟩:=share_in (show zl≤zh by omega) (show -2000000000≤zl by omega) (show zh≤2000000000 by omega) s0 s1
 have hz:htE zl zh=0:=by unfold htE spB;rw[decide_eq_true (show zl≤zh by omega),decide_eq_true (show -2000000000≤zl by omega),decide_eq_true (show zh≤2000000000 by omega)];rfl
 have hz':htE h h=0:=by unfold htE spB;rw[decide_eq_true (show h≤h by omega),decide_eq_true (show -2000000000≤h by omega),decide_eq_true (show h≤2000000000 by omega)];rfl
 obtain ⟨a',b',d',f',x',p',hp'⟩:=F18_of (zl:=h) (zh:=h) hl;obtain ⟨s',t',y',p2',hp2'⟩:=F20_of (nm:=nm) (g1:=g1) (g2:=g2) (zl:=h) (zh:=h) h1 h2 h3;obtain ⟨u0,u1,u2,u3,e,p3,hp3⟩:=F41_of hl h
 have ex:x=x':=by rw[hp.1,hp'.1,hz,hz']
 have ey:y=y':=by rw[hp2.1,hp2'.1,hz,hz']
 subst ex;subst ey
 have k1:a≤a'∧b'≤b∧d≤d'∧f'≤f:=by
  by_cases x0:x=0
  ·obtain ⟨_,_,q1,q2⟩:=hp.2.2 x0
   obtain ⟨_,_,r1,r2⟩:=hp'.2.2 x0
   obtain ⟨m1,m2⟩:=q1.sub r1 fun j w=>la_sub w1 w2 w
   obtain ⟨m3,m4⟩:=q2.sub r2 fun j w=>la_sub w1 w2 w
   exact ⟨m1,m2,m3,m4⟩
  ·obtain ⟨q1,q2,q3,q4⟩:=hp.2.1 x0
   obtain ⟨r1,r2,r3,r4⟩:=hp'.2.1 x0
   omega
 have k2:s≤s'∧t'≤t:=by
  by_cases y0:y=0
  ·exact (hp2.2.2 y0).2.2.sub (hp2'.2.2 y0).2.2 fun j w=>la_sub w1 w2 w
  ·obtain ⟨q1,q2⟩:=hp2.2.1 y0
   obtain ⟨r1,r2⟩:=hp2'.2.1 y0
   omega
 obtain ⟨o1,o1'⟩:=F40_of k1.1 k1.2.1;obtain ⟨o2,o2'⟩:=F40_of k1.2.2.1 k1.2.2.2;obtain ⟨o3,o3'⟩:=F40_of k2.1 k2.2
 have fin:e=0→x=0∧a'=u0∧b'=u1∧d'=u2∧f'=u3:=by
  intro e0;obtain ⟨c0,j,j1,j2,j3,rfl,rfl,rfl,rfl⟩:=hp3 e0
  have x0:x=0:=by rw[hp.1,if_pos c0,hz]
  obtain ⟨_,hb,r1,r2⟩:=hp'.2.2 x0;obtain ⟨m1,m2⟩:=r1.uniq ((IsH.one j).congr (la_one hb j1 j2 j3));obtain ⟨m3,m4⟩:=r2.uniq ((IsH.one j).congr (la_one hb j1 j2 j3));exact ⟨x0,m1,m2,m3,m4⟩
 simp only[hw,(F26_of _ _).1,(F26_of _ _).2];simp only[RT.val,mq,F18_ok,F18_0,F18_1,F18_2,F18_3,F18_4,F20_ok,F20_0,F20_1,F20_2,F41_ok,F41_0,F41_1,F41_2,F41_3,F41_4,p,p2,p',p2',p3,z1,z2,z3,o1,o1',o2,o2',o3,o3',Option.isSome_some,decide_true,decide_false,Bool.not_true,Bool.and_self,arrEq_self,Bool.true_and,cond_true,cond_false]
 by_cases e0:e=0
 ·obtain ⟨x0,rfl,rfl,rfl,rfl⟩:=fin e0
  simp only[e0,x0,decide_true,Bool.not_true,Bool.and_self,cond_true,cond_false]
 ·simp only[e0,decide_false,Bool.not_false,cond_true]
theorem flightBandsProved:Rows.FlightBandsSaid:=said12 true12
end
end Go.Proofs.Ytggaomgopenkfaa
