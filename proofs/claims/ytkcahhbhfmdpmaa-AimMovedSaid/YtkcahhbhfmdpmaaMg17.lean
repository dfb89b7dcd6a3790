/- AimMoved proved: if Target, Allowed and all Areas are moved by the same distances, the best setting, its miss, and the reasons are the same; with a greater Allowed no setting stops to be allowed, for any task, bands and distances. Conditions: none. -/
import Derived.Test.YtkcahhbhfmdpmaaMg15
import Derived.Test.YtkcahhbhfmdpmaaMg16
import Derived.Test.YtkcahhbhfmdpmaaMg7
import Derived.Test.YtkcahhbhfmdpmaaMg12
import Derived.Test.YtkcahhbhfmdpmaaMg10
import Derived.Test.YtkcahhbhfmdpmaaMg13
import Derived.Test.YtkcahhbhfmdpmaaMg14
import Derived.Test.YtkcahhbhfmdpmaaMg6
set_option linter.unusedVariables false
set_option linter.unusedSimpArgs false
namespace Go.Proofs.Ytkcahhbhfmdpmaa
open Go.ChangeShapes Go.WideShapes Go.ChangeAt Go.RowKit Go.Gi
def True13:Prop:=∀(rc:Array Value) (rn:Nat) (sc:Array Value) (sn:Nat) (x:Int) (y:Int) (a:Int) (b:Int) (c:Int) (e:Int) (g:Int) (u:Int) (z:Int) (lc:Array Value) (ln:Nat) (e0:Int) (e1_:Int) (e2_:Int),GL I4 4 rc rn→GL I5 5 sc sn→GL I6 6 lc ln→(Lit.int .i32 e0).wf=true→(Lit.int .i32 e1_).wf=true→(Lit.int .i32 e2_).wf=true→(rt13 rc 0 rn sc 0 sn x y a b c e g u z lc 0 ln e0 e1_ e2_).val=some ⟨true⟩
theorem law13 (hm:True13) {rc:Array Value}{rn:Nat}{sc:Array Value}{sn:Nat}{x:Int}{y:Int}{a:Int}{b:Int}{c:Int}{e:Int}{g:Int}{u:Int}{z:Int}{lc:Array Value}{ln:Nat}{e0:Int}{e1_:Int}{e2_:Int}(hy0:GL I4 4 rc rn) (hy1:GL I5 5 sc sn) (hy2:GL I6 6 lc ln) (hy3:(Lit.int .i32 e0).wf=true) (hy4:(Lit.int .i32 e1_).wf=true) (hy5:(Lit.int .i32 e2_).wf=true) :
  Fact Try.prog (.call 13 ⟨[(.agg ⟨[lstV rc 0 rn 4,lstV sc 0 sn 5,.int .i64 x,.int .i64 y,.int .i64 a,.int .i64 b,.int .i64 c,.int .i64 e,.int .i64 g,.int .i64 u,.int .i64 z]⟩),(lstV lc 0 ln 6),(.agg ⟨[.int .i32 e0,.int .i32 e1_,.int .i32 e2_]⟩)]⟩ ⟨[],0,[]⟩) (.ret (.bool true) ⟨[],0,[]⟩):=by
 have hv:=hm rc rn sc sn x y a b c e g u z lc ln e0 e1_ e2_ hy0 hy1 hy2 hy3 hy4 hy5
 refine known13 _ (alt13 ⟨rc,0,rn,sc,0,sn,x,y,a,b,c,e,g,u,z,lc,0,ln,e0,e1_,e2_⟩ ⟨[],0,[]⟩) _ rfl ?_
 have e1:F13 rc 0 rn sc 0 sn x y a b c e g u z lc 0 ln e0 e1_ e2_=some ⟨true⟩:=hv
 have k0:F13_ok rc 0 rn sc 0 sn x y a b c e g u z lc 0 ln e0 e1_ e2_=true:=by unfold F13_ok;rw[e1];rfl
 have k1:F13_0 rc 0 rn sc 0 sn x y a b c e g u z lc 0 ln e0 e1_ e2_=true:=by
  show (match F13 rc 0 rn sc 0 sn x y a b c e g u z lc 0 ln e0 e1_ e2_ with | some r=>r.r0 | none=>false)=true
  rw[e1]
 simp only[alt13,k0,k1,AT.out,cond_true]
set_option maxRecDepth 100000 in
theorem lifted13 (hm:True13)(os:Os)(started:os.Started)(H:Type)(enc:TypeId×Value→H) :
  ReturnsInHanded {} Try.checked os 13 .any (Rows.aimMovedSpec.pre6 enc Try.prog Try.f13 Rows.aimMovedRow.domain false) (Rows.aimMovedSpec.post enc Try.prog Try.f13 false true false false):=by
 refine returnsInHanded_of_change (C:=Try.checked) own started (by kernel_rfl) Try.func13
  (ChangeSpec.witness6 (enc:=enc) (C:=Try.checked) false ⟨#[],#[.agg #[.slice none 0 0,.slice none 0 0,.int .i64 0,.int .i64 0,.int .i64 0,.int .i64 0,.int .i64 0,.int .i64 0,.int .i64 0,.int .i64 0,.int .i64 0],.slice none 0 0,.agg #[.int .i32 0,.int .i32 0,.int .i32 0]],[]⟩ 20 (by kernel_rfl) (by kernel_rfl) (by kernel_rfl) (by kernel_rfl)) ?_
 intro W base args ds gs before hval0 hW hcnd _;have hval:∀(j:Nat) t v,Try.f13.params[j]?=some t→args[j]?=some v→Value.okWide Try.prog W .any base t v:=hval0;have hW':=hW;obtain ⟨p,q,hA0,hV,rfl,hfz,hnd⟩:=hW
 have hA:DataW.TrodAll enc Try.prog W 0 (fun _=>true) true Try.f13.params.toList args.toList ds p:=hA0
 rw[Try.params13]at hA hval;obtain ⟨v0,vs0,d0,ds0,p0,q0,hargs,rfl,rfl,h0,r0⟩:=trodAll_cons hA;obtain ⟨v1,vs1,d1,ds1,p1,q1,rfl,rfl,rfl,h1,r1⟩:=trodAll_cons r0;obtain ⟨v2,vs2,d2,ds2,p2,q2,rfl,rfl,rfl,h2,r2⟩:=trodAll_cons r1;obtain ⟨rfl,rfl,rfl⟩:=trodAll_nil r2
 obtain rfl:args=#[v0,v1,v2]:=by cases args;simp_all
 obtain ⟨rfl,rfl⟩:=trodVars_none hV;have k0:=h0;have k1:=h1;have k2:=h2
 have lt0:∀x∈p0,x.block<W.heap.size:=by obtain ⟨m,hm⟩:=k0;exact DataW.trod_lt m _ _ _ hm
 have lt1:∀x∈p1,x.block<W.heap.size:=by obtain ⟨m,hm⟩:=k1;exact DataW.trod_lt m _ _ _ hm
 have lt2:∀x∈p2,x.block<W.heap.size:=by obtain ⟨m,hm⟩:=k2;exact DataW.trod_lt m _ _ _ hm
 obtain ⟨rc,rn,sc,sn,x,y,a,b,c,e,g,u,z,u0,hy0,hy1⟩:=taskArg (hval 0 31 v0 rfl rfl) h0;obtain ⟨lc,ln,u1,hy2⟩:=bandsArg (hval 1 38 v1 rfl rfl) h1;obtain ⟨e0,e1_,e2_,u2,hy3,hy4,hy5⟩:=byArg (hval 2 104 v2 rfl rfl) h2;clear hA0 hval0
 refine (calls_frozen (law13 hm (rc:=rc) (rn:=rn) (sc:=sc) (sn:=sn) (x:=x) (y:=y) (a:=a) (b:=b) (c:=c) (e:=e) (g:=g) (u:=u) (z:=z) (lc:=lc) (ln:=ln) (e0:=e0) (e1_:=e1_) (e2_:=e2_) hy0 hy1 hy2 hy3 hy4 hy5) rfl ((((VRs.nil _).push u0).push u1).push u2)).mono fun e W' ⟨he,bel⟩=>?_
 subst he
 exact ⟨_,rfl,_,_,_,[],_,[],hW',trodAll_mk1 (shut_bool Try.underlying4 _),(trodAll_cons_mk (Below.trod laidOut (by kernel_rfl) (of_decide_eq_true (by kernel_rfl)) k0 bel lt0) (trodAll_cons_mk (Below.trod laidOut (by kernel_rfl) (of_decide_eq_true (by kernel_rfl)) k1 bel lt1) (trodAll_cons_mk (Below.trod laidOut (by kernel_rfl) (of_decide_eq_true (by kernel_rfl)) k2 bel lt2) trodAll_mk0))),rfl,bel.frame _,fun h=>by cases h⟩
theorem over13 (hm:True13):Rows.aimMovedRow.holds Try.pinned (OpenSpec.ofChange Rows.aimMovedSpec) :=
 OpenClaim.holds_of_wide 13 Try.f13 rfl rfl rfl rfl rfl rfl rfl ⟨rfl,rfl,rfl,rfl,rfl⟩ rfl rfl rfl rfl rfl (by kernel_rfl) Try.func13 (by kernel_rfl)
  (of_decide_eq_true (by kernel_rfl)) (by unfold Func.isWrapper;first | (rw[if_pos (by decide +kernel)];kernel_rfl) | (rw[if_neg (by decide +kernel)];exact ⟨rfl,rfl⟩))
  (fun os started H enc _=>lifted13 hm os started H enc)
theorem said13 (hm:True13):Rows.AimMovedSaid:=over13 hm
end Go.Proofs.Ytkcahhbhfmdpmaa
namespace Go.Proofs.Ytkcahhbhfmdpmaa
open Go.Gi Go.RowKit
noncomputable section
set_option maxRecDepth 100000
set_option maxHeartbeats 1000000
theorem iterN_invK {σ:Type}{f:Nat→σ→σ}{I:Nat→σ→Prop}{n:Nat}(hI:∀k s,k<n→I k s→I (k+1) (f k s)):∀m k s,k+m=n→I k s→I n (iterN f m k s)
 | 0,k,s,h,hs=>by
  obtain rfl:k=n:=by omega
  exact hs
 | m+1,k,s,h,hs=>iterN_invK hI m (k+1) (f k s) (by omega) (hI k s (by omega) hs)
theorem mul_abs {p q A B:Int}(p1:-A≤p) (p2:p≤A) (q1:-B≤q) (q2:q≤B):-(A*B)≤p*q∧p*q≤A*B:=by
 have h1:0≤(A-p)*(B+q):=Int.mul_nonneg (by omega) (by omega)
 have h2:0≤(A+p)*(B-q):=Int.mul_nonneg (by omega) (by omega)
 have h3:0≤(A-p)*(B-q):=Int.mul_nonneg (by omega) (by omega)
 have h4:0≤(A+p)*(B+q):=Int.mul_nonneg (by omega) (by omega)
 simp only[Int.sub_mul,Int.add_mul,Int.mul_add,Int.mul_sub]at h1 h2 h3 h4
 omega
theorem w_id {n:Int}(h1:-9223372036854775808≤n) (h2:n<9223372036854775808):w n=n:=wrap64_id h1 h2
theorem inB_iff {n lo hi:Int}:inB n lo hi=true↔lo≤n∧n≤hi:=by
 unfold inB;simp only[Bool.and_eq_true,decide_eq_true_eq]
theorem wt_of {rc:Array Value}{k:Nat}(h:wtK rc k=0):getInt rc (k*4)=frI rc k∧getInt rc (k*4)<getInt rc (k*4+1)∧getInt rc (k*4+1)≤100000000∧getInt rc (k*4+2)≤getInt rc (k*4+3)∧-10000000≤getInt rc (k*4+2)∧getInt rc (k*4+3)≤10000000:=by
 unfold wtK wtE at h;simp only[Nat.zero_add,Nat.add_assoc,Nat.reduceAdd]at h
 by_cases h1:getInt rc (k*4)=frI rc k
 ·rw[if_pos h1]at h
  by_cases h2:getInt rc (k*4+1)≤getInt rc (k*4)
  ·rw[if_pos h2]at h;cases h
  ·rw[if_neg h2]at h
   by_cases h3:100000000<getInt rc (k*4+1)
   ·rw[if_pos h3]at h;cases h
   ·rw[if_neg h3]at h
    by_cases h4:spB (getInt rc (k*4+2)) (getInt rc (k*4+3)) 10000000=true
    ·unfold spB at h4
     simp only[Bool.and_eq_true,decide_eq_true_eq]at h4
     exact ⟨h1,by omega,by omega,h4.1,h4.2.1,h4.2.2⟩
    ·rw[if_neg h4]at h;cases h
 ·rw[if_neg h1]at h;cases h
theorem bd_of {lc:Array Value}{k:Nat}(h:bdE lc k=0):getInt lc (k*6)=prv lc k∧getInt lc (k*6)<getInt lc (k*6+1)∧getInt lc (k*6+1)≤100000000∧(getInt lc (k*6+2)≤getInt lc (k*6+3)∧-20000≤getInt lc (k*6+2)∧getInt lc (k*6+3)≤20000)∧(getInt lc (k*6+4)≤getInt lc (k*6+5)∧-20000≤getInt lc (k*6+4)∧getInt lc (k*6+5)≤20000):=by
 unfold bdE bd at h
 have sp:∀p q,spW p q=true→p≤q∧-20000≤p∧q≤20000:=by
  intro p q hs;unfold spW at hs;simp only[Bool.and_eq_true,decide_eq_true_eq,inB_iff]at hs
  omega
 by_cases h1:getInt lc (k*6)=prv lc k
 ·rw[if_pos h1]at h
  by_cases h2:getInt lc (k*6+1)≤getInt lc (k*6)
  ·rw[if_pos h2]at h;cases h
  ·rw[if_neg h2]at h
   by_cases h3:100000000<getInt lc (k*6+1)
   ·rw[if_pos h3]at h;cases h
   ·rw[if_neg h3]at h
    by_cases h4:spW (getInt lc (k*6+2)) (getInt lc (k*6+3))=true
    ·rw[if_pos h4]at h
     by_cases h5:spW (getInt lc (k*6+4)) (getInt lc (k*6+5))=true
     ·exact ⟨h1,by omega,by omega,sp _ _ h4,sp _ _ h5⟩
     ·rw[if_neg h5]at h;cases h
    ·rw[if_neg h4]at h;cases h
 ·rw[if_neg h1]at h;cases h
theorem se_of {sc:Array Value}{k:Nat}(h:seK sc k=0):(getInt sc (k*5)≤getInt sc (k*5+1)∧-500000000≤getInt sc (k*5)∧getInt sc (k*5+1)≤500000000)∧(getInt sc (k*5+2)≤getInt sc (k*5+3)∧-500000000≤getInt sc (k*5+2)∧getInt sc (k*5+3)≤500000000)∧0≤getInt sc (k*5+4)∧getInt sc (k*5+4)≤2000:=by
 unfold seK seE at h;simp only[Nat.zero_add,Nat.add_assoc,Nat.reduceAdd]at h
 by_cases h1:arB (getInt sc (k*5)) (getInt sc (k*5+1)) (getInt sc (k*5+2)) (getInt sc (k*5+3))=true
 ·rw[if_pos h1]at h
  unfold arB spB at h1;simp only[Bool.and_eq_true,decide_eq_true_eq]at h1
  by_cases h2:getInt sc (k*5+4)<0
  ·rw[if_pos h2]at h;cases h
  ·rw[if_neg h2]at h
   by_cases h3:2000<getInt sc (k*5+4)
   ·rw[if_pos h3]at h;cases h
   ·omega
 ·rw[if_neg h1]at h;cases h
section
variable {rc sc lc:Array Value}{rn sn ln:Nat}{x y a b c e g u z:Int}
theorem ex_of (h:(arB x x y y&&(arB a b c e&&(inB g 0 1000000000&&(inB u 0 6000&&inB z 0 6000))))=true):(-500000000≤x∧x≤500000000∧-500000000≤y∧y≤500000000)∧(a≤b∧-500000000≤a∧b≤500000000∧c≤e∧-500000000≤c∧e≤500000000)∧0≤g∧g≤1000000000∧0≤u∧u≤6000∧0≤z∧z≤6000:=by
 unfold arB spB at h;simp only[Bool.and_eq_true,decide_eq_true_eq,inB_iff]at h
 omega
def In4 (s:M4):Prop:=(-20000≤s.a∧s.a≤20000)∧(-20000≤s.b∧s.b≤20000)∧(-20000≤s.c∧s.c≤20000)∧(-20000≤s.d∧s.d≤20000)
theorem mn_in (hb:∀k,k<ln→bdE lc k=0)(f t:Int):In4 (mn lc ln f t):=by
 refine iterN_invK (I:=fun _ s=>In4 s) (n:=ln) (fun k s hk hs=>?_) ln 0 _ (by omega) (by unfold In4;decide)
 obtain ⟨_,_,_,h4,h5⟩:=bd_of (hb k hk);unfold mnS;unfold In4 at hs ⊢
 split
 ·split
  ·simp only
   omega
  ·exact hs
 ·exact hs
theorem pr_id {p q r s:Int}(p1:-10000000≤p) (p2:p≤10000000) (q1:-10000000≤q) (q2:q≤10000000) (r1:-20000≤r) (r2:r≤20000) (s1:-20000≤s) (s2:s≤20000) :
  prL p q r s=min (min (min (p*r) (p*s)) (q*r)) (q*s)∧prH p q r s=max (max (max (p*r) (p*s)) (q*r)) (q*s)∧(-200000000000≤prL p q r s∧prL p q r s≤200000000000)∧(-200000000000≤prH p q r s∧prH p q r s≤200000000000):=by
 have h1:=mul_abs (A:=10000000) (B:=20000) p1 p2 r1 r2;have h2:=mul_abs (A:=10000000) (B:=20000) p1 p2 s1 s2;have h3:=mul_abs (A:=10000000) (B:=20000) q1 q2 r1 r2;have h4:=mul_abs (A:=10000000) (B:=20000) q1 q2 s1 s2;unfold prL prH
 rw[w_id (n:=p*r) (by omega) (by omega),w_id (n:=p*s) (by omega) (by omega),w_id (n:=q*r) (by omega) (by omega),w_id (n:=q*s) (by omega) (by omega)]
 refine ⟨rfl,rfl,?_,?_⟩<;>omega
def smI (f:Nat→M4)(k:Nat)(s:Int×Int):Int×Int:=(s.1+prL (f k).a (f k).b (f k).c (f k).d,s.2+prH (f k).a (f k).b (f k).c (f k).d)
structure Pr (f:Nat→M4) (n:Nat):Prop where
 a:∀k,k<n→-10000000≤(f k).a∧(f k).a≤10000000
 b:∀k,k<n→-10000000≤(f k).b∧(f k).b≤10000000
 c:∀k,k<n→-20000≤(f k).c∧(f k).c≤20000
 d:∀k,k<n→-20000≤(f k).d∧(f k).d≤20000
def Bk (k:Nat)(s:Int×Int):Prop:=-(200000000000*(k:Int))≤s.1∧s.1≤200000000000*(k:Int)∧-(200000000000*(k:Int))≤s.2∧s.2≤200000000000*(k:Int)
theorem sm_id {f:Nat→M4}{n:Nat}(h:Pr f n) (hn:n≤20):sm f n=iterN (smI f) n 0 (0,0)∧Bk n (sm f n):=by
 have key:∀m k (s:Int×Int),k+m=n→Bk k s→iterN (smS f) m k s=iterN (smI f) m k s∧Bk n (iterN (smS f) m k s):=by
  intro m
  induction m with
  | zero =>
   intro k s e hs
   obtain rfl:k=n:=by omega
   exact ⟨rfl,hs⟩
  | succ m ih =>
   intro k s e hs
   have hk:k<n:=by omega
   obtain ⟨_,_,b1,b2⟩:=pr_id (h.a k hk).1 (h.a k hk).2 (h.b k hk).1 (h.b k hk).2 (h.c k hk).1 (h.c k hk).2 (h.d k hk).1 (h.d k hk).2;unfold Bk at hs
   have e1:smS f k s=smI f k s:=by
    unfold smS smI
    rw[w_id (n:=s.1+_) (by omega) (by omega),w_id (n:=s.2+_) (by omega) (by omega)]
   have hs':Bk (k+1) (smS f k s):=by
    rw[e1];unfold smI Bk;simp only[Int.natCast_add,Int.natCast_one]
    omega
   obtain ⟨i1,i2⟩:=ih (k+1) (smS f k s) (by omega) hs'
   refine ⟨?_,i2⟩
   show iterN (smS f) m (k+1) (smS f k s)=iterN (smI f) m (k+1) (smI f k s)
   rw[← e1];exact i1
 exact key n 0 (0,0) (by omega) (by unfold Bk;decide)
theorem fx_pr (t:Tsk rc sc rn sn x y a b c e g u z)(hb:∀k,k<ln→bdE lc k=0):Pr (fx rc lc ln) rn∧Pr (fy rc lc ln) rn:=by
 have hw:=fun k hk=>wt_of (t.wt k hk)
 have hm:=fun k=>mn_in (ln:=ln) hb (getInt rc (k*4)) (getInt rc (k*4+1))
 unfold In4 at hm
 refine ⟨⟨fun k hk=>?_,fun k hk=>?_,fun k hk=>?_,fun k hk=>?_⟩,⟨fun k hk=>?_,fun k hk=>?_,fun k hk=>?_,fun k hk=>?_⟩⟩<;>first
  | exact (hm k).1
  | exact (hm k).2.1
  | exact (hm k).2.2.1
  | exact (hm k).2.2.2
  | (have:=hw k hk;unfold fx;simp only;omega)
  | (have:=hw k hk;unfold fy;simp only;omega)
theorem wX_bd (t:Tsk rc sc rn sn x y a b c e g u z)(hb:∀k,k<ln→bdE lc k=0):(-4000000000000≤(wX rc lc rn ln).1∧(wX rc lc rn ln).1≤4000000000000∧-4000000000000≤(wX rc lc rn ln).2∧(wX rc lc rn ln).2≤4000000000000)∧(-4000000000000≤(wY rc lc rn ln).1∧(wY rc lc rn ln).1≤4000000000000∧-4000000000000≤(wY rc lc rn ln).2∧(wY rc lc rn ln).2≤4000000000000):=by
 obtain ⟨p,q⟩:=fx_pr t hb;have h1:=(sm_id p t.r.2).2;have h2:=(sm_id q t.r.2).2;have:=t.r.2;unfold Bk at h1 h2;unfold wX wY
 omega
theorem tmod_lo {a b:Int}(hb:0<b):-b<Int.tmod a b:=by
 by_cases h:0≤a
 ·have:=Int.tmod_nonneg b h;omega
 ·have h1:Int.tmod (-a) b<b:=Int.tmod_lt_of_pos _ hb
  rw[Int.neg_tmod]at h1
  omega
theorem qd_m {n:Int}(h1:-1000000000000000000≤n) (h2:n≤1000000000000000000):1000000*qd n 1000000≤n∧n<1000000*qd n 1000000+1000000:=by
 have e:=Int.tmod_add_mul_tdiv n 1000000
 have m1:=tmod_lo (a:=n) (b:=1000000) (by omega)
 have m2:=Int.tmod_lt_of_pos n (b:=1000000) (by omega)
 unfold qd
 rw[wrap64_id (x:=Int.tdiv n 1000000) (by omega) (by omega)]
 split
 ·rw[wrap64_id (by omega) (by omega)];omega
 ·omega
theorem drL_id {s v n:Int}(s1:-500000000≤s) (s2:s≤500000000) (v1:-4000000000000≤v) (v2:v≤4000000000000) (n1:0≤n) (n2:n≤2000) :
  1000000*drL s v n≤1000000*s+v*n∧1000000*s+v*n<1000000*drL s v n+1000000∧-9000000000≤drL s v n∧drL s v n≤9000000000:=by
 have h:=mul_abs (p:=v) (q:=n) (A:=4000000000000) (B:=2000) v1 v2 (by omega) n2
 unfold drL
 rw[w_id (n:=v*n) (by omega) (by omega)]
 obtain ⟨q1,q2⟩:=qd_m (n:=v*n) (by omega) (by omega)
 rw[w_id (by omega) (by omega)]
 omega
theorem drH_id {s v n:Int}(s1:-500000000≤s) (s2:s≤500000000) (v1:-4000000000000≤v) (v2:v≤4000000000000) (n1:0≤n) (n2:n≤2000) :
  1000000*s+v*n≤1000000*drH s v n∧1000000*drH s v n<1000000*s+v*n+1000000∧-9000000000≤drH s v n∧drH s v n≤9000000000:=by
 have h:=mul_abs (p:=v) (q:=n) (A:=4000000000000) (B:=2000) v1 v2 (by omega) n2
 have hneg:(0-v)*n=-(v*n):=by rw[Int.zero_sub,Int.neg_mul]
 unfold drH
 rw[w_id (n:=0-v) (by omega) (by omega),w_id (n:=(0-v)*n) (by omega) (by omega),hneg]
 obtain ⟨q1,q2⟩:=qd_m (n:=-(v*n)) (by omega) (by omega)
 rw[w_id (by omega) (by omega)]
 omega
end
section
variable {x y a b c e x' y' a' b' c' e':Int}{A B:Nat→M4}{sn:Nat}
structure Alk (x y a b c e x' y' a' b' c' e':Int) (m M:M4):Prop where
 xa:M.a-x'=m.a-x
 xb:M.b-x'=m.b-x
 yc:M.c-y'=m.c-y
 yd:M.d-y'=m.d-y
 a:M.a-a'=m.a-a
 b:M.b-b'=m.b-b
 c:M.c-c'=m.c-c
 e:M.d-e'=m.d-e
theorem Alk.co {m M:M4}(h:Alk x y a b c e x' y' a' b' c' e' m M):co0 x' y' M=co0 x y m∧co1 x' y' M=co1 x y m∧co2 x' y' M=co2 x y m∧co3 x' y' M=co3 x y m:=by
 unfold co0 co1 co2 co3;rw[h.xa,h.xb,h.yc,h.yd];exact ⟨rfl,rfl,rfl,rfl⟩
theorem Alk.mi {m M:M4}(h:Alk x y a b c e x' y' a' b' c' e' m M):mi x' y' M=mi x y m:=by
 obtain ⟨h0,h1,h2,h3⟩:=h.co;unfold Go.Proofs.Ytkcahhbhfmdpmaa.mi;rw[h0,h1,h2,h3]
theorem Alk.al {m M:M4}(h:Alk x y a b c e x' y' a' b' c' e' m M):al a' b' c' e' M=al a b c e m:=by
 have h1:=h.a;have h2:=h.b;have h3:=h.c;have h4:=h.e
 have e1:decide (M.a<a')=decide (m.a<a):=by rw[decide_eq_decide];omega
 have e2:decide (b' < M.b)=decide (b<m.b):=by rw[decide_eq_decide];omega
 have e3:decide (M.c<c')=decide (m.c<c):=by rw[decide_eq_decide];omega
 have e4:decide (e' < M.d)=decide (e<m.d):=by rw[decide_eq_decide];omega
 unfold Go.Proofs.Ytkcahhbhfmdpmaa.al;rw[e1,e2,e3,e4]
theorem Alk.pf {m M:M4}(h:Alk x y a b c e x' y' a' b' c' e' m M) (kd k st ms:Int) (j:Nat):pfB x' y' a' b' c' e' M kd k st ms j=pfB x y a b c e m kd k st ms j:=by
 have h1:=h.a;have h2:=h.b;have h3:=h.c;have h4:=h.e
 have e1:decide (M.a<a')=decide (m.a<a):=by rw[decide_eq_decide];omega
 have e2:decide (b' < M.b)=decide (b<m.b):=by rw[decide_eq_decide];omega
 have e3:decide (M.c<c')=decide (m.c<c):=by rw[decide_eq_decide];omega
 have e4:decide (e' < M.d)=decide (e<m.d):=by rw[decide_eq_decide];omega
 obtain ⟨c0,c1,c2,c3⟩:=h.co;unfold pfB;rw[e1,e2,e3,e4,c0,c1,c2,c3]
theorem Alk.rs {m M:M4}(h:Alk x y a b c e x' y' a' b' c' e' m M) (k st ms:Int):rsF x' y' a' b' c' e' M k st ms=rsF x y a b c e m k st ms:=by
 unfold rsF;rw[h.al,h.pf,h.pf,h.pf,h.pf]
theorem alL_congr (h:∀k,k<sn→al a' b' c' e' (B k)=al a b c e (A k)):alL a' b' c' e' B sn=alL a b c e A sn:=by
 unfold alL
 refine List.filter_congr fun k hk=>?_
 exact h k (List.mem_range.1 hk)
theorem bst_congr {r s:Nat→Int}:∀{l:List Nat}{o:Option Nat},(∀k∈l,r k=s k)→(∀j,o=some j→r j=s j)→bst r l o=bst s l o
 | [],o,_,_=>rfl
 | k::l,o,h,ho=>by
  have hk:=h k (List.mem_cons_self ..)
  have hl:∀q∈l,r q=s q:=fun q hq=>h q (List.mem_cons_of_mem _ hq)
  cases o with
  | none =>
   show bst r l (some k)=bst s l (some k)
   exact bst_congr hl (fun j e=>by cases e;exact hk)
  | some j =>
   have hj:=ho j rfl
   show (if r k<r j then bst r l (some k) else bst r l (some j))=(if s k<s j then bst s l (some k) else bst s l (some j))
   rw[hk,hj]
   split
   ·exact bst_congr hl (fun q e=>by cases e;exact hk)
   ·exact bst_congr hl (fun q e=>by cases e;exact hj)
theorem beF_congr (h:∀k,k<sn→Alk x y a b c e x' y' a' b' c' e' (A k) (B k))(err:Int):beF x' y' a' b' c' e' B sn err=beF x y a b c e A sn err:=by
 have ea:=alL_congr (A:=A) (B:=B) (sn:=sn) fun k hk=>(h k hk).al
 have eb:bs x' y' a' b' c' e' B sn=bs x y a b c e A sn:=by
  unfold bs;rw[ea]
  exact bst_congr (fun k hk=>(h k (alL_lt hk).1).mi) (fun j e=>by cases e)
 unfold beF;rw[eb]
 cases hb:bs x y a b c e A sn with
 | none=>rfl
 | some j =>
  have hj:=bs_lt hb
  have er:∀st ms,rsL x' y' a' b' c' e' B st ms sn=rsL x y a b c e A st ms sn:=by
   intro st ms;unfold rsL
   refine List.map_congr_left fun k hk=>?_
   exact (h k (List.mem_range.1 hk)).rs _ _ _
  simp only[(h j hj).mi,er]
end
end
end Go.Proofs.Ytkcahhbhfmdpmaa
namespace Go.Gi
open Go.RowKit
noncomputable section
def intA (q:IntKind)(l:List Int):Array Value:=⟨l.map (Value.int q)⟩
theorem intA_size (q:IntKind)(l:List Int):(intA q l).size=l.length:=by simp [intA]
theorem lget_map (q:IntKind):∀(l:List Int) (k:Nat),k<l.length→lget (l.map (Value.int q)) k=.int q (l.getD k 0)
 | [],k,h=>by simp at h
 | x::r,0,_=>rfl
 | x::r,k+1,h=>by
  show lget (r.map (Value.int q)) k=_
  rw[lget_map q r k (by simpa using h)]
  simp
theorem intA_get {q:IntKind}{l:List Int}{k:Nat}(h:k<l.length):getInt (intA q l) k=l.getD k 0:=by
 unfold getInt intA;rw[lget_map q l k h]
theorem intA_is {q:IntKind}{l:List Int}{k:Nat}(h:k<l.length):isInt q (intA q l) k=true:=by
 unfold isInt intA;rw[lget_map q l k h];simp
theorem intA_fz (q:IntKind)(l:List Int):allFz (intA q l)=true:=by
 unfold allFz intA;rw[List.all_eq_true];intro v hv;simp only[List.mem_map]at hv;obtain ⟨x,_,rfl⟩:=hv
 rfl
theorem intA_set (q:IntKind)(l:List Int)(i:Nat)(v:Int):wcells (intA q l) i [.int q v]=intA q (l.set i v):=by
 show (intA q l).setIfInBounds i (.int q v)=_
 apply Array.ext'
 simp [intA,List.map_set]
end
end Go.Gi
namespace Go.Proofs.Ytkcahhbhfmdpmaa
open Go.Gi Go.RowKit
noncomputable section
set_option maxRecDepth 100000
set_option maxHeartbeats 2000000
theorem arr_ints {c:Array Value}{n:Nat}(hs:c.size=n) (h:∀i,i<n→isInt .i64 c i=true):c=intA .i64 ((List.range n).map fun i=>getInt c i):=by
 apply Array.ext
 ·rw[intA_size,List.length_map,List.length_range,hs]
 ·intro i h1 h2
  have hi:i<n:=by omega
  have e1:c[i]?=some (.int .i64 (getInt c i)):=isInt_ok (h i hi)
  rw[Array.getElem?_eq_getElem h1]at e1
  rw[Option.some.inj e1]
  simp [intA]
theorem row5_ints {sc:Array Value}{sn:Nat}(g:GL I5 5 sc sn):∀i,i<sn*5→isInt .i64 sc i=true:=by
 intro i hi
 have hr:rdOk sc I5 (0+i / 5*5)=true:=g.good.2 (i / 5) (by omega)
 rw[Nat.zero_add]at hr;have hr':(isInt .i64 sc (i / 5*5)&&(isInt .i64 sc (i / 5*5+1)&&(isInt .i64 sc (i / 5*5+2)&&(isInt .i64 sc (i / 5*5+3)&&(isInt .i64 sc (i / 5*5+4)&&true)))))=true:=hr;simp only[Bool.and_eq_true]at hr';obtain ⟨h0,h1,h2,h3,h4,_⟩:=hr'
 have m:i % 5=0∨i % 5=1∨i % 5=2∨i % 5=3∨i % 5=4:=by omega
 rcases m with m | m | m | m | m
 ·rw[show i=i / 5*5 by omega];exact h0
 ·rw[show i=i / 5*5+1 by omega];exact h1
 ·rw[show i=i / 5*5+2 by omega];exact h2
 ·rw[show i=i / 5*5+3 by omega];exact h3
 ·rw[show i=i / 5*5+4 by omega];exact h4
theorem GL_ints {l:List Int}{n:Nat}(hl:l.length=n*5) (few:n≤1000):GL I5 5 (intA .i64 l) n:=by
 refine ⟨⟨?_,fun k hk=>?_⟩,by rw[intA_size,hl],Nat.le_trans few (by decide)⟩
 ·show (l.map (Value.int .i64)).all g0=true
  rw[List.all_map]
  exact List.all_eq_true.2 fun _ _=>rfl
 ·show rdOk (intA .i64 l) I5 (0+k*5)=true
  have q:∀j,j<5→isInt .i64 (intA .i64 l) (0+k*5+j)=true:=fun j hj=>intA_is (by omega)
  show (isInt .i64 (intA .i64 l) (0+k*5+0)&&(isInt .i64 (intA .i64 l) (0+k*5+1)&&(isInt .i64 (intA .i64 l) (0+k*5+2)&&(isInt .i64 (intA .i64 l) (0+k*5+3)&&(isInt .i64 (intA .i64 l) (0+k*5+4)&&true)))))=true
  rw[q 0 (by omega),q 1 (by omega),q 2 (by omega),q 3 (by omega),q 4 (by omega)]
  rfl
theorem oneAll_ints (l:List Int):oneAll (intA .i64 l)=true:=by
 unfold oneAll intA
 show (l.map (Value.int .i64)).all (·.oneCell')=true
 rw[List.all_map]
 exact List.all_eq_true.2 fun _ _=>rfl
theorem F37_of (a b c d x y:Int):F37_0 a b c d x y=IntKind.wrap .i64 (a+x)∧F37_1 a b c d x y=IntKind.wrap .i64 (b+x)∧F37_2 a b c d x y=IntKind.wrap .i64 (c+y)∧F37_3 a b c d x y=IntKind.wrap .i64 (d+y):=by
 have q:F37 a b c d x y=some ⟨F19_0 (IntKind.wrap .i64 (a+x)) (IntKind.wrap .i64 (b+x)) (IntKind.wrap .i64 (c+y)) (IntKind.wrap .i64 (d+y)),F19_1 (IntKind.wrap .i64 (a+x)) (IntKind.wrap .i64 (b+x)) (IntKind.wrap .i64 (c+y)) (IntKind.wrap .i64 (d+y)),F19_2 (IntKind.wrap .i64 (a+x)) (IntKind.wrap .i64 (b+x)) (IntKind.wrap .i64 (c+y)) (IntKind.wrap .i64 (d+y)),F19_3 (IntKind.wrap .i64 (a+x)) (IntKind.wrap .i64 (b+x)) (IntKind.wrap .i64 (c+y)) (IntKind.wrap .i64 (d+y))⟩:=rfl
 have r:∀p q r s,F19 p q r s=some ⟨p,q,r,s⟩:=fun _ _ _ _=>rfl
 refine ⟨?_,?_,?_,?_⟩
 ·unfold F37_0;rw[q];simp only[F19_0,r]
 ·unfold F37_1;rw[q];simp only[F19_1,r]
 ·unfold F37_2;rw[q];simp only[F19_2,r]
 ·unfold F37_3;rw[q];simp only[F19_3,r]
structure Mvd (sc:Array Value) (sn:Nat) (dx dy:Int) (k:Nat) (l:List Int):Prop where
 len:l.length=sn*5
 v0:∀i,i<sn→l.getD (i*5) 0=if i<k then IntKind.wrap .i64 (getInt sc (i*5)+dx) else getInt sc (i*5)
 v1:∀i,i<sn→l.getD (i*5+1) 0=if i<k then IntKind.wrap .i64 (getInt sc (i*5+1)+dx) else getInt sc (i*5+1)
 v2:∀i,i<sn→l.getD (i*5+2) 0=if i<k then IntKind.wrap .i64 (getInt sc (i*5+2)+dy) else getInt sc (i*5+2)
 v3:∀i,i<sn→l.getD (i*5+3) 0=if i<k then IntKind.wrap .i64 (getInt sc (i*5+3)+dy) else getInt sc (i*5+3)
 v4:∀i,i<sn→l.getD (i*5+4) 0=getInt sc (i*5+4)
theorem getD_set (l:List Int)(i j:Nat)(v:Int)(h:i<l.length):(l.set i v).getD j 0=if j=i then v else l.getD j 0:=by
 rw[List.getD_eq_getElem?_getD,List.getD_eq_getElem?_getD,List.getElem?_set]
 by_cases e:i=j
 ·subst e
  rw[if_pos rfl,if_pos rfl,if_pos h]
  rfl
 ·rw[if_neg e,if_neg (fun q=>e q.symm)]
theorem set4 (l:List Int)(k:Nat)(p q r s:Int)(h:k+4≤l.length)(j:Nat):((((l.set k p).set (k+1) q).set (k+2) r).set (k+3) s).getD j 0=if j=k+3 then s else if j=k+2 then r else if j=k+1 then q else if j=k then p else l.getD j 0:=by
 rw[getD_set _ _ _ _ (by simp only[List.length_set];omega),getD_set _ _ _ _ (by simp only[List.length_set];omega),getD_set _ _ _ _ (by simp only[List.length_set];omega),getD_set _ _ _ _ (by omega)]
theorem wcells4 (l:List Int)(k:Nat)(p q r s:Int):wcells (intA .i64 l) k [.int .i64 p,.int .i64 q,.int .i64 r,.int .i64 s]=intA .i64 ((((l.set k p).set (k+1) q).set (k+2) r).set (k+3) s):=by
 have h:=fun (l:List Int) (i:Nat) (v:Int)=>intA_set .i64 l i v
 simp only[wcells]at h ⊢;rw[h,h,h,h]
theorem Mvd.next {sc:Array Value}{sn:Nat}{dx dy:Int}{k:Nat}{l:List Int}(m:Mvd sc sn dx dy k l) (hk:k<sn) :
  Mvd sc sn dx dy (k+1) ((((l.set (k*5) (IntKind.wrap .i64 (getInt sc (k*5)+dx))).set (k*5+1) (IntKind.wrap .i64 (getInt sc (k*5+1)+dx))).set (k*5+2) (IntKind.wrap .i64 (getInt sc (k*5+2)+dy))).set (k*5+3) (IntKind.wrap .i64 (getInt sc (k*5+3)+dy))):=by
 have hl:=m.len
 have s4:=fun j=>set4 l (k*5) (IntKind.wrap .i64 (getInt sc (k*5)+dx)) (IntKind.wrap .i64 (getInt sc (k*5+1)+dx)) (IntKind.wrap .i64 (getInt sc (k*5+2)+dy)) (IntKind.wrap .i64 (getInt sc (k*5+3)+dy)) (by omega) j
 refine ⟨by simp only[List.length_set];exact hl,fun i hi=>?_,fun i hi=>?_,fun i hi=>?_,fun i hi=>?_,fun i hi=>?_⟩
 ·rw[s4,if_neg (by omega),if_neg (by omega),if_neg (by omega)]
  by_cases e:i=k
  ·subst e;rw[if_pos rfl,if_pos (by omega)]
  ·rw[if_neg (by omega),m.v0 i hi]
   by_cases c:i<k
   ·rw[if_pos c,if_pos (by omega)]
   ·rw[if_neg c,if_neg (by omega)]
 ·rw[s4,if_neg (by omega),if_neg (by omega)]
  by_cases e:i=k
  ·subst e;rw[if_pos rfl,if_pos (by omega)]
  ·rw[if_neg (by omega),if_neg (by omega),m.v1 i hi]
   by_cases c:i<k
   ·rw[if_pos c,if_pos (by omega)]
   ·rw[if_neg c,if_neg (by omega)]
 ·rw[s4,if_neg (by omega)]
  by_cases e:i=k
  ·subst e;rw[if_pos rfl,if_pos (by omega)]
  ·rw[if_neg (by omega),if_neg (by omega),if_neg (by omega),m.v2 i hi]
   by_cases c:i<k
   ·rw[if_pos c,if_pos (by omega)]
   ·rw[if_neg c,if_neg (by omega)]
 ·rw[s4]
  by_cases e:i=k
  ·subst e;rw[if_pos rfl,if_pos (by omega)]
  ·rw[if_neg (by omega),if_neg (by omega),if_neg (by omega),if_neg (by omega),m.v3 i hi]
   by_cases c:i<k
   ·rw[if_pos c,if_pos (by omega)]
   ·rw[if_neg c,if_neg (by omega)]
 ·rw[s4,if_neg (by omega),if_neg (by omega),if_neg (by omega),if_neg (by omega),m.v4 i hi]
theorem loop13b {sc:Array Value}{sn:Nat}(g:GL I5 5 sc sn) (few:sn≤1000) (dx dy:Int) (r0:Array Value) (r1:Nat) (r2:Nat) (r3:Int) (r4:Array Value) (r5:Nat) (r6:Nat) (r10:Array Value) (r11:Nat) (r12:Nat) (r16:Int) (r17:Int) (r18:Int) (r19:Int) (r20:Int) (r21:Int) (r22:Int) (r23:Int) (r24:Int) (r25:Int) (r26:Int) (r27:Int) (r28:Int) (r29:Int) (r30:Array Value) (r31:Nat) (r32:Nat) (r33:Array Value) (r34:Nat) (r35:Nat) (r37:Int) (r38:Int) (r39:Int) (r40:Int) (r41:Int) (r42:Int) (r43:Int) (r44:Int) (r45:Int) (r46:Array Value) (r47:Nat) (r48:Nat) (r49:Array Value) (r50:Nat) (r51:Nat) (r52:Int) (r53:Int) (r54:Int) (r55:Int) (r56:Int) (r57:Int) (r58:Int) (r59:Int) (r60:Int):∀m k (l:List Int),k+m=sn→Mvd sc sn dx dy k l →
  ∃l',Mvd sc sn dx dy sn l'∧loopR rd13_0b (X13_0b.mk r0 r1 r2 r3 r4 r5 r6 dx dy (k:Int) r10 r11 r12 sc 0 sn r16 r17 r18 r19 r20 r21 r22 r23 r24 r25 r26 r27 r28 r29 r30 r31 r32 r33 r34 r35 sn r37 r38 r39 r40 r41 r42 r43 r44 r45 r46 r47 r48 r49 r50 r51 r52 r53 r54 r55 r56 r57 r58 r59 r60 (intA .i64 l))=some (.k0 r0 r1 r2 r3 r4 r5 r6 r10 r11 r12 sc 0 sn r16 r17 r18 r19 r20 r21 r22 r23 r24 r25 r26 r27 r28 r29 r30 r31 r32 r33 r34 r35 sn r37 r38 r39 r40 r41 r42 r43 r44 r45 r46 r47 r48 r49 r50 r51 r52 r53 r54 r55 r56 r57 r58 r59 r60 (intA .i64 l'))
 | 0,k,l,h,hm=>by
  obtain rfl:k=sn:=by omega
  have z1:¬(k:Int)<(k:Int):=by omega
  exact ⟨l,hm,loopR_done (by simp only[rd13_0b,RT.val,mq,z1,Int.ofNat_eq_natCast,intA_fz,decide_false,cond_true,cond_false])⟩
 | m+1,k,l,h,hm=>by
  have hk:k<sn:=by omega
  have p1:(k:Int)<(sn:Int):=by omega
  have p2:(0:Int)≤(k:Int):=by omega
  have p3:IntKind.wrap .i64 ((k:Int)+1)=((k+1:Nat):Int):=by rw[wrap64_id (by omega) (by omega)];omega
  have q:∀j,j<5→isInt .i64 sc (k*5+j)=true:=fun j hj=>row5_ints g _ (by omega)
  have hr:rdOk sc [(Leaf.int .i64),(Leaf.int .i64),(Leaf.int .i64),(Leaf.int .i64)] (k*5)=true:=by
   show (isInt .i64 sc (k*5+0)&&(isInt .i64 sc (k*5+1)&&(isInt .i64 sc (k*5+2)&&(isInt .i64 sc (k*5+3)&&true))))=true
   rw[q 0 (by omega),q 1 (by omega),q 2 (by omega),q 3 (by omega)]
   rfl
  have sz:k*5+4≤(intA .i64 l).size:=by rw[intA_size,hm.len];omega
  have fo:=fun A B C D E F=>F37_of A B C D E F
  obtain ⟨l',r1,r2⟩:=loop13b g few dx dy r0 r1 r2 r3 r4 r5 r6 r10 r11 r12 r16 r17 r18 r19 r20 r21 r22 r23 r24 r25 r26 r27 r28 r29 r30 r31 r32 r33 r34 r35 r37 r38 r39 r40 r41 r42 r43 r44 r45 r46 r47 r48 r49 r50 r51 r52 r53 r54 r55 r56 r57 r58 r59 r60 m (k+1) _ (by omega) (hm.next hk)
  refine ⟨l',r1,(loopR_next ?_).trans r2⟩
  simp only[rd13_0b,RT.val,mq,p1,p2,p3,hr,sz,(fo _ _ _ _ _ _).1,(fo _ _ _ _ _ _).2.1,(fo _ _ _ _ _ _).2.2.1,(fo _ _ _ _ _ _).2.2.2,Int.toNat_natCast,Int.ofNat_eq_natCast,Nat.zero_add,Nat.add_zero,Nat.add_assoc,Nat.reduceAdd,wcells4,intA_fz,decide_true,Bool.and_self,cond_true]
  rfl
theorem loop25 (L:List (Int×Int))(few:L.length≤1000)(st ms:Int):∀m k,k+m=L.length →
  loopR rd25_0 ⟨(k:Int),st,ms,arrL rR L,0,L.length,st,ms,arrL rR L,0,L.length⟩=some (.k1 st ms (arrL rR L) 0 L.length st ms (arrL rR L) 0 L.length)
 | 0,k,h=>by
  obtain rfl:k=L.length:=by omega
  have z1:¬(L.length:Int)<(L.length:Int):=by omega
  exact loopR_done (by simp only[rd25_0,RT.val,mq,z1,Int.ofNat_eq_natCast,decide_false,cond_false])
 | m+1,k,h=>by
  have hk:k<L.length:=by omega
  have p1:(k:Int)<(L.length:Int):=by omega
  have p2:(0:Int)≤(k:Int):=by omega
  have p3:IntKind.wrap .i64 ((k:Int)+1)=((k+1:Nat):Int):=by rw[wrap64_id (by omega) (by omega)];omega
  have hr:rdOk (arrL rR L) [(Leaf.int .i64),(Leaf.int .i64)] (k*2+0)=_:=rdOk_arrL rR_len L hk [(Leaf.int .i64),(Leaf.int .i64)] 0 (by decide)
  have hr':rdOk (arrL rR L) [(Leaf.int .i64),(Leaf.int .i64)] (k*2)=true:=hr.trans rfl
  refine (loopR_next ?_).trans (loop25 L few st ms m (k+1) (by omega))
  simp only[rd25_0,RT.val,mq,p1,p2,p3,hr',Int.toNat_natCast,Int.ofNat_eq_natCast,Nat.zero_add,decide_true,Bool.and_self,Bool.not_true,cond_true,cond_false]
theorem F25_self (L:List (Int×Int))(few:L.length≤1000)(st ms:Int):F25_ok st ms (arrL rR L) 0 L.length st ms (arrL rR L) 0 L.length=true∧F25_0 st ms (arrL rR L) 0 L.length st ms (arrL rR L) 0 L.length=true:=by
 have l:L25_0 (X25_0.mk 0 st ms (arrL rR L) 0 L.length st ms (arrL rR L) 0 L.length)=some (.k1 st ms (arrL rR L) 0 L.length st ms (arrL rR L) 0 L.length):=loop25 L few st ms L.length 0 (by omega)
 have q:F25 st ms (arrL rR L) 0 L.length st ms (arrL rR L) 0 L.length=some ⟨true⟩:=by
  unfold F25 rt25;simp only[RT.val,mq,eqCode_self,L25_0_k0,L25_0_k1,l,decide_true,Bool.not_true,cond_true,cond_false]
 exact ⟨by unfold F25_ok;rw[q];rfl,by unfold F25_0;rw[q]⟩
section
variable (L M:List Nat)
theorem loop132 (fewM:M.length≤1000) {i:Nat}(hi:i<L.length) (r7:Array Value) (r8:Nat) (r9:Nat) (r10:Array Value) (r11:Nat) (r12:Nat) (r13:Int) (r14:Int) (r15:Int) (r16:Int) (r17:Int) (r18:Int) (r19:Int) (r20:Int) (r21:Int) (r22:Int) (r23:Int) (r24:Int) (r25:Int) (r26:Int) (r27:Array Value) (r28:Nat) (r29:Nat):∀m k (o:Bool),k+m=M.length→(o=true∨∃j,∃h:j<M.length,k≤j∧M[j]=L[i]) →
  loopR rd13_2 (X13_2.mk (arrL rI L) 0 L.length (arrL rI M) 0 M.length (i:Int) o (k:Int) r7 r8 r9 r10 r11 r12 r13 r14 r15 r16 r17 r18 r19 r20 r21 r22 r23 r24 r25 r26 r27 r28 r29)=some (.k0 (arrL rI L) 0 L.length (arrL rI M) 0 M.length (i:Int) true r7 r8 r9 r10 r11 r12 r13 r14 r15 r16 r17 r18 r19 r20 r21 r22 r23 r24 r25 r26 r27 r28 r29)
 | 0,k,o,h,ho=>by
  obtain rfl:k=M.length:=by omega
  have z1:¬(M.length:Int)<(M.length:Int):=by omega
  have e:o=true:=by
   rcases ho with ho | ⟨j,hj,hk,_⟩
   ·exact ho
   ·omega
  subst e
  exact loopR_done (by simp only[rd13_2,RT.val,mq,z1,Int.ofNat_eq_natCast,decide_false,cond_false])
 | m+1,k,o,h,ho=>by
  have hk:k<M.length:=by omega
  have p1:(k:Int)<(M.length:Int):=by omega
  have p2:(0:Int)≤(k:Int):=by omega
  have p3:IntKind.wrap .i64 ((k:Int)+1)=((k+1:Nat):Int):=by rw[wrap64_id (by omega) (by omega)];omega
  have p4:(i:Int)<(L.length:Int):=by omega
  have p5:(0:Int)≤(i:Int):=by omega
  obtain ⟨g1,g2⟩:=rdI M hk;obtain ⟨g3,g4⟩:=rdI L hi
  cases o with
  | true =>
   refine (loopR_next ?_).trans (loop132 fewM hi r7 r8 r9 r10 r11 r12 r13 r14 r15 r16 r17 r18 r19 r20 r21 r22 r23 r24 r25 r26 r27 r28 r29 m (k+1) true (by omega) (.inl rfl))
   simp only[rd13_2,RT.val,mq,p1,p3,Int.ofNat_eq_natCast,decide_true,cond_true]
  | false =>
   refine (loopR_next ?_).trans (loop132 fewM hi r7 r8 r9 r10 r11 r12 r13 r14 r15 r16 r17 r18 r19 r20 r21 r22 r23 r24 r25 r26 r27 r28 r29 m (k+1) (decide (((M[k]:Nat):Int)=((L[i]:Nat):Int))) (by omega) ?_)
   ·simp only[rd13_2,RT.val,mq,p1,p2,p3,p4,p5,g1,g2,g3,g4,Int.toNat_natCast,Int.ofNat_eq_natCast,Nat.zero_add,decide_true,Bool.and_self,cond_true,cond_false]
   ·rcases ho with ho | ⟨j,hj,hkj,hm⟩
    ·cases ho
    ·by_cases e:j=k
     ·subst e
      exact .inl (decide_eq_true (by rw[hm]))
     ·exact .inr ⟨j,hj,by omega,hm⟩
theorem loop131 (fewL:L.length≤1000)(fewM:M.length≤1000)(hin:∀q∈L,q∈M)(r7:Array Value)(r8:Nat)(r9:Nat)(r10:Array Value)(r11:Nat)(r12:Nat)(r13:Int)(r14:Int)(r15:Int)(r16:Int)(r17:Int)(r18:Int)(r19:Int)(r20:Int)(r21:Int)(r22:Int)(r23:Int)(r24:Int)(r25:Int)(r26:Int)(r27:Array Value)(r28:Nat)(r29:Nat):∀m i,i+m=L.length →
  loopR rd13_1 (X13_1.mk (arrL rI L) 0 L.length (arrL rI M) 0 M.length (i:Int) r7 r8 r9 r10 r11 r12 r13 r14 r15 r16 r17 r18 r19 r20 r21 r22 r23 r24 r25 r26 r27 r28 r29)=some (.k1 r7 r8 r9 r10 r11 r12 r13 r14 r15 r16 r17 r18 r19 r20 r21 r22 r23 r24 r25 r26 r27 r28 r29)
 | 0,i,h=>by
  obtain rfl:i=L.length:=by omega
  have z1:¬(L.length:Int)<(L.length:Int):=by omega
  exact loopR_done (by simp only[rd13_1,RT.val,mq,z1,Int.ofNat_eq_natCast,decide_false,cond_false])
 | m+1,i,h=>by
  have hi:i<L.length:=by omega
  have p1:(i:Int)<(L.length:Int):=by omega
  have p3:IntKind.wrap .i64 ((i:Int)+1)=((i+1:Nat):Int):=by rw[wrap64_id (by omega) (by omega)];omega
  obtain ⟨j,hj,hm⟩:=List.getElem_of_mem (hin L[i] (List.getElem_mem hi))
  have l:L13_2 (X13_2.mk (arrL rI L) 0 L.length (arrL rI M) 0 M.length (i:Int) false 0 r7 r8 r9 r10 r11 r12 r13 r14 r15 r16 r17 r18 r19 r20 r21 r22 r23 r24 r25 r26 r27 r28 r29)=some (.k0 (arrL rI L) 0 L.length (arrL rI M) 0 M.length (i:Int) true r7 r8 r9 r10 r11 r12 r13 r14 r15 r16 r17 r18 r19 r20 r21 r22 r23 r24 r25 r26 r27 r28 r29) :=
   loop132 L M fewM hi r7 r8 r9 r10 r11 r12 r13 r14 r15 r16 r17 r18 r19 r20 r21 r22 r23 r24 r25 r26 r27 r28 r29 M.length 0 false (by omega) (.inr ⟨j,hj,by omega,hm⟩)
  refine (loopR_next ?_).trans (loop131 fewL fewM hin r7 r8 r9 r10 r11 r12 r13 r14 r15 r16 r17 r18 r19 r20 r21 r22 r23 r24 r25 r26 r27 r28 r29 m (i+1) (by omega))
  simp only[rd13_1,RT.val,mq,p1,Int.ofNat_eq_natCast,eqCode_self,L13_2_k0,Qr0,Qr1,Qr2,Qr3,Qr4,Qr5,Qr6,Qr7,Qr8,Qr9,Qr10,Qr11,Qr12,Qr13,Qr14,Qr15,Qr16,Qr17,Qr18,Qr19,Qr20,Qr21,Qr22,Qr23,Qr24,Qr25,Qr26,Qr27,Qr28,Qr29,Qr30,l,p3,decide_true,Bool.not_true,cond_true,cond_false]
end
end
end Go.Proofs.Ytkcahhbhfmdpmaa
namespace Go.Proofs.Ytkcahhbhfmdpmaa
open Go.Gi Go.RowKit
noncomputable section
set_option maxRecDepth 100000
set_option maxHeartbeats 4000000
theorem i32_in {x:Int}(h:(Lit.int .i32 x).wf=true):-2147483648≤x∧x≤2147483647:=by
 simp only[Lit.wf,Bool.and_eq_true,decide_eq_true_eq]at h;exact h
theorem ten_in {x:Int}(h1:-2147483648≤x) (h2:x≤2147483647):∃d,IntKind.wrap .i64 (Int.tdiv (IntKind.wrap .i64 x) 10)=d∧-3000000000≤d∧d≤3000000000:=by
 have w1:IntKind.wrap .i64 x=x:=wrap64_id (by omega) (by omega)
 have t:-3000000000≤Int.tdiv x 10∧Int.tdiv x 10≤3000000000:=by
  rcases Int.le_total 0 x with h | h
  ·rw[Int.tdiv_eq_ediv_of_nonneg h];omega
  ·obtain ⟨y,rfl⟩:∃y,x=-y:=⟨-x,by omega⟩
   rw[Int.neg_tdiv,Int.tdiv_eq_ediv_of_nonneg (by omega)];omega
 rw[w1,wrap64_id (by omega) (by omega)]
 exact ⟨_,rfl,t.1,t.2⟩
theorem fst1_zero {E:Nat→Int}:∀{m k:Nat},(∀j,k≤j→j<k+m→E j=0)→fst1 E m k=none
 | 0,k,_=>rfl
 | m+1,k,h=>by
  unfold fst1
  rw[if_pos (h k (by omega) (by omega))]
  exact fst1_zero fun j h1 h2=>h j (by omega) (by omega)
section
variable {rc sc lc:Array Value}{rn sn ln:Nat}{x y a b c e g u z:Int}
theorem ck_of (t:Tsk rc sc rn sn x y a b c e g u z):(ckS rc sc rn sn x y a b c e g u z).2.2=0:=by
 obtain ⟨r1,r2⟩:=t.r;obtain ⟨s1,s2⟩:=t.s;unfold ckS
 rw[if_neg (by omega),fst1_zero fun j _ hj=>t.wt j (by omega),fst1_zero fun j _ hj=>t.se j (by omega),if_pos t.ex]
theorem wg_zero (t:Tsk rc sc rn sn x y a b c e g u z)(hb:(bnF lc ln).2=0)(tl:last4 rc rn≤last6 lc ln):wgE rc sc rn sn x y a b c e g u z lc ln=0:=by
 unfold wgE
 rw[if_pos (ck_of t),if_pos hb,if_neg (by omega)]
theorem bn_zero (h:wgE rc sc rn sn x y a b c e g u z lc ln=0):(bnF lc ln).2=0:=by
 unfold wgE at h
 split at h
 ·split at h
  ·assumption
  ·rename_i q;exact absurd h q
 ·rename_i q;exact absurd h q
theorem alk_of {sc':Array Value} {x' y' a' b' c' e' dx dy:Int}(t:Tsk rc sc rn sn x y a b c e g u z) (t':Tsk rc sc' rn sn x' y' a' b' c' e' g u z) (hb:∀k,k<ln→bdE lc k=0)
  (hx:x'=x+dx) (hy:y'=y+dy) (ha:a'=a+dx) (hb':b'=b+dx) (hc:c'=c+dy) (he:e'=e+dy) {k:Nat} (hk:k<sn)
  (g0:getInt sc' (k*5)=getInt sc (k*5)+dx) (g1:getInt sc' (k*5+1)=getInt sc (k*5+1)+dx) (g2:getInt sc' (k*5+2)=getInt sc (k*5+2)+dy) (g3:getInt sc' (k*5+3)=getInt sc (k*5+3)+dy) (g4:getInt sc' (k*5+4)=getInt sc (k*5+4)) :
  Alk x y a b c e x' y' a' b' c' e' (imp rc sc lc rn ln k) (imp rc sc' lc rn ln k):=by
 obtain ⟨⟨a1,a2,a3⟩,⟨a4,a5,a6⟩,n0,n1⟩:=se_of (t.se k hk);obtain ⟨⟨b1,b2,b3⟩,⟨b4,b5,b6⟩,m0,m1⟩:=se_of (t'.se k hk);obtain ⟨v,v'⟩:=wX_bd t hb
 have i1:=drL_id (s:=getInt sc (k*5)) (v:=(wX rc lc rn ln).1) (n:=getInt sc (k*5+4)) (by omega) (by omega) (by omega) (by omega) n0 n1
 have i2:=drH_id (s:=getInt sc (k*5+1)) (v:=(wX rc lc rn ln).2) (n:=getInt sc (k*5+4)) (by omega) (by omega) (by omega) (by omega) n0 n1
 have i3:=drL_id (s:=getInt sc (k*5+2)) (v:=(wY rc lc rn ln).1) (n:=getInt sc (k*5+4)) (by omega) (by omega) (by omega) (by omega) n0 n1
 have i4:=drH_id (s:=getInt sc (k*5+3)) (v:=(wY rc lc rn ln).2) (n:=getInt sc (k*5+4)) (by omega) (by omega) (by omega) (by omega) n0 n1
 have j1:=drL_id (s:=getInt sc' (k*5)) (v:=(wX rc lc rn ln).1) (n:=getInt sc' (k*5+4)) (by omega) (by omega) (by omega) (by omega) m0 m1
 have j2:=drH_id (s:=getInt sc' (k*5+1)) (v:=(wX rc lc rn ln).2) (n:=getInt sc' (k*5+4)) (by omega) (by omega) (by omega) (by omega) m0 m1
 have j3:=drL_id (s:=getInt sc' (k*5+2)) (v:=(wY rc lc rn ln).1) (n:=getInt sc' (k*5+4)) (by omega) (by omega) (by omega) (by omega) m0 m1
 have j4:=drH_id (s:=getInt sc' (k*5+3)) (v:=(wY rc lc rn ln).2) (n:=getInt sc' (k*5+4)) (by omega) (by omega) (by omega) (by omega) m0 m1
 have ka:(imp rc sc lc rn ln k).a=drL (getInt sc (k*5)) (wX rc lc rn ln).1 (getInt sc (k*5+4)):=rfl;have kb:(imp rc sc lc rn ln k).b=drH (getInt sc (k*5+1)) (wX rc lc rn ln).2 (getInt sc (k*5+4)):=rfl;have kc:(imp rc sc lc rn ln k).c=drL (getInt sc (k*5+2)) (wY rc lc rn ln).1 (getInt sc (k*5+4)):=rfl;have kd:(imp rc sc lc rn ln k).d=drH (getInt sc (k*5+3)) (wY rc lc rn ln).2 (getInt sc (k*5+4)):=rfl;have la:(imp rc sc' lc rn ln k).a=drL (getInt sc' (k*5)) (wX rc lc rn ln).1 (getInt sc' (k*5+4)):=rfl;have lb:(imp rc sc' lc rn ln k).b=drH (getInt sc' (k*5+1)) (wX rc lc rn ln).2 (getInt sc' (k*5+4)):=rfl
 have lc':(imp rc sc' lc rn ln k).c=drL (getInt sc' (k*5+2)) (wY rc lc rn ln).1 (getInt sc' (k*5+4)):=rfl;have ld:(imp rc sc' lc rn ln k).d=drH (getInt sc' (k*5+3)) (wY rc lc rn ln).2 (getInt sc' (k*5+4)):=rfl;rw[← ka]at i1;rw[← kb]at i2;rw[← kc]at i3;rw[← kd]at i4;rw[← la,g4,g0]at j1;rw[← lb,g4,g1]at j2;rw[← lc',g4,g2]at j3;rw[← ld,g4,g3]at j4;subst hx hy ha hb' hc he
 exact ⟨by omega,by omega,by omega,by omega,by omega,by omega,by omega,by omega⟩
end
theorem true13:True13:=by
 intro rc rn sc sn x y a b c e g u z lc ln e0 e1 e2 gr gs gl h0 h1 h2;have P:=F23_eq (x:=x) (y:=y) (a:=a) (b:=b) (c:=c) (e:=e) (g:=g) (u:=u) (z:=z) gr gs gl;have P2:=F22_eq (x:=x) (y:=y) (a:=a) (b:=b) (c:=c) (e:=e) (g:=g) (u:=u) (z:=z) gr gs gl
 have o1:F23_ok rc 0 rn sc 0 sn x y a b c e g u z lc 0 ln=true:=by unfold F23_ok;rw[P];rfl
 have o5:F23_5 rc 0 rn sc 0 sn x y a b c e g u z lc 0 ln=(beF x y a b c e (imp rc sc lc rn ln) sn (wgE rc sc rn sn x y a b c e g u z lc ln)).r5:=by unfold F23_5;rw[P]
 unfold rt13
 by_cases h:wgE rc sc rn sn x y a b c e g u z lc ln=0
 case neg =>
  rw[if_neg h]at P2
  have q1:F22_ok rc 0 rn sc 0 sn x y a b c e g u z lc 0 ln=true:=by unfold F22_ok;rw[P2];rfl
  have q2:F22_3 rc 0 rn sc 0 sn x y a b c e g u z lc 0 ln=wgE rc sc rn sn x y a b c e g u z lc ln:=by unfold F22_3;rw[P2]
  have q3:(beF x y a b c e (imp rc sc lc rn ln) sn (wgE rc sc rn sn x y a b c e g u z lc ln)).r5=wgE rc sc rn sn x y a b c e g u z lc ln:=by unfold beF;rw[if_neg h]
  simp only[RT.val,mq,o1,o5,q1,q2,q3,h,decide_true,decide_false,Bool.not_false,cond_true]
 rw[if_pos h]at P2
 have q1:F22_ok rc 0 rn sc 0 sn x y a b c e g u z lc 0 ln=true:=by unfold F22_ok;rw[P2];rfl
 have q2:F22_3 rc 0 rn sc 0 sn x y a b c e g u z lc 0 ln=0:=by unfold F22_3;rw[P2]
 have q3:F22_0 rc 0 rn sc 0 sn x y a b c e g u z lc 0 ln=arrL rI (alL a b c e (imp rc sc lc rn ln) sn):=by unfold F22_0;rw[P2]
 have q4:F22_1 rc 0 rn sc 0 sn x y a b c e g u z lc 0 ln=0:=by unfold F22_1;rw[P2]
 have q5:F22_2 rc 0 rn sc 0 sn x y a b c e g u z lc 0 ln=(alL a b c e (imp rc sc lc rn ln) sn).length:=by unfold F22_2;rw[P2]
 obtain ⟨t,⟨l1,fewl,hb⟩,tl⟩:=wg_of h;have hbn:=bn_zero h;have sr:=t.s;obtain ⟨dx,wdx,dx0,dx1⟩:=ten_in (i32_in h0).1 (i32_in h0).2;obtain ⟨dy,wdy,dy0,dy1⟩:=ten_in (i32_in h1).1 (i32_in h1).2;obtain ⟨c0,c1⟩:=i32_in h2;obtain ⟨⟨X1,X2,Y1,Y2⟩,⟨ab,A1,B2,ce,C1,E2⟩,gg⟩:=ex_of t.ex
 obtain ⟨l0,hl0⟩:∃l0,(List.range (sn*5)).map (fun i=>getInt sc i)=l0:=⟨_,rfl⟩
 have esc:sc=intA .i64 l0:=by rw[← hl0];exact arr_ints gs.size (row5_ints gs)
 have gd:∀i,i<sn*5→l0.getD i 0=getInt sc i:=by
  intro i hi
  rw[← hl0,List.getD_eq_getElem?_getD,List.getElem?_map,List.getElem?_range hi]
  rfl
 have len0:l0.length=sn*5:=by rw[← hl0,List.length_map,List.length_range]
 have mv0:Mvd sc sn dx dy 0 l0:=⟨len0,fun i hi=>by rw[gd _ (by omega),if_neg (by omega)],fun i hi=>by rw[gd _ (by omega),if_neg (by omega)],fun i hi=>by rw[gd _ (by omega),if_neg (by omega)],fun i hi=>by rw[gd _ (by omega),if_neg (by omega)],fun i hi=>gd _ (by omega)⟩
 have eext:(⟨[]⟩:Array Value)++Array.extract sc 0 (sn*5)=intA .i64 l0:=by
  have s1:=gs.size
  have e1:Array.extract sc 0 (sn*5)=sc:=by rw[← s1];exact Array.extract_size
  rw[e1,esc];exact Array.empty_append
 have eex:Array.extract sc 0 (sn*5)=intA .i64 l0:=by
  have s1:=gs.size
  have e1:Array.extract sc 0 (sn*5)=sc:=by rw[← s1];exact Array.extract_size
  rw[e1,← esc]
 have eem:(⟨[]⟩:Array Value)++intA .i64 l0=intA .i64 l0:=Array.empty_append
 have sz1:sn*5≤sc.size:=by rw[gs.size];omega
 have sz2:(intA .i64 l0).size=sn*5:=by rw[intA_size,len0]
 have z1:¬sn=0:=by omega
 have z2:sn*40≤140737488355328:=by omega
 have z3:sn≤4611686018427387904:=by omega
 obtain ⟨l',mv,lp⟩:=loop13b gs (by omega) dx dy lc 0 ln (F23_5 rc 0 rn sc 0 sn x y a b c e g u z lc 0 ln) (F22_0 rc 0 rn sc 0 sn x y a b c e g u z lc 0 ln) (F22_1 rc 0 rn sc 0 sn x y a b c e g u z lc 0 ln) (F22_2 rc 0 rn sc 0 sn x y a b c e g u z lc 0 ln) rc 0 rn x y a b c e g u z e0 e1 e2 (F23_0 rc 0 rn sc 0 sn x y a b c e g u z lc 0 ln) (F23_1 rc 0 rn sc 0 sn x y a b c e g u z lc 0 ln) (F23_2 rc 0 rn sc 0 sn x y a b c e g u z lc 0 ln) (F23_3 rc 0 rn sc 0 sn x y a b c e g u z lc 0 ln) (F23_4 rc 0 rn sc 0 sn x y a b c e g u z lc 0 ln) rc 0 rn (IntKind.wrap .i64 (x+dx)) (IntKind.wrap .i64 (y+dy)) (F37_0 a b c e dx dy) (F37_1 a b c e dx dy) (F37_2 a b c e dx dy) (F37_3 a b c e dx dy) g u z rc 0 rn sc 0 sn x y a b c e g u z sn 0 l0 (by omega) mv0
 have lY:L13_0b (Y13_1 rc 0 rn sc 0 sn x y a b c e g u z lc 0 ln e0 e1 e2)=some (.k0 lc 0 ln (F23_5 rc 0 rn sc 0 sn x y a b c e g u z lc 0 ln) (F22_0 rc 0 rn sc 0 sn x y a b c e g u z lc 0 ln) (F22_1 rc 0 rn sc 0 sn x y a b c e g u z lc 0 ln) (F22_2 rc 0 rn sc 0 sn x y a b c e g u z lc 0 ln) rc 0 rn sc 0 sn x y a b c e g u z e0 e1 e2 (F23_0 rc 0 rn sc 0 sn x y a b c e g u z lc 0 ln) (F23_1 rc 0 rn sc 0 sn x y a b c e g u z lc 0 ln) (F23_2 rc 0 rn sc 0 sn x y a b c e g u z lc 0 ln) (F23_3 rc 0 rn sc 0 sn x y a b c e g u z lc 0 ln) (F23_4 rc 0 rn sc 0 sn x y a b c e g u z lc 0 ln) rc 0 rn sn (IntKind.wrap .i64 (x+dx)) (IntKind.wrap .i64 (y+dy)) (F37_0 a b c e dx dy) (F37_1 a b c e dx dy) (F37_2 a b c e dx dy) (F37_3 a b c e dx dy) g u z rc 0 rn sc 0 sn x y a b c e g u z (intA .i64 l')):=by
  unfold Y13_1;simp only[wdx,wdy,Nat.zero_add,eext];exact lp
 have gs':GL I5 5 (intA .i64 l') sn:=GL_ints mv.len (by omega)
 have wx:IntKind.wrap .i64 (x+dx)=x+dx:=wrap64_id (by omega) (by omega)
 have wy:IntKind.wrap .i64 (y+dy)=y+dy:=wrap64_id (by omega) (by omega)
 have wa:F37_0 a b c e dx dy=a+dx:=by rw[(F37_of _ _ _ _ _ _).1,wrap64_id (by omega) (by omega)]
 have wb:F37_1 a b c e dx dy=b+dx:=by rw[(F37_of _ _ _ _ _ _).2.1,wrap64_id (by omega) (by omega)]
 have wc:F37_2 a b c e dx dy=c+dy:=by rw[(F37_of _ _ _ _ _ _).2.2.1,wrap64_id (by omega) (by omega)]
 have we:F37_3 a b c e dx dy=e+dy:=by rw[(F37_of _ _ _ _ _ _).2.2.2,wrap64_id (by omega) (by omega)]
 rw[wx,wy,wa,wb,wc,we]at lY;have CK:=F14_eq (x:=x+dx) (y:=y+dy) (a:=a+dx) (b:=b+dx) (c:=c+dy) (e:=e+dy) (g:=g) (u:=u) (z:=z) gr gs'
 have k1:F14_ok rc 0 rn (intA .i64 l') 0 sn (x+dx) (y+dy) (a+dx) (b+dx) (c+dy) (e+dy) g u z=true:=by unfold F14_ok;rw[CK];rfl
 have k2:F14_2 rc 0 rn (intA .i64 l') 0 sn (x+dx) (y+dy) (a+dx) (b+dx) (c+dy) (e+dy) g u z=(ckS rc (intA .i64 l') rn sn (x+dx) (y+dy) (a+dx) (b+dx) (c+dy) (e+dy) g u z).2.2:=by unfold F14_2;rw[CK]
 have wm:IntKind.wrap .i64 (b+max 0 (IntKind.wrap .i64 e2))=b+max 0 e2:=by rw[wrap64_id (x:=e2) (by omega) (by omega),wrap64_id (by omega) (by omega)]
 obtain ⟨bb,hbb⟩:∃bb,min 500000000 (b+max 0 e2)=bb:=⟨_,rfl⟩
 have tw:Tsk rc sc rn sn x y a bb c e g u z:=⟨t.r,t.s,t.wt,t.se,by
  unfold arB spB;simp only[Bool.and_eq_true,decide_eq_true_eq,inB_iff]
  omega⟩
 have hw:wgE rc sc rn sn x y a bb c e g u z lc ln=0:=wg_zero tw hbn tl;have P3:=F22_eq (x:=x) (y:=y) (a:=a) (b:=bb) (c:=c) (e:=e) (g:=g) (u:=u) (z:=z) gr gs gl;rw[if_pos hw]at P3
 have r1:F22_ok rc 0 rn sc 0 sn x y a bb c e g u z lc 0 ln=true:=by unfold F22_ok;rw[P3];rfl
 have r2:F22_3 rc 0 rn sc 0 sn x y a bb c e g u z lc 0 ln=0:=by unfold F22_3;rw[P3]
 have r3:F22_0 rc 0 rn sc 0 sn x y a bb c e g u z lc 0 ln=arrL rI (alL a bb c e (imp rc sc lc rn ln) sn):=by unfold F22_0;rw[P3]
 have r4:F22_1 rc 0 rn sc 0 sn x y a bb c e g u z lc 0 ln=0:=by unfold F22_1;rw[P3]
 have r5:F22_2 rc 0 rn sc 0 sn x y a bb c e g u z lc 0 ln=(alL a bb c e (imp rc sc lc rn ln) sn).length:=by unfold F22_2;rw[P3]
 have sub:∀q∈alL a b c e (imp rc sc lc rn ln) sn,q∈alL a bb c e (imp rc sc lc rn ln) sn:=by
  intro q hq;obtain ⟨hq1,hq2⟩:=alL_lt hq
  refine alL_mem hq1 ?_
  unfold al at hq2 ⊢;simp only[Bool.and_eq_true,Bool.not_eq_true',decide_eq_false_iff_not]at hq2 ⊢
  omega
 have lZ:∃d,L13_1 (Y13_3 rc 0 rn sc 0 sn x y a b c e g u z lc 0 ln e0 e1 e2)=some d∧∃p0 p1 p2 p3 p4 p5 p6 p7 p8 p9 p10 p11 p12 p13 p14 p15 p16 p17 p18 p19 p20 p21 p22,d=.k1 p0 p1 p2 p3 p4 p5 p6 p7 p8 p9 p10 p11 p12 p13 p14 p15 p16 p17 p18 p19 p20 p21 p22:=by
  unfold Y13_3;simp only[Qq0,Qq1,Qq2,Qq3,Qq4,Qq5,Qq6,Qq7,Qq8,Qq9,Qq10,Qq11,Qq12,Qq13,Qq14,Qq15,Qq16,Qq17,Qq18,Qq19,Qq20,Qq21,Qq22,Qq23,Qq24,Qq25,Qq26,Qq27,Qq28,Qq29,Qq30,Qq31,Qq32,Qq33,Qq34,Qq35,Qq36,Qq37,Qq38,Qq39,Qq40,Qq41,Qq42,Qq43,Qq44,Qq45,Qq46,Qq47,Qq48,Qq49,Qq50,Qq51,Qq52,Qq53,Qq54,Qq55,Qq56,Qq57,Qq58,lY,wm,hbb,q3,q4,q5,r3,r4,r5]
  exact ⟨_,loop131 _ _ (Nat.le_trans alL_len (by omega)) (Nat.le_trans alL_len (by omega)) sub _ _ _ _ _ _ _ _ _ _ _ _ _ _ _ _ _ _ _ _ _ _ _ _ 0 (Nat.zero_add _),_,_,_,_,_,_,_,_,_,_,_,_,_,_,_,_,_,_,_,_,_,_,_,rfl⟩
 obtain ⟨d,lZ,p0,p1,p2,p3,p4,p5,p6,p7,p8,p9,p10,p11,p12,p13,p14,p15,p16,p17,p18,p19,p20,p21,p22,hd⟩:=lZ;rw[hd]at lZ;simp only[RT.val,mq,o1,q1,q2,sz1,eex,eext,eem,sz2,oneAll_ints,intA_fz,z1,z2,z3,Nat.zero_add,eqCode_self,arrEq_self,decide_true,decide_false,Bool.not_true,Bool.and_self,cond_true,cond_false]
 by_cases hc:(ckS rc (intA .i64 l') rn sn (x+dx) (y+dy) (a+dx) (b+dx) (c+dy) (e+dy) g u z).2.2=0
 ·have t':=tsk_of hc
  have h':wgE rc (intA .i64 l') rn sn (x+dx) (y+dy) (a+dx) (b+dx) (c+dy) (e+dy) g u z lc ln=0:=wg_zero t' hbn tl;have M:=F23_eq (x:=x+dx) (y:=y+dy) (a:=a+dx) (b:=b+dx) (c:=c+dy) (e:=e+dy) (g:=g) (u:=u) (z:=z) gr gs' gl;have ml:=mv.len
  have gi:∀i,i<sn*5→getInt (intA .i64 l') i=l'.getD i 0:=fun i hi=>intA_get (by omega)
  rw[h',beF_congr (A:=imp rc sc lc rn ln) (x:=x) (y:=y) (a:=a) (b:=b) (c:=c) (e:=e) (fun k hk=>by
   obtain ⟨⟨a1,a2,a3⟩,⟨a4,a5,a6⟩,n0,n1⟩:=se_of (t.se k hk)
   exact alk_of t t' hb rfl rfl rfl rfl rfl rfl hk
      (by rw[gi _ (by omega),mv.v0 k hk,if_pos hk,wrap64_id (by omega) (by omega)]) (by rw[gi _ (by omega),mv.v1 k hk,if_pos hk,wrap64_id (by omega) (by omega)])
      (by rw[gi _ (by omega),mv.v2 k hk,if_pos hk,wrap64_id (by omega) (by omega)]) (by rw[gi _ (by omega),mv.v3 k hk,if_pos hk,wrap64_id (by omega) (by omega)])
      (by rw[gi _ (by omega),mv.v4 k hk]))]at M
  rw[h]at P
  have same:F25_ok (beF x y a b c e (imp rc sc lc rn ln) sn 0).r0 (beF x y a b c e (imp rc sc lc rn ln) sn 0).r1 (beF x y a b c e (imp rc sc lc rn ln) sn 0).r2 (beF x y a b c e (imp rc sc lc rn ln) sn 0).r3 (beF x y a b c e (imp rc sc lc rn ln) sn 0).r4 (beF x y a b c e (imp rc sc lc rn ln) sn 0).r0 (beF x y a b c e (imp rc sc lc rn ln) sn 0).r1 (beF x y a b c e (imp rc sc lc rn ln) sn 0).r2 (beF x y a b c e (imp rc sc lc rn ln) sn 0).r3 (beF x y a b c e (imp rc sc lc rn ln) sn 0).r4=true ∧
    F25_0 (beF x y a b c e (imp rc sc lc rn ln) sn 0).r0 (beF x y a b c e (imp rc sc lc rn ln) sn 0).r1 (beF x y a b c e (imp rc sc lc rn ln) sn 0).r2 (beF x y a b c e (imp rc sc lc rn ln) sn 0).r3 (beF x y a b c e (imp rc sc lc rn ln) sn 0).r4 (beF x y a b c e (imp rc sc lc rn ln) sn 0).r0 (beF x y a b c e (imp rc sc lc rn ln) sn 0).r1 (beF x y a b c e (imp rc sc lc rn ln) sn 0).r2 (beF x y a b c e (imp rc sc lc rn ln) sn 0).r3 (beF x y a b c e (imp rc sc lc rn ln) sn 0).r4=true:=by
   unfold beF;rw[if_pos rfl]
   cases hbs:bs x y a b c e (imp rc sc lc rn ln) sn with
   | none=>exact F25_self [] (by decide) 0 0
   | some j =>
    have:=F25_self (rsL x y a b c e (imp rc sc lc rn ln) (j:Int) (mi x y (imp rc sc lc rn ln j)) sn) (by rw[rsL_len];omega) (j:Int) (mi x y (imp rc sc lc rn ln j))
    rw[rsL_len]at this;exact this
  simp only[L13_0b_k0,Qq0,Qq1,Qq2,Qq3,Qq4,Qq5,Qq6,Qq7,Qq8,Qq9,Qq10,Qq11,Qq12,Qq13,Qq14,Qq15,Qq16,Qq17,Qq18,Qq19,Qq20,Qq21,Qq22,Qq23,Qq24,Qq25,Qq26,Qq27,Qq28,Qq29,Qq30,Qq31,Qq32,Qq33,Qq34,Qq35,Qq36,Qq37,Qq38,Qq39,Qq40,Qq41,Qq42,Qq43,Qq44,Qq45,Qq46,Qq47,Qq48,Qq49,Qq50,Qq51,Qq52,Qq53,Qq54,Qq55,Qq56,Qq57,Qq58,lY,mv.len,intA_size,Nat.le_refl,intA_fz,k1,k2,hc,F23_ok,F23_0,F23_1,F23_2,F23_3,F23_4,F23_5,M,P,same.1,same.2,wm,hbb,r1,r2,L13_1_k0,L13_1_k1,lZ,Option.isSome_some,eqCode_self,decide_true,Bool.not_true,Bool.and_self,Bool.and_true,cond_true,cond_false]
 ·simp only[L13_0b_k0,Qq0,Qq1,Qq2,Qq3,Qq4,Qq5,Qq6,Qq7,Qq8,Qq9,Qq10,Qq11,Qq12,Qq13,Qq14,Qq15,Qq16,Qq17,Qq18,Qq19,Qq20,Qq21,Qq22,Qq23,Qq24,Qq25,Qq26,Qq27,Qq28,Qq29,Qq30,Qq31,Qq32,Qq33,Qq34,Qq35,Qq36,Qq37,Qq38,Qq39,Qq40,Qq41,Qq42,Qq43,Qq44,Qq45,Qq46,Qq47,Qq48,Qq49,Qq50,Qq51,Qq52,Qq53,Qq54,Qq55,Qq56,Qq57,Qq58,lY,mv.len,intA_size,Nat.le_refl,intA_fz,k1,k2,hc,wm,hbb,r1,r2,L13_1_k0,L13_1_k1,lZ,eqCode_self,decide_true,decide_false,Bool.not_true,Bool.and_self,Bool.and_true,cond_true,cond_false]
theorem aimMovedProved:Rows.AimMovedSaid:=said13 true13
end
end Go.Proofs.Ytkcahhbhfmdpmaa
