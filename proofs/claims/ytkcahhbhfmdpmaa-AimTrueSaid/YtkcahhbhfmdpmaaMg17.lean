/- AimTrue proved: for any mean winds, weights, and place without wind within what is told of them, the vehicle comes down in the impact area, with a miss that is at most that of the setting, and in Allowed with one that is allowed. Conditions: none. -/
import Derived.Test.YtkcahhbhfmdpmaaMg14
import Derived.Test.YtkcahhbhfmdpmaaMg7
import Derived.Test.YtkcahhbhfmdpmaaMg8
import Derived.Test.YtkcahhbhfmdpmaaMg12
import Derived.Test.YtkcahhbhfmdpmaaMg13
import Derived.Test.YtkcahhbhfmdpmaaMg9
import Derived.Test.YtkcahhbhfmdpmaaMg10
import Derived.Test.YtkcahhbhfmdpmaaMg16
set_option linter.unusedVariables false
set_option linter.unusedSimpArgs false
namespace Go.Proofs.Ytkcahhbhfmdpmaa
open Go.Gi Go.RowKit
noncomputable section
set_option maxRecDepth 100000
set_option maxHeartbeats 1000000
theorem iterN_invK {σ:Type}{f:Nat→σ→σ}{I:Nat→σ→Prop}{n:Nat}(hI:∀k s,k<n→I k s→I (k+1) (f k s)):∀m k s,k+m=n→I k s→I n (iterN f m k s)
 | 0,k,s,h,hs=>by
  obtain rfl:k=n:=by omega
  exact hs
 | m+1,k,s,h,hs=>iterN_invK hI m (k+1) (f k s) (by omega) (hI k s (by omega) hs)
theorem mul_abs {p q A B:Int}(p1:-A≤p) (p2:p≤A) (q1:-B≤q) (q2:q≤B):-(A*B)≤p*q∧p*q≤A*B:=by
 have h1:0≤(A-p)*(B+q):=Int.mul_nonneg (by omega) (by omega)
 have h2:0≤(A+p)*(B-q):=Int.mul_nonneg (by omega) (by omega)
 have h3:0≤(A-p)*(B-q):=Int.mul_nonneg (by omega) (by omega)
 have h4:0≤(A+p)*(B+q):=Int.mul_nonneg (by omega) (by omega)
 simp only[Int.sub_mul,Int.add_mul,Int.mul_add,Int.mul_sub]at h1 h2 h3 h4
 omega
theorem w_id {n:Int}(h1:-9223372036854775808≤n) (h2:n<9223372036854775808):w n=n:=wrap64_id h1 h2
theorem inB_iff {n lo hi:Int}:inB n lo hi=true↔lo≤n∧n≤hi:=by
 unfold inB;simp only[Bool.and_eq_true,decide_eq_true_eq]
theorem wt_of {rc:Array Value}{k:Nat}(h:wtK rc k=0):getInt rc (k*4)=frI rc k∧getInt rc (k*4)<getInt rc (k*4+1)∧getInt rc (k*4+1)≤100000000∧getInt rc (k*4+2)≤getInt rc (k*4+3)∧-10000000≤getInt rc (k*4+2)∧getInt rc (k*4+3)≤10000000:=by
 unfold wtK wtE at h;simp only[Nat.zero_add,Nat.add_assoc,Nat.reduceAdd]at h
 by_cases h1:getInt rc (k*4)=frI rc k
 ·rw[if_pos h1]at h
  by_cases h2:getInt rc (k*4+1)≤getInt rc (k*4)
  ·rw[if_pos h2]at h;cases h
  ·rw[if_neg h2]at h
   by_cases h3:100000000<getInt rc (k*4+1)
   ·rw[if_pos h3]at h;cases h
   ·rw[if_neg h3]at h
    by_cases h4:spB (getInt rc (k*4+2)) (getInt rc (k*4+3)) 10000000=true
    ·unfold spB at h4
     simp only[Bool.and_eq_true,decide_eq_true_eq]at h4
     exact ⟨h1,by omega,by omega,h4.1,h4.2.1,h4.2.2⟩
    ·rw[if_neg h4]at h;cases h
 ·rw[if_neg h1]at h;cases h
theorem bd_of {lc:Array Value}{k:Nat}(h:bdE lc k=0):getInt lc (k*6)=prv lc k∧getInt lc (k*6)<getInt lc (k*6+1)∧getInt lc (k*6+1)≤100000000∧(getInt lc (k*6+2)≤getInt lc (k*6+3)∧-20000≤getInt lc (k*6+2)∧getInt lc (k*6+3)≤20000)∧(getInt lc (k*6+4)≤getInt lc (k*6+5)∧-20000≤getInt lc (k*6+4)∧getInt lc (k*6+5)≤20000):=by
 unfold bdE bd at h
 have sp:∀p q,spW p q=true→p≤q∧-20000≤p∧q≤20000:=by
  intro p q hs;unfold spW at hs;simp only[Bool.and_eq_true,decide_eq_true_eq,inB_iff]at hs
  omega
 by_cases h1:getInt lc (k*6)=prv lc k
 ·rw[if_pos h1]at h
  by_cases h2:getInt lc (k*6+1)≤getInt lc (k*6)
  ·rw[if_pos h2]at h;cases h
  ·rw[if_neg h2]at h
   by_cases h3:100000000<getInt lc (k*6+1)
   ·rw[if_pos h3]at h;cases h
   ·rw[if_neg h3]at h
    by_cases h4:spW (getInt lc (k*6+2)) (getInt lc (k*6+3))=true
    ·rw[if_pos h4]at h
     by_cases h5:spW (getInt lc (k*6+4)) (getInt lc (k*6+5))=true
     ·exact ⟨h1,by omega,by omega,sp _ _ h4,sp _ _ h5⟩
     ·rw[if_neg h5]at h;cases h
    ·rw[if_neg h4]at h;cases h
 ·rw[if_neg h1]at h;cases h
theorem se_of {sc:Array Value}{k:Nat}(h:seK sc k=0):(getInt sc (k*5)≤getInt sc (k*5+1)∧-500000000≤getInt sc (k*5)∧getInt sc (k*5+1)≤500000000)∧(getInt sc (k*5+2)≤getInt sc (k*5+3)∧-500000000≤getInt sc (k*5+2)∧getInt sc (k*5+3)≤500000000)∧0≤getInt sc (k*5+4)∧getInt sc (k*5+4)≤2000:=by
 unfold seK seE at h;simp only[Nat.zero_add,Nat.add_assoc,Nat.reduceAdd]at h
 by_cases h1:arB (getInt sc (k*5)) (getInt sc (k*5+1)) (getInt sc (k*5+2)) (getInt sc (k*5+3))=true
 ·rw[if_pos h1]at h
  unfold arB spB at h1;simp only[Bool.and_eq_true,decide_eq_true_eq]at h1
  by_cases h2:getInt sc (k*5+4)<0
  ·rw[if_pos h2]at h;cases h
  ·rw[if_neg h2]at h
   by_cases h3:2000<getInt sc (k*5+4)
   ·rw[if_pos h3]at h;cases h
   ·omega
 ·rw[if_neg h1]at h;cases h
section
variable {rc sc lc:Array Value}{rn sn ln:Nat}{x y a b c e g u z:Int}
theorem ex_of (h:(arB x x y y&&(arB a b c e&&(inB g 0 1000000000&&(inB u 0 6000&&inB z 0 6000))))=true):(-500000000≤x∧x≤500000000∧-500000000≤y∧y≤500000000)∧(a≤b∧-500000000≤a∧b≤500000000∧c≤e∧-500000000≤c∧e≤500000000)∧0≤g∧g≤1000000000∧0≤u∧u≤6000∧0≤z∧z≤6000:=by
 unfold arB spB at h;simp only[Bool.and_eq_true,decide_eq_true_eq,inB_iff]at h
 omega
def In4 (s:M4):Prop:=(-20000≤s.a∧s.a≤20000)∧(-20000≤s.b∧s.b≤20000)∧(-20000≤s.c∧s.c≤20000)∧(-20000≤s.d∧s.d≤20000)
theorem mn_in (hb:∀k,k<ln→bdE lc k=0)(f t:Int):In4 (mn lc ln f t):=by
 refine iterN_invK (I:=fun _ s=>In4 s) (n:=ln) (fun k s hk hs=>?_) ln 0 _ (by omega) (by unfold In4;decide)
 obtain ⟨_,_,_,h4,h5⟩:=bd_of (hb k hk);unfold mnS;unfold In4 at hs ⊢
 split
 ·split
  ·simp only
   omega
  ·exact hs
 ·exact hs
theorem pr_id {p q r s:Int}(p1:-10000000≤p) (p2:p≤10000000) (q1:-10000000≤q) (q2:q≤10000000) (r1:-20000≤r) (r2:r≤20000) (s1:-20000≤s) (s2:s≤20000) :
  prL p q r s=min (min (min (p*r) (p*s)) (q*r)) (q*s)∧prH p q r s=max (max (max (p*r) (p*s)) (q*r)) (q*s)∧(-200000000000≤prL p q r s∧prL p q r s≤200000000000)∧(-200000000000≤prH p q r s∧prH p q r s≤200000000000):=by
 have h1:=mul_abs (A:=10000000) (B:=20000) p1 p2 r1 r2;have h2:=mul_abs (A:=10000000) (B:=20000) p1 p2 s1 s2;have h3:=mul_abs (A:=10000000) (B:=20000) q1 q2 r1 r2;have h4:=mul_abs (A:=10000000) (B:=20000) q1 q2 s1 s2;unfold prL prH
 rw[w_id (n:=p*r) (by omega) (by omega),w_id (n:=p*s) (by omega) (by omega),w_id (n:=q*r) (by omega) (by omega),w_id (n:=q*s) (by omega) (by omega)]
 refine ⟨rfl,rfl,?_,?_⟩<;>omega
def smI (f:Nat→M4)(k:Nat)(s:Int×Int):Int×Int:=(s.1+prL (f k).a (f k).b (f k).c (f k).d,s.2+prH (f k).a (f k).b (f k).c (f k).d)
structure Pr (f:Nat→M4) (n:Nat):Prop where
 a:∀k,k<n→-10000000≤(f k).a∧(f k).a≤10000000
 b:∀k,k<n→-10000000≤(f k).b∧(f k).b≤10000000
 c:∀k,k<n→-20000≤(f k).c∧(f k).c≤20000
 d:∀k,k<n→-20000≤(f k).d∧(f k).d≤20000
def Bk (k:Nat)(s:Int×Int):Prop:=-(200000000000*(k:Int))≤s.1∧s.1≤200000000000*(k:Int)∧-(200000000000*(k:Int))≤s.2∧s.2≤200000000000*(k:Int)
theorem sm_id {f:Nat→M4}{n:Nat}(h:Pr f n) (hn:n≤20):sm f n=iterN (smI f) n 0 (0,0)∧Bk n (sm f n):=by
 have key:∀m k (s:Int×Int),k+m=n→Bk k s→iterN (smS f) m k s=iterN (smI f) m k s∧Bk n (iterN (smS f) m k s):=by
  intro m
  induction m with
  | zero =>
   intro k s e hs
   obtain rfl:k=n:=by omega
   exact ⟨rfl,hs⟩
  | succ m ih =>
   intro k s e hs
   have hk:k<n:=by omega
   obtain ⟨_,_,b1,b2⟩:=pr_id (h.a k hk).1 (h.a k hk).2 (h.b k hk).1 (h.b k hk).2 (h.c k hk).1 (h.c k hk).2 (h.d k hk).1 (h.d k hk).2;unfold Bk at hs
   have e1:smS f k s=smI f k s:=by
    unfold smS smI
    rw[w_id (n:=s.1+_) (by omega) (by omega),w_id (n:=s.2+_) (by omega) (by omega)]
   have hs':Bk (k+1) (smS f k s):=by
    rw[e1];unfold smI Bk;simp only[Int.natCast_add,Int.natCast_one]
    omega
   obtain ⟨i1,i2⟩:=ih (k+1) (smS f k s) (by omega) hs'
   refine ⟨?_,i2⟩
   show iterN (smS f) m (k+1) (smS f k s)=iterN (smI f) m (k+1) (smI f k s)
   rw[← e1];exact i1
 exact key n 0 (0,0) (by omega) (by unfold Bk;decide)
theorem fx_pr (t:Tsk rc sc rn sn x y a b c e g u z)(hb:∀k,k<ln→bdE lc k=0):Pr (fx rc lc ln) rn∧Pr (fy rc lc ln) rn:=by
 have hw:=fun k hk=>wt_of (t.wt k hk)
 have hm:=fun k=>mn_in (ln:=ln) hb (getInt rc (k*4)) (getInt rc (k*4+1))
 unfold In4 at hm
 refine ⟨⟨fun k hk=>?_,fun k hk=>?_,fun k hk=>?_,fun k hk=>?_⟩,⟨fun k hk=>?_,fun k hk=>?_,fun k hk=>?_,fun k hk=>?_⟩⟩<;>first
  | exact (hm k).1
  | exact (hm k).2.1
  | exact (hm k).2.2.1
  | exact (hm k).2.2.2
  | (have:=hw k hk;unfold fx;simp only;omega)
  | (have:=hw k hk;unfold fy;simp only;omega)
theorem wX_bd (t:Tsk rc sc rn sn x y a b c e g u z)(hb:∀k,k<ln→bdE lc k=0):(-4000000000000≤(wX rc lc rn ln).1∧(wX rc lc rn ln).1≤4000000000000∧-4000000000000≤(wX rc lc rn ln).2∧(wX rc lc rn ln).2≤4000000000000)∧(-4000000000000≤(wY rc lc rn ln).1∧(wY rc lc rn ln).1≤4000000000000∧-4000000000000≤(wY rc lc rn ln).2∧(wY rc lc rn ln).2≤4000000000000):=by
 obtain ⟨p,q⟩:=fx_pr t hb;have h1:=(sm_id p t.r.2).2;have h2:=(sm_id q t.r.2).2;have:=t.r.2;unfold Bk at h1 h2;unfold wX wY
 omega
theorem tmod_lo {a b:Int}(hb:0<b):-b<Int.tmod a b:=by
 by_cases h:0≤a
 ·have:=Int.tmod_nonneg b h;omega
 ·have h1:Int.tmod (-a) b<b:=Int.tmod_lt_of_pos _ hb
  rw[Int.neg_tmod]at h1
  omega
theorem qd_m {n:Int}(h1:-1000000000000000000≤n) (h2:n≤1000000000000000000):1000000*qd n 1000000≤n∧n<1000000*qd n 1000000+1000000:=by
 have e:=Int.tmod_add_mul_tdiv n 1000000
 have m1:=tmod_lo (a:=n) (b:=1000000) (by omega)
 have m2:=Int.tmod_lt_of_pos n (b:=1000000) (by omega)
 unfold qd
 rw[wrap64_id (x:=Int.tdiv n 1000000) (by omega) (by omega)]
 split
 ·rw[wrap64_id (by omega) (by omega)];omega
 ·omega
theorem drL_id {s v n:Int}(s1:-500000000≤s) (s2:s≤500000000) (v1:-4000000000000≤v) (v2:v≤4000000000000) (n1:0≤n) (n2:n≤2000) :
  1000000*drL s v n≤1000000*s+v*n∧1000000*s+v*n<1000000*drL s v n+1000000∧-9000000000≤drL s v n∧drL s v n≤9000000000:=by
 have h:=mul_abs (p:=v) (q:=n) (A:=4000000000000) (B:=2000) v1 v2 (by omega) n2
 unfold drL
 rw[w_id (n:=v*n) (by omega) (by omega)]
 obtain ⟨q1,q2⟩:=qd_m (n:=v*n) (by omega) (by omega)
 rw[w_id (by omega) (by omega)]
 omega
theorem drH_id {s v n:Int}(s1:-500000000≤s) (s2:s≤500000000) (v1:-4000000000000≤v) (v2:v≤4000000000000) (n1:0≤n) (n2:n≤2000) :
  1000000*s+v*n≤1000000*drH s v n∧1000000*drH s v n<1000000*s+v*n+1000000∧-9000000000≤drH s v n∧drH s v n≤9000000000:=by
 have h:=mul_abs (p:=v) (q:=n) (A:=4000000000000) (B:=2000) v1 v2 (by omega) n2
 have hneg:(0-v)*n=-(v*n):=by rw[Int.zero_sub,Int.neg_mul]
 unfold drH
 rw[w_id (n:=0-v) (by omega) (by omega),w_id (n:=(0-v)*n) (by omega) (by omega),hneg]
 obtain ⟨q1,q2⟩:=qd_m (n:=-(v*n)) (by omega) (by omega)
 rw[w_id (by omega) (by omega)]
 omega
def In9 (m:M4):Prop:=(-9000000000≤m.a∧m.a≤9000000000)∧(-9000000000≤m.b∧m.b≤9000000000)∧(-9000000000≤m.c∧m.c≤9000000000)∧(-9000000000≤m.d∧m.d≤9000000000)
theorem imp_bd (t:Tsk rc sc rn sn x y a b c e g u z)(hb:∀k,k<ln→bdE lc k=0) {k:Nat}(hk:k<sn):In9 (imp rc sc lc rn ln k):=by
 obtain ⟨s1,s2,n1,n2⟩:=se_of (t.se k hk);obtain ⟨v,v'⟩:=wX_bd t hb;unfold In9 imp im
 exact ⟨(drL_id (by omega) (by omega) v.1 v.2.1 n1 n2).2.2,(drH_id (by omega) (by omega) v.2.2.1 v.2.2.2 n1 n2).2.2,(drL_id (by omega) (by omega) v'.1 v'.2.1 n1 n2).2.2,(drH_id (by omega) (by omega) v'.2.2.1 v'.2.2.2 n1 n2).2.2⟩
def mt (d:Int):Int:=Int.tdiv (max d (-d)+999) 1000
theorem sq_id {d:Int}(h1:-10000000000≤d) (h2:d≤10000000000):sq d=mt d*mt d∧0≤mt d∧mt d≤10000001∧1000*mt d≤max d (-d)+999∧max d (-d)≤1000*mt d:=by
 have n0:0≤max d (-d)+999:=by omega
 have e:=Int.tmod_add_mul_tdiv (max d (-d)+999) 1000;have m1:=Int.tmod_nonneg 1000 n0
 have m2:=Int.tmod_lt_of_pos (max d (-d)+999) (b:=1000) (by omega)
 have b1:0≤mt d∧mt d≤10000001∧1000*mt d≤max d (-d)+999∧max d (-d)≤1000*mt d:=by unfold mt;omega
 have hs:sq d=mt d*mt d:=by
  have q:F95 d=some ⟨mt d*mt d⟩:=by
   unfold F95 rt95
   have w1:IntKind.wrap .i64 (0-d)=-d:=by rw[wrap64_id (by omega) (by omega)];omega
   have w2:IntKind.wrap .i64 (max d (-d)+1000)=max d (-d)+1000:=wrap64_id (by omega) (by omega)
   have w3:IntKind.wrap .i64 (max d (-d)+1000-1)=max d (-d)+999:=by rw[wrap64_id (by omega) (by omega)];omega
   have w4:IntKind.wrap .i64 (Int.tdiv (max d (-d)+999) 1000)=mt d:=by unfold mt at b1 ⊢;exact wrap64_id (by omega) (by omega)
   have hm:=mul_abs (p:=mt d) (q:=mt d) (A:=10000001) (B:=10000001) (by omega) (by omega) (by omega) (by omega)
   have w5:IntKind.wrap .i64 (mt d*mt d)=mt d*mt d:=wrap64_id (by omega) (by omega)
   simp only[RT.val,mq,w1,w2,w3,w4,w5]
  unfold sq;simp only[F95_0,q]
 exact ⟨hs,b1⟩
theorem sq_nn {d:Int}(h1:-10000000000≤d) (h2:d≤10000000000):0≤sq d∧sq d≤200000000000000:=by
 obtain ⟨e,b1,b2,_,_⟩:=sq_id h1 h2
 have hm:=mul_abs (p:=mt d) (q:=mt d) (A:=10000001) (B:=10000001) (by omega) (by omega) (by omega) (by omega)
 have h0:=Int.mul_nonneg b1 b1;rw[e]
 omega
theorem co_id {m:M4}(hm:In9 m) (x1:-500000000≤x) (x2:x≤500000000) (y1:-500000000≤y) (y2:y≤500000000):co0 x y m=sq (m.a-x)+sq (m.c-y)∧co1 x y m=sq (m.b-x)+sq (m.c-y)∧co2 x y m=sq (m.a-x)+sq (m.d-y)∧co3 x y m=sq (m.b-x)+sq (m.d-y):=by
 unfold In9 at hm
 have s1:=sq_nn (d:=m.a-x) (by omega) (by omega)
 have s2:=sq_nn (d:=m.b-x) (by omega) (by omega)
 have s3:=sq_nn (d:=m.c-y) (by omega) (by omega)
 have s4:=sq_nn (d:=m.d-y) (by omega) (by omega)
 unfold co0 co1 co2 co3
 rw[w_id (n:=m.a-x) (by omega) (by omega),w_id (n:=m.b-x) (by omega) (by omega),w_id (n:=m.c-y) (by omega) (by omega),w_id (n:=m.d-y) (by omega) (by omega)]
 refine ⟨w_id ?_ ?_,w_id ?_ ?_,w_id ?_ ?_,w_id ?_ ?_⟩<;>omega
end
section
variable {vc lc:Array Value}{vn ln:Nat}
def Sub (m M:M4):Prop:=M.a≤m.a∧m.b≤M.b∧M.c≤m.c∧m.d≤M.d
theorem mn_lo (lc:Array Value)(ln:Nat)(f t:Int) {k:Nat}(hk:k<ln) (h1:getInt lc (k*6)<t) (h2:f<getInt lc (k*6+1)) :
  Sub ⟨getInt lc (k*6+2),getInt lc (k*6+3),getInt lc (k*6+4),getInt lc (k*6+5)⟩ (mn lc ln f t):=by
 have key:=iterN_invK (f:=mnS lc f t) (n:=ln) (I:=fun n s=>k<n→Sub ⟨getInt lc (k*6+2),getInt lc (k*6+3),getInt lc (k*6+4),getInt lc (k*6+5)⟩ s) (fun i s hi hs hki=>by
  by_cases e:i=k
  ·subst e
   unfold mnS Sub;rw[if_pos h1,if_pos h2];simp only
   omega
  ·have:=hs (by omega)
   unfold mnS
   split
   ·split
    ·unfold Sub at this ⊢;simp only at this ⊢;omega
    ·exact this
   ·exact this) ln 0 ⟨20000,-20000,20000,-20000⟩ (by omega) (fun h=>absurd h (by omega))
 exact key hk
theorem bd_find (hb:∀k,k<vn→bdE vc k=0) {h:Int}(h0:0≤h):∀n,n<vn→h<getInt vc (n*6+1)→∃i,i<vn∧getInt vc (i*6)≤h∧h<getInt vc (i*6+1)
 | 0,hn,hl=>⟨0,hn,by have h1:=(bd_of (hb 0 hn)).1;have h2:prv vc 0=0:=rfl;omega,hl⟩
 | n+1,hn,hl=>by
  by_cases c:getInt vc ((n+1)*6)≤h
  ·exact ⟨n+1,hn,c,hl⟩
  ·have h1:=(bd_of (hb (n+1) hn)).1
   have h2:prv vc (n+1)=getInt vc (n*6+1):=rfl
   exact bd_find hb h0 n (by omega) (by omega)
end
theorem mul_in {p r lo hi:Int}(h1:lo≤r) (h2:r≤hi):min (p*lo) (p*hi)≤p*r∧p*r≤max (p*lo) (p*hi):=by
 by_cases c:0≤p
 ·have a:=Int.mul_le_mul_of_nonneg_left h1 c
  have b:=Int.mul_le_mul_of_nonneg_left h2 c
  omega
 ·have a:=Int.mul_le_mul_of_nonneg_left h1 (show 0≤-p by omega)
  have b:=Int.mul_le_mul_of_nonneg_left h2 (show 0≤-p by omega)
  rw[Int.neg_mul,Int.neg_mul]at a b
  omega
end
end Go.Proofs.Ytkcahhbhfmdpmaa
namespace Go.Proofs.Ytkcahhbhfmdpmaa
open Go.Gi Go.RowKit
noncomputable section
set_option maxRecDepth 100000
set_option maxHeartbeats 2000000
section
variable {rc sc vc lc:Array Value}{rn sn vn ln:Nat}{x y a b c e g u z:Int}
theorem F20_of (gr:GL I4 4 rc rn)(gs:GL I5 5 sc sn)(gl:GL I6 6 lc ln)(h:wgE rc sc rn sn x y a b c e g u z lc ln=0) {k:Nat}(hk:k<sn) :
  F20_ok rc 0 rn sc 0 sn x y a b c e g u z lc 0 ln (k:Int)=true∧F20_0 rc 0 rn sc 0 sn x y a b c e g u z lc 0 ln (k:Int)=(imp rc sc lc rn ln k).a∧F20_1 rc 0 rn sc 0 sn x y a b c e g u z lc 0 ln (k:Int)=(imp rc sc lc rn ln k).b∧F20_2 rc 0 rn sc 0 sn x y a b c e g u z lc 0 ln (k:Int)=(imp rc sc lc rn ln k).c∧F20_3 rc 0 rn sc 0 sn x y a b c e g u z lc 0 ln (k:Int)=(imp rc sc lc rn ln k).d∧F20_4 rc 0 rn sc 0 sn x y a b c e g u z lc 0 ln (k:Int)=0:=by
 have p:=F20_eq (x:=x) (y:=y) (a:=a) (b:=b) (c:=c) (e:=e) (g:=g) (u:=u) (z:=z) gr gs gl (k:Int)
 rw[if_pos h,if_pos (show (0:Int)≤(k:Int)∧(k:Int)<(sn:Int) by omega),Int.toNat_natCast]at p
 exact ⟨by unfold F20_ok;rw[p];rfl,by unfold F20_0;rw[p],by unfold F20_1;rw[p],by unfold F20_2;rw[p],by unfold F20_3;rw[p],by unfold F20_4;rw[p]⟩
theorem F21_of (gr:GL I4 4 rc rn)(gs:GL I5 5 sc sn)(gl:GL I6 6 lc ln)(h:wgE rc sc rn sn x y a b c e g u z lc ln=0) {k:Nat}(hk:k<sn) :
  F21_ok rc 0 rn sc 0 sn x y a b c e g u z lc 0 ln (k:Int)=true∧F21_0 rc 0 rn sc 0 sn x y a b c e g u z lc 0 ln (k:Int)=mi x y (imp rc sc lc rn ln k)∧F21_1 rc 0 rn sc 0 sn x y a b c e g u z lc 0 ln (k:Int)=0:=by
 have p:=F21_eq (x:=x) (y:=y) (a:=a) (b:=b) (c:=c) (e:=e) (g:=g) (u:=u) (z:=z) gr gs gl (k:Int)
 rw[if_pos h,if_pos (show (0:Int)≤(k:Int)∧(k:Int)<(sn:Int) by omega),Int.toNat_natCast]at p
 exact ⟨by unfold F21_ok;rw[p];rfl,by unfold F21_0;rw[p],by unfold F21_1;rw[p]⟩
end
end
end Go.Proofs.Ytkcahhbhfmdpmaa
namespace Go.Proofs.Ytkcahhbhfmdpmaa
open Go.Gi Go.RowKit
noncomputable section
set_option maxRecDepth 100000
set_option maxHeartbeats 1000000
def shr (zl zh s:Int):Int:=IntKind.wrap .i64 (zl+IntKind.wrap .i64 (Int.tdiv (IntKind.wrap .i64 (IntKind.wrap .i64 (zh-zl)*IntKind.wrap .i64 s)) 255))
theorem shr_in {zl zh s:Int}(h1:zl≤zh) (h2:-2000000000≤zl) (h3:zh≤2000000000) (s0:0≤s) (s1:s≤255):zl≤shr zl zh s∧shr zl zh s≤zh:=by
 have w1:IntKind.wrap .i64 (zh-zl)=zh-zl:=wrap64_id (by omega) (by omega)
 have w2:IntKind.wrap .i64 s=s:=wrap64_id (by omega) (by omega)
 have p0:0≤(zh-zl)*s:=Int.mul_nonneg (by omega) s0
 have p1:(zh-zl)*s≤(zh-zl)*255:=Int.mul_le_mul_of_nonneg_left s1 (by omega)
 have w3:IntKind.wrap .i64 ((zh-zl)*s)=(zh-zl)*s:=wrap64_id (by omega) (by omega)
 have t:Int.tdiv ((zh-zl)*s) 255=((zh-zl)*s) / 255:=Int.tdiv_eq_ediv_of_nonneg p0;unfold shr;rw[w1,w2,w3,t]
 have d0:0≤((zh-zl)*s) / 255:=Int.ediv_nonneg p0 (by omega)
 have d1:((zh-zl)*s) / 255≤zh-zl:=by omega
 rw[wrap64_id (x:=((zh-zl)*s) / 255) (by omega) (by omega),wrap64_id (by omega) (by omega)]
 omega
theorem F31_of {a b:Int}(h1:a≤b) (h2:-2000000000≤a) (h3:b≤2000000000) {c:Array Value}{n:Nat}(g:BL c n) (j:Nat):F31_ok a b c 0 n (j:Int)=true∧a≤F31_0 a b c 0 n (j:Int)∧F31_0 a b c 0 n (j:Int)≤b:=by
 have q:∃v,F31 a b c 0 n (j:Int)=some ⟨v⟩∧a≤v∧v≤b:=by
  unfold F31 rt31
  by_cases h0:n=0
  ·subst h0
   have z:((0:Nat):Int)=0:=rfl
   refine ⟨a,?_,by omega,by omega⟩
   simp only[RT.val,mq,Int.ofNat_eq_natCast,z,decide_true,cond_true]
  ·have z:¬(n:Int)=0:=by omega
   have t:Int.tmod (j:Int) (n:Int)=((j % n:Nat):Int):=rfl
   have lt:j % n<n:=Nat.mod_lt _ (by omega)
   have z1:(0:Int)≤((j % n:Nat):Int):=by omega
   have z2:((j % n:Nat):Int)<(n:Int):=by omega
   have i:=g.isu _ lt;have l0:=g.lo _ lt;have l1:=g.hi _ lt
   obtain ⟨m1,m2⟩:=shr_in h1 h2 h3 l0 (by omega)
   refine ⟨shr a b (getInt c (j % n)),?_,m1,m2⟩
   simp only[RT.val,mq,Int.ofNat_eq_natCast,z,t,z1,z2,i,Int.toNat_natCast,Nat.mul_one,Nat.zero_add,decide_true,decide_false,Bool.not_false,Bool.and_self,cond_true,cond_false]
   rfl
 obtain ⟨v,q,m1,m2⟩:=q
 have e:F31_0 a b c 0 n (j:Int)=v:=by unfold F31_0;rw[q]
 rw[e]
 exact ⟨by unfold F31_ok;rw[q];rfl,m1,m2⟩
theorem F45_of (a b:Int):F45_0 a b=a∧F45_1 a b=b:=by
 have q:F45 a b=some ⟨a,b⟩:=rfl
 exact ⟨by unfold F45_0;rw[q],by unfold F45_1;rw[q]⟩
section
variable {lc:Array Value}{ln:Nat}
def OkM (M:M4)(s:M4):Prop:=M.a≤s.a∧s.b≤M.b∧M.c≤s.c∧s.d≤M.d∧s.a≤s.b∧s.c≤s.d
theorem loop32 (g:GL I6 6 lc ln)(few:ln≤1000)(hb:∀k,k<ln→bdE lc k=0)(f t p q:Int):∀m k (o:Bool) (s:M4),k+m=ln→((o=true∧OkM (mn lc ln f t) s)∨(o=false∧∀j,j<k→¬(getInt lc (j*6)<t∧f<getInt lc (j*6+1)))) →
  ∃o' s',((o'=true∧OkM (mn lc ln f t) s')∨(o'=false∧∀j,j<ln→¬(getInt lc (j*6)<t∧f<getInt lc (j*6+1)))) ∧
   loopR rd32_0 ⟨lc,0,ln,o,(k:Int),f,t,p,q,s.a,s.b,s.c,s.d⟩=some (.k0 f t p q s'.a s'.b s'.c s'.d)
 | 0,k,o,s,h,hi=>by
  obtain rfl:k=ln:=by omega
  have z1:¬(k:Int)<(k:Int):=by omega
  exact ⟨o,s,hi,loopR_done (by simp only[rd32_0,RT.val,mq,z1,Int.ofNat_eq_natCast,decide_false,cond_false])⟩
 | m+1,k,o,s,h,hi=>by
  have hk:k<ln:=by omega
  have p1:(k:Int)<(ln:Int):=by omega
  have p2:(0:Int)≤(k:Int):=by omega
  have p3:IntKind.wrap .i64 ((k:Int)+1)=((k+1:Nat):Int):=by rw[wrap64_id (by omega) (by omega)];omega
  obtain ⟨i0,i1,i2,i4⟩:=rows6 g hk;have j2:=(rd_and i2).1;have j3:=(rd_and (rd_and i2).2).1;have j4:=(rd_and i4).1;have j5:=(rd_and (rd_and i4).2).1;have j2':isInt .i64 lc (k*6+2)=true:=j2;have j3':isInt .i64 lc (k*6+3)=true:=j3;have j4':isInt .i64 lc (k*6+4)=true:=j4;have j5':isInt .i64 lc (k*6+5)=true:=j5;obtain ⟨_,_,_,⟨x1,_,_⟩,⟨y1,_,_⟩⟩:=bd_of (hb k hk)
  by_cases ov:getInt lc (k*6)<t∧f<getInt lc (k*6+1)
  ·have n1:¬getInt lc (k*6+1)≤f:=by omega
   have n2:¬t≤getInt lc (k*6):=by omega
   have sb:=mn_lo lc ln f t hk ov.1 ov.2;unfold Sub at sb
   have goal:∃s2:M4,OkM (mn lc ln f t) s2∧(rd32_0 ⟨lc,0,ln,o,(k:Int),f,t,p,q,s.a,s.b,s.c,s.d⟩).val=some (.inl ⟨lc,0,ln,true,((k+1:Nat):Int),f,t,p,q,s2.a,s2.b,s2.c,s2.d⟩):=by
    cases o with
    | false =>
     refine ⟨⟨min (getInt lc (k*6+2)) (getInt lc (k*6+2)),max (getInt lc (k*6+3)) (getInt lc (k*6+3)),min (getInt lc (k*6+4)) (getInt lc (k*6+4)),max (getInt lc (k*6+5)) (getInt lc (k*6+5))⟩,?_,?_⟩
     ·unfold OkM;simp only at sb ⊢;omega
     ·simp only[rd32_0,RT.val,mq,p1,p2,p3,i0,i1,i2,i4,n1,n2,j2',j3',j4',j5',(F45_of _ _).1,(F45_of _ _).2,Int.ofNat_eq_natCast,Int.toNat_natCast,Nat.zero_add,Nat.add_zero,Nat.add_assoc,Nat.reduceAdd,decide_true,decide_false,Bool.and_self,Bool.not_false,cond_true,cond_false]
    | true =>
     have hi':OkM (mn lc ln f t) s:=by
      rcases hi with ⟨_,hi⟩ | ⟨h,_⟩
      ·exact hi
      ·cases h
     refine ⟨⟨min s.a (getInt lc (k*6+2)),max s.b (getInt lc (k*6+3)),min s.c (getInt lc (k*6+4)),max s.d (getInt lc (k*6+5))⟩,?_,?_⟩
     ·unfold OkM at hi' ⊢;simp only at sb ⊢;omega
     ·simp only[rd32_0,RT.val,mq,p1,p2,p3,i0,i1,i2,i4,n1,n2,j2',j3',j4',j5',(F45_of _ _).1,(F45_of _ _).2,Int.ofNat_eq_natCast,Int.toNat_natCast,Nat.zero_add,Nat.add_zero,Nat.add_assoc,Nat.reduceAdd,decide_true,decide_false,Bool.and_self,Bool.not_true,cond_true,cond_false]
   obtain ⟨s2,h2,st⟩:=goal
   obtain ⟨o',s',r1,r2⟩:=loop32 g few hb f t p q m (k+1) true s2 (by omega) (.inl ⟨rfl,h2⟩)
   exact ⟨o',s',r1,(loopR_next st).trans r2⟩
  ·have st:(rd32_0 ⟨lc,0,ln,o,(k:Int),f,t,p,q,s.a,s.b,s.c,s.d⟩).val=some (.inl ⟨lc,0,ln,o,((k+1:Nat):Int),f,t,p,q,s.a,s.b,s.c,s.d⟩):=by
    by_cases n1:getInt lc (k*6+1)≤f
    ·simp only[rd32_0,RT.val,mq,p1,p2,p3,i1,n1,Int.ofNat_eq_natCast,Int.toNat_natCast,Nat.zero_add,decide_true,Bool.and_self,cond_true]
    ·have n2:t≤getInt lc (k*6):=by omega
     simp only[rd32_0,RT.val,mq,p1,p2,p3,i0,i1,n1,n2,Int.ofNat_eq_natCast,Int.toNat_natCast,Nat.zero_add,Nat.add_zero,decide_true,decide_false,Bool.and_self,cond_true,cond_false]
   obtain ⟨o',s',r1,r2⟩:=loop32 g few hb f t p q m (k+1) o s (by omega) (by
    rcases hi with hi | ⟨h1,h2⟩
    ·exact .inl hi
    ·refine .inr ⟨h1,fun j hj=>?_⟩
     rcases Nat.lt_or_ge j k with w | w
     ·exact h2 j w
     ·obtain rfl:j=k:=by omega
      exact ov)
   exact ⟨o',s',r1,(loopR_next st).trans r2⟩
theorem F32_of (g:GL I6 6 lc ln)(few:ln≤1000)(hb:∀k,k<ln→bdE lc k=0)(l1:1≤ln) {f t:Int}(p q:Int) (f0:0≤f) (ft:f<t) (tl:t≤last6 lc ln) :
  F32_ok f t p q lc 0 ln=true∧OkM (mn lc ln f t) ⟨F32_0 f t p q lc 0 ln,F32_1 f t p q lc 0 ln,F32_2 f t p q lc 0 ln,F32_3 f t p q lc 0 ln⟩:=by
 obtain ⟨o,s,h,l⟩:=loop32 g few hb f t p q ln 0 false ⟨0,0,0,0⟩ (by omega) (.inr ⟨rfl,fun j hj=>by omega⟩)
 have l':L32_0 (X32_0.mk lc 0 ln false 0 f t p q 0 0 0 0)=some (.k0 f t p q s.a s.b s.c s.d):=l
 have e:F32 f t p q lc 0 ln=some ⟨s.a,s.b,s.c,s.d⟩:=by
  unfold F32 rt32;simp only[RT.val,mq,eqCode_self,L32_0_k0,Qm4,Qm5,Qm6,Qm7,l',decide_true,cond_true]
 have ok:OkM (mn lc ln f t) s:=by
  rcases h with ⟨_,h⟩ | ⟨_,h⟩
  ·exact h
  ·obtain ⟨i,i1,i2,i3⟩:=bd_find hb f0 (ln-1) (by omega) (by unfold last6 at tl;omega)
   exact absurd ⟨by omega,i3⟩ (h i i1)
 refine ⟨by unfold F32_ok;rw[e];rfl,?_⟩
 have e0:F32_0 f t p q lc 0 ln=s.a:=by unfold F32_0;rw[e]
 have e1:F32_1 f t p q lc 0 ln=s.b:=by unfold F32_1;rw[e]
 have e2:F32_2 f t p q lc 0 ln=s.c:=by unfold F32_2;rw[e]
 have e3:F32_3 f t p q lc 0 ln=s.d:=by unfold F32_3;rw[e]
 rw[e0,e1,e2,e3];exact ok
end
theorem pr_in {p q r s w u:Int}(p1:-10000000≤p) (q2:q≤10000000) (r1:-20000≤r) (s2:s≤20000) (h1:p≤w) (h2:w≤q) (h3:r≤u) (h4:u≤s):prL p q r s≤w*u∧w*u≤prH p q r s∧-200000000000≤w*u∧w*u≤200000000000:=by
 obtain ⟨e1,e2,b1,b2⟩:=pr_id (p:=p) (q:=q) (r:=r) (s:=s) p1 (by omega) (by omega) q2 r1 (by omega) (by omega) s2
 have m1:=mul_in (p:=w) h3 h4;have m2:=mul_in (p:=r) h1 h2;have m3:=mul_in (p:=s) h1 h2;rw[Int.mul_comm r p,Int.mul_comm r q,Int.mul_comm r w]at m2;rw[Int.mul_comm s p,Int.mul_comm s q,Int.mul_comm s w]at m3;rw[e1]at b1 ⊢;rw[e2]at b2 ⊢
 omega
section
variable {rc sc lc kc uc:Array Value}{rn sn ln kn un:Nat}{x y a b c e g u z:Int}
theorem rc_ht (t:Tsk rc sc rn sn x y a b c e g u z) {k:Nat}(hk:k<rn):0≤getInt rc (k*4)∧getInt rc (k*4)<getInt rc (k*4+1)∧getInt rc (k*4+1)≤last4 rc rn:=by
 have hw:=fun k hk=>wt_of (t.wt k hk)
 have mono:∀m k,k+m<rn→getInt rc (k*4+1)≤getInt rc ((k+m)*4+1):=by
  intro m
  induction m with
  | zero=>intro k _;exact Int.le_refl _
  | succ m ih =>
   intro k hk
   have h1:=ih k (by omega)
   have h2:=hw (k+m+1) (by omega)
   have h3:frI rc (k+m+1)=getInt rc ((k+m)*4+1):=by rw[frI_next,Nat.zero_add]
   have e:k+(m+1)=k+m+1:=by omega
   rw[e]
   omega
 have lo:∀k,k<rn→0≤getInt rc (k*4):=by
  intro k
  induction k with
  | zero=>intro hk;have h2:=hw 0 hk;have h3:frI rc 0=0:=rfl;omega
  | succ k ih =>
   intro hk
   have h1:=ih (by omega)
   have h2:=hw (k+1) hk
   have h2':=hw k (by omega)
   have h3:frI rc (k+1)=getInt rc (k*4+1):=by rw[frI_next,Nat.zero_add]
   omega
 refine ⟨lo k hk,(hw k hk).2.1,?_⟩
 have h:=mono (rn-1-k) k (by omega)
 rw[show k+(rn-1-k)=rn-1 by omega]at h
 exact h
def Q5 (lc:Array Value)(ln:Nat)(k0 p q:Int)(i:Int)(rc:Array Value)(rn:Nat)(sc:Array Value)(sn:Nat)(x y a b c e g u z se:Int)(kc:Array Value)(kn:Nat)(uc:Array Value)(un:Nat)(w0 w1 s0 s1 s2 s3 a0 a1 a2 a3 n:Int):X5_0 :=
 ⟨lc,0,ln,k0,p,q,i,rc,0,rn,sc,0,sn,x,y,a,b,c,e,g,u,z,se,kc,0,kn,uc,0,un,w0,w1,s0,s1,s2,s3,a0,a1,a2,a3,n⟩
theorem loop5 (t:Tsk rc sc rn sn x y a b c e g u z)(gr:GL I4 4 rc rn)(gl:GL I6 6 lc ln)(hb:∀k,k<ln→bdE lc k=0)(l1:1≤ln)(few:ln≤20)(tl:last4 rc rn≤last6 lc ln)(gk:BL kc kn)(gu:BL uc un) {n A B:Int}(n0:0≤n) (n1:n≤2000)
  (A0:-500000000000000≤A) (A1:A≤500000000000000) (B0:-500000000000000≤B) (B1:B≤500000000000000) (k0 se w0 w1 s0 s1 s2 s3 a0 a1 a2 a3:Int):∀m k (S T:Int) (s s':Int×Int),k+m=rn→-(200000000000*(k:Int))≤S→S≤200000000000*(k:Int)→-(200000000000*(k:Int))≤T→T≤200000000000*(k:Int)→s.1≤S→S≤s.2→s'.1≤T→T≤s'.2 →
  ∃S' T',(iterN (smI (fx rc lc ln)) m k s).1≤S'∧S'≤(iterN (smI (fx rc lc ln)) m k s).2∧(iterN (smI (fy rc lc ln)) m k s').1≤T'∧T'≤(iterN (smI (fy rc lc ln)) m k s').2 ∧
   loopR rd5_0 (Q5 lc ln k0 (A+S*n) (B+T*n) (k:Int) rc rn sc sn x y a b c e g u z se kc kn uc un w0 w1 s0 s1 s2 s3 a0 a1 a2 a3 n)=some (.k0 lc 0 ln k0 (A+S'*n) (B+T'*n) rc 0 rn sc 0 sn x y a b c e g u z se kc 0 kn uc 0 un w0 w1 s0 s1 s2 s3 a0 a1 a2 a3 n)
 | 0,k,S,T,s,s',h,S0,S1,T0,T1,h1,h2,h3,h4=>by
  obtain rfl:k=rn:=by omega
  have z1:¬(k:Int)<(k:Int):=by omega
  exact ⟨S,T,h1,h2,h3,h4,loopR_done (by simp only[Q5,rd5_0,RT.val,mq,z1,Int.ofNat_eq_natCast,decide_false,cond_false])⟩
 | m+1,k,S,T,s,s',h,S0,S1,T0,T1,h1,h2,h3,h4=>by
  have hk:k<rn:=by omega
  have fr:=t.r.2
  have p1:(k:Int)<(rn:Int):=by omega
  have p2:(0:Int)≤(k:Int):=by omega
  have p3:IntKind.wrap .i64 ((k:Int)+1)=((k+1:Nat):Int):=by rw[wrap64_id (by omega) (by omega)];omega
  have q2:IntKind.wrap .i64 (2*(k:Int))=((2*k:Nat):Int):=by rw[wrap64_id (by omega) (by omega)];omega
  have q3:IntKind.wrap .i64 (((2*k:Nat):Int)+1)=((2*k+1:Nat):Int):=by rw[wrap64_id (by omega) (by omega)];omega
  have hr:rdOk rc I4 (0+k*4)=true:=gr.good.2 k hk;rw[Nat.zero_add]at hr;unfold I4 at hr;have hr2:=(rd_and (rd_and hr).2).2;rw[Nat.add_assoc]at hr2;have hr2':rdOk rc [(Leaf.int .i64),(Leaf.int .i64)] (k*4+2)=true:=hr2;obtain ⟨_,_,_,K1,K2,K3⟩:=wt_of (t.wt k hk);obtain ⟨f0,ft,tl'⟩:=rc_ht t hk
  obtain ⟨m32,ok⟩:=F32_of gl (by omega) hb l1 (getInt rc (k*4+2)) (getInt rc (k*4+3)) f0 ft (Int.le_trans tl' tl)
  obtain ⟨N1,N2,N3,N4⟩:=mn_in hb (getInt rc (k*4)) (getInt rc (k*4+1))
  obtain ⟨k1,k2,k3⟩:=F31_of (a:=getInt rc (k*4+2)) (b:=getInt rc (k*4+3)) K1 (by omega) (by omega) gk k
  obtain ⟨o1,o2,o3,o4,o5,o6⟩:=ok;simp only at o1 o2 o3 o4 o5 o6
  obtain ⟨u1,u2,u3⟩:=F31_of (a:=F32_0 (getInt rc (k*4)) (getInt rc (k*4+1)) (getInt rc (k*4+2)) (getInt rc (k*4+3)) lc 0 ln) (b:=F32_1 (getInt rc (k*4)) (getInt rc (k*4+1)) (getInt rc (k*4+2)) (getInt rc (k*4+3)) lc 0 ln) o5 (by omega) (by omega) gu (2*k)
  obtain ⟨v1,v2,v3⟩:=F31_of (a:=F32_2 (getInt rc (k*4)) (getInt rc (k*4+1)) (getInt rc (k*4+2)) (getInt rc (k*4+3)) lc 0 ln) (b:=F32_3 (getInt rc (k*4)) (getInt rc (k*4+1)) (getInt rc (k*4+2)) (getInt rc (k*4+3)) lc 0 ln) o6 (by omega) (by omega) gu (2*k+1)
  obtain ⟨W,hW⟩:∃W,F31_0 (getInt rc (k*4+2)) (getInt rc (k*4+3)) kc 0 kn (k:Int)=W:=⟨_,rfl⟩;obtain ⟨U,hU⟩:∃U,F31_0 (F32_0 (getInt rc (k*4)) (getInt rc (k*4+1)) (getInt rc (k*4+2)) (getInt rc (k*4+3)) lc 0 ln) (F32_1 (getInt rc (k*4)) (getInt rc (k*4+1)) (getInt rc (k*4+2)) (getInt rc (k*4+3)) lc 0 ln) uc 0 un ((2*k:Nat):Int)=U:=⟨_,rfl⟩;obtain ⟨V,hV⟩:∃V,F31_0 (F32_2 (getInt rc (k*4)) (getInt rc (k*4+1)) (getInt rc (k*4+2)) (getInt rc (k*4+3)) lc 0 ln) (F32_3 (getInt rc (k*4)) (getInt rc (k*4+1)) (getInt rc (k*4+2)) (getInt rc (k*4+3)) lc 0 ln) uc 0 un ((2*k+1:Nat):Int)=V:=⟨_,rfl⟩;rw[hW]at k2 k3
  rw[hU]at u2 u3;rw[hV]at v2 v3
  obtain ⟨x1,x2,x3,x4⟩:=pr_in (p:=getInt rc (k*4+2)) (q:=getInt rc (k*4+3)) (r:=(mn lc ln (getInt rc (k*4)) (getInt rc (k*4+1))).a) (s:=(mn lc ln (getInt rc (k*4)) (getInt rc (k*4+1))).b) (w:=W) (u:=U) (by omega) (by omega) (by omega) (by omega) k2 k3 (by omega) (by omega)
  obtain ⟨y1,y2,y3,y4⟩:=pr_in (p:=getInt rc (k*4+2)) (q:=getInt rc (k*4+3)) (r:=(mn lc ln (getInt rc (k*4)) (getInt rc (k*4+1))).c) (s:=(mn lc ln (getInt rc (k*4)) (getInt rc (k*4+1))).d) (w:=W) (u:=V) (by omega) (by omega) (by omega) (by omega) k2 k3 (by omega) (by omega)
  have b1:=mul_abs (A:=200000000000) (B:=2000) x3 x4 (by omega) n1
  have b2:=mul_abs (A:=200000000000) (B:=2000) y3 y4 (by omega) n1
  have b3:=mul_abs (A:=4000000000000) (B:=2000) (p:=S) (q:=n) (by omega) (by omega) (by omega) n1
  have b4:=mul_abs (A:=4000000000000) (B:=2000) (p:=T) (q:=n) (by omega) (by omega) (by omega) n1
  have c1:IntKind.wrap .i64 (W*U)=W*U:=wrap64_id (by omega) (by omega)
  have c2:IntKind.wrap .i64 (W*V)=W*V:=wrap64_id (by omega) (by omega)
  have c3:IntKind.wrap .i64 (W*U*n)=W*U*n:=wrap64_id (by omega) (by omega)
  have c4:IntKind.wrap .i64 (W*V*n)=W*V*n:=wrap64_id (by omega) (by omega)
  have c5:IntKind.wrap .i64 (A+S*n+W*U*n)=A+(S+W*U)*n:=by rw[wrap64_id (by omega) (by omega),Int.add_mul,Int.add_assoc]
  have c6:IntKind.wrap .i64 (B+T*n+W*V*n)=B+(T+W*V)*n:=by rw[wrap64_id (by omega) (by omega),Int.add_mul,Int.add_assoc]
  have st:(rd5_0 (Q5 lc ln k0 (A+S*n) (B+T*n) (k:Int) rc rn sc sn x y a b c e g u z se kc kn uc un w0 w1 s0 s1 s2 s3 a0 a1 a2 a3 n)).val=some (.inl (Q5 lc ln k0 (A+(S+W*U)*n) (B+(T+W*V)*n) ((k+1:Nat):Int) rc rn sc sn x y a b c e g u z se kc kn uc un w0 w1 s0 s1 s2 s3 a0 a1 a2 a3 n)):=by
   simp only[Q5,rd5_0,RT.val,mq,p1,p2,p3,Int.ofNat_eq_natCast,Int.toNat_natCast,Nat.zero_add,Nat.add_assoc,Nat.reduceAdd,hr,hr2',m32,k1,decide_true,Bool.and_self,arrEq_self,cond_true];simp only[q2,q3,u1,v1,hW,hU,hV,c1,c2,c3,c4,c5,c6,decide_true,cond_true]
  obtain ⟨S',T',r1,r2,r3,r4,r5⟩:=loop5 t gr gl hb l1 few tl gk gu n0 n1 A0 A1 B0 B1 k0 se w0 w1 s0 s1 s2 s3 a0 a1 a2 a3 m (k+1) (S+W*U) (T+W*V) (smI (fx rc lc ln) k s) (smI (fy rc lc ln) k s') (by omega) (by omega) (by omega) (by omega) (by omega)
   (by simp only[smI,fx];omega) (by simp only[smI,fx];omega) (by simp only[smI,fy];omega) (by simp only[smI,fy];omega)
  exact ⟨S',T',r1,r2,r3,r4,(loopR_next st).trans r5⟩
end
theorem F33_of {d lo hi:Int}(d1:-60000000000000000≤d) (d2:d≤60000000000000000) (h1:1000000*lo≤d) (h2:d≤1000000*hi) (l1:-10000000000≤lo) (u2:hi≤10000000000):F33_0 d≤max (sq lo) (sq hi)∧0≤F33_0 d∧F33_0 d≤4000000000000000:=by
 obtain ⟨e1,a1,a2,a3,a4⟩:=sq_id (d:=lo) l1 (by omega)
 obtain ⟨e2,b1,b2,b3,b4⟩:=sq_id (d:=hi) (by omega) u2
 have w0:IntKind.wrap .i64 (0-d)=-d:=by rw[wrap64_id (by omega) (by omega)];omega
 have w1:IntKind.wrap .i64 (max d (-d)+999999999)=max d (-d)+999999999:=wrap64_id (by omega) (by omega)
 have t:Int.tdiv (max d (-d)+999999999) 1000000000=(max d (-d)+999999999) / 1000000000:=Int.tdiv_eq_ediv_of_nonneg (by omega)
 obtain ⟨M,hM⟩:∃M,(max d (-d)+999999999) / 1000000000=M:=⟨_,rfl⟩
 have m0:0≤M:=by omega
 have m1:M≤60000001:=by omega
 have m2:M≤max (mt lo) (mt hi):=by omega
 have sqM:M*M≤max (mt lo*mt lo) (mt hi*mt hi):=by
  rcases Int.le_total (mt lo) (mt hi) with c | c
  ·have:=Int.mul_le_mul (show M≤mt hi by omega) (show M≤mt hi by omega) m0 b1
   omega
  ·have:=Int.mul_le_mul (show M≤mt lo by omega) (show M≤mt lo by omega) m0 a1
   omega
 have sq0:0≤M*M:=Int.mul_nonneg m0 m0
 have sqb:M*M≤60000001*60000001:=Int.mul_le_mul m1 m1 m0 (by omega)
 have q:F33_0 d=M*M:=by
  unfold F33_0 F33 rt33;simp only[RT.val,mq,w0,w1,t,hM]
  rw[wrap64_id (x:=M) (by omega) (by omega),wrap64_id (by omega) (by omega)]
 rw[q,e1,e2]
 omega
end
end Go.Proofs.Ytkcahhbhfmdpmaa
namespace Go.Proofs.Ytkcahhbhfmdpmaa
open Go.Gi Go.RowKit
noncomputable section
set_option maxRecDepth 100000
set_option maxHeartbeats 4000000
theorem u8_in {x:Int}(h:(Lit.int .u8 x).wf=true):0≤x∧x≤255:=by
 simp only[Lit.wf,Bool.and_eq_true,decide_eq_true_eq]at h;exact h
theorem loop51 (L:List Nat)(few:L.length≤1000) {k:Nat}{P Q a b c e:Int}(ha:-500000000≤a∧a≤500000000) (hb:-500000000≤b∧b≤500000000) (hc:-500000000≤c∧c≤500000000) (he:-500000000≤e∧e≤500000000)
  (hin:k∈L→1000000*a≤P∧P≤1000000*b∧1000000*c≤Q∧Q≤1000000*e) (r7:Array Value) (r8:Nat) (r9:Nat) (r10:Array Value) (r11:Nat) (r12:Nat) (r13:Int) (r14:Int) (r15:Int) (r16:Int) (r17:Int) (r18:Int) (r19:Int) (r20:Int) (r21:Int) (r22:Int) (r23:Array Value) (r24:Nat) (r25:Nat) (r26:Array Value) (r27:Nat) (r28:Nat) (r29:Int) (r30:Int) (r31:Int) (r32:Int) (r33:Int) (r34:Int) (r35:Int) (r36:Int) (r37:Int) (r38:Int) (r39:Int) (r40:Int) (r41:Int) (r42:Int) (r43:Int):∀m i,i+m=L.length →
  loopR rd5_1 (X5_1.mk (k:Int) P Q (arrL rI L) 0 L.length (i:Int) r7 r8 r9 r10 r11 r12 r13 r14 r15 r16 r17 r18 r19 r20 r21 r22 r23 r24 r25 r26 r27 r28 r29 r30 r31 r32 r33 r34 r35 r36 r37 r38 r39 r40 r41 r42 r43 a b c e)=some (.k1 r7 r8 r9 r10 r11 r12 r13 r14 r15 r16 r17 r18 r19 r20 r21 r22 r23 r24 r25 r26 r27 r28 r29 r30 r31 r32 r33 r34 r35 r36 r37 r38 r39 r40 r41 r42 r43 a b c e)
 | 0,i,h=>by
  obtain rfl:i=L.length:=by omega
  have z1:¬(L.length:Int)<(L.length:Int):=by omega
  exact loopR_done (by simp only[rd5_1,RT.val,mq,z1,Int.ofNat_eq_natCast,decide_false,cond_false])
 | m+1,i,h=>by
  have hi:i<L.length:=by omega
  have p1:(i:Int)<(L.length:Int):=by omega
  have p2:(0:Int)≤(i:Int):=by omega
  have p3:IntKind.wrap .i64 ((i:Int)+1)=((i+1:Nat):Int):=by rw[wrap64_id (by omega) (by omega)];omega
  obtain ⟨g1,g2⟩:=rdI L hi
  refine (loopR_next ?_).trans (loop51 L few ha hb hc he hin _ _ _ _ _ _ _ _ _ _ _ _ _ _ _ _ _ _ _ _ _ _ _ _ _ _ _ _ _ _ _ _ _ _ _ _ _ m (i+1) (by omega))
  by_cases hk:L[i]=k
  ·have mem:k∈L:=hk ▸ List.getElem_mem hi
   obtain ⟨h1,h2,h3,h4⟩:=hin mem
   have n1:¬P<1000000*a:=by omega
   have n2:¬1000000*b<P:=by omega
   have n3:¬Q<1000000*c:=by omega
   have n4:¬1000000*e<Q:=by omega
   have c1:IntKind.wrap .i64 (1000000*a)=1000000*a:=wrap64_id (by omega) (by omega)
   have c2:IntKind.wrap .i64 (1000000*b)=1000000*b:=wrap64_id (by omega) (by omega)
   have c3:IntKind.wrap .i64 (1000000*c)=1000000*c:=wrap64_id (by omega) (by omega)
   have c4:IntKind.wrap .i64 (1000000*e)=1000000*e:=wrap64_id (by omega) (by omega)
   have ek:((L[i]:Nat):Int)=(k:Int):=by rw[hk]
   simp only[rd5_1,RT.val,mq,p1,p2,p3,g1,g2,ek,c1,c2,c3,c4,n1,n2,n3,n4,Int.ofNat_eq_natCast,Int.toNat_natCast,Nat.zero_add,decide_true,decide_false,Bool.and_self,cond_true,cond_false]
  ·have ek:¬((L[i]:Nat):Int)=(k:Int):=by omega
   simp only[rd5_1,RT.val,mq,p1,p2,p3,g1,g2,ek,Int.ofNat_eq_natCast,Int.toNat_natCast,Nat.zero_add,decide_true,decide_false,Bool.and_self,cond_true,cond_false]
theorem true5:True5:=by
 intro rc rn sc sn x y a b c e g u z lc ln se kc kn uc un p0 p1 gr gs gl hse gk gu hp0 hp1;have P:=F30_eq (x:=x) (y:=y) (a:=a) (b:=b) (c:=c) (e:=e) (g:=g) (u:=u) (z:=z) gr gs gl;unfold rt5
 by_cases h:wgE rc sc rn sn x y a b c e g u z lc ln=0
 ·rw[if_pos h]at P
  have o1:F30_ok rc 0 rn sc 0 sn x y a b c e g u z lc 0 ln=true:=by unfold F30_ok;rw[P];rfl
  have o2:F30_4 rc 0 rn sc 0 sn x y a b c e g u z lc 0 ln=0:=by unfold F30_4;rw[P]
  obtain ⟨t,⟨l1,fewl,hb⟩,tl⟩:=wg_of h;have sr:=t.s;have rr:=t.r;obtain ⟨u0,u1⟩:=u8_in hse;obtain ⟨q0,q1⟩:=u8_in hp0;obtain ⟨q2,q3⟩:=u8_in hp1
  obtain ⟨s8,rfl⟩:∃s8:Nat,se=(s8:Int):=⟨se.toNat,by omega⟩
  have ws:IntKind.wrap .i64 (s8:Int)=(s8:Int):=wrap64_id (by omega) (by omega)
  obtain ⟨k,hkd⟩:∃k,s8 % sn=k:=⟨_,rfl⟩
  have hk:k<sn:=by rw[← hkd];exact Nat.mod_lt _ (by omega)
  have tm:Int.tmod (s8:Int) (sn:Int)=(k:Int):=by rw[← hkd];rfl
  have z1:¬(sn:Int)=0:=by omega
  have z2:¬(20:Int)<(rn:Int):=by omega
  have z3:(0:Int)≤(k:Int):=by omega
  have z4:(k:Int)<(sn:Int):=by omega
  have hr:rdOk sc I5 (0+k*5)=true:=gs.good.2 k hk;rw[Nat.zero_add]at hr;unfold I5 at hr;obtain ⟨⟨a1,a2,a3⟩,⟨a4,a5,a6⟩,n0,n1⟩:=se_of (t.se k hk);obtain ⟨⟨X1,X2,Y1,Y2⟩,⟨ab,A1,B2,ce,C1,E2⟩,_⟩:=ex_of t.ex;obtain ⟨A,hA⟩:∃A,shr (getInt sc (k*5)) (getInt sc (k*5+1)) p0=A:=⟨_,rfl⟩;obtain ⟨B,hB⟩:∃B,shr (getInt sc (k*5+2)) (getInt sc (k*5+3)) p1=B:=⟨_,rfl⟩
  have sa:=shr_in (zl:=getInt sc (k*5)) (zh:=getInt sc (k*5+1)) a1 (by omega) (by omega) q0 q1
  have sb:=shr_in (zl:=getInt sc (k*5+2)) (zh:=getInt sc (k*5+3)) a4 (by omega) (by omega) q2 q3
  rw[hA]at sa;rw[hB]at sb
  have wA:IntKind.wrap .i64 (1000000*A)=1000000*A:=wrap64_id (by omega) (by omega)
  have wB:IntKind.wrap .i64 (1000000*B)=1000000*B:=wrap64_id (by omega) (by omega)
  obtain ⟨S,T,r1,r2,r3,r4,r5⟩:=loop5 (A:=1000000*A) (B:=1000000*B) (n:=getInt sc (k*5+4)) t gr gl hb l1 fewl tl gk gu n0 n1 (by omega) (by omega) (by omega) (by omega) (k:Int) (s8:Int) p0 p1 (F30_0 rc 0 rn sc 0 sn x y a b c e g u z lc 0 ln) (F30_1 rc 0 rn sc 0 sn x y a b c e g u z lc 0 ln) (F30_2 rc 0 rn sc 0 sn x y a b c e g u z lc 0 ln) (F30_3 rc 0 rn sc 0 sn x y a b c e g u z lc 0 ln) (getInt sc (k*5)) (getInt sc (k*5+1)) (getInt sc (k*5+2)) (getInt sc (k*5+3)) rn 0 0 0 (0,0) (0,0) (by omega) (by omega) (by omega) (by omega) (by omega) (by simp) (by simp) (by simp) (by simp)
  rw[Int.zero_mul,Int.add_zero,Int.add_zero]at r5;obtain ⟨px,py⟩:=fx_pr t hb;rw[← (sm_id px t.r.2).1]at r1 r2;rw[← (sm_id py t.r.2).1]at r3 r4
  have lY:L5_0 (Y5_0 rc 0 rn sc 0 sn x y a b c e g u z lc 0 ln (s8:Int) kc 0 kn uc 0 un p0 p1)=some (.k0 lc 0 ln (k:Int) (1000000*A+S*getInt sc (k*5+4)) (1000000*B+T*getInt sc (k*5+4)) rc 0 rn sc 0 sn x y a b c e g u z (s8:Int) kc 0 kn uc 0 un p0 p1 (F30_0 rc 0 rn sc 0 sn x y a b c e g u z lc 0 ln) (F30_1 rc 0 rn sc 0 sn x y a b c e g u z lc 0 ln) (F30_2 rc 0 rn sc 0 sn x y a b c e g u z lc 0 ln) (F30_3 rc 0 rn sc 0 sn x y a b c e g u z lc 0 ln) (getInt sc (k*5)) (getInt sc (k*5+1)) (getInt sc (k*5+2)) (getInt sc (k*5+3)) (getInt sc (k*5+4))):=by
   unfold Y5_0;simp only[Int.ofNat_eq_natCast,ws,tm,Int.toNat_natCast,Nat.zero_add,Nat.add_assoc,Nat.reduceAdd];unfold shr at hA hB;simp only[hA,hB,wA,wB];exact r5
  obtain ⟨v,v'⟩:=wX_bd t hb
  obtain ⟨i1,i2,i3,i4⟩:=drL_id (s:=getInt sc (k*5)) (v:=(wX rc lc rn ln).1) (n:=getInt sc (k*5+4)) (by omega) (by omega) (by omega) (by omega) n0 n1
  obtain ⟨j1,j2,j3,j4⟩:=drH_id (s:=getInt sc (k*5+1)) (v:=(wX rc lc rn ln).2) (n:=getInt sc (k*5+4)) (by omega) (by omega) (by omega) (by omega) n0 n1
  obtain ⟨i1',i2',i3',i4'⟩:=drL_id (s:=getInt sc (k*5+2)) (v:=(wY rc lc rn ln).1) (n:=getInt sc (k*5+4)) (by omega) (by omega) (by omega) (by omega) n0 n1
  obtain ⟨j1',j2',j3',j4'⟩:=drH_id (s:=getInt sc (k*5+3)) (v:=(wY rc lc rn ln).2) (n:=getInt sc (k*5+4)) (by omega) (by omega) (by omega) (by omega) n0 n1
  have m1:=Int.mul_le_mul_of_nonneg_right (show (wX rc lc rn ln).1≤S from r1) n0
  have m2:=Int.mul_le_mul_of_nonneg_right (show S≤(wX rc lc rn ln).2 from r2) n0
  have m3:=Int.mul_le_mul_of_nonneg_right (show (wY rc lc rn ln).1≤T from r3) n0
  have m4:=Int.mul_le_mul_of_nonneg_right (show T≤(wY rc lc rn ln).2 from r4) n0
  obtain ⟨pp,hpp⟩:∃pp,1000000*A+S*getInt sc (k*5+4)=pp:=⟨_,rfl⟩;obtain ⟨qq,hqq⟩:∃qq,1000000*B+T*getInt sc (k*5+4)=qq:=⟨_,rfl⟩;rw[hpp,hqq]at lY;have ia:(imp rc sc lc rn ln k).a=drL (getInt sc (k*5)) (wX rc lc rn ln).1 (getInt sc (k*5+4)):=rfl;have ib:(imp rc sc lc rn ln k).b=drH (getInt sc (k*5+1)) (wX rc lc rn ln).2 (getInt sc (k*5+4)):=rfl;have ic:(imp rc sc lc rn ln k).c=drL (getInt sc (k*5+2)) (wY rc lc rn ln).1 (getInt sc (k*5+4)):=rfl;have id':(imp rc sc lc rn ln k).d=drH (getInt sc (k*5+3)) (wY rc lc rn ln).2 (getInt sc (k*5+4)):=rfl;rw[← ia]at i1 i2 i3 i4;rw[← ib]at j1 j2 j3 j4;rw[← ic]at i1' i2' i3' i4'
  rw[← id']at j1' j2' j3' j4'
  have b1:1000000*(imp rc sc lc rn ln k).a≤pp:=by omega
  have b2:pp≤1000000*(imp rc sc lc rn ln k).b:=by omega
  have b3:1000000*(imp rc sc lc rn ln k).c≤qq:=by omega
  have b4:qq≤1000000*(imp rc sc lc rn ln k).d:=by omega
  obtain ⟨w0,w1,w2,w3,w4,w5⟩:=F20_of (x:=x) (y:=y) (a:=a) (b:=b) (c:=c) (e:=e) (g:=g) (u:=u) (z:=z) gr gs gl h hk;obtain ⟨y0,y1,y2⟩:=F21_of (x:=x) (y:=y) (a:=a) (b:=b) (c:=c) (e:=e) (g:=g) (u:=u) (z:=z) gr gs gl h hk;have P2:=F22_eq (x:=x) (y:=y) (a:=a) (b:=b) (c:=c) (e:=e) (g:=g) (u:=u) (z:=z) gr gs gl;rw[if_pos h]at P2
  have g0:F22_ok rc 0 rn sc 0 sn x y a b c e g u z lc 0 ln=true:=by unfold F22_ok;rw[P2];rfl
  have g1:F22_0 rc 0 rn sc 0 sn x y a b c e g u z lc 0 ln=arrL rI (alL a b c e (imp rc sc lc rn ln) sn):=by unfold F22_0;rw[P2]
  have g2:F22_1 rc 0 rn sc 0 sn x y a b c e g u z lc 0 ln=0:=by unfold F22_1;rw[P2]
  have g3:F22_2 rc 0 rn sc 0 sn x y a b c e g u z lc 0 ln=(alL a b c e (imp rc sc lc rn ln) sn).length:=by unfold F22_2;rw[P2]
  have g4:F22_3 rc 0 rn sc 0 sn x y a b c e g u z lc 0 ln=0:=by unfold F22_3;rw[P2]
  have hin:k∈alL a b c e (imp rc sc lc rn ln) sn→1000000*a≤pp∧pp≤1000000*b∧1000000*c≤qq∧qq≤1000000*e:=by
   intro hm;have:=(alL_lt hm).2;unfold al at this;simp only[Bool.and_eq_true,Bool.not_eq_true',decide_eq_false_iff_not]at this
   omega
  have lZ:L5_1 (Y5_1 rc 0 rn sc 0 sn x y a b c e g u z lc 0 ln (s8:Int) kc 0 kn uc 0 un p0 p1)=some (.k1 rc 0 rn sc 0 sn x y a b c e g u z (s8:Int) kc 0 kn uc 0 un p0 p1 (F30_0 rc 0 rn sc 0 sn x y a b c e g u z lc 0 ln) (F30_1 rc 0 rn sc 0 sn x y a b c e g u z lc 0 ln) (F30_2 rc 0 rn sc 0 sn x y a b c e g u z lc 0 ln) (F30_3 rc 0 rn sc 0 sn x y a b c e g u z lc 0 ln) (getInt sc (k*5)) (getInt sc (k*5+1)) (getInt sc (k*5+2)) (getInt sc (k*5+3)) (getInt sc (k*5+4)) (imp rc sc lc rn ln k).a (imp rc sc lc rn ln k).b (imp rc sc lc rn ln k).c (imp rc sc lc rn ln k).d a b c e):=by
   unfold Y5_1;simp only[Qn0,Qn1,Qn2,Qn3,Qn4,Qn5,Qn6,Qn7,Qn8,Qn9,Qn10,Qn11,Qn12,Qn13,Qn14,Qn15,Qn16,Qn17,Qn18,Qn19,Qn20,Qn21,Qn22,Qn23,Qn24,Qn25,Qn26,Qn27,Qn28,Qn29,Qn30,Qn31,Qn32,Qn33,Qn34,Qn35,Qn36,Qn37,Qn38,lY,w1,w2,w3,w4,g1,g2,g3]
   exact loop51 _ (Nat.le_trans alL_len (by omega)) (by omega) (by omega) (by omega) (by omega) hin _ _ _ _ _ _ _ _ _ _ _ _ _ _ _ _ _ _ _ _ _ _ _ _ _ _ _ _ _ _ _ _ _ _ _ _ _ _ 0 (Nat.zero_add _)
  have wa:IntKind.wrap .i64 (1000000*(imp rc sc lc rn ln k).a)=1000000*(imp rc sc lc rn ln k).a:=wrap64_id (by omega) (by omega)
  have wb:IntKind.wrap .i64 (1000000*(imp rc sc lc rn ln k).b)=1000000*(imp rc sc lc rn ln k).b:=wrap64_id (by omega) (by omega)
  have wc:IntKind.wrap .i64 (1000000*(imp rc sc lc rn ln k).c)=1000000*(imp rc sc lc rn ln k).c:=wrap64_id (by omega) (by omega)
  have wd:IntKind.wrap .i64 (1000000*(imp rc sc lc rn ln k).d)=1000000*(imp rc sc lc rn ln k).d:=wrap64_id (by omega) (by omega)
  have k1:¬pp<1000000*(imp rc sc lc rn ln k).a:=by omega
  have k2:¬1000000*(imp rc sc lc rn ln k).b<pp:=by omega
  have k3:¬qq<1000000*(imp rc sc lc rn ln k).c:=by omega
  have k4:¬1000000*(imp rc sc lc rn ln k).d<qq:=by omega
  have wx:IntKind.wrap .i64 (1000000*x)=1000000*x:=wrap64_id (by omega) (by omega)
  have wy:IntKind.wrap .i64 (1000000*y)=1000000*y:=wrap64_id (by omega) (by omega)
  have wp:IntKind.wrap .i64 (pp-1000000*x)=pp-1000000*x:=wrap64_id (by omega) (by omega)
  have wq:IntKind.wrap .i64 (qq-1000000*y)=qq-1000000*y:=wrap64_id (by omega) (by omega)
  obtain ⟨f1,f2,f3⟩:=F33_of (d:=pp-1000000*x) (lo:=(imp rc sc lc rn ln k).a-x) (hi:=(imp rc sc lc rn ln k).b-x) (by omega) (by omega) (by omega) (by omega) (by omega) (by omega)
  obtain ⟨f1',f2',f3'⟩:=F33_of (d:=qq-1000000*y) (lo:=(imp rc sc lc rn ln k).c-y) (hi:=(imp rc sc lc rn ln k).d-y) (by omega) (by omega) (by omega) (by omega) (by omega) (by omega)
  have fo:∀q,F33_ok q=true:=fun q=>by unfold F33_ok F33 rt33;rfl
  have wsum:IntKind.wrap .i64 (F33_0 (pp-1000000*x)+F33_0 (qq-1000000*y))=F33_0 (pp-1000000*x)+F33_0 (qq-1000000*y):=wrap64_id (by omega) (by omega)
  obtain ⟨co1,co2,co3,co4⟩:=co_id (imp_bd t hb hk) X1 X2 Y1 Y2
  have nm:¬mi x y (imp rc sc lc rn ln k)<F33_0 (pp-1000000*x)+F33_0 (qq-1000000*y):=by
   unfold mi;rw[co1,co2,co3,co4]
   omega
  simp only[RT.val,mq,o1,o2,Int.ofNat_eq_natCast,z1,z2,z3,z4,ws,tm,hr,Int.toNat_natCast,Nat.zero_add,eqCode_self,decide_true,decide_false,Bool.not_true,Bool.not_false,Bool.and_self,cond_true,cond_false];simp only[L5_0_k0,Qn0,Qn1,Qn2,Qn3,Qn4,Qn5,Qn6,Qn7,Qn8,Qn9,Qn10,Qn11,Qn12,Qn13,Qn14,Qn15,Qn16,Qn17,Qn18,Qn19,Qn20,Qn21,Qn22,Qn23,Qn24,Qn25,Qn26,Qn27,Qn28,Qn29,Qn30,Qn31,Qn32,Qn33,Qn34,Qn35,Qn36,Qn37,Qn38,lY,w0,w1,w2,w3,w4,w5,y0,y1,y2,g0,g4,wa,wb,wc,wd,k1,k2,k3,k4,wx,wy,wp,wq,fo,wsum,nm,L5_1_k0,L5_1_k1,lZ,eqCode_self,arrEq_self,decide_true,decide_false,Bool.not_true,Bool.not_false,Bool.and_self,cond_true,cond_false]
 ·rw[if_neg h]at P
  have o1:F30_ok rc 0 rn sc 0 sn x y a b c e g u z lc 0 ln=true:=by unfold F30_ok;rw[P];rfl
  have o2:F30_4 rc 0 rn sc 0 sn x y a b c e g u z lc 0 ln=wgE rc sc rn sn x y a b c e g u z lc ln:=by unfold F30_4;rw[P]
  simp only[RT.val,mq,o1,o2,h,decide_false,Bool.not_false,cond_true]
theorem aimTrueProved:Rows.AimTrueSaid:=said5 true5
end
end Go.Proofs.Ytkcahhbhfmdpmaa
