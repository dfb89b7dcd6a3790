/- Part 15 of the texts below the claim. Conditions: none. -/
import Derived.Test.YtkcahhbhfmdpmaaMg13
import Derived.Test.YtkcahhbhfmdpmaaMg14
import Derived.Test.YtkcahhbhfmdpmaaMg7
import Derived.Test.YtkcahhbhfmdpmaaMg12
import Derived.Test.YtkcahhbhfmdpmaaMg10
import Derived.Test.YtkcahhbhfmdpmaaMg8
import Derived.Test.YtkcahhbhfmdpmaaMg11
import Derived.Test.YtkcahhbhfmdpmaaMg6
set_option linter.unusedVariables false
set_option linter.unusedSimpArgs false
namespace Go.Proofs.Ytkcahhbhfmdpmaa
open Go.Gi Go.RowKit
noncomputable section
set_option maxRecDepth 100000
set_option maxHeartbeats 4000000
def frB (k st ms co:Int):Bool:=decide (ms<co)||(decide (co=ms)&&decide (st<k))
def pfB (x y a b c e:Int)(m:M4)(kd k st ms:Int)(j:Nat):Bool :=
 if kd=1 then (match j with | 0=>decide (m.a<a) | 1=>decide (b<m.b) | 2=>decide (m.c<c) | _=>decide (e<m.d))
 else if kd=2 then (match j with | 0=>frB k st ms (co0 x y m) | 1=>frB k st ms (co1 x y m) | 2=>frB k st ms (co2 x y m) | _=>frB k st ms (co3 x y m))
 else false
def fi4 (p q r s:Bool):Int:=if p=true then 0 else if q=true then 1 else if r=true then 2 else if s=true then 3 else -1
def rsK (al:Bool):Int:=if al=true then 2 else 1
def rsF (x y a b c e:Int)(m:M4)(k st ms:Int):Int×Int :=
 if k=st then (0,0) else (rsK (al a b c e m),fi4 (pfB x y a b c e m (rsK (al a b c e m)) k st ms 0) (pfB x y a b c e m (rsK (al a b c e m)) k st ms 1) (pfB x y a b c e m (rsK (al a b c e m)) k st ms 2) (pfB x y a b c e m (rsK (al a b c e m)) k st ms 3))
section
variable {rc sc lc:Array Value}{rn sn ln:Nat}{x y a b c e g u z:Int}{A:Nat→M4}
theorem frB_1 {k st ms co:Int}(h:ms<co):frB k st ms co=true:=by simp [frB,h]
theorem frB_2 {k st ms co:Int}(h:¬ms<co) (h2:co=ms):frB k st ms co=decide (st<k):=by simp [frB,h,h2]
theorem frB_3 {k st ms co:Int}(h:¬ms<co) (h2:¬co=ms):frB k st ms co=false:=by simp [frB,h,h2]
theorem F97_of {k:Nat}(hk:k<sn) (st ms:Int) (o:Array Value) (o1 o2:Nat):F97 rc 0 rn sc 0 sn x y a b c e g u z (arrL rF (lst A sn)) 0 sn (k:Int) st ms o o1 o2 =
  some ⟨frB k st ms (co0 x y (A k)),frB k st ms (co1 x y (A k)),frB k st ms (co2 x y (A k)),frB k st ms (co3 x y (A k))⟩:=by
 obtain ⟨o0,p0,p1,p2,p3⟩:=F68_of (rc:=rc) (rn:=rn) (sc:=sc) (x:=x) (y:=y) (a:=a) (b:=b) (c:=c) (e:=e) (g:=g) (u:=u) (z:=z) (A:=A) hk;unfold F97 rt97;simp only[RT.val,mq,o0,p0,p1,p2,p3,decide_true,cond_true];obtain ⟨c0,hc0⟩:∃v,co0 x y (A k)=v:=⟨_,rfl⟩;obtain ⟨c1,hc1⟩:∃v,co1 x y (A k)=v:=⟨_,rfl⟩;obtain ⟨c2,hc2⟩:∃v,co2 x y (A k)=v:=⟨_,rfl⟩;obtain ⟨c3,hc3⟩:∃v,co3 x y (A k)=v:=⟨_,rfl⟩;rw[hc0,hc1,hc2,hc3];clear hc0 hc1 hc2 hc3 o0 p0 p1 p2 p3
 by_cases a0:ms<c0
 ·rw[frB_1 a0];simp only[decide_eq_true a0,cond_true]
  by_cases a1:ms<c1
  ·rw[frB_1 a1];simp only[decide_eq_true a1,cond_true]
   by_cases a2:ms<c2
   ·rw[frB_1 a2];simp only[decide_eq_true a2,cond_true]
    by_cases a3:ms<c3
    ·rw[frB_1 a3];simp only[decide_eq_true a3,cond_true]
    ·by_cases b3:c3=ms
     ·rw[frB_2 a3 b3];simp only[decide_eq_false a3,decide_eq_true b3,cond_true,cond_false]
     ·rw[frB_3 a3 b3];simp only[decide_eq_false a3,decide_eq_false b3,cond_false]
   ·by_cases b2:c2=ms
    ·rw[frB_2 a2 b2];simp only[decide_eq_false a2,decide_eq_true b2,cond_true,cond_false]
     by_cases a3:ms<c3
     ·rw[frB_1 a3];simp only[decide_eq_true a3,cond_true]
     ·by_cases b3:c3=ms
      ·rw[frB_2 a3 b3];simp only[decide_eq_false a3,decide_eq_true b3,cond_true,cond_false]
      ·rw[frB_3 a3 b3];simp only[decide_eq_false a3,decide_eq_false b3,cond_false]
    ·rw[frB_3 a2 b2];simp only[decide_eq_false a2,decide_eq_false b2,cond_false]
     by_cases a3:ms<c3
     ·rw[frB_1 a3];simp only[decide_eq_true a3,cond_true]
     ·by_cases b3:c3=ms
      ·rw[frB_2 a3 b3];simp only[decide_eq_false a3,decide_eq_true b3,cond_true,cond_false]
      ·rw[frB_3 a3 b3];simp only[decide_eq_false a3,decide_eq_false b3,cond_false]
  ·by_cases b1:c1=ms
   ·rw[frB_2 a1 b1];simp only[decide_eq_false a1,decide_eq_true b1,cond_true,cond_false]
    by_cases a2:ms<c2
    ·rw[frB_1 a2];simp only[decide_eq_true a2,cond_true]
     by_cases a3:ms<c3
     ·rw[frB_1 a3];simp only[decide_eq_true a3,cond_true]
     ·by_cases b3:c3=ms
      ·rw[frB_2 a3 b3];simp only[decide_eq_false a3,decide_eq_true b3,cond_true,cond_false]
      ·rw[frB_3 a3 b3];simp only[decide_eq_false a3,decide_eq_false b3,cond_false]
    ·by_cases b2:c2=ms
     ·rw[frB_2 a2 b2];simp only[decide_eq_false a2,decide_eq_true b2,cond_true,cond_false]
      by_cases a3:ms<c3
      ·rw[frB_1 a3];simp only[decide_eq_true a3,cond_true]
      ·by_cases b3:c3=ms
       ·rw[frB_2 a3 b3];simp only[decide_eq_false a3,decide_eq_true b3,cond_true,cond_false]
       ·rw[frB_3 a3 b3];simp only[decide_eq_false a3,decide_eq_false b3,cond_false]
     ·rw[frB_3 a2 b2];simp only[decide_eq_false a2,decide_eq_false b2,cond_false]
      by_cases a3:ms<c3
      ·rw[frB_1 a3];simp only[decide_eq_true a3,cond_true]
      ·by_cases b3:c3=ms
       ·rw[frB_2 a3 b3];simp only[decide_eq_false a3,decide_eq_true b3,cond_true,cond_false]
       ·rw[frB_3 a3 b3];simp only[decide_eq_false a3,decide_eq_false b3,cond_false]
   ·rw[frB_3 a1 b1];simp only[decide_eq_false a1,decide_eq_false b1,cond_false]
    by_cases a2:ms<c2
    ·rw[frB_1 a2];simp only[decide_eq_true a2,cond_true]
     by_cases a3:ms<c3
     ·rw[frB_1 a3];simp only[decide_eq_true a3,cond_true]
     ·by_cases b3:c3=ms
      ·rw[frB_2 a3 b3];simp only[decide_eq_false a3,decide_eq_true b3,cond_true,cond_false]
      ·rw[frB_3 a3 b3];simp only[decide_eq_false a3,decide_eq_false b3,cond_false]
    ·by_cases b2:c2=ms
     ·rw[frB_2 a2 b2];simp only[decide_eq_false a2,decide_eq_true b2,cond_true,cond_false]
      by_cases a3:ms<c3
      ·rw[frB_1 a3];simp only[decide_eq_true a3,cond_true]
      ·by_cases b3:c3=ms
       ·rw[frB_2 a3 b3];simp only[decide_eq_false a3,decide_eq_true b3,cond_true,cond_false]
       ·rw[frB_3 a3 b3];simp only[decide_eq_false a3,decide_eq_false b3,cond_false]
     ·rw[frB_3 a2 b2];simp only[decide_eq_false a2,decide_eq_false b2,cond_false]
      by_cases a3:ms<c3
      ·rw[frB_1 a3];simp only[decide_eq_true a3,cond_true]
      ·by_cases b3:c3=ms
       ·rw[frB_2 a3 b3];simp only[decide_eq_false a3,decide_eq_true b3,cond_true,cond_false]
       ·rw[frB_3 a3 b3];simp only[decide_eq_false a3,decide_eq_false b3,cond_false]
 ·by_cases b0:c0=ms
  ·rw[frB_2 a0 b0];simp only[decide_eq_false a0,decide_eq_true b0,cond_true,cond_false]
   by_cases a1:ms<c1
   ·rw[frB_1 a1];simp only[decide_eq_true a1,cond_true]
    by_cases a2:ms<c2
    ·rw[frB_1 a2];simp only[decide_eq_true a2,cond_true]
     by_cases a3:ms<c3
     ·rw[frB_1 a3];simp only[decide_eq_true a3,cond_true]
     ·by_cases b3:c3=ms
      ·rw[frB_2 a3 b3];simp only[decide_eq_false a3,decide_eq_true b3,cond_true,cond_false]
      ·rw[frB_3 a3 b3];simp only[decide_eq_false a3,decide_eq_false b3,cond_false]
    ·by_cases b2:c2=ms
     ·rw[frB_2 a2 b2];simp only[decide_eq_false a2,decide_eq_true b2,cond_true,cond_false]
      by_cases a3:ms<c3
      ·rw[frB_1 a3];simp only[decide_eq_true a3,cond_true]
      ·by_cases b3:c3=ms
       ·rw[frB_2 a3 b3];simp only[decide_eq_false a3,decide_eq_true b3,cond_true,cond_false]
       ·rw[frB_3 a3 b3];simp only[decide_eq_false a3,decide_eq_false b3,cond_false]
     ·rw[frB_3 a2 b2];simp only[decide_eq_false a2,decide_eq_false b2,cond_false]
      by_cases a3:ms<c3
      ·rw[frB_1 a3];simp only[decide_eq_true a3,cond_true]
      ·by_cases b3:c3=ms
       ·rw[frB_2 a3 b3];simp only[decide_eq_false a3,decide_eq_true b3,cond_true,cond_false]
       ·rw[frB_3 a3 b3];simp only[decide_eq_false a3,decide_eq_false b3,cond_false]
   ·by_cases b1:c1=ms
    ·rw[frB_2 a1 b1];simp only[decide_eq_false a1,decide_eq_true b1,cond_true,cond_false]
     by_cases a2:ms<c2
     ·rw[frB_1 a2];simp only[decide_eq_true a2,cond_true]
      by_cases a3:ms<c3
      ·rw[frB_1 a3];simp only[decide_eq_true a3,cond_true]
      ·by_cases b3:c3=ms
       ·rw[frB_2 a3 b3];simp only[decide_eq_false a3,decide_eq_true b3,cond_true,cond_false]
       ·rw[frB_3 a3 b3];simp only[decide_eq_false a3,decide_eq_false b3,cond_false]
     ·by_cases b2:c2=ms
      ·rw[frB_2 a2 b2];simp only[decide_eq_false a2,decide_eq_true b2,cond_true,cond_false]
       by_cases a3:ms<c3
       ·rw[frB_1 a3];simp only[decide_eq_true a3,cond_true]
       ·by_cases b3:c3=ms
        ·rw[frB_2 a3 b3];simp only[decide_eq_false a3,decide_eq_true b3,cond_true,cond_false]
        ·rw[frB_3 a3 b3];simp only[decide_eq_false a3,decide_eq_false b3,cond_false]
      ·rw[frB_3 a2 b2];simp only[decide_eq_false a2,decide_eq_false b2,cond_false]
       by_cases a3:ms<c3
       ·rw[frB_1 a3];simp only[decide_eq_true a3,cond_true]
       ·by_cases b3:c3=ms
        ·rw[frB_2 a3 b3];simp only[decide_eq_false a3,decide_eq_true b3,cond_true,cond_false]
        ·rw[frB_3 a3 b3];simp only[decide_eq_false a3,decide_eq_false b3,cond_false]
    ·rw[frB_3 a1 b1];simp only[decide_eq_false a1,decide_eq_false b1,cond_false]
     by_cases a2:ms<c2
     ·rw[frB_1 a2];simp only[decide_eq_true a2,cond_true]
      by_cases a3:ms<c3
      ·rw[frB_1 a3];simp only[decide_eq_true a3,cond_true]
      ·by_cases b3:c3=ms
       ·rw[frB_2 a3 b3];simp only[decide_eq_false a3,decide_eq_true b3,cond_true,cond_false]
       ·rw[frB_3 a3 b3];simp only[decide_eq_false a3,decide_eq_false b3,cond_false]
     ·by_cases b2:c2=ms
      ·rw[frB_2 a2 b2];simp only[decide_eq_false a2,decide_eq_true b2,cond_true,cond_false]
       by_cases a3:ms<c3
       ·rw[frB_1 a3];simp only[decide_eq_true a3,cond_true]
       ·by_cases b3:c3=ms
        ·rw[frB_2 a3 b3];simp only[decide_eq_false a3,decide_eq_true b3,cond_true,cond_false]
        ·rw[frB_3 a3 b3];simp only[decide_eq_false a3,decide_eq_false b3,cond_false]
      ·rw[frB_3 a2 b2];simp only[decide_eq_false a2,decide_eq_false b2,cond_false]
       by_cases a3:ms<c3
       ·rw[frB_1 a3];simp only[decide_eq_true a3,cond_true]
       ·by_cases b3:c3=ms
        ·rw[frB_2 a3 b3];simp only[decide_eq_false a3,decide_eq_true b3,cond_true,cond_false]
        ·rw[frB_3 a3 b3];simp only[decide_eq_false a3,decide_eq_false b3,cond_false]
  ·rw[frB_3 a0 b0];simp only[decide_eq_false a0,decide_eq_false b0,cond_false]
   by_cases a1:ms<c1
   ·rw[frB_1 a1];simp only[decide_eq_true a1,cond_true]
    by_cases a2:ms<c2
    ·rw[frB_1 a2];simp only[decide_eq_true a2,cond_true]
     by_cases a3:ms<c3
     ·rw[frB_1 a3];simp only[decide_eq_true a3,cond_true]
     ·by_cases b3:c3=ms
      ·rw[frB_2 a3 b3];simp only[decide_eq_false a3,decide_eq_true b3,cond_true,cond_false]
      ·rw[frB_3 a3 b3];simp only[decide_eq_false a3,decide_eq_false b3,cond_false]
    ·by_cases b2:c2=ms
     ·rw[frB_2 a2 b2];simp only[decide_eq_false a2,decide_eq_true b2,cond_true,cond_false]
      by_cases a3:ms<c3
      ·rw[frB_1 a3];simp only[decide_eq_true a3,cond_true]
      ·by_cases b3:c3=ms
       ·rw[frB_2 a3 b3];simp only[decide_eq_false a3,decide_eq_true b3,cond_true,cond_false]
       ·rw[frB_3 a3 b3];simp only[decide_eq_false a3,decide_eq_false b3,cond_false]
     ·rw[frB_3 a2 b2];simp only[decide_eq_false a2,decide_eq_false b2,cond_false]
      by_cases a3:ms<c3
      ·rw[frB_1 a3];simp only[decide_eq_true a3,cond_true]
      ·by_cases b3:c3=ms
       ·rw[frB_2 a3 b3];simp only[decide_eq_false a3,decide_eq_true b3,cond_true,cond_false]
       ·rw[frB_3 a3 b3];simp only[decide_eq_false a3,decide_eq_false b3,cond_false]
   ·by_cases b1:c1=ms
    ·rw[frB_2 a1 b1];simp only[decide_eq_false a1,decide_eq_true b1,cond_true,cond_false]
     by_cases a2:ms<c2
     ·rw[frB_1 a2];simp only[decide_eq_true a2,cond_true]
      by_cases a3:ms<c3
      ·rw[frB_1 a3];simp only[decide_eq_true a3,cond_true]
      ·by_cases b3:c3=ms
       ·rw[frB_2 a3 b3];simp only[decide_eq_false a3,decide_eq_true b3,cond_true,cond_false]
       ·rw[frB_3 a3 b3];simp only[decide_eq_false a3,decide_eq_false b3,cond_false]
     ·by_cases b2:c2=ms
      ·rw[frB_2 a2 b2];simp only[decide_eq_false a2,decide_eq_true b2,cond_true,cond_false]
       by_cases a3:ms<c3
       ·rw[frB_1 a3];simp only[decide_eq_true a3,cond_true]
       ·by_cases b3:c3=ms
        ·rw[frB_2 a3 b3];simp only[decide_eq_false a3,decide_eq_true b3,cond_true,cond_false]
        ·rw[frB_3 a3 b3];simp only[decide_eq_false a3,decide_eq_false b3,cond_false]
      ·rw[frB_3 a2 b2];simp only[decide_eq_false a2,decide_eq_false b2,cond_false]
       by_cases a3:ms<c3
       ·rw[frB_1 a3];simp only[decide_eq_true a3,cond_true]
       ·by_cases b3:c3=ms
        ·rw[frB_2 a3 b3];simp only[decide_eq_false a3,decide_eq_true b3,cond_true,cond_false]
        ·rw[frB_3 a3 b3];simp only[decide_eq_false a3,decide_eq_false b3,cond_false]
    ·rw[frB_3 a1 b1];simp only[decide_eq_false a1,decide_eq_false b1,cond_false]
     by_cases a2:ms<c2
     ·rw[frB_1 a2];simp only[decide_eq_true a2,cond_true]
      by_cases a3:ms<c3
      ·rw[frB_1 a3];simp only[decide_eq_true a3,cond_true]
      ·by_cases b3:c3=ms
       ·rw[frB_2 a3 b3];simp only[decide_eq_false a3,decide_eq_true b3,cond_true,cond_false]
       ·rw[frB_3 a3 b3];simp only[decide_eq_false a3,decide_eq_false b3,cond_false]
     ·by_cases b2:c2=ms
      ·rw[frB_2 a2 b2];simp only[decide_eq_false a2,decide_eq_true b2,cond_true,cond_false]
       by_cases a3:ms<c3
       ·rw[frB_1 a3];simp only[decide_eq_true a3,cond_true]
       ·by_cases b3:c3=ms
        ·rw[frB_2 a3 b3];simp only[decide_eq_false a3,decide_eq_true b3,cond_true,cond_false]
        ·rw[frB_3 a3 b3];simp only[decide_eq_false a3,decide_eq_false b3,cond_false]
      ·rw[frB_3 a2 b2];simp only[decide_eq_false a2,decide_eq_false b2,cond_false]
       by_cases a3:ms<c3
       ·rw[frB_1 a3];simp only[decide_eq_true a3,cond_true]
       ·by_cases b3:c3=ms
        ·rw[frB_2 a3 b3];simp only[decide_eq_false a3,decide_eq_true b3,cond_true,cond_false]
        ·rw[frB_3 a3 b3];simp only[decide_eq_false a3,decide_eq_false b3,cond_false]
theorem F71_of {k:Nat}(hk:k<sn) (kd st ms:Int) (o:Array Value) (o1 o2:Nat):F71_ok rc 0 rn sc 0 sn x y a b c e g u z (arrL rF (lst A sn)) 0 sn kd (k:Int) st ms o o1 o2=true∧F71_0 rc 0 rn sc 0 sn x y a b c e g u z (arrL rF (lst A sn)) 0 sn kd (k:Int) st ms o o1 o2=pfB x y a b c e (A k) kd k st ms 0∧F71_1 rc 0 rn sc 0 sn x y a b c e g u z (arrL rF (lst A sn)) 0 sn kd (k:Int) st ms o o1 o2=pfB x y a b c e (A k) kd k st ms 1∧F71_2 rc 0 rn sc 0 sn x y a b c e g u z (arrL rF (lst A sn)) 0 sn kd (k:Int) st ms o o1 o2=pfB x y a b c e (A k) kd k st ms 2∧F71_3 rc 0 rn sc 0 sn x y a b c e g u z (arrL rF (lst A sn)) 0 sn kd (k:Int) st ms o o1 o2=pfB x y a b c e (A k) kd k st ms 3:=by
 have q:F71 rc 0 rn sc 0 sn x y a b c e g u z (arrL rF (lst A sn)) 0 sn kd (k:Int) st ms o o1 o2=some ⟨pfB x y a b c e (A k) kd k st ms 0,pfB x y a b c e (A k) kd k st ms 1,pfB x y a b c e (A k) kd k st ms 2,pfB x y a b c e (A k) kd k st ms 3⟩:=by
  have f:=F97_of (rc:=rc) (rn:=rn) (sc:=sc) (x:=x) (y:=y) (a:=a) (b:=b) (c:=c) (e:=e) (g:=g) (u:=u) (z:=z) (A:=A) hk st ms o o1 o2;unfold F71 rt71 pfB
  by_cases h1:kd=1
  ·simp only[RT.val,mq,h1,(F96_of hk).1,(F96_of hk).2.1,(F96_of hk).2.2.1,(F96_of hk).2.2.2.1,(F96_of hk).2.2.2.2,decide_true,cond_true,if_true]
  ·by_cases h2:kd=2
   ·have n12:¬(2:Int)=1:=by decide
    simp only[RT.val,mq,h1,h2,n12,F97_ok,F97_0,F97_1,F97_2,F97_3,f,Option.isSome_some,decide_true,decide_false,cond_true,cond_false,if_true,if_false]
   ·simp only[RT.val,mq,h1,h2,decide_false,cond_false,if_false]
 exact ⟨by simp only[F71_ok,q];rfl,by simp only[F71_0,q],by simp only[F71_1,q],by simp only[F71_2,q],by simp only[F71_3,q]⟩
theorem fi_tree {R:Type}(p q r s:Bool) (mk:Int→R):cond (true == p) (some (mk 0)) (cond (true == q) (some (mk 1)) (cond (true == r) (some (mk 2)) (cond (true == s) (some (mk 3)) (some (mk (-1))))))=some (mk (fi4 p q r s)):=by
 cases p<;>cases q<;>cases r<;>cases s<;>rfl
theorem F51_of {k:Nat}(hk:k<sn) (st ms:Int) (o:Array Value) (o1 o2:Nat):F51_ok rc 0 rn sc 0 sn x y a b c e g u z (arrL rF (lst A sn)) 0 sn (k:Int) st ms o o1 o2=true∧F51_0 rc 0 rn sc 0 sn x y a b c e g u z (arrL rF (lst A sn)) 0 sn (k:Int) st ms o o1 o2=(rsF x y a b c e (A k) k st ms).1∧F51_1 rc 0 rn sc 0 sn x y a b c e g u z (arrL rF (lst A sn)) 0 sn (k:Int) st ms o o1 o2=(rsF x y a b c e (A k) k st ms).2:=by
 have q:F51 rc 0 rn sc 0 sn x y a b c e g u z (arrL rF (lst A sn)) 0 sn (k:Int) st ms o o1 o2=some ⟨(rsF x y a b c e (A k) k st ms).1,(rsF x y a b c e (A k) k st ms).2⟩:=by
  obtain ⟨o69,p69⟩:=F69_of (rc:=rc) (rn:=rn) (sc:=sc) (x:=x) (y:=y) (a:=a) (b:=b) (c:=c) (e:=e) (g:=g) (u:=u) (z:=z) (A:=A) hk
  have f:=fun kd=>F71_of (rc:=rc) (rn:=rn) (sc:=sc) (x:=x) (y:=y) (a:=a) (b:=b) (c:=c) (e:=e) (g:=g) (u:=u) (z:=z) (A:=A) hk kd st ms o o1 o2
  unfold F51 rt51 rsF
  by_cases h1:(k:Int)=st
  ·simp only[RT.val,mq,h1,decide_true,cond_true,if_true]
  ·cases ha:al a b c e (A k) with
   | true =>
    simp only[RT.val,mq,h1,o69,p69,ha,(f _).1,(f _).2.1,(f _).2.2.1,(f _).2.2.2.1,(f _).2.2.2.2,decide_false,cond_true,cond_false,if_false,rsK,if_true]
    exact fi_tree _ _ _ _ (fun i=>R51.mk 2 i)
   | false =>
    have hf:¬(false=true):=by decide
    simp only[RT.val,mq,h1,o69,p69,ha,(f _).1,(f _).2.1,(f _).2.2.1,(f _).2.2.2.1,(f _).2.2.2.2,decide_false,cond_true,cond_false,if_false,rsK,hf]
    exact fi_tree _ _ _ _ (fun i=>R51.mk 1 i)
 exact ⟨by simp only[F51_ok,q];rfl,by simp only[F51_0,q],by simp only[F51_1,q]⟩
def rR (p:Int×Int):List Value:=[.int .i64 p.1,.int .i64 p.2]
theorem rR_len (p:Int×Int):(rR p).length=2:=rfl
theorem rR_fz (p:Int×Int):(rR p).all fz0=true:=rfl
def rsL (x y a b c e:Int)(A:Nat→M4)(st ms:Int)(n:Nat):List (Int×Int):=(List.range n).map fun (k:Nat)=>rsF x y a b c e (A k) (k:Int) st ms
theorem rsL_len (st ms:Int)(n:Nat):(rsL x y a b c e A st ms n).length=n:=by simp [rsL]
theorem rsL_succ (st ms:Int)(n:Nat):rsL x y a b c e A st ms (n+1)=rsL x y a b c e A st ms n++[rsF x y a b c e (A n) (n:Int) st ms]:=by simp [rsL,List.range_succ]
theorem encR1 (st ms:Int)(k:Nat):encL rR (rsL x y a b c e A st ms (k+1))=some (arrL rR (rsL x y a b c e A st ms (k+1)),k+1):=by
 rw[rsL_succ,encL_app,rsL_len]
theorem encR2 (st ms:Int) {k:Nat}(h:0<k):encL rR (rsL x y a b c e A st ms k)=some (arrL rR (rsL x y a b c e A st ms k),k):=by
 obtain ⟨j,rfl⟩:∃j,k=j+1:=⟨k-1,by omega⟩
 exact encR1 st ms j
theorem loop23 (few:sn≤1000)(pos:0<sn)(p0:Array Value)(p1 p2:Nat)(p3:Array Value)(p4 p5:Nat)(q0 q1 q2 q3 q4 q5 q6 q7 q8:Int)(l1 l2:Int)(st ms:Int):∀m k,k+m=sn →
  ∃d,loopR rd23_0 ⟨encL rR (rsL x y a b c e A st ms k),(sn:Int),(k:Int),p0,p1,p2,p3,p4,p5,q0,q1,q2,q3,q4,q5,q6,q7,q8,l1,l2,rc,0,rn,sc,0,sn,x,y,a,b,c,e,g,u,z,arrL rF (lst A sn),0,sn,st,ms⟩=some d∧(match d with | .k0 _ _ _ _ _ _ _ _ _ _ _ _ _ _ _ _ _ _ _ _ _ _ _ _ _ _ _ _ _ _ _ _ _ _ _ d35 d36 d37 d38 d39=>d35=st∧d36=ms∧d37=arrL rR (rsL x y a b c e A st ms sn)∧d38=0∧d39=sn)
 | 0,k,h=>by
  obtain rfl:k=sn:=by omega
  have z1:¬(k:Int)<(k:Int):=by omega
  have k3:0+k*2≤Array.size (arrL rR (rsL x y a b c e A st ms k)):=by rw[size_arrL rR_len,rsL_len];omega
  rw[encR2 _ _ pos]
  refine ⟨_,loopR_done (by simp only[rd23_0,RT.val,mq,z1,k3,allFz_arrL rR_fz,decide_true,decide_false,Bool.and_self,cond_false,cond_true];rfl),rfl,rfl,rfl,rfl,rfl⟩
 | m+1,k,h=>by
  have hk:k<sn:=by omega
  have hki:(k:Int)<(sn:Int):=by omega
  have h3:IntKind.wrap .i64 ((k:Int)+1)=((k+1:Nat):Int):=by rw[wrap64_id (by omega) (by omega)];omega
  have F:=fun o o1 o2=>F51_of (rc:=rc) (rn:=rn) (sc:=sc) (x:=x) (y:=y) (a:=a) (b:=b) (c:=c) (e:=e) (g:=g) (u:=u) (z:=z) (A:=A) hk st ms o o1 o2
  obtain ⟨d,h1,h2⟩:=loop23 few pos p0 p1 p2 p3 p4 p5 q0 q1 q2 q3 q4 q5 q6 q7 q8 l1 l2 st ms m (k+1) (by omega)
  refine ⟨d,(loopR_next ?_).trans h1,h2⟩
  rcases Nat.eq_zero_or_pos k with rfl | hp
  ·rw[encR1]
   simp only[show encL rR (rsL x y a b c e A st ms 0)=none from rfl,rd23_0,RT.val,mq,hki,h3,(F _ _ _).1,(F _ _ _).2.1,(F _ _ _).2.2,decide_true,cond_true]
   rfl
  ·have ax:=apB_arrL rR_len (rsL x y a b c e A st ms k) (rsF x y a b c e (A k) (k:Int) st ms)
   rw[rsL_len,← rsL_succ]at ax;unfold rR at ax
   have k1:(k+1)*16≤140737488355328:=by omega
   have k2:k+1≤4611686018427387904:=by omega
   have k3:0+k*2≤Array.size (arrL rR (rsL x y a b c e A st ms k)):=by rw[size_arrL rR_len,rsL_len];omega
   have z1:=allFz_arrL rR_fz (rsL x y a b c e A st ms k);have z2:=allFz_arrL rR_fz (rsL x y a b c e A st ms (k+1));rw[encR2 _ _ hp,encR1];simp only[rd23_0,RT.val,mq,hki,h3,(F _ _ _).1,(F _ _ _).2.1,(F _ _ _).2.2,k1,k2,k3,z1,decide_true,Bool.and_self,cond_true,arrEq_self,Bool.and_true,Bool.true_and];unfold rR at z2 ⊢;rw[ax];simp only[z2,cond_true]
end
section
variable {rc sc lc:Array Value}{rn sn ln:Nat}{x y a b c e g u z:Int}
theorem bst_lt {r:Nat→Int}{n:Nat}:∀{l:List Nat}{s:Option Nat},(∀k∈l,k<n)→(∀j,s=some j→j<n)→∀j,bst r l s=some j→j<n
 | [],s,_,hs,j,h=>hs j h
 | k::l,none,hl,hs,j,h=>by
  unfold bst at h
  exact bst_lt (fun q hq=>hl q (List.mem_cons_of_mem _ hq)) (fun q hq=>by cases hq;exact hl k (List.mem_cons_self ..)) j h
 | k::l,some i,hl,hs,j,h=>by
  unfold bst at h
  by_cases hlt:r k<r i
  ·rw[if_pos hlt]at h
   exact bst_lt (fun q hq=>hl q (List.mem_cons_of_mem _ hq)) (fun q hq=>by cases hq;exact hl k (List.mem_cons_self ..)) j h
  ·rw[if_neg hlt]at h
   exact bst_lt (fun q hq=>hl q (List.mem_cons_of_mem _ hq)) hs j h
theorem bs_lt {A:Nat→M4}{j:Nat}(h:bs x y a b c e A sn=some j):j<sn:=bst_lt (fun k hk=>(alL_lt hk).1) (fun j e=>by cases e) j h
def beF (x y a b c e:Int)(A:Nat→M4)(sn:Nat)(err:Int):R23 :=
 if err=0 then (match bs x y a b c e A sn with | some j=>⟨(j:Int),mi x y (A j),arrL rR (rsL x y a b c e A (j:Int) (mi x y (A j)) sn),0,sn,0⟩ | none=>⟨0,0,⟨[]⟩,0,0,9⟩) else ⟨0,0,⟨[]⟩,0,0,err⟩
theorem F23_eq (gr:GL I4 4 rc rn)(gs:GL I5 5 sc sn)(gl:GL I6 6 lc ln):F23 rc 0 rn sc 0 sn x y a b c e g u z lc 0 ln =
  some (beF x y a b c e (imp rc sc lc rn ln) sn (wgE rc sc rn sn x y a b c e g u z lc ln)):=by
 have p:=F46_eq (x:=x) (y:=y) (a:=a) (b:=b) (c:=c) (e:=e) (g:=g) (u:=u) (z:=z) gr gs gl;unfold beF
 by_cases h1:wgE rc sc rn sn x y a b c e g u z lc ln=0
 ·rw[if_pos h1]at p ⊢
  obtain ⟨s1,s2⟩:=(wg_of h1).1.s
  have q:=F50_eq (rc:=rc) (rn:=rn) (sc:=sc) (x:=x) (y:=y) (a:=a) (b:=b) (c:=c) (e:=e) (g:=g) (u:=u) (z:=z) (A:=imp rc sc lc rn ln) (show sn≤1000 by omega)
  cases hb:bs x y a b c e (imp rc sc lc rn ln) sn with
  | none =>
   rw[hb]at q;unfold F23 rt23;simp only[RT.val,mq,F46_ok,F46_0,F46_1,F46_2,F46_3,F46_4,F46_5,F46_6,F46_7,F46_8,F46_9,F46_10,F46_11,F46_12,F46_13,F46_14,F46_15,F46_16,F46_17,F46_18,p,F50_ok,F50_0,F50_1,q,Option.isSome_some,Option.isSome_none,decide_true,Bool.not_true,Bool.not_false,cond_true,cond_false]
  | some j =>
   rw[hb]at q;have hj:=bs_lt hb;obtain ⟨m1,m2⟩:=F48_of (rc:=rc) (rn:=rn) (sc:=sc) (x:=x) (y:=y) (a:=a) (b:=b) (c:=c) (e:=e) (g:=g) (u:=u) (z:=z) (A:=imp rc sc lc rn ln) hj
   have l:∃d,L23_0 (Y23_0 rc 0 rn sc 0 sn x y a b c e g u z lc 0 ln)=some d∧(match d with | .k0 _ _ _ _ _ _ _ _ _ _ _ _ _ _ _ _ _ _ _ _ _ _ _ _ _ _ _ _ _ _ _ _ _ _ _ d35 d36 d37 d38 d39=>d35=(j:Int)∧d36=mi x y (imp rc sc lc rn ln j)∧d37=arrL rR (rsL x y a b c e (imp rc sc lc rn ln) (j:Int) (mi x y (imp rc sc lc rn ln j)) sn)∧d38=0∧d39=sn):=by
    unfold L23_0 Y23_0;simp only[F46_0,F46_1,F46_2,F46_3,F46_4,F46_5,F46_6,F46_7,F46_8,F46_9,F46_10,F46_11,F46_12,F46_13,F46_14,F46_15,F46_16,F46_17,F46_18,p,F50_0,q,stI,m2]
    exact loop23 (sn:=sn) (by omega) (by omega) _ _ _ _ _ _ _ _ _ _ _ _ _ _ _ _ _ _ _ sn 0 (by omega)
   obtain ⟨d,l1,l2⟩:=l
   cases d with
   | k0 d0 d1 d2 d3 d4 d5 d6 d7 d8 d9 d10 d11 d12 d13 d14 d15 d16 d17 d18 d19 d20 d21 d22 d23 d24 d25 d26 d27 d28 d29 d30 d31 d32 d33 d34 d35 d36 d37 d38 d39 =>
   obtain ⟨rfl,rfl,rfl,rfl,rfl⟩:=l2;unfold F23 rt23;simp only[RT.val,mq,F46_ok,F46_0,F46_1,F46_2,F46_3,F46_4,F46_5,F46_6,F46_7,F46_8,F46_9,F46_10,F46_11,F46_12,F46_13,F46_14,F46_15,F46_16,F46_17,F46_18,p,F50_ok,F50_0,F50_1,q,stI,m1,m2,Option.isSome_some,eqCode_self,arrEq_self,decide_true,Bool.and_self,Bool.and_true,Bool.not_true,cond_true,cond_false,L23_0_k0,Qm35,Qm36,Qm37,Qm38,Qm39,l1]
 ·rw[if_neg h1]at p ⊢
  unfold F23 rt23;simp only[RT.val,mq,F46_ok,F46_18,p,h1,Option.isSome_some,decide_false,Bool.not_false,cond_true]
end
end
end Go.Proofs.Ytkcahhbhfmdpmaa
namespace Go.Proofs.Ytkcahhbhfmdpmaa
open Go.ChangeShapes Go.WideShapes Go.ChangeAt Go.RowKit Go.Gi
set_option maxRecDepth 100000
theorem flat114:flatT Try.prog 19 114=true:=by kernel_rfl
theorem leaves114:leaves Try.prog false 19 114=I6:=by kernel_rfl
theorem cells114:Try.prog.cellsOf 114=6:=by kernel_rfl
theorem tyB38:tyB Try.prog 20 38=true:=by kernel_rfl
section
variable {H:Type}{enc:TypeId×Value→H}{w:World}{r:Reach}{b0:Nat}{v:Value}{dd:DataW H}{p:List MemPlace}
theorem bandsArg (hval:Value.okWide Try.prog w r b0 38 v)(h:DataW.Trod enc Try.prog w 0 (fun _=>true) true 38 v dd p):∃c n,VR (zAll w) (lstV c 0 n 6) v∧GL I6 6 c n :=
 argRows Try.underlying38 flat114 cells114 leaves114 rfl (by decide) tyB38 hval h
theorem taskArg (hval:Value.okWide Try.prog w r b0 31 v)(h:DataW.Trod enc Try.prog w 0 (fun _=>true) true 31 v dd p):∃c1 n1 c2 n2 x y a b c e g u z,VR (zAll w) (.agg ⟨[lstV c1 0 n1 4,lstV c2 0 n2 5,.int .i64 x,.int .i64 y,.int .i64 a,.int .i64 b,.int .i64 c,.int .i64 e,.int .i64 g,.int .i64 u,.int .i64 z]⟩) v∧GL I4 4 c1 n1∧GL I5 5 c2 n2:=by
 obtain ⟨abs,u0,c1,n1,c2,n2,x,y,a,b,c,e,g,u,z,rfl,g1,g2⟩:=amtArg hval h;exact ⟨c1,n1,c2,n2,x,y,a,b,c,e,g,u,z,u0,g1,g2⟩
end
theorem tyB104:tyB Try.prog 20 104=true:=by kernel_rfl
theorem tyA3q {P:Program}{q:IntKind}{d:Nat}{t e:TypeId}{cs:List Value}(hu:P.underlying t=some (.array 3 e)) (he:P.underlying e=some (.int q)) (h:Ty P (d+1+1) t cs) :
  ∃a b c,cs=[.int q a,.int q b,.int q c]∧(Lit.int q a).wf=true∧(Lit.int q b).wf=true∧(Lit.int q c).wf=true:=by
 obtain ⟨ps,rfl,hl,hp⟩:=tyA hu h
 match ps,hl,hp with
 | [p,r,s],_,hp =>
  obtain ⟨a,rfl,ha⟩:=tyK he (hp p (by simp))
  obtain ⟨b,rfl,hb⟩:=tyK he (hp r (by simp))
  obtain ⟨c,rfl,hc⟩:=tyK he (hp s (by simp))
  exact ⟨a,b,c,rfl,ha,hb,hc⟩
section
variable {H:Type}{enc:TypeId×Value→H}{w:World}{r:Reach}{b0:Nat}{v:Value}{dd:DataW H}{p:List MemPlace}
theorem byArg (hval:Value.okWide Try.prog w r b0 104 v)(h:DataW.Trod enc Try.prog w 0 (fun _=>true) true 104 v dd p):∃e0 e1 e2,VR (zAll w) (.agg ⟨[.int .i32 e0,.int .i32 e1,.int .i32 e2]⟩) v∧(Lit.int .i32 e0).wf=true∧(Lit.int .i32 e1).wf=true∧(Lit.int .i32 e2).wf=true:=by
 obtain ⟨abs,h1,h2⟩:=argA Try.underlying104 tyB104 hval h;obtain ⟨e0,e1,e2,rfl,w0,w1,w2⟩:=tyA3q Try.underlying104 Try.underlying21 h2;exact ⟨e0,e1,e2,h1,w0,w1,w2⟩
end
end Go.Proofs.Ytkcahhbhfmdpmaa
namespace Go.Proofs.Ytkcahhbhfmdpmaa
open Go.Gi Go.RowKit Go.Proofs.Ytkcahhbhfmdpmaa.Old
noncomputable section
set_option maxRecDepth 100000
set_option maxHeartbeats 4000000
structure R45 where
 (r0 r1:Int)
structure A45 where
 (a0 a1:Int)
def rt45 (a0 a1:Int):RT R45 :=
 .leaf ⟨a0,a1⟩
def en45 (r:R45):Value:=(.agg ⟨[(.int .i64 r.r0),(.int .i64 r.r1)]⟩)
theorem T45  (a0 a1:Int):evC Try.prog (Ans.c (fun _=>none:Ans)) 60 (.call 45 ⟨[(.int .i64 a0),(.int .i64 a1)]⟩ ⟨[],0,[]⟩) (frzK [0])=(rt45 a0 a1).out (fun r=>.ret (en45 r) ⟨[],0,[]⟩):=by kernel_rfl
def F45 (a0 a1:Int):Option R45:=(rt45 a0 a1).val
section
variable (a0 a1:Int)
def F45_ok:Bool:=(F45 a0 a1).isSome
def F45_0:Int:=match F45 a0 a1 with | some r=>r.r0 | none=>0
def F45_1:Int:=match F45 a0 a1 with | some r=>r.r1 | none=>0
end
def dec45:Task→Option (A45×Hp)
 | .call g ⟨[(.int .i64 a0),(.int .i64 a1)]⟩ h=>(match Nat.beq g 45 with | true=>some (⟨a0,a1⟩,h) | false=>none)
 | _=>none
def alt45 (x:A45)(h:Hp):AT:=.br (F45_ok x.a0 x.a1) (.leaf (.ret (.agg ⟨[(.int .i64 (F45_0 x.a0 x.a1)),(.int .i64 (F45_1 x.a0 x.a1))]⟩) h)) .no
def p45:Ans:=fnAns dec45 alt45
theorem ha45:∀(x:A45) (h:Hp)(o:Out),(alt45 x h).out=some o→∃r,(rt45 x.a0 x.a1).val=some r∧o=.ret (en45 r) h:=by
 intro x h o e;unfold alt45 at e;simp only[AT.out]at e;obtain ⟨g,e⟩:=cond_some e;unfold F45_ok at g;obtain ⟨r,hF⟩:=Option.isSome_iff_exists.1 g
 refine ⟨r,by delta F45 at hF;exact hF,?_⟩
 simp only[Option.some.injEq]at e;rw[← e]
 unfold F45_0 F45_1;rw[hF]<;>rfl
theorem hd45:∀(t:Task) (x:A45)(h:Hp),dec45 t=some (x,h)→t=.call 45 ⟨[(.int .i64 x.a0),(.int .i64 x.a1)]⟩ h:=by
 intro t x h e;unfold dec45 at e
 split at e
 case h_2=>cases e
 split at e
 case h_2=>cases e
 rename_i hg;simp only[Option.some.injEq,Prod.mk.injEq]at e;obtain ⟨rfl,rfl⟩:=e;rw[Nat.eq_of_beq_eq_true hg]
theorem known45:Known Try.prog p45:=by
 exact Known.fn noNG mixed (Known.nothing Try.prog) (n:=60) (zs:=[0]) 45 (fun x:A45=>[(.int .i64 x.a0),(.int .i64 x.a1)]) (fun x=>rt45 x.a0 x.a1) en45 (fun x=>T45  x.a0 x.a1) (fun x=>rfl) dec45 alt45 hd45 ha45
structure R19 where
 (r0 r1:Int)
 (r2 r3:Int)
structure A19 where
 (a0 a1:Int)
 (a2 a3:Int)
def rt19 (a0 a1:Int)(a2 a3:Int):RT R19 :=
 .leaf ⟨(F45_0 a0 a1),(F45_1 a0 a1),(F45_0 a2 a3),(F45_1 a2 a3)⟩
def en19 (r:R19):Value:=(.agg ⟨[(.int .i64 r.r0),(.int .i64 r.r1),(.int .i64 r.r2),(.int .i64 r.r3)]⟩)
theorem T19  (a0 a1:Int) (a2 a3:Int):evC Try.prog (Ans.c p45) 60 (.call 19 ⟨[(.int .i64 a0),(.int .i64 a1),(.int .i64 a2),(.int .i64 a3)]⟩ ⟨[],0,[]⟩) (frzK [0])=(rt19 a0 a1 a2 a3).out (fun r=>.ret (en19 r) ⟨[],0,[]⟩):=by kernel_rfl
def F19 (a0 a1:Int)(a2 a3:Int):Option R19:=(rt19 a0 a1 a2 a3).val
section
variable (a0 a1:Int) (a2 a3:Int)
def F19_ok:Bool:=(F19 a0 a1 a2 a3).isSome
def F19_0:Int:=match F19 a0 a1 a2 a3 with | some r=>r.r0 | none=>0
def F19_1:Int:=match F19 a0 a1 a2 a3 with | some r=>r.r1 | none=>0
def F19_2:Int:=match F19 a0 a1 a2 a3 with | some r=>r.r2 | none=>0
def F19_3:Int:=match F19 a0 a1 a2 a3 with | some r=>r.r3 | none=>0
end
def dec19:Task→Option (A19×Hp)
 | .call g ⟨[(.int .i64 a0),(.int .i64 a1),(.int .i64 a2),(.int .i64 a3)]⟩ h=>(match Nat.beq g 19 with | true=>some (⟨a0,a1,a2,a3⟩,h) | false=>none)
 | _=>none
def alt19 (x:A19)(h:Hp):AT:=.br (F19_ok x.a0 x.a1 x.a2 x.a3) (.leaf (.ret (.agg ⟨[(.int .i64 (F19_0 x.a0 x.a1 x.a2 x.a3)),(.int .i64 (F19_1 x.a0 x.a1 x.a2 x.a3)),(.int .i64 (F19_2 x.a0 x.a1 x.a2 x.a3)),(.int .i64 (F19_3 x.a0 x.a1 x.a2 x.a3))]⟩) h)) .no
def p19:Ans:=fnAns dec19 alt19
theorem ha19:∀(x:A19) (h:Hp)(o:Out),(alt19 x h).out=some o→∃r,(rt19 x.a0 x.a1 x.a2 x.a3).val=some r∧o=.ret (en19 r) h:=by
 intro x h o e;unfold alt19 at e;simp only[AT.out]at e;obtain ⟨g,e⟩:=cond_some e;unfold F19_ok at g;obtain ⟨r,hF⟩:=Option.isSome_iff_exists.1 g
 refine ⟨r,by delta F19 at hF;exact hF,?_⟩
 simp only[Option.some.injEq]at e;rw[← e]
 unfold F19_0 F19_1 F19_2 F19_3;rw[hF]<;>rfl
theorem hd19:∀(t:Task) (x:A19)(h:Hp),dec19 t=some (x,h)→t=.call 19 ⟨[(.int .i64 x.a0),(.int .i64 x.a1),(.int .i64 x.a2),(.int .i64 x.a3)]⟩ h:=by
 intro t x h e;unfold dec19 at e
 split at e
 case h_2=>cases e
 split at e
 case h_2=>cases e
 rename_i hg;simp only[Option.some.injEq,Prod.mk.injEq]at e;obtain ⟨rfl,rfl⟩:=e;rw[Nat.eq_of_beq_eq_true hg]
theorem known19:Known Try.prog p19:=by
 exact Known.fn noNG mixed known45 (n:=60) (zs:=[0]) 19 (fun x:A19=>[(.int .i64 x.a0),(.int .i64 x.a1),(.int .i64 x.a2),(.int .i64 x.a3)]) (fun x=>rt19 x.a0 x.a1 x.a2 x.a3) en19 (fun x=>T19  x.a0 x.a1 x.a2 x.a3) (fun x=>rfl) dec19 alt19 hd19 ha19
structure R17 where
 (r0:Array Value)
 (r1 r2:Nat)
 (r3:Array Value)
 (r4 r5:Nat)
 (r6 r7:Int)
 (r8 r9:Int)
 (r10 r11:Int)
 (r12 r13 r14:Int)
structure A17 where
def rt17 :RT R17 :=
 .leaf ⟨⟨[(.int .i64 (0:Int)),(.int .i64 (200000:Int)),(.int .i64 (2000:Int)),(.int .i64 (3000:Int)),(.int .i64 (200000:Int)),(.int .i64 (1000000:Int)),(.int .i64 (-500:Int)),(.int .i64 (-400:Int))]⟩,0,2,⟨[(.int .i64 (10000:Int)),(.int .i64 (20000:Int)),(.int .i64 (-5000:Int)),(.int .i64 (5000:Int)),(.int .i64 (1000:Int)),(.int .i64 (6000:Int)),(.int .i64 (16000:Int)),(.int .i64 (-5000:Int)),(.int .i64 (5000:Int)),(.int .i64 (1500:Int)),(.int .i64 (9000:Int)),(.int .i64 (19000:Int)),(.int .i64 (-5000:Int)),(.int .i64 (5000:Int)),(.int .i64 (1000:Int))]⟩,0,3,(15000:Int),(0:Int),(5000:Int),(25000:Int),(-10000:Int),(10000:Int),(10:Int),(50:Int),(200:Int)⟩
def en17 (r:R17):Value:=(.agg ⟨[(lstV r.r0 r.r1 r.r2 4),(lstV r.r3 r.r4 r.r5 5),(.int .i64 r.r6),(.int .i64 r.r7),(.int .i64 r.r8),(.int .i64 r.r9),(.int .i64 r.r10),(.int .i64 r.r11),(.int .i64 r.r12),(.int .i64 r.r13),(.int .i64 r.r14)]⟩)
theorem T17  :evC Try.prog (Ans.c (p19.or p45)) 60 (.call 17 ⟨[]⟩ ⟨[],0,[]⟩) (frzK [4])=(rt17 ).out (fun r=>.ret (en17 r) ⟨[],0,[]⟩):=by kernel_rfl
def F17 :Option R17:=(rt17 ).val
def F17_ok :Bool:=(F17 ).isSome
def F17_0 :Array Value:=match F17  with | some r=>r.r0 | none=>#[]
def F17_1 :Nat:=match F17  with | some r=>r.r1 | none=>0
def F17_2 :Nat:=match F17  with | some r=>r.r2 | none=>0
def F17_3 :Array Value:=match F17  with | some r=>r.r3 | none=>#[]
def F17_4 :Nat:=match F17  with | some r=>r.r4 | none=>0
def F17_5 :Nat:=match F17  with | some r=>r.r5 | none=>0
def F17_6 :Int:=match F17  with | some r=>r.r6 | none=>0
def F17_7 :Int:=match F17  with | some r=>r.r7 | none=>0
def F17_8 :Int:=match F17  with | some r=>r.r8 | none=>0
def F17_9 :Int:=match F17  with | some r=>r.r9 | none=>0
def F17_10 :Int:=match F17  with | some r=>r.r10 | none=>0
def F17_11 :Int:=match F17  with | some r=>r.r11 | none=>0
def F17_12 :Int:=match F17  with | some r=>r.r12 | none=>0
def F17_13 :Int:=match F17  with | some r=>r.r13 | none=>0
def F17_14 :Int:=match F17  with | some r=>r.r14 | none=>0
def dec17:Task→Option (A17×Hp)
 | .call g ⟨[]⟩ h=>(match Nat.beq g 17 with | true=>some (⟨⟩,h) | false=>none)
 | _=>none
def alt17 (x:A17)(h:Hp):AT:=.br (F17_ok ) (.leaf (.ret (.agg ⟨[(lstV (F17_0 ) (F17_1 ) (F17_2 ) 4),(lstV (F17_3 ) (F17_4 ) (F17_5 ) 5),(.int .i64 (F17_6 )),(.int .i64 (F17_7 )),(.int .i64 (F17_8 )),(.int .i64 (F17_9 )),(.int .i64 (F17_10 )),(.int .i64 (F17_11 )),(.int .i64 (F17_12 )),(.int .i64 (F17_13 )),(.int .i64 (F17_14 ))]⟩) h)) .no
def p17:Ans:=fnAns dec17 alt17
theorem ha17:∀(x:A17) (h:Hp)(o:Out),(alt17 x h).out=some o→∃r,(rt17 ).val=some r∧o=.ret (en17 r) h:=by
 intro x h o e;unfold alt17 at e;simp only[AT.out]at e;obtain ⟨g,e⟩:=cond_some e;unfold F17_ok at g;obtain ⟨r,hF⟩:=Option.isSome_iff_exists.1 g
 refine ⟨r,by delta F17 at hF;exact hF,?_⟩
 simp only[Option.some.injEq]at e;rw[← e]
 unfold F17_0 F17_1 F17_2 F17_3 F17_4 F17_5 F17_6 F17_7 F17_8 F17_9 F17_10 F17_11 F17_12 F17_13 F17_14;rw[hF]<;>rfl
theorem hd17:∀(t:Task) (x:A17)(h:Hp),dec17 t=some (x,h)→t=.call 17 ⟨[]⟩ h:=by
 intro t x h e;unfold dec17 at e
 split at e
 case h_2=>cases e
 split at e
 case h_2=>cases e
 rename_i hg;simp only[Option.some.injEq,Prod.mk.injEq]at e;obtain ⟨_,rfl⟩:=e;rw[Nat.eq_of_beq_eq_true hg]
theorem known17:Known Try.prog p17:=by
 exact Known.fn noNG mixed (Known.or known19 known45) (n:=60) (zs:=[4]) 17 (fun x:A17=>[]) (fun x=>rt17 ) en17 (fun x=>T17  ) (fun x=>rfl) dec17 alt17 hd17 ha17
structure R18 where
 (r0:Array Value)
 (r1 r2:Nat)
structure A18 where
def rt18 :RT R18 :=
 .leaf ⟨⟨[(.int .i64 (0:Int)),(.int .i64 (200000:Int)),(.int .i64 (600:Int)),(.int .i64 (780:Int)),(.int .i64 (-150:Int)),(.int .i64 (80:Int)),(.int .i64 (200000:Int)),(.int .i64 (1000000:Int)),(.int .i64 (640:Int)),(.int .i64 (740:Int)),(.int .i64 (-110:Int)),(.int .i64 (240:Int))]⟩,0,2⟩
def en18 (r:R18):Value:=(lstV r.r0 r.r1 r.r2 6)
theorem T18  :evC Try.prog (Ans.c (fun _=>none:Ans)) 60 (.call 18 ⟨[]⟩ ⟨[],0,[]⟩) (frzK [6])=(rt18 ).out (fun r=>.ret (en18 r) ⟨[],0,[]⟩):=by kernel_rfl
def F18 :Option R18:=(rt18 ).val
def F18_ok :Bool:=(F18 ).isSome
def F18_0 :Array Value:=match F18  with | some r=>r.r0 | none=>#[]
def F18_1 :Nat:=match F18  with | some r=>r.r1 | none=>0
def F18_2 :Nat:=match F18  with | some r=>r.r2 | none=>0
def dec18:Task→Option (A18×Hp)
 | .call g ⟨[]⟩ h=>(match Nat.beq g 18 with | true=>some (⟨⟩,h) | false=>none)
 | _=>none
def alt18 (x:A18)(h:Hp):AT:=.br (F18_ok ) (.leaf (.ret (lstV (F18_0 ) (F18_1 ) (F18_2 ) 6) h)) .no
def p18:Ans:=fnAns dec18 alt18
theorem ha18:∀(x:A18) (h:Hp)(o:Out),(alt18 x h).out=some o→∃r,(rt18 ).val=some r∧o=.ret (en18 r) h:=by
 intro x h o e;unfold alt18 at e;simp only[AT.out]at e;obtain ⟨g,e⟩:=cond_some e;unfold F18_ok at g;obtain ⟨r,hF⟩:=Option.isSome_iff_exists.1 g
 refine ⟨r,by delta F18 at hF;exact hF,?_⟩
 simp only[Option.some.injEq]at e;rw[← e]
 unfold F18_0 F18_1 F18_2;rw[hF]<;>rfl
theorem hd18:∀(t:Task) (x:A18)(h:Hp),dec18 t=some (x,h)→t=.call 18 ⟨[]⟩ h:=by
 intro t x h e;unfold dec18 at e
 split at e
 case h_2=>cases e
 split at e
 case h_2=>cases e
 rename_i hg;simp only[Option.some.injEq,Prod.mk.injEq]at e;obtain ⟨_,rfl⟩:=e;rw[Nat.eq_of_beq_eq_true hg]
theorem known18:Known Try.prog p18:=by
 exact Known.fn noNG mixed (Known.nothing Try.prog) (n:=60) (zs:=[6]) 18 (fun x:A18=>[]) (fun x=>rt18 ) en18 (fun x=>T18  ) (fun x=>rfl) dec18 alt18 hd18 ha18
structure R16 where
 (r0:Bool)
structure A16 where
def rt16 :RT R16 :=
 .leaf ⟨true⟩
def en16 (r:R16):Value:=(.bool r.r0)
theorem T16  :evC Try.prog (Ans.c (p14.or (p17.or (p18.or (p30.or (p45.or (p46.or (p48.or (p50.or (p51.or (p69.or p101))))))))))) 800 (.call 16 ⟨[]⟩ ⟨[],0,[]⟩) (frzK [0])=(rt16 ).out (fun r=>.ret (en16 r) ⟨[],0,[]⟩):=by kernel_rfl
def F16 :Option R16:=(rt16 ).val
def F16_ok :Bool:=(F16 ).isSome
def F16_0 :Bool:=match F16  with | some r=>r.r0 | none=>false
def dec16:Task→Option (A16×Hp)
 | .call g ⟨[]⟩ h=>(match Nat.beq g 16 with | true=>some (⟨⟩,h) | false=>none)
 | _=>none
def alt16 (x:A16)(h:Hp):AT:=.br (F16_ok ) (.leaf (.ret (.bool (F16_0 )) h)) .no
def p16:Ans:=fnAns dec16 alt16
theorem ha16:∀(x:A16) (h:Hp)(o:Out),(alt16 x h).out=some o→∃r,(rt16 ).val=some r∧o=.ret (en16 r) h:=by
 intro x h o e;unfold alt16 at e;simp only[AT.out]at e;obtain ⟨g,e⟩:=cond_some e;unfold F16_ok at g;obtain ⟨r,hF⟩:=Option.isSome_iff_exists.1 g
 refine ⟨r,by delta F16 at hF;exact hF,?_⟩
 simp only[Option.some.injEq]at e;rw[← e]
 unfold F16_0;rw[hF]<;>rfl
theorem hd16:∀(t:Task) (x:A16)(h:Hp),dec16 t=some (x,h)→t=.call 16 ⟨[]⟩ h:=by
 intro t x h e;unfold dec16 at e
 split at e
 case h_2=>cases e
 split at e
 case h_2=>cases e
 rename_i hg;simp only[Option.some.injEq,Prod.mk.injEq]at e;obtain ⟨_,rfl⟩:=e;rw[Nat.eq_of_beq_eq_true hg]
theorem known16:Known Try.prog p16:=by
 exact Known.fn noNG mixed (Known.or known14 (Known.or known17 (Known.or known18 (Known.or known30 (Known.or known45 (Known.or known46 (Known.or known48 (Known.or known50 (Known.or known51 (Known.or known69 known101)))))))))) (n:=800) (zs:=[0]) 16 (fun x:A16=>[]) (fun x=>rt16 ) en16 (fun x=>T16  ) (fun x=>rfl) dec16 alt16 hd16 ha16
structure X25_0 where
 (v0 v1 v2:Int)
 (v3:Array Value)
 (v4 v5:Nat)
 (v6 v7:Int)
 (v8:Array Value)
 (v9 v10:Nat)
inductive D25_0 where
 | k0 (d0:Bool) (d1 d2:Int) (d3:Array Value) (d4 d5:Nat) (d6 d7:Int) (d8:Array Value) (d9 d10:Nat)
 | k1 (d0 d1:Int) (d2:Array Value) (d3 d4:Nat) (d5 d6:Int) (d7:Array Value) (d8 d9:Nat)
def Lp25_0:LoopOf X25_0 D25_0 where
 c:=(theLoop Try.prog 25 0)
 N:=45
 M:=2
 S:=[2,3,5]
 sl:=fun x=>[(Value.pointer (Option.some (Addr.mk 0 0 Option.none))),(Value.pointer (Option.some (Addr.mk 1 0 Option.none))),(.int .i64 x.v0)]
 hp:=fun x=>[.cells ⟨[(.int .i64 x.v1),(.int .i64 x.v2),(lstV x.v3 x.v4 x.v5 2)]⟩ false,.cells ⟨[(.int .i64 x.v6),(.int .i64 x.v7),(lstV x.v8 x.v9 x.v10 2)]⟩ false]
 ex:=fun d=>match d with | .k0 ..=>.ret | .k1 ..=>.exit 0
 pick:=fun e=>match e with | .ret=>[4] | .exit 0=>[] | _=>[]
 dv:=fun d=>match d with | .k0 d0 d1 d2 d3 d4 d5 d6 d7 d8 d9 d10=>[(.bool d0)] | .k1 d0 d1 d2 d3 d4 d5 d6 d7 d8 d9=>[]
 dh:=fun d=>match d with | .k0 d0 d1 d2 d3 d4 d5 d6 d7 d8 d9 d10=>[.cells ⟨[(.int .i64 d1),(.int .i64 d2),(lstV d3 d4 d5 2)]⟩ false,.cells ⟨[(.int .i64 d6),(.int .i64 d7),(lstV d8 d9 d10 2)]⟩ false] | .k1 d0 d1 d2 d3 d4 d5 d6 d7 d8 d9=>[.cells ⟨[(.int .i64 d0),(.int .i64 d1),(lstV d2 d3 d4 2)]⟩ false,.cells ⟨[(.int .i64 d5),(.int .i64 d6),(lstV d7 d8 d9 2)]⟩ false]
theorem ok25_0:Lp25_0.Ok:=⟨fun x=>rfl,fun x=>rfl,fun x=>rfl,fun x=>rfl,fun d=>by cases d<;>rfl,fun d=>by cases d<;>rfl,fun d=>by cases d<;>rfl,fun d=>by cases d<;>(intro h;cases h),fun d=>by cases d<;>rfl,fun d=>by cases d<;>rfl⟩
def rd25_0 (x:X25_0):RT (Sum X25_0 D25_0):=match x with
 | ⟨v0,v1,v2,v3,v4,v5,v6,v7,v8,v9,v10⟩ =>let u0:=(Int.toNat v0);
   .br (decide (v0<(Int.ofNat v5))) (.br (and (decide ((0:Int)≤v0)) (decide (v0<(Int.ofNat v5)))) (.br (rdOk v3 [(Leaf.int .i64),(Leaf.int .i64)] (v4+(u0*2))) (.br (and (decide ((0:Int)≤v0)) (decide (v0<(Int.ofNat v10)))) (.br (rdOk v8 [(Leaf.int .i64),(Leaf.int .i64)] (v9+(u0*2))) (.br (not (and (decide ((getInt v3 (v4+(u0*2)))=(getInt v8 (v9+(u0*2))))) (and (decide ((getInt v3 ((v4+(u0*2))+1))=(getInt v8 ((v9+(u0*2))+1)))) true))) (.leaf (.inr (.k0 false v1 v2 v3 v4 v5 v6 v7 v8 v9 v10))) (.leaf (.inl ⟨(IntKind.wrap .i64 (v0+(1:Int))),v1,v2,v3,v4,v5,v6,v7,v8,v9,v10⟩))) (.no)) (.no)) (.no)) (.no)) (.leaf (.inr (.k1 v1 v2 v3 v4 v5 v6 v7 v8 v9 v10)))
theorem T25_0  (y:List Value) (v0 v1 v2:Int) (v3:Array Value) (v4 v5:Nat) (v6 v7:Int) (v8:Array Value) (v9 v10:Nat):evC Try.prog (Ans.c (fun _=>none:Ans)) 60 (.code none (theLoop Try.prog 25 0) ⟨sets (junkF 45 y) [(2,(Value.pointer (some (Addr.mk 0 0 none)))),(3,(Value.pointer (some (Addr.mk 1 0 none)))),(5,(.int .i64 v0))],[],⟨[.cells ⟨[(.int .i64 v1),(.int .i64 v2),(lstV v3 v4 v5 2)]⟩ false,.cells ⟨[(.int .i64 v6),(.int .i64 v7),(lstV v8 v9 v10 2)]⟩ false],0,[]⟩⟩) (sumK 2 45 Lp25_0.pk)=(rd25_0 ⟨v0,v1,v2,v3,v4,v5,v6,v7,v8,v9,v10⟩).out Lp25_0.enc:=by kernel_rfl
def L25_0 (x:X25_0):Option D25_0:=loopR rd25_0 x
section
variable (x:X25_0)
def L25_0_k0:Bool:=match L25_0 x with | some (.k0 ..)=>true | _=>false
def Qn0:Bool:=match L25_0 x with | some (.k0 (d0:=d) ..)=>d | _=>false
def Qn1:Int:=match L25_0 x with | some (.k0 (d1:=d) ..)=>d | _=>0
def Qn2:Int:=match L25_0 x with | some (.k0 (d2:=d) ..)=>d | _=>0
def Qn3:Array Value:=match L25_0 x with | some (.k0 (d3:=d) ..)=>d | _=>#[]
def Qn4:Nat:=match L25_0 x with | some (.k0 (d4:=d) ..)=>d | _=>0
def Qn5:Nat:=match L25_0 x with | some (.k0 (d5:=d) ..)=>d | _=>0
def Qn6:Int:=match L25_0 x with | some (.k0 (d6:=d) ..)=>d | _=>0
def Qn7:Int:=match L25_0 x with | some (.k0 (d7:=d) ..)=>d | _=>0
def Qn8:Array Value:=match L25_0 x with | some (.k0 (d8:=d) ..)=>d | _=>#[]
def Qn9:Nat:=match L25_0 x with | some (.k0 (d9:=d) ..)=>d | _=>0
def Qn10:Nat:=match L25_0 x with | some (.k0 (d10:=d) ..)=>d | _=>0
def L25_0_k1:Bool:=match L25_0 x with | some (.k1 ..)=>true | _=>false
def Qo0:Int:=match L25_0 x with | some (.k1 (d0:=d) ..)=>d | _=>0
def Qo1:Int:=match L25_0 x with | some (.k1 (d1:=d) ..)=>d | _=>0
def Qo2:Array Value:=match L25_0 x with | some (.k1 (d2:=d) ..)=>d | _=>#[]
def Qo3:Nat:=match L25_0 x with | some (.k1 (d3:=d) ..)=>d | _=>0
def Qo4:Nat:=match L25_0 x with | some (.k1 (d4:=d) ..)=>d | _=>0
def Qo5:Int:=match L25_0 x with | some (.k1 (d5:=d) ..)=>d | _=>0
def Qo6:Int:=match L25_0 x with | some (.k1 (d6:=d) ..)=>d | _=>0
def Qo7:Array Value:=match L25_0 x with | some (.k1 (d7:=d) ..)=>d | _=>#[]
def Qo8:Nat:=match L25_0 x with | some (.k1 (d8:=d) ..)=>d | _=>0
def Qo9:Nat:=match L25_0 x with | some (.k1 (d9:=d) ..)=>d | _=>0
end
def dec25_0:Task→Option (Code×X25_0)
 | .code none (.loop code) ⟨t,[],⟨[.cells ⟨[(.int .i64 v1),(.int .i64 v2),(.func (.via 0 ⟨[]⟩ 0 true) v3 ⟨[.slice (some ⟨0,v4,none⟩) v5 2]⟩)]⟩ false,.cells ⟨[(.int .i64 v6),(.int .i64 v7),(.func (.via 0 ⟨[]⟩ 0 true) v8 ⟨[.slice (some ⟨0,v9,none⟩) v10 2]⟩)]⟩ false],0,[]⟩⟩ =>
  (match Nat.beq (firstReg code) 4,lenIs t 45,lget t 2,lget t 3,lget t 5 with
  | true,true,(Value.pointer (Option.some (Addr.mk 0 0 Option.none))),(Value.pointer (Option.some (Addr.mk 1 0 Option.none))),(.int .i64 v0)=>some (code,⟨v0,v1,v2,v3,v4,v5,v6,v7,v8,v9,v10⟩)
  | _,_,_,_,_=>none)
 | _=>none
def alt25_0 (x:X25_0)(j:List Value):AT:=.br (L25_0_k0 x) (loopEnd 45 (.ret) [(4,(.bool (Qn0 x)))] ⟨[.cells ⟨[(.int .i64 (Qn1 x)),(.int .i64 (Qn2 x)),(lstV (Qn3 x) (Qn4 x) (Qn5 x) 2)]⟩ false,.cells ⟨[(.int .i64 (Qn6 x)),(.int .i64 (Qn7 x)),(lstV (Qn8 x) (Qn9 x) (Qn10 x) 2)]⟩ false],0,[]⟩ j) (.br (L25_0_k1 x) (loopEnd 45 (.exit 0) [] ⟨[.cells ⟨[(.int .i64 (Qo0 x)),(.int .i64 (Qo1 x)),(lstV (Qo2 x) (Qo3 x) (Qo4 x) 2)]⟩ false,.cells ⟨[(.int .i64 (Qo5 x)),(.int .i64 (Qo6 x)),(lstV (Qo7 x) (Qo8 x) (Qo9 x) 2)]⟩ false],0,[]⟩ j) (.no))
def la25_0 (J:Task→List Value):Ans:=loopAns Lp25_0.c dec25_0 alt25_0 J
theorem ha25_0:∀(x:X25_0) (j:List Value)(o:Out),(alt25_0 x j).out=some o→∃d,loopR rd25_0 x=some d∧o=Lp25_0.tail d j:=by
 intro x j o h;unfold alt25_0 at h
 cases hL:L25_0 x with
 | none=>simp [L25_0_k0,Qn0,Qn1,Qn2,Qn3,Qn4,Qn5,Qn6,Qn7,Qn8,Qn9,Qn10,L25_0_k1,Qo0,Qo1,Qo2,Qo3,Qo4,Qo5,Qo6,Qo7,Qo8,Qo9,hL,AT.out]at h
 | some d =>
  refine ⟨d,hL,?_⟩
  cases d<;>(simp only[L25_0_k0,Qn0,Qn1,Qn2,Qn3,Qn4,Qn5,Qn6,Qn7,Qn8,Qn9,Qn10,L25_0_k1,Qo0,Qo1,Qo2,Qo3,Qo4,Qo5,Qo6,Qo7,Qo8,Qo9,hL,AT.out,loopEnd,cond_true,cond_false,Option.some.injEq]at h;rw[← h];rfl)
theorem hd25_0:∀(t:Task) (c:Code)(x:X25_0),dec25_0 t=some (c,x)→c=Lp25_0.c→∃T,t=.code none (.loop Lp25_0.c) ⟨T,[],⟨Lp25_0.hp x,0,[]⟩⟩∧T.length=Lp25_0.N∧∀kv∈Lp25_0.S.zip (Lp25_0.sl x),lget T kv.1=kv.2:=by
 intro t c x h hc;unfold dec25_0 at h
 split at h
 case h_2=>cases h
 split at h
 case h_2=>cases h
 simp only[Option.some.injEq,Prod.mk.injEq]at h;obtain ⟨rfl,rfl⟩:=h;subst hc
 refine ⟨_,rfl,lenIs_eq _ _ (by assumption),?_⟩
 intro kv hk;simp only[Lp25_0,List.zip_cons_cons,List.zip_nil_right,List.mem_cons,List.not_mem_nil,or_false]at hk
 rcases hk with rfl | rfl | rfl<;>assumption
theorem kl25_0:∃J,Known Try.prog (la25_0 J):=by
 exact LoopOf.known noNG mixed ok25_0 (by decide) (by decide) (Known.nothing Try.prog) (n:=60) (rd:=rd25_0) (fun x j=>T25_0  j x.v0 x.v1 x.v2 x.v3 x.v4 x.v5 x.v6 x.v7 x.v8 x.v9 x.v10) dec25_0 alt25_0 hd25_0 ha25_0
structure R25 where
 (r0:Bool)
structure A25 where
 (a0 a1:Int)
 (a2:Array Value)
 (a3 a4:Nat)
 (a5 a6:Int)
 (a7:Array Value)
 (a8 a9:Nat)
def rt25 (a0 a1:Int)(a2:Array Value)(a3 a4:Nat)(a5 a6:Int)(a7:Array Value)(a8 a9:Nat):RT R25 :=
 .br (not (decide (a0=a5))) (.leaf ⟨false⟩) (.br (not (decide (a1=a6))) (.leaf ⟨false⟩) (.br (not (decide ((Int.ofNat a4)=(Int.ofNat a9)))) (.leaf ⟨false⟩)
  (.sw (eqCode (Lp25_0.c) (Lp25_0.c)) true (by simp only[eqCode_self,arrEq_self]) (.br (L25_0_k0 (X25_0.mk (0:Int) a0 a1 a2 a3 a4 a5 a6 a7 a8 a9)) (.leaf ⟨(Qn0 (X25_0.mk (0:Int) a0 a1 a2 a3 a4 a5 a6 a7 a8 a9))⟩) (.br (L25_0_k1 (X25_0.mk (0:Int) a0 a1 a2 a3 a4 a5 a6 a7 a8 a9)) (.leaf ⟨true⟩) (.no))) (.no))))
def en25 (r:R25):Value:=(.bool r.r0)
theorem T25 (J0:Task→List Value)(a0 a1:Int)(a2:Array Value)(a3 a4:Nat)(a5 a6:Int)(a7:Array Value)(a8 a9:Nat):evC Try.prog (Ans.c (la25_0 J0)) 60 (.call 25 ⟨[(.agg ⟨[(.int .i64 a0),(.int .i64 a1),(lstV a2 a3 a4 2)]⟩),(.agg ⟨[(.int .i64 a5),(.int .i64 a6),(lstV a7 a8 a9 2)]⟩)]⟩ ⟨[],0,[]⟩) (frzK [0])=(rt25 a0 a1 a2 a3 a4 a5 a6 a7 a8 a9).out (fun r=>.ret (en25 r) ⟨[],0,[]⟩):=by kernel_rfl
def F25 (a0 a1:Int)(a2:Array Value)(a3 a4:Nat)(a5 a6:Int)(a7:Array Value)(a8 a9:Nat):Option R25:=(rt25 a0 a1 a2 a3 a4 a5 a6 a7 a8 a9).val
section
variable (a0 a1:Int) (a2:Array Value) (a3 a4:Nat) (a5 a6:Int) (a7:Array Value) (a8 a9:Nat)
def F25_ok:Bool:=(F25 a0 a1 a2 a3 a4 a5 a6 a7 a8 a9).isSome
def F25_0:Bool:=match F25 a0 a1 a2 a3 a4 a5 a6 a7 a8 a9 with | some r=>r.r0 | none=>false
end
def dec25:Task→Option (A25×Hp)
 | .call g ⟨[(.agg ⟨[(.int .i64 a0),(.int .i64 a1),(.func (.via 0 ⟨[]⟩ 0 true) a2 ⟨[.slice (some ⟨0,a3,none⟩) a4 2]⟩)]⟩),(.agg ⟨[(.int .i64 a5),(.int .i64 a6),(.func (.via 0 ⟨[]⟩ 0 true) a7 ⟨[.slice (some ⟨0,a8,none⟩) a9 2]⟩)]⟩)]⟩ h=>(match Nat.beq g 25 with | true=>some (⟨a0,a1,a2,a3,a4,a5,a6,a7,a8,a9⟩,h) | false=>none)
 | _=>none
def alt25 (x:A25)(h:Hp):AT:=.br (F25_ok x.a0 x.a1 x.a2 x.a3 x.a4 x.a5 x.a6 x.a7 x.a8 x.a9) (.leaf (.ret (.bool (F25_0 x.a0 x.a1 x.a2 x.a3 x.a4 x.a5 x.a6 x.a7 x.a8 x.a9)) h)) .no
def p25:Ans:=fnAns dec25 alt25
theorem ha25:∀(x:A25) (h:Hp)(o:Out),(alt25 x h).out=some o→∃r,(rt25 x.a0 x.a1 x.a2 x.a3 x.a4 x.a5 x.a6 x.a7 x.a8 x.a9).val=some r∧o=.ret (en25 r) h:=by
 intro x h o e;unfold alt25 at e;simp only[AT.out]at e;obtain ⟨g,e⟩:=cond_some e;unfold F25_ok at g;obtain ⟨r,hF⟩:=Option.isSome_iff_exists.1 g
 refine ⟨r,by delta F25 at hF;exact hF,?_⟩
 simp only[Option.some.injEq]at e;rw[← e]
 unfold F25_0;rw[hF]<;>rfl
theorem hd25:∀(t:Task) (x:A25)(h:Hp),dec25 t=some (x,h)→t=.call 25 ⟨[(.agg ⟨[(.int .i64 x.a0),(.int .i64 x.a1),(lstV x.a2 x.a3 x.a4 2)]⟩),(.agg ⟨[(.int .i64 x.a5),(.int .i64 x.a6),(lstV x.a7 x.a8 x.a9 2)]⟩)]⟩ h:=by
 intro t x h e;unfold dec25 at e
 split at e
 case h_2=>cases e
 split at e
 case h_2=>cases e
 rename_i hg;simp only[Option.some.injEq,Prod.mk.injEq]at e;obtain ⟨rfl,rfl⟩:=e;rw[Nat.eq_of_beq_eq_true hg]
theorem known25:Known Try.prog p25:=by
 obtain ⟨J0,hJ0⟩:=kl25_0
 exact Known.fn noNG mixed hJ0 (n:=60) (zs:=[0]) 25 (fun x:A25=>[(.agg ⟨[(.int .i64 x.a0),(.int .i64 x.a1),(lstV x.a2 x.a3 x.a4 2)]⟩),(.agg ⟨[(.int .i64 x.a5),(.int .i64 x.a6),(lstV x.a7 x.a8 x.a9 2)]⟩)]) (fun x=>rt25 x.a0 x.a1 x.a2 x.a3 x.a4 x.a5 x.a6 x.a7 x.a8 x.a9) en25 (fun x=>T25 J0 x.a0 x.a1 x.a2 x.a3 x.a4 x.a5 x.a6 x.a7 x.a8 x.a9) (fun x=>rfl) dec25 alt25 hd25 ha25
structure R37 where
 (r0 r1:Int)
 (r2 r3:Int)
structure A37 where
 (a0 a1:Int)
 (a2 a3:Int)
 (a4 a5:Int)
def rt37 (a0 a1:Int)(a2 a3:Int)(a4 a5:Int):RT R37 :=let u0:=(IntKind.wrap .i64 (a0+a4));let u1:=(IntKind.wrap .i64 (a1+a4));let u2:=(IntKind.wrap .i64 (a2+a5));let u3:=(IntKind.wrap .i64 (a3+a5));
 .leaf ⟨(F19_0 u0 u1 u2 u3),(F19_1 u0 u1 u2 u3),(F19_2 u0 u1 u2 u3),(F19_3 u0 u1 u2 u3)⟩
def en37 (r:R37):Value:=(.agg ⟨[(.int .i64 r.r0),(.int .i64 r.r1),(.int .i64 r.r2),(.int .i64 r.r3)]⟩)
theorem T37  (a0 a1:Int) (a2 a3:Int) (a4 a5:Int):evC Try.prog (Ans.c p19) 60 (.call 37 ⟨[(.agg ⟨[(.int .i64 a0),(.int .i64 a1),(.int .i64 a2),(.int .i64 a3)]⟩),(.int .i64 a4),(.int .i64 a5)]⟩ ⟨[],0,[]⟩) (frzK [0])=(rt37 a0 a1 a2 a3 a4 a5).out (fun r=>.ret (en37 r) ⟨[],0,[]⟩):=by kernel_rfl
def F37 (a0 a1:Int)(a2 a3:Int)(a4 a5:Int):Option R37:=(rt37 a0 a1 a2 a3 a4 a5).val
section
variable (a0 a1:Int) (a2 a3:Int) (a4 a5:Int)
def F37_ok:Bool:=(F37 a0 a1 a2 a3 a4 a5).isSome
def F37_0:Int:=match F37 a0 a1 a2 a3 a4 a5 with | some r=>r.r0 | none=>0
def F37_1:Int:=match F37 a0 a1 a2 a3 a4 a5 with | some r=>r.r1 | none=>0
def F37_2:Int:=match F37 a0 a1 a2 a3 a4 a5 with | some r=>r.r2 | none=>0
def F37_3:Int:=match F37 a0 a1 a2 a3 a4 a5 with | some r=>r.r3 | none=>0
end
def dec37:Task→Option (A37×Hp)
 | .call g ⟨[(.agg ⟨[(.int .i64 a0),(.int .i64 a1),(.int .i64 a2),(.int .i64 a3)]⟩),(.int .i64 a4),(.int .i64 a5)]⟩ h=>(match Nat.beq g 37 with | true=>some (⟨a0,a1,a2,a3,a4,a5⟩,h) | false=>none)
 | _=>none
def alt37 (x:A37)(h:Hp):AT:=.br (F37_ok x.a0 x.a1 x.a2 x.a3 x.a4 x.a5) (.leaf (.ret (.agg ⟨[(.int .i64 (F37_0 x.a0 x.a1 x.a2 x.a3 x.a4 x.a5)),(.int .i64 (F37_1 x.a0 x.a1 x.a2 x.a3 x.a4 x.a5)),(.int .i64 (F37_2 x.a0 x.a1 x.a2 x.a3 x.a4 x.a5)),(.int .i64 (F37_3 x.a0 x.a1 x.a2 x.a3 x.a4 x.a5))]⟩) h)) .no
def p37:Ans:=fnAns dec37 alt37
theorem ha37:∀(x:A37) (h:Hp)(o:Out),(alt37 x h).out=some o→∃r,(rt37 x.a0 x.a1 x.a2 x.a3 x.a4 x.a5).val=some r∧o=.ret (en37 r) h:=by
 intro x h o e;unfold alt37 at e;simp only[AT.out]at e;obtain ⟨g,e⟩:=cond_some e;unfold F37_ok at g;obtain ⟨r,hF⟩:=Option.isSome_iff_exists.1 g
 refine ⟨r,by delta F37 at hF;exact hF,?_⟩
 simp only[Option.some.injEq]at e;rw[← e]
 unfold F37_0 F37_1 F37_2 F37_3;rw[hF]<;>rfl
theorem hd37:∀(t:Task) (x:A37)(h:Hp),dec37 t=some (x,h)→t=.call 37 ⟨[(.agg ⟨[(.int .i64 x.a0),(.int .i64 x.a1),(.int .i64 x.a2),(.int .i64 x.a3)]⟩),(.int .i64 x.a4),(.int .i64 x.a5)]⟩ h:=by
 intro t x h e;unfold dec37 at e
 split at e
 case h_2=>cases e
 split at e
 case h_2=>cases e
 rename_i hg;simp only[Option.some.injEq,Prod.mk.injEq]at e;obtain ⟨rfl,rfl⟩:=e;rw[Nat.eq_of_beq_eq_true hg]
theorem known37:Known Try.prog p37:=by
 exact Known.fn noNG mixed known19 (n:=60) (zs:=[0]) 37 (fun x:A37=>[(.agg ⟨[(.int .i64 x.a0),(.int .i64 x.a1),(.int .i64 x.a2),(.int .i64 x.a3)]⟩),(.int .i64 x.a4),(.int .i64 x.a5)]) (fun x=>rt37 x.a0 x.a1 x.a2 x.a3 x.a4 x.a5) en37 (fun x=>T37  x.a0 x.a1 x.a2 x.a3 x.a4 x.a5) (fun x=>rfl) dec37 alt37 hd37 ha37
end
end Go.Proofs.Ytkcahhbhfmdpmaa
namespace Go.Gi
open Go.RowKit
noncomputable section
def fgS (n:Nat)(v:Value):Value:=match scT n v with
 | true=>v
 | false=>lo v
theorem fgS_R (n:Nat)(v:Value):SlotR n v (fgS n v):=by
 unfold fgS
 cases h:scT n v with
 | true=>exact .inr (.inr ⟨rfl,h⟩)
 | false=>exact .inl rfl
theorem fgS_Rs (n:Nat):∀l:List Value,SlotRs n l (l.map (fgS n))
 | []=>.nil
 | v::r=>.cons (fgS_R n v) (fgS_Rs n r)
def keptB (n:Nat):List Ob→List Ob→Bool
 | [],[]=>true
 | a::r,b::s=>obKept n a b&&keptB n r s
 | _,_=>false
theorem keptB_ok {n:Nat}:∀{H H1:List Ob},keptB n H H1=true→ObsKept n H H1
 | [],[],_=>.nil
 | a::r,b::s,h=>by
  simp only[keptB,Bool.and_eq_true]at h;exact .cons h.1 (keptB_ok h.2)
 | [],_::_,h=>by cases h
 | _::_,[],h=>by cases h
def AT.fg (m base:Nat)(H0 G:List Ob):AT→AT
 | .leaf (.ex e ⟨L,[],⟨bl1,_,wr1⟩⟩)=>match noPanic e,keptB m H0 (bl1.take m) with
  | true,true=>.leaf (.ex e ⟨L.map (fgS m),[],⟨bl1.take m++G,base,wr1⟩⟩)
  | _,_=>.no
 | .br b x y=>.br b (x.fg m base H0 G) (y.fg m base H0 G)
 | _=>.no
theorem AT.fg_out {m base:Nat}{H0 G:List Ob}{o:Out}:∀{a:AT},(a.fg m base H0 G).out=some o →
  ∃e L bl1 b1 wr1,a.out=some (.ex e ⟨L,[],⟨bl1,b1,wr1⟩⟩)∧noPanic e=true∧keptB m H0 (bl1.take m)=true∧o=.ex e ⟨L.map (fgS m),[],⟨bl1.take m++G,base,wr1⟩⟩
 | .no,e=>by cases e
 | .br b x y,e=>by
  cases b with
  | true=>exact AT.fg_out (a:=x) e
  | false=>exact AT.fg_out (a:=y) e
 | .leaf o',h=>by
  unfold AT.fg at h
  split at h
  ·rename_i e L bl1 b1 wr1 heq
   injection heq with heq
   subst heq
   split at h
   ·rename_i h1 h2
    simp only[AT.out,Option.some.injEq]at h;exact ⟨e,L,bl1,b1,wr1,rfl,h1,h2,h.symm⟩
   ·cases h
  ·rename_i heq;cases heq
  ·cases h
def fgt (m:Nat)(p:Ans):Ans
 | .code none c ⟨t,[],⟨bl,base,wr⟩⟩=>match Nat.ble m bl.length,Nat.ble base m,(bl.take m).all (obSc m) with
  | true,true,true=>match p (.code none c ⟨t.map (fgS m),[],⟨bl.take m,base,wr⟩⟩) with
   | some a=>some (a.fg m base (bl.take m) (bl.drop m))
   | none=>none
  | _,_,_=>none
 | _=>none
variable {P:Program}
theorem Known.fgt {p:Ans}(hp:Known P p) (m:Nat):Known P (fgt m p):=by
 intro t x o e ho;unfold Gi.fgt at e
 split at e
 case h_2=>cases e
 rename_i c tl bl base wr
 split at e
 case h_2=>cases e
 rename_i h1 h2 h3
 split at e
 case h_2=>cases e
 rename_i a ha;simp only[Option.some.injEq]at e;subst e;obtain ⟨ex,L,bl1,b1,wr1,k1,k2,k3,rfl⟩:=AT.fg_out ho
 have hl:(bl.take m).length=m:=by rw[List.length_take];have:=Nat.le_of_ble_eq_true h1;omega
 have hf:=hp _ a _ ha k1;have hk:=keptB_ok k3
 have:=Fact.forget (G:=bl.drop m) (H0:=bl.take m) (H1:=bl1.take m) (X:=bl1.drop m) (c:=c) (t:=tl) (t0:=tl.map (fgS m)) (L:=L) (T:=L.map (fgS m)) (base:=base) (base1:=b1) (wr:=wr) (wr1:=wr1) (e:=ex)
  (by rw[List.take_append_drop];exact hf) (by rw[hl];exact Nat.le_of_ble_eq_true h2) (by rw[hl];exact hk) (by rw[hl];exact h3) (by rw[hl];exact fgS_Rs m tl) (by rw[hl];exact fgS_Rs m L) k2
 rwa [List.take_append_drop]at this
end
end Go.Gi
