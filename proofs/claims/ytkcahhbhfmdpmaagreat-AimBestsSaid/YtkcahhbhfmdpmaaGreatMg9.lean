/- Part 9 of the texts below the claim. Conditions: none. -/
import Derived.Test.YtkcahhbhfmdpmaaGreatMg7
import Derived.Test.YtkcahhbhfmdpmaaGreatMg8
import Derived.Test.YtkcahhbhfmdpmaaGreatMg6
set_option linter.unusedVariables false
set_option linter.unusedSimpArgs false
namespace Go.Proofs.YtkcahhbhfmdpmaaGreat
open Go.Gi Go.RowKit
noncomputable section
set_option maxRecDepth 100000
set_option maxHeartbeats 1000000
def inB (n lo hi:Int):Bool:=decide (lo≤n)&&decide (n≤hi)
def spB (lo hi far:Int):Bool:=decide (lo≤hi)&&(decide (-far≤lo)&&decide (hi≤far))
def arB (a b c e:Int):Bool:=spB a b 500000000&&spB c e 500000000
def wtE (f t lo hi fr:Int):Int:=if f=fr then (if t≤f then 7 else if 100000000<t then 7 else if spB lo hi 10000000=true then 0 else 7) else 2
def seE (a b c e s:Int):Int:=if arB a b c e=true then (if s<0 then 7 else if 2000<s then 7 else 0) else 7
theorem F34_of (n lo hi:Int):F34_ok n lo hi=true∧F34_0 n lo hi=inB n lo hi:=by
 have q:F34 n lo hi=some ⟨inB n lo hi⟩:=by
  unfold F34 rt34 inB
  by_cases h:lo≤n<;>simp [RT.val,mq,h]
 exact ⟨by simp only[F34_ok,q];rfl,by simp only[F34_0,q]⟩
theorem F91_of (n:Int):F91_ok n=true∧F91_0 n=inB n (-500000000) 500000000:=by
 have q:F91 n=some ⟨inB n (-500000000) 500000000⟩:=by
  unfold F91 rt91;simp only[RT.val,mq,(F34_of _ _ _).1,(F34_of _ _ _).2,cond_true]
 exact ⟨by simp only[F91_ok,q];rfl,by simp only[F91_0,q]⟩
theorem F90_of (p q r t:Int):F90_ok p q r t=true∧F90_0 p q r t=arB p q r t:=by
 have h:F90 p q r t=some ⟨arB p q r t⟩:=by
  unfold F90 rt90 arB spB;simp only[RT.val,mq,(F91_of _).1,(F91_of _).2,inB,cond_true]
  by_cases h1:(-500000000:Int)≤p<;>by_cases h2:p≤500000000<;>by_cases h3:(-500000000:Int)≤q<;>by_cases h4:q≤500000000 <;>
  by_cases h5:(-500000000:Int)≤r<;>by_cases h6:r≤500000000<;>by_cases h7:(-500000000:Int)≤t<;>by_cases h8:t≤500000000 <;>
  simp only[h1,h2,h3,h4,h5,h6,h7,h8,decide_true,decide_false,Bool.and_true,Bool.and_false,Bool.true_and,Bool.false_and,cond_true,cond_false,Option.some.injEq,R90.mk.injEq]<;>first
  | rfl
  | (by_cases h9:p≤q<;>by_cases h10:r≤t<;>simp [h9,h10,RT.val,mq]<;>omega)
 exact ⟨by simp only[F90_ok,h];rfl,by simp only[F90_0,h]⟩
theorem F96_of {p q f:Int}(hf:0≤f∧f≤1000000000):F96_ok p q f=true∧F96_0 p q f=spB p q f:=by
 have w:IntKind.wrap .i64 (0-f)=-f:=by rw[wrap64_id (by omega) (by omega)];omega
 have h:F96 p q f=some ⟨spB p q f⟩:=by
  unfold F96 rt96 spB;simp only[RT.val,mq,w]
  by_cases h1:p≤q<;>by_cases h2:-f≤p<;>simp [h1,h2]
 exact ⟨by simp only[F96_ok,h];rfl,by simp only[F96_0,h]⟩
theorem F57_of (p q r t:Int):F57_ok p q r t=true∧F57_0 p q r t=arB p q r t:=by
 have h:F57 p q r t=some ⟨arB p q r t⟩:=by
  unfold F57 rt57 arB
  simp only[RT.val,mq,(F96_of (f:=500000000) (by omega)).1,(F96_of (f:=500000000) (by omega)).2,cond_true]
  cases spB p q 500000000<;>rfl
 exact ⟨by simp only[F57_ok,h];rfl,by simp only[F57_0,h]⟩
theorem F58_of (p q:Int):F58_ok p q=true∧F58_0 p q=arB p p q q:=by
 have h:F58 p q=some ⟨arB p p q q⟩:=by
  unfold F58 rt58;simp only[RT.val,mq,(F57_of _ _ _ _).1,(F57_of _ _ _ _).2,cond_true]
 exact ⟨by simp only[F58_ok,h];rfl,by simp only[F58_0,h]⟩
theorem F59_of (n:Int):F59_ok n=true∧F59_0 n=inB n 0 6000:=by
 have q:F59 n=some ⟨inB n 0 6000⟩:=by
  unfold F59 rt59 inB
  by_cases h:(0:Int)≤n<;>simp [RT.val,mq,h]
 exact ⟨by simp only[F59_ok,q];rfl,by simp only[F59_0,q]⟩
theorem F56_of (f t lo hi fr:Int):F56_ok f t lo hi fr=true∧F56_0 f t lo hi fr=wtE f t lo hi fr:=by
 have q:F56 f t lo hi fr=some ⟨wtE f t lo hi fr⟩:=by
  unfold F56 rt56 wtE
  simp only[RT.val,mq,(F96_of (f:=10000000) (by omega)).1,(F96_of (f:=10000000) (by omega)).2,cond_true]
  by_cases h1:f=fr
  ·subst h1
   by_cases h2:t≤f
   ·simp [h2]
   ·by_cases h3:100000000<t
    ·simp [h2,h3]
    ·cases hs:spB lo hi 10000000<;>simp [h2,h3]
  ·simp [h1]
 exact ⟨by simp only[F56_ok,q];rfl,by simp only[F56_0,q]⟩
theorem row4 {c:Array Value}{n k:Nat}(h:GL I4 4 c n) (hk:k<n):rdOk c [(Leaf.int .i64),(Leaf.int .i64),(Leaf.int .i64),(Leaf.int .i64)] (0+k*4)=true:=h.good.2 k hk
theorem row5 {c:Array Value}{n k:Nat}(h:GL I5 5 c n) (hk:k<n):rdOk c [(Leaf.int .i64),(Leaf.int .i64),(Leaf.int .i64),(Leaf.int .i64),(Leaf.int .i64)] (0+k*5)=true:=h.good.2 k hk
theorem rd_and {c:Array Value}{l:Leaf}{L:List Leaf}{i:Nat}(h:rdOk c (l::L) i=true):(rdLeaf c l i).1=true∧rdOk c L (i+1)=true:=by
 simpa only [rdOk,Bool.and_eq_true] using h
section
variable {c1 c2:Array Value}{n1 n2:Nat}{x y a b c e g u z:Int}
def frI (c1:Array Value)(k:Nat):Int:=if k=0 then 0 else getInt c1 (0+(k-1)*4+1)
def wtK (c1:Array Value)(k:Nat):Int:=wtE (getInt c1 (0+k*4)) (getInt c1 (0+k*4+1)) (getInt c1 (0+k*4+1+1)) (getInt c1 (0+k*4+1+1+1)) (frI c1 k)
def seK (c2:Array Value)(k:Nat):Int:=seE (getInt c2 (0+k*5)) (getInt c2 (0+k*5+1)) (getInt c2 (0+k*5+1+1)) (getInt c2 (0+k*5+1+1+1)) (getInt c2 (0+k*5+1+1+1+1))
theorem frI_next {k:Nat}:frI c1 (k+1)=getInt c1 (0+k*4+1):=by
 unfold frI
 rw[if_neg (by omega),Nat.add_sub_cancel]
def out26_0 (c1 c2:Array Value)(n1 n2:Nat)(x y a b c e g u z:Int):Option (Nat×Int)→D26_0
 | some (i,r)=>.k0 2 (i:Int) r c1 0 n1 c2 0 n2 x y a b c e g u z
 | none=>.k1 c1 0 n1 c2 0 n2 x y a b c e g u z
def out26_1 (c1 c2:Array Value)(n1 n2:Nat)(x y a b c e g u z:Int):Option (Nat×Int)→D26_1
 | some (i,r)=>.k0 3 (i:Int) r c1 0 n1 c2 0 n2 x y a b c e g u z
 | none=>.k1 c1 0 n1 c2 0 n2 x y a b c e g u z
def out53_0 (c1 c2:Array Value)(n1 n2:Nat)(x y a b c e g u z:Int):Option (Nat×Int)→D53_0
 | some (i,r)=>.k0 2 (i:Int) r c1 0 n1 c2 0 n2 x y a b c e g u z
 | none=>.k1 c1 0 n1 c2 0 n2 x y a b c e g u z
def out53_1 (c1 c2:Array Value)(n1 n2:Nat)(x y a b c e g u z:Int):Option (Nat×Int)→D53_1
 | some (i,r)=>.k0 3 (i:Int) r c1 0 n1 c2 0 n2 x y a b c e g u z
 | none=>.k1 c1 0 n1 c2 0 n2 x y a b c e g u z
theorem loop26_0 (g1:GL I4 4 c1 n1)(few:n1≤1000):∀m k:Nat,k+m=n1 →
  loopR rd26_0 ⟨frI c1 k,c1,0,n1,(n1:Int),(k:Int),c1,0,n1,c2,0,n2,x,y,a,b,c,e,g,u,z⟩=some (out26_0 c1 c2 n1 n2 x y a b c e g u z (fst1 (wtK c1) m k))
 | 0,k,h=>by
  obtain rfl:k=n1:=by omega
  have h1:¬((k:Int)<(k:Int)):=by omega
  refine loopR_done ?_
  simp only[rd26_0,RT.val,mq,h1,decide_false,cond_false,fst1,out26_0]
 | m+1,k,h=>by
  have hk:k<n1:=by omega
  have hki:(k:Int)<(n1:Int):=by omega
  have h0:(0:Int)≤(k:Int):=by omega
  have h3:IntKind.wrap .i64 ((k:Int)+1)=((k+1:Nat):Int):=by rw[wrap64_id (by omega) (by omega)];omega
  have hr:=row4 g1 hk;unfold fst1
  by_cases he:wtK c1 k=0
  ·rw[if_pos he]
   refine (loopR_next ?_).trans (loop26_0 g1 few m (k+1) (by omega))
   have he':=he;unfold wtK at he';simp only[rd26_0,RT.val,mq,hki,h0,h3,hr,(F56_of _ _ _ _ _).1,(F56_of _ _ _ _ _).2,he',frI_next,Int.toNat_natCast,Int.ofNat_eq_natCast,decide_true,decide_false,Bool.and_self,Bool.not_true,cond_true,cond_false]
  ·rw[if_neg he]
   refine loopR_done ?_
   have he':=he;unfold wtK at he';simp only[rd26_0,RT.val,mq,hki,h0,h3,hr,(F56_of _ _ _ _ _).1,(F56_of _ _ _ _ _).2,he',Int.toNat_natCast,Int.ofNat_eq_natCast,decide_true,decide_false,Bool.and_self,Bool.not_false,cond_true,cond_false,out26_0]
   rfl
theorem loop26_1 (g2:GL I5 5 c2 n2)(few:n2≤1000):∀m k:Nat,k+m=n2 →
  loopR rd26_1 ⟨c2,0,n2,(n2:Int),(k:Int),c1,0,n1,c2,0,n2,x,y,a,b,c,e,g,u,z⟩=some (out26_1 c1 c2 n1 n2 x y a b c e g u z (fst1 (seK c2) m k))
 | 0,k,h=>by
  obtain rfl:k=n2:=by omega
  have h1:¬((k:Int)<(k:Int)):=by omega
  refine loopR_done ?_
  simp only[rd26_1,RT.val,mq,h1,decide_false,cond_false,fst1,out26_1]
 | m+1,k,h=>by
  have hk:k<n2:=by omega
  have hki:(k:Int)<(n2:Int):=by omega
  have h0:(0:Int)≤(k:Int):=by omega
  have h3:IntKind.wrap .i64 ((k:Int)+1)=((k+1:Nat):Int):=by rw[wrap64_id (by omega) (by omega)];omega
  have hr:=row5 g2 hk
  have key:∀r,seK c2 k=r→(rd26_1 ⟨c2,0,n2,(n2:Int),(k:Int),c1,0,n1,c2,0,n2,x,y,a,b,c,e,g,u,z⟩).val=some (if r=0 then .inl ⟨c2,0,n2,(n2:Int),((k+1:Nat):Int),c1,0,n1,c2,0,n2,x,y,a,b,c,e,g,u,z⟩ else .inr (.k0 3 (k:Int) 7 c1 0 n1 c2 0 n2 x y a b c e g u z))∧(r=0∨r=7):=by
   intro r hr';unfold seK seE at hr';simp only[rd26_1,RT.val,mq,hki,h0,h3,hr,(F57_of _ _ _ _).1,(F57_of _ _ _ _).2,Int.toNat_natCast,Int.ofNat_eq_natCast,decide_true,Bool.and_self,cond_true]
   split at hr'
   ·rename_i ha
    rw[ha]
    split at hr'
    ·rename_i hs
     subst hr';simp only[hs,Bool.not_true,decide_true,cond_true,cond_false]
     exact ⟨rfl,by simp⟩
    ·rename_i hs
     split at hr'
     ·rename_i ht
      subst hr';simp only[hs,ht,Bool.not_true,decide_true,decide_false,cond_true,cond_false]
      exact ⟨rfl,by simp⟩
     ·rename_i ht
      subst hr';simp only[hs,ht,Bool.not_true,decide_true,decide_false,cond_true,cond_false]
      exact ⟨rfl,by simp⟩
   ·rename_i ha
    subst hr';rw[Bool.not_eq_true]at ha;rw[ha]
    exact ⟨rfl,by simp⟩
  obtain ⟨k1,k2⟩:=key _ rfl;unfold fst1
  by_cases he:seK c2 k=0
  ·rw[if_pos he]
   rw[if_pos he]at k1
   exact (loopR_next k1).trans (loop26_1 g2 few m (k+1) (by omega))
  ·rw[if_neg he]
   rw[if_neg he]at k1
   rcases k2 with k2 | k2
   ·exact absurd k2 he
   ·rw[k2]
    exact loopR_done k1
theorem spB_alt (lo hi f:Int)(hf:0≤f):spB lo hi f=(inB lo (-f) f&&(inB hi (-f) f&&!decide (hi<lo))):=by
 unfold spB inB;rw[Bool.eq_iff_iff];simp only[Bool.and_eq_true,decide_eq_true_eq,Bool.not_eq_true',decide_eq_false_iff_not]
 omega
theorem rk15 (p0 p1 p2 p3 pf:Int)(S:X53_0)(F:Int→D53_0):(cond (!decide (p0=pf)) (some (Sum.inr (F 2))) (cond (decide (p1≤p0)) (some (Sum.inr (F 7))) (cond (decide (100000000<p1)) (some (Sum.inr (F 7)))
 (cond (!inB p2 (-10000000) 10000000) (some (Sum.inr (F 7))) (cond (!inB p3 (-10000000) 10000000) (some (Sum.inr (F 7))) (cond (decide (p3<p2)) (some (Sum.inr (F 7))) (some (Sum.inl S)))))))) =
  some (if wtE p0 p1 p2 p3 pf=0 then Sum.inl S else Sum.inr (F (wtE p0 p1 p2 p3 pf))):=by
 unfold wtE
 rw[spB_alt _ _ _ (by omega)]
 by_cases q0:p0=pf
 ·subst q0
  by_cases q1:p1≤p0
  ·simp [q1]
  ·by_cases q2:100000000<p1
   ·simp [q1,q2]
   ·cases q3:inB p2 (-10000000) 10000000<;>cases q4:inB p3 (-10000000) 10000000<;>by_cases q5:p3<p2<;>simp [q1,q2,q5]
 ·simp [q0]
theorem rs15 (p0 p1 p2 p3 p4:Int)(S:X53_1)(F:Int→D53_1):(cond (!arB p0 p1 p2 p3) (some (Sum.inr (F 7))) (cond (!inB p4 0 2000) (some (Sum.inr (F 7))) (some (Sum.inl S)))) =
  some (if seE p0 p1 p2 p3 p4=0 then Sum.inl S else Sum.inr (F (seE p0 p1 p2 p3 p4))):=by
 unfold seE
 cases hA:arB p0 p1 p2 p3 with
 | false=>simp
 | true =>
  by_cases s0:p4<0
  ·have:inB p4 0 2000=false:=by unfold inB;simp;omega
   simp [s0,this]
  ·by_cases s1:2000<p4
   ·have:inB p4 0 2000=false:=by unfold inB;simp;omega
    simp [s0,s1,this]
   ·have:inB p4 0 2000=true:=by unfold inB;simp;omega
    simp [s0,s1,this]
theorem loop53_0 (g1:GL I4 4 c1 n1)(few:n1≤1000):∀m k:Nat,k+m=n1 →
  loopR rd53_0 ⟨(k:Int),c1,0,n1,c2,0,n2,x,y,a,b,c,e,g,u,z⟩=some (out53_0 c1 c2 n1 n2 x y a b c e g u z (fst1 (wtK c1) m k))
 | 0,k,h=>by
  obtain rfl:k=n1:=by omega
  have h1:¬((k:Int)<(k:Int)):=by omega
  refine loopR_done ?_
  simp only[rd53_0,RT.val,mq,h1,Int.ofNat_eq_natCast,decide_false,cond_false,fst1,out53_0]
 | m+1,k,h=>by
  have hk:k<n1:=by omega
  have hki:(k:Int)<(n1:Int):=by omega
  have h0:(0:Int)≤(k:Int):=by omega
  have h3:IntKind.wrap .i64 ((k:Int)+1)=((k+1:Nat):Int):=by rw[wrap64_id (by omega) (by omega)];omega
  have hr:=row4 g1 hk
  have key:(rd53_0 ⟨(k:Int),c1,0,n1,c2,0,n2,x,y,a,b,c,e,g,u,z⟩).val=some (if wtK c1 k=0 then .inl ⟨((k+1:Nat):Int),c1,0,n1,c2,0,n2,x,y,a,b,c,e,g,u,z⟩ else .inr (.k0 2 (k:Int) (wtK c1 k) c1 0 n1 c2 0 n2 x y a b c e g u z)):=by
   obtain ⟨r0,r1⟩:=rd_and hr;unfold wtK
   by_cases hk0:k=0
   ·have hfr:frI c1 k=0:=by unfold frI;rw[if_pos hk0]
    have hlt:¬((0:Int)<(k:Int)):=by omega
    rw[hfr];simp only[rd53_0,RT.val,mq,hki,h0,h3,hr,hlt,(F34_of _ _ _).1,(F34_of _ _ _).2,Int.toNat_natCast,Int.ofNat_eq_natCast,decide_true,decide_false,Bool.and_self,cond_true,cond_false]
    exact rk15 _ _ _ _ _ _ (fun r=>.k0 2 (k:Int) r c1 0 n1 c2 0 n2 x y a b c e g u z)
   ·have hfr:frI c1 k=getInt c1 (0+(k-1)*4+1):=by unfold frI;rw[if_neg hk0]
    have hlt:(0:Int)<(k:Int):=by omega
    have hw:IntKind.wrap .i64 ((k:Int)-1)=((k-1:Nat):Int):=by rw[wrap64_id (by omega) (by omega)];omega
    have h0':(0:Int)≤((k-1:Nat):Int):=by omega
    have hlt':((k-1:Nat):Int)<(n1:Int):=by omega
    have hi:isInt .i64 c1 (0+(k-1)*4+1)=true:=(rd_and (rd_and (row4 g1 (show k-1<n1 by omega))).2).1
    rw[hfr];simp only[rd53_0,RT.val,mq,hki,h0,h3,hr,hlt,hw,h0',hlt',hi,(F34_of _ _ _).1,(F34_of _ _ _).2,Int.toNat_natCast,Int.ofNat_eq_natCast,decide_true,decide_false,Bool.and_self,cond_true,cond_false]
    exact rk15 _ _ _ _ _ _ (fun r=>.k0 2 (k:Int) r c1 0 n1 c2 0 n2 x y a b c e g u z)
  unfold fst1
  by_cases he:wtK c1 k=0
  ·rw[if_pos he]
   rw[if_pos he]at key
   exact (loopR_next key).trans (loop53_0 g1 few m (k+1) (by omega))
  ·rw[if_neg he]
   rw[if_neg he]at key;exact loopR_done key
theorem loop53_1 (g2:GL I5 5 c2 n2)(few:n2≤1000):∀m k:Nat,k+m=n2 →
  loopR rd53_1 ⟨(k:Int),c1,0,n1,c2,0,n2,x,y,a,b,c,e,g,u,z⟩=some (out53_1 c1 c2 n1 n2 x y a b c e g u z (fst1 (seK c2) m k))
 | 0,k,h=>by
  obtain rfl:k=n2:=by omega
  have h1:¬((k:Int)<(k:Int)):=by omega
  refine loopR_done ?_
  simp only[rd53_1,RT.val,mq,h1,Int.ofNat_eq_natCast,decide_false,cond_false,fst1,out53_1]
 | m+1,k,h=>by
  have hk:k<n2:=by omega
  have hki:(k:Int)<(n2:Int):=by omega
  have h0:(0:Int)≤(k:Int):=by omega
  have h3:IntKind.wrap .i64 ((k:Int)+1)=((k+1:Nat):Int):=by rw[wrap64_id (by omega) (by omega)];omega
  have hr:=row5 g2 hk;obtain ⟨r0,q0⟩:=rd_and hr;obtain ⟨r1,q1⟩:=rd_and q0;obtain ⟨r2,q2⟩:=rd_and q1;obtain ⟨r3,q3⟩:=rd_and q2;obtain ⟨r4,_⟩:=rd_and q3
  have hr4:rdOk c2 [(Leaf.int .i64),(Leaf.int .i64),(Leaf.int .i64),(Leaf.int .i64)] (0+k*5+0)=true:=by
   show rdOk c2 [(Leaf.int .i64),(Leaf.int .i64),(Leaf.int .i64),(Leaf.int .i64)] (0+k*5)=true
   simp only[rdOk,r0,r1,r2,r3,Bool.and_self]
  have hi:isInt .i64 c2 (0+k*5+4)=true:=r4
  have key:(rd53_1 ⟨(k:Int),c1,0,n1,c2,0,n2,x,y,a,b,c,e,g,u,z⟩).val=some (if seK c2 k=0 then .inl ⟨((k+1:Nat):Int),c1,0,n1,c2,0,n2,x,y,a,b,c,e,g,u,z⟩ else .inr (.k0 3 (k:Int) (seK c2 k) c1 0 n1 c2 0 n2 x y a b c e g u z)):=by
   unfold seK;simp only[rd53_1,RT.val,mq,hki,h0,h3,hr4,hi,(F34_of _ _ _).1,(F34_of _ _ _).2,(F90_of _ _ _ _).1,(F90_of _ _ _ _).2,Int.toNat_natCast,Int.ofNat_eq_natCast,decide_true,decide_false,Bool.and_self,cond_true,cond_false]
   exact rs15 _ _ _ _ _ _ (fun r=>.k0 3 (k:Int) r c1 0 n1 c2 0 n2 x y a b c e g u z)
  unfold fst1
  by_cases he:seK c2 k=0
  ·rw[if_pos he]
   rw[if_pos he]at key
   exact (loopR_next key).trans (loop53_1 g2 few m (k+1) (by omega))
  ·rw[if_neg he]
   rw[if_neg he]at key;exact loopR_done key
end
def ckS (c1 c2:Array Value)(n1 n2:Nat)(x y a b c e g u z:Int):Int×Int×Int :=
 if n1<1∨20<n1∨n2<1∨40<n2 then (1,0,3)
 else match fst1 (wtK c1) n1 0 with
  | some (i,r)=>(2,(i:Int),r)
  | none=>match fst1 (seK c2) n2 0 with
   | some (i,r)=>(3,(i:Int),r)
   | none=>if (arB x x y y&&(arB a b c e&&(inB g 0 1000000000&&(inB u 0 6000&&inB z 0 6000))))=true then (0,0,0) else (4,0,7)
section
variable {c1 c2:Array Value}{n1 n2:Nat}{x y a b c e g u z:Int}
theorem inB_alt (p f:Int)(hf:0≤f):inB p 0 f=(!decide (p<0)&&!decide (f<p)):=by
 unfold inB;rw[Bool.eq_iff_iff];simp only[Bool.and_eq_true,decide_eq_true_eq,Bool.not_eq_true',decide_eq_false_iff_not]
 omega
theorem F26_eq (g1:GL I4 4 c1 n1)(g2:GL I5 5 c2 n2):F26 c1 0 n1 c2 0 n2 x y a b c e g u z=some ⟨(ckS c1 c2 n1 n2 x y a b c e g u z).1,(ckS c1 c2 n1 n2 x y a b c e g u z).2.1,(ckS c1 c2 n1 n2 x y a b c e g u z).2.2⟩:=by
 unfold F26 rt26 ckS
 by_cases h1:n1<1
 ·have:(n1:Int)<1:=by omega
  rw[if_pos (.inl h1)];simp only[RT.val,mq,this,Int.ofNat_eq_natCast,decide_true,cond_true]
 have i1:¬(n1:Int)<1:=by omega
 by_cases h2:20<n1
 ·have:(20:Int)<(n1:Int):=by omega
  rw[if_pos (.inr (.inl h2))];simp only[RT.val,mq,i1,this,Int.ofNat_eq_natCast,decide_true,decide_false,cond_true,cond_false]
 have i2:¬(20:Int)<(n1:Int):=by omega
 by_cases h3:n2<1
 ·have:(n2:Int)<1:=by omega
  rw[if_pos (.inr (.inr (.inl h3)))];simp only[RT.val,mq,i1,i2,this,Int.ofNat_eq_natCast,decide_true,decide_false,cond_true,cond_false]
 have i3:¬(n2:Int)<1:=by omega
 by_cases h4:40<n2
 ·have:(40:Int)<(n2:Int):=by omega
  rw[if_pos (.inr (.inr (.inr h4)))];simp only[RT.val,mq,i1,i2,i3,this,Int.ofNat_eq_natCast,decide_true,decide_false,cond_true,cond_false]
 have i4:¬(40:Int)<(n2:Int):=by omega
 rw[if_neg (by omega)]
 have l0:L26_0 (Y26_0 c1 0 n1 c2 0 n2 x y a b c e g u z)=some (out26_0 c1 c2 n1 n2 x y a b c e g u z (fst1 (wtK c1) n1 0)):=loop26_0 (c2:=c2) (n2:=n2) (x:=x) (y:=y) (a:=a) (b:=b) (c:=c) (e:=e) (g:=g) (u:=u) (z:=z) g1 (by omega) n1 0 (by omega)
 cases hf:fst1 (wtK c1) n1 0 with
 | some p =>
  obtain ⟨i,r⟩:=p;rw[hf]at l0;simp only[out26_0]at l0;simp only[RT.val,mq,i1,i2,i3,i4,Int.ofNat_eq_natCast,decide_false,cond_false,cond_true,L26_0_k0,Qa0,Qa1,Qa2,l0]
 | none =>
  rw[hf]at l0;simp only[out26_0]at l0
  have l1:L26_1 (Y26_1 c1 0 n1 c2 0 n2 x y a b c e g u z)=some (out26_1 c1 c2 n1 n2 x y a b c e g u z (fst1 (seK c2) n2 0)):=by
   refine Eq.trans ?_ (loop26_1 (c1:=c1) (n1:=n1) (x:=x) (y:=y) (a:=a) (b:=b) (c:=c) (e:=e) (g:=g) (u:=u) (z:=z) g2 (by omega) n2 0 (by omega))
   unfold L26_1 Y26_1;simp only[Qb0,Qb1,Qb2,Qb3,Qb4,Qb5,Qb6,Qb7,Qb8,Qb9,Qb10,Qb11,Qb12,Qb13,Qb14,l0,Int.ofNat_eq_natCast]
   rfl
  cases hs:fst1 (seK c2) n2 0 with
  | some p =>
   obtain ⟨i,r⟩:=p;rw[hs]at l1;simp only[out26_1]at l1;simp only[RT.val,mq,i1,i2,i3,i4,Int.ofNat_eq_natCast,decide_false,cond_false,cond_true,L26_0_k0,L26_0_k1,l0,L26_1_k0,Qc0,Qc1,Qc2,l1]
  | none =>
   rw[hs]at l1;simp only[out26_1]at l1;simp only[RT.val,mq,i1,i2,i3,i4,Int.ofNat_eq_natCast,decide_false,cond_false,cond_true,L26_0_k0,L26_0_k1,l0,L26_1_k0,L26_1_k1,Qd0,Qd1,Qd2,Qd3,Qd4,Qd5,Qd6,Qd7,Qd8,Qd9,Qd10,Qd11,Qd12,Qd13,Qd14,l1,(F58_of _ _).1,(F58_of _ _).2,(F57_of _ _ _ _).1,(F57_of _ _ _ _).2,(F59_of _).1,(F59_of _).2]
   rw[inB_alt g _ (by omega)]
   cases arB x x y y<;>cases arB a b c e<;>by_cases s1:g<0<;>by_cases s2:1000000000<g<;>cases inB u 0 6000<;>cases inB z 0 6000<;>simp [s1,s2]
theorem F53_eq (g1:GL I4 4 c1 n1)(g2:GL I5 5 c2 n2):F53 c1 0 n1 c2 0 n2 x y a b c e g u z=some ⟨(ckS c1 c2 n1 n2 x y a b c e g u z).1,(ckS c1 c2 n1 n2 x y a b c e g u z).2.1,(ckS c1 c2 n1 n2 x y a b c e g u z).2.2⟩:=by
 unfold F53 rt53 ckS;simp only[(F34_of _ _ _).1,(F34_of _ _ _).2,(F91_of _).1,(F91_of _).2,(F90_of _ _ _ _).1,(F90_of _ _ _ _).2]
 by_cases h1:n1<1∨20<n1
 ·have:inB (n1:Int) 1 20=false:=by unfold inB;simp;omega
  rw[if_pos (by omega)]
  simp only[RT.val,mq,this,Int.ofNat_eq_natCast,Bool.not_false,cond_true]
 have i1:inB (n1:Int) 1 20=true:=by unfold inB;simp;omega
 by_cases h2:n2<1∨40<n2
 ·have:inB (n2:Int) 1 40=false:=by unfold inB;simp;omega
  rw[if_pos (by omega)]
  simp only[RT.val,mq,i1,this,Int.ofNat_eq_natCast,Bool.not_true,Bool.not_false,cond_true,cond_false]
 have i2:inB (n2:Int) 1 40=true:=by unfold inB;simp;omega
 rw[if_neg (by omega)]
 have l0:L53_0 (Y53_0 c1 0 n1 c2 0 n2 x y a b c e g u z)=some (out53_0 c1 c2 n1 n2 x y a b c e g u z (fst1 (wtK c1) n1 0)):=loop53_0 (c2:=c2) (n2:=n2) (x:=x) (y:=y) (a:=a) (b:=b) (c:=c) (e:=e) (g:=g) (u:=u) (z:=z) g1 (by omega) n1 0 (by omega)
 cases hf:fst1 (wtK c1) n1 0 with
 | some p =>
  obtain ⟨i,r⟩:=p;rw[hf]at l0;simp only[out53_0]at l0;simp only[RT.val,mq,i1,i2,Int.ofNat_eq_natCast,Bool.not_true,cond_false,cond_true,L53_0_k0,Qe0,Qe1,Qe2,l0]
 | none =>
  rw[hf]at l0;simp only[out53_0]at l0
  have l1:L53_1 (Y53_1 c1 0 n1 c2 0 n2 x y a b c e g u z)=some (out53_1 c1 c2 n1 n2 x y a b c e g u z (fst1 (seK c2) n2 0)):=by
   refine Eq.trans ?_ (loop53_1 (c1:=c1) (n1:=n1) (x:=x) (y:=y) (a:=a) (b:=b) (c:=c) (e:=e) (g:=g) (u:=u) (z:=z) g2 (by omega) n2 0 (by omega))
   unfold L53_1 Y53_1;simp only[Qf0,Qf1,Qf2,Qf3,Qf4,Qf5,Qf6,Qf7,Qf8,Qf9,Qf10,Qf11,Qf12,Qf13,Qf14,l0,Int.ofNat_eq_natCast]
   rfl
  cases hs:fst1 (seK c2) n2 0 with
  | some p =>
   obtain ⟨i,r⟩:=p;rw[hs]at l1;simp only[out53_1]at l1;simp only[RT.val,mq,i1,i2,Int.ofNat_eq_natCast,Bool.not_true,cond_false,cond_true,L53_0_k0,L53_0_k1,l0,L53_1_k0,Qg0,Qg1,Qg2,l1]
  | none =>
   rw[hs]at l1;simp only[out53_1]at l1;simp only[RT.val,mq,i1,i2,Int.ofNat_eq_natCast,Bool.not_true,cond_false,cond_true,L53_0_k0,L53_0_k1,l0,L53_1_k0,L53_1_k1,Qh0,Qh1,Qh2,Qh3,Qh4,Qh5,Qh6,Qh7,Qh8,Qh9,Qh10,Qh11,Qh12,Qh13,Qh14,l1,(F34_of _ _ _).1,(F34_of _ _ _).2,(F91_of _).1,(F91_of _).2,(F90_of _ _ _ _).1,(F90_of _ _ _ _).2]
   have hp:arB x x y y=(inB x (-500000000) 500000000&&inB y (-500000000) 500000000):=by
    unfold arB
    rw[spB_alt _ _ _ (by omega),spB_alt _ _ _ (by omega)]
    cases inB x (-500000000) 500000000<;>cases inB y (-500000000) 500000000<;>simp
   rw[hp]
   cases inB x (-500000000) 500000000<;>cases inB y (-500000000) 500000000<;>cases arB a b c e<;>cases inB g 0 1000000000<;>cases inB u 0 6000<;>cases inB z 0 6000<;>rfl
end
end
end Go.Proofs.YtkcahhbhfmdpmaaGreat
namespace Go.Proofs.YtkcahhbhfmdpmaaGreat
open Go.Gi Go.RowKit Go.Proofs.YtkcahhbhfmdpmaaGreat.Old
noncomputable section
set_option maxRecDepth 100000
set_option maxHeartbeats 4000000
structure R110 where
 (r0:Bool)
structure A110 where
 (a0:Int)
def rt110 (a0:Int):RT R110 :=
 .br (decide ((-20000:Int)≤a0)) (.leaf ⟨(decide (a0≤(20000:Int)))⟩) (.leaf ⟨false⟩)
def en110 (r:R110):Value:=(.bool r.r0)
theorem T110  (a0:Int):evC Tryz.prog (Ans.c (fun _=>none:Ans)) 60 (.call 110 ⟨[(.int .i64 a0)]⟩ ⟨[],0,[]⟩) (frzK [0])=(rt110 a0).out (fun r=>.ret (en110 r) ⟨[],0,[]⟩):=by kernel_rfl
def F110 (a0:Int):Option R110:=(rt110 a0).val
section
variable (a0:Int)
def F110_ok:Bool:=(F110 a0).isSome
def F110_0:Bool:=match F110 a0 with | some r=>r.r0 | none=>false
end
def dec110:Task→Option (A110×Hp)
 | .call g ⟨[(.int .i64 a0)]⟩ h=>(match Nat.beq g 110 with | true=>some (⟨a0⟩,h) | false=>none)
 | _=>none
def alt110 (x:A110)(h:Hp):AT:=.br (F110_ok x.a0) (.leaf (.ret (.bool (F110_0 x.a0)) h)) .no
def p110:Ans:=fnAns dec110 alt110
theorem ha110:∀(x:A110) (h:Hp)(o:Out),(alt110 x h).out=some o→∃r,(rt110 x.a0).val=some r∧o=.ret (en110 r) h:=by
 intro x h o e;unfold alt110 at e;simp only[AT.out]at e;obtain ⟨g,e⟩:=cond_some e;unfold F110_ok at g;obtain ⟨r,hF⟩:=Option.isSome_iff_exists.1 g
 refine ⟨r,by delta F110 at hF;exact hF,?_⟩
 simp only[Option.some.injEq]at e;rw[← e]
 unfold F110_0;rw[hF]<;>rfl
theorem hd110:∀(t:Task) (x:A110)(h:Hp),dec110 t=some (x,h)→t=.call 110 ⟨[(.int .i64 x.a0)]⟩ h:=by
 intro t x h e;unfold dec110 at e
 split at e
 case h_2=>cases e
 split at e
 case h_2=>cases e
 rename_i hg;simp only[Option.some.injEq,Prod.mk.injEq]at e;obtain ⟨rfl,rfl⟩:=e;rw[Nat.eq_of_beq_eq_true hg]
theorem known110:Known Tryz.prog p110:=by
 exact Known.fn noNG mixed (Known.nothing Tryz.prog) (n:=60) (zs:=[0]) 110 (fun x:A110=>[(.int .i64 x.a0)]) (fun x=>rt110 x.a0) en110 (fun x=>T110  x.a0) (fun x=>rfl) dec110 alt110 hd110 ha110
structure R97 where
 (r0:Bool)
structure A97 where
 (a0 a1:Int)
def rt97 (a0 a1:Int):RT R97 :=
 .br (decide (a0≤a1)) (.br (F110_ok a0) (.br (F110_0 a0) (.br (F110_ok a1) (.leaf ⟨(F110_0 a1)⟩) (.no)) (.leaf ⟨false⟩)) (.no)) (.leaf ⟨false⟩)
def en97 (r:R97):Value:=(.bool r.r0)
theorem T97  (a0 a1:Int):evC Tryz.prog (Ans.c p110) 60 (.call 97 ⟨[(.agg ⟨[(.int .i64 a0),(.int .i64 a1)]⟩)]⟩ ⟨[],0,[]⟩) (frzK [0])=(rt97 a0 a1).out (fun r=>.ret (en97 r) ⟨[],0,[]⟩):=by kernel_rfl
def F97 (a0 a1:Int):Option R97:=(rt97 a0 a1).val
section
variable (a0 a1:Int)
def F97_ok:Bool:=(F97 a0 a1).isSome
def F97_0:Bool:=match F97 a0 a1 with | some r=>r.r0 | none=>false
end
def dec97:Task→Option (A97×Hp)
 | .call g ⟨[(.agg ⟨[(.int .i64 a0),(.int .i64 a1)]⟩)]⟩ h=>(match Nat.beq g 97 with | true=>some (⟨a0,a1⟩,h) | false=>none)
 | _=>none
def alt97 (x:A97)(h:Hp):AT:=.br (F97_ok x.a0 x.a1) (.leaf (.ret (.bool (F97_0 x.a0 x.a1)) h)) .no
def p97:Ans:=fnAns dec97 alt97
theorem ha97:∀(x:A97) (h:Hp)(o:Out),(alt97 x h).out=some o→∃r,(rt97 x.a0 x.a1).val=some r∧o=.ret (en97 r) h:=by
 intro x h o e;unfold alt97 at e;simp only[AT.out]at e;obtain ⟨g,e⟩:=cond_some e;unfold F97_ok at g;obtain ⟨r,hF⟩:=Option.isSome_iff_exists.1 g
 refine ⟨r,by delta F97 at hF;exact hF,?_⟩
 simp only[Option.some.injEq]at e;rw[← e]
 unfold F97_0;rw[hF]<;>rfl
theorem hd97:∀(t:Task) (x:A97)(h:Hp),dec97 t=some (x,h)→t=.call 97 ⟨[(.agg ⟨[(.int .i64 x.a0),(.int .i64 x.a1)]⟩)]⟩ h:=by
 intro t x h e;unfold dec97 at e
 split at e
 case h_2=>cases e
 split at e
 case h_2=>cases e
 rename_i hg;simp only[Option.some.injEq,Prod.mk.injEq]at e;obtain ⟨rfl,rfl⟩:=e;rw[Nat.eq_of_beq_eq_true hg]
theorem known97:Known Tryz.prog p97:=by
 exact Known.fn noNG mixed known110 (n:=60) (zs:=[0]) 97 (fun x:A97=>[(.agg ⟨[(.int .i64 x.a0),(.int .i64 x.a1)]⟩)]) (fun x=>rt97 x.a0 x.a1) en97 (fun x=>T97  x.a0 x.a1) (fun x=>rfl) dec97 alt97 hd97 ha97
structure R60 where
 (r0:Int)
structure A60 where
 (a0 a1:Int)
 (a2 a3:Int)
 (a4 a5 a6:Int)
def rt60 (a0 a1:Int)(a2 a3:Int)(a4 a5 a6:Int):RT R60 :=
 .br (not (decide (a0=a6))) (.leaf ⟨(2:Int)⟩) (.br (decide (a1≤a0)) (.leaf ⟨(7:Int)⟩) (.br (decide ((100000000:Int)<a1)) (.leaf ⟨(7:Int)⟩) (.br (F97_ok a2 a3) (.br (not (F97_0 a2 a3)) (.leaf ⟨(7:Int)⟩) (.br (F97_ok a4 a5) (.br (not (F97_0 a4 a5)) (.leaf ⟨(7:Int)⟩) (.leaf ⟨(0:Int)⟩)) (.no))) (.no))))
def en60 (r:R60):Value:=(.int .i64 r.r0)
theorem T60  (a0 a1:Int) (a2 a3:Int) (a4 a5 a6:Int):evC Tryz.prog (Ans.c p97) 60 (.call 60 ⟨[(.agg ⟨[(.int .i64 a0),(.int .i64 a1),(.int .i64 a2),(.int .i64 a3),(.int .i64 a4),(.int .i64 a5)]⟩),(.int .i64 a6)]⟩ ⟨[],0,[]⟩) (frzK [0])=(rt60 a0 a1 a2 a3 a4 a5 a6).out (fun r=>.ret (en60 r) ⟨[],0,[]⟩):=by kernel_rfl
def F60 (a0 a1:Int)(a2 a3:Int)(a4 a5 a6:Int):Option R60:=(rt60 a0 a1 a2 a3 a4 a5 a6).val
section
variable (a0 a1:Int) (a2 a3:Int) (a4 a5 a6:Int)
def F60_ok:Bool:=(F60 a0 a1 a2 a3 a4 a5 a6).isSome
def F60_0:Int:=match F60 a0 a1 a2 a3 a4 a5 a6 with | some r=>r.r0 | none=>0
end
def dec60:Task→Option (A60×Hp)
 | .call g ⟨[(.agg ⟨[(.int .i64 a0),(.int .i64 a1),(.int .i64 a2),(.int .i64 a3),(.int .i64 a4),(.int .i64 a5)]⟩),(.int .i64 a6)]⟩ h=>(match Nat.beq g 60 with | true=>some (⟨a0,a1,a2,a3,a4,a5,a6⟩,h) | false=>none)
 | _=>none
def alt60 (x:A60)(h:Hp):AT:=.br (F60_ok x.a0 x.a1 x.a2 x.a3 x.a4 x.a5 x.a6) (.leaf (.ret (.int .i64 (F60_0 x.a0 x.a1 x.a2 x.a3 x.a4 x.a5 x.a6)) h)) .no
def p60:Ans:=fnAns dec60 alt60
theorem ha60:∀(x:A60) (h:Hp)(o:Out),(alt60 x h).out=some o→∃r,(rt60 x.a0 x.a1 x.a2 x.a3 x.a4 x.a5 x.a6).val=some r∧o=.ret (en60 r) h:=by
 intro x h o e;unfold alt60 at e;simp only[AT.out]at e;obtain ⟨g,e⟩:=cond_some e;unfold F60_ok at g;obtain ⟨r,hF⟩:=Option.isSome_iff_exists.1 g
 refine ⟨r,by delta F60 at hF;exact hF,?_⟩
 simp only[Option.some.injEq]at e;rw[← e]
 unfold F60_0;rw[hF]<;>rfl
theorem hd60:∀(t:Task) (x:A60)(h:Hp),dec60 t=some (x,h)→t=.call 60 ⟨[(.agg ⟨[(.int .i64 x.a0),(.int .i64 x.a1),(.int .i64 x.a2),(.int .i64 x.a3),(.int .i64 x.a4),(.int .i64 x.a5)]⟩),(.int .i64 x.a6)]⟩ h:=by
 intro t x h e;unfold dec60 at e
 split at e
 case h_2=>cases e
 split at e
 case h_2=>cases e
 rename_i hg;simp only[Option.some.injEq,Prod.mk.injEq]at e;obtain ⟨rfl,rfl⟩:=e;rw[Nat.eq_of_beq_eq_true hg]
theorem known60:Known Tryz.prog p60:=by
 exact Known.fn noNG mixed known97 (n:=60) (zs:=[0]) 60 (fun x:A60=>[(.agg ⟨[(.int .i64 x.a0),(.int .i64 x.a1),(.int .i64 x.a2),(.int .i64 x.a3),(.int .i64 x.a4),(.int .i64 x.a5)]⟩),(.int .i64 x.a6)]) (fun x=>rt60 x.a0 x.a1 x.a2 x.a3 x.a4 x.a5 x.a6) en60 (fun x=>T60  x.a0 x.a1 x.a2 x.a3 x.a4 x.a5 x.a6) (fun x=>rfl) dec60 alt60 hd60 ha60
structure X27_0 where
 (v0:Int)
 (v1:Array Value)
 (v2 v3:Nat)
 (v4 v5:Int)
inductive D27_0 where
 | k0 (d0 d1:Int)
 | k1
def Lp27_0:LoopOf X27_0 D27_0 where
 c:=(theLoop Tryz.prog 27 0)
 N:=33
 M:=0
 S:=[4,16,17,18]
 sl:=fun x=>[(.int .i64 x.v0),(lstV x.v1 x.v2 x.v3 6),(.int .i64 x.v4),(.int .i64 x.v5)]
 hp:=fun x=>[]
 ex:=fun d=>match d with | .k0 ..=>.ret | .k1 ..=>.exit 0
 pick:=fun e=>match e with | .ret=>[2,3] | .exit 0=>[] | _=>[]
 dv:=fun d=>match d with | .k0 d0 d1=>[(.int .i64 d0),(.int .i64 d1)] | .k1 =>[]
 dh:=fun d=>match d with | .k0 d0 d1=>[] | .k1 =>[]
theorem ok27_0:Lp27_0.Ok:=⟨fun x=>rfl,fun x=>rfl,fun x=>rfl,fun x=>rfl,fun d=>by cases d<;>rfl,fun d=>by cases d<;>rfl,fun d=>by cases d<;>rfl,fun d=>by cases d<;>(intro h;cases h),fun d=>by cases d<;>rfl,fun d=>by cases d<;>rfl⟩
def rd27_0 (x:X27_0):RT (Sum X27_0 D27_0):=match x with
 | ⟨v0,v1,v2,v3,v4,v5⟩ =>let u1:=(Int.toNat v5);let u0:=(F60_0 (getInt v1 (v2+(u1*6))) (getInt v1 ((v2+(u1*6))+1)) (getInt v1 (((v2+(u1*6))+1)+1)) (getInt v1 ((((v2+(u1*6))+1)+1)+1)) (getInt v1 (((((v2+(u1*6))+1)+1)+1)+1)) (getInt v1 ((((((v2+(u1*6))+1)+1)+1)+1)+1)) v0);let u2:=(Leaf.int .i64);
   .br (decide (v5<v4)) (.br (and (decide ((0:Int)≤v5)) (decide (v5<(Int.ofNat v3)))) (.br (rdOk v1 [u2,u2,u2,u2,u2,u2] (v2+(u1*6))) (.br (F60_ok (getInt v1 (v2+(u1*6))) (getInt v1 ((v2+(u1*6))+1)) (getInt v1 (((v2+(u1*6))+1)+1)) (getInt v1 ((((v2+(u1*6))+1)+1)+1)) (getInt v1 (((((v2+(u1*6))+1)+1)+1)+1)) (getInt v1 ((((((v2+(u1*6))+1)+1)+1)+1)+1)) v0)
   (.br (not (decide (u0=(0:Int)))) (.leaf (.inr (.k0 v5 (u0)))) (.leaf (.inl ⟨(getInt v1 ((v2+(u1*6))+1)),v1,v2,v3,v4,(IntKind.wrap .i64 (v5+(1:Int)))⟩))) (.no)) (.no)) (.no)) (.leaf (.inr (.k1)))
theorem T27_0  (y:List Value) (v0:Int) (v1:Array Value) (v2 v3:Nat) (v4 v5:Int):evC Tryz.prog (Ans.c p60) 60 (.code none (theLoop Tryz.prog 27 0) ⟨sets (junkF 33 y) [(4,(.int .i64 v0)),(16,(lstV v1 v2 v3 6)),(17,(.int .i64 v4)),(18,(.int .i64 v5))],[],⟨[],0,[]⟩⟩) (sumK 0 33 Lp27_0.pk)=(rd27_0 ⟨v0,v1,v2,v3,v4,v5⟩).out Lp27_0.enc:=by kernel_rfl
def L27_0 (x:X27_0):Option D27_0:=loopR rd27_0 x
section
variable (x:X27_0)
def L27_0_k0:Bool:=match L27_0 x with | some (.k0 ..)=>true | _=>false
def Qi0:Int:=match L27_0 x with | some (.k0 d _)=>d | _=>0
def Qi1:Int:=match L27_0 x with | some (.k0 _ d)=>d | _=>0
def L27_0_k1:Bool:=match L27_0 x with | some (.k1 ..)=>true | _=>false
end
def dec27_0:Task→Option (Code×X27_0)
 | .code none (.loop code) ⟨t,[],⟨[],0,[]⟩⟩ =>
  (match Nat.beq (firstReg code) 5,lenIs t 33,lget t 4,lget t 16,lget t 17,lget t 18 with
  | true,true,(.int .i64 v0),(.func (.via 0 ⟨[]⟩ 0 true) v1 ⟨[.slice (some ⟨0,v2,none⟩) v3 6]⟩),(.int .i64 v4),(.int .i64 v5)=>some (code,⟨v0,v1,v2,v3,v4,v5⟩)
  | _,_,_,_,_,_=>none)
 | _=>none
def alt27_0 (x:X27_0)(j:List Value):AT:=.br (L27_0_k0 x) (loopEnd 33 (.ret) [(2,(.int .i64 (Qi0 x))),(3,(.int .i64 (Qi1 x)))] ⟨[],0,[]⟩ j) (.br (L27_0_k1 x) (loopEnd 33 (.exit 0) [] ⟨[],0,[]⟩ j) (.no))
def la27_0 (J:Task→List Value):Ans:=loopAns Lp27_0.c dec27_0 alt27_0 J
theorem ha27_0:∀(x:X27_0) (j:List Value)(o:Out),(alt27_0 x j).out=some o→∃d,loopR rd27_0 x=some d∧o=Lp27_0.tail d j:=by
 intro x j o h;unfold alt27_0 at h
 cases hL:L27_0 x with
 | none=>simp [L27_0_k0,Qi0,Qi1,L27_0_k1,hL,AT.out]at h
 | some d =>
  refine ⟨d,hL,?_⟩
  cases d<;>(simp only[L27_0_k0,Qi0,Qi1,L27_0_k1,hL,AT.out,loopEnd,cond_true,cond_false,Option.some.injEq]at h;rw[← h];rfl)
theorem hd27_0:∀(t:Task) (c:Code)(x:X27_0),dec27_0 t=some (c,x)→c=Lp27_0.c→∃T,t=.code none (.loop Lp27_0.c) ⟨T,[],⟨Lp27_0.hp x,0,[]⟩⟩∧T.length=Lp27_0.N∧∀kv∈Lp27_0.S.zip (Lp27_0.sl x),lget T kv.1=kv.2:=by
 intro t c x h hc;unfold dec27_0 at h
 split at h
 case h_2=>cases h
 split at h
 case h_2=>cases h
 simp only[Option.some.injEq,Prod.mk.injEq]at h;obtain ⟨rfl,rfl⟩:=h;subst hc
 refine ⟨_,rfl,lenIs_eq _ _ (by assumption),?_⟩
 intro kv hk;simp only[Lp27_0,List.zip_cons_cons,List.zip_nil_right,List.mem_cons,List.not_mem_nil,or_false]at hk
 rcases hk with rfl | rfl | rfl | rfl<;>assumption
theorem kl27_0:∃J,Known Tryz.prog (la27_0 J):=by
 exact LoopOf.known noNG mixed ok27_0 (by decide) (by decide) known60 (n:=60) (rd:=rd27_0) (fun x j=>T27_0  j x.v0 x.v1 x.v2 x.v3 x.v4 x.v5) dec27_0 alt27_0 hd27_0 ha27_0
structure R27 where
 (r0 r1:Int)
structure A27 where
 (a0:Array Value)
 (a1 a2:Nat)
def rt27 (a0:Array Value)(a1 a2:Nat):RT R27 :=
 .br (decide ((Int.ofNat a2)<(1:Int))) (.leaf ⟨(0:Int),(3:Int)⟩) (.br (decide ((20:Int)<(Int.ofNat a2))) (.leaf ⟨(0:Int),(3:Int)⟩)
  (.sw (eqCode (Lp27_0.c) (Lp27_0.c)) true (by simp only[eqCode_self,arrEq_self]) (.br (L27_0_k0 (X27_0.mk (0:Int) a0 a1 a2 (Int.ofNat a2) (0:Int))) (.leaf ⟨(Qi0 (X27_0.mk (0:Int) a0 a1 a2 (Int.ofNat a2) (0:Int))),(Qi1 (X27_0.mk (0:Int) a0 a1 a2 (Int.ofNat a2) (0:Int)))⟩) (.br (L27_0_k1 (X27_0.mk (0:Int) a0 a1 a2 (Int.ofNat a2) (0:Int))) (.leaf ⟨(0:Int),(0:Int)⟩) (.no))) (.no)))
def en27 (r:R27):Value:=(.tuple ⟨[(.int .i64 r.r0),(.int .i64 r.r1)]⟩)
theorem T27 (J0:Task→List Value)(a0:Array Value)(a1 a2:Nat):evC Tryz.prog (Ans.c (p60.or (la27_0 J0))) 60 (.call 27 ⟨[(lstV a0 a1 a2 6)]⟩ ⟨[],0,[]⟩) (frzK [0,0])=(rt27 a0 a1 a2).out (fun r=>.ret (en27 r) ⟨[],0,[]⟩):=by kernel_rfl
def F27 (a0:Array Value)(a1 a2:Nat):Option R27:=(rt27 a0 a1 a2).val
section
variable (a0:Array Value) (a1 a2:Nat)
def F27_ok:Bool:=(F27 a0 a1 a2).isSome
def F27_0:Int:=match F27 a0 a1 a2 with | some r=>r.r0 | none=>0
def F27_1:Int:=match F27 a0 a1 a2 with | some r=>r.r1 | none=>0
end
def dec27:Task→Option (A27×Hp)
 | .call g ⟨[(.func (.via 0 ⟨[]⟩ 0 true) a0 ⟨[.slice (some ⟨0,a1,none⟩) a2 6]⟩)]⟩ h=>(match Nat.beq g 27 with | true=>some (⟨a0,a1,a2⟩,h) | false=>none)
 | _=>none
def alt27 (x:A27)(h:Hp):AT:=.br (F27_ok x.a0 x.a1 x.a2) (.leaf (.ret (.tuple ⟨[(.int .i64 (F27_0 x.a0 x.a1 x.a2)),(.int .i64 (F27_1 x.a0 x.a1 x.a2))]⟩) h)) .no
def p27:Ans:=fnAns dec27 alt27
theorem ha27:∀(x:A27) (h:Hp)(o:Out),(alt27 x h).out=some o→∃r,(rt27 x.a0 x.a1 x.a2).val=some r∧o=.ret (en27 r) h:=by
 intro x h o e;unfold alt27 at e;simp only[AT.out]at e;obtain ⟨g,e⟩:=cond_some e;unfold F27_ok at g;obtain ⟨r,hF⟩:=Option.isSome_iff_exists.1 g
 refine ⟨r,by delta F27 at hF;exact hF,?_⟩
 simp only[Option.some.injEq]at e;rw[← e]
 unfold F27_0 F27_1;rw[hF]<;>rfl
theorem hd27:∀(t:Task) (x:A27)(h:Hp),dec27 t=some (x,h)→t=.call 27 ⟨[(lstV x.a0 x.a1 x.a2 6)]⟩ h:=by
 intro t x h e;unfold dec27 at e
 split at e
 case h_2=>cases e
 split at e
 case h_2=>cases e
 rename_i hg;simp only[Option.some.injEq,Prod.mk.injEq]at e;obtain ⟨rfl,rfl⟩:=e;rw[Nat.eq_of_beq_eq_true hg]
theorem known27:Known Tryz.prog p27:=by
 obtain ⟨J0,hJ0⟩:=kl27_0
 exact Known.fn noNG mixed (Known.or known60 hJ0) (n:=60) (zs:=[0,0]) 27 (fun x:A27=>[(lstV x.a0 x.a1 x.a2 6)]) (fun x=>rt27 x.a0 x.a1 x.a2) en27 (fun x=>T27 J0 x.a0 x.a1 x.a2) (fun x=>rfl) dec27 alt27 hd27 ha27
end
end Go.Proofs.YtkcahhbhfmdpmaaGreat
namespace Go.Proofs.YtkcahhbhfmdpmaaGreat
open Go.Gi Go.RowKit
noncomputable section
set_option maxRecDepth 100000
set_option maxHeartbeats 1000000
def I6:List Leaf:=[(Leaf.int .i64),(Leaf.int .i64),(Leaf.int .i64),(Leaf.int .i64),(Leaf.int .i64),(Leaf.int .i64)]
def spW (a b:Int):Bool:=decide (a≤b)&&(inB a (-20000) 20000&&inB b (-20000) 20000)
def bd (f t xl xh yl yh p:Int):Int:=if f=p then (if t≤f then 7 else if 100000000<t then 7 else if spW xl xh=true then (if spW yl yh=true then 0 else 7) else 7) else 2
def prv (c:Array Value):Nat→Int
 | 0=>0
 | k+1=>getInt c (k*6+1)
def bdE (c:Array Value)(k:Nat):Int:=bd (getInt c (k*6)) (getInt c (k*6+1)) (getInt c (k*6+2)) (getInt c (k*6+3)) (getInt c (k*6+4)) (getInt c (k*6+5)) (prv c k)
def bnF (c:Array Value)(n:Nat):Int×Int:=if n<1 then (0,3) else if 20<n then (0,3) else (match fst1 (bdE c) n 0 with | some (i,r)=>((i:Int),r) | none=>(0,0))
theorem F110_of (a:Int):F110_ok a=true∧F110_0 a=inB a (-20000) 20000:=by
 have q:F110 a=some ⟨inB a (-20000) 20000⟩:=by
  unfold F110 rt110 inB
  by_cases h:(-20000:Int)≤a<;>simp [RT.val,mq,h]
 exact ⟨by simp only[F110_ok,q];rfl,by simp only[F110_0,q]⟩
theorem F97_of (a b:Int):F97_ok a b=true∧F97_0 a b=spW a b:=by
 have q:F97 a b=some ⟨spW a b⟩:=by
  unfold F97 rt97 spW;simp only[RT.val,mq,(F110_of _).1,(F110_of _).2,cond_true]
  by_cases h:a≤b
  ·cases inB a (-20000) 20000<;>simp [h]
  ·simp [h]
 exact ⟨by simp only[F97_ok,q];rfl,by simp only[F97_0,q]⟩
theorem F60_of (f t xl xh yl yh p:Int):F60_ok f t xl xh yl yh p=true∧F60_0 f t xl xh yl yh p=bd f t xl xh yl yh p:=by
 have q:F60 f t xl xh yl yh p=some ⟨bd f t xl xh yl yh p⟩:=by
  unfold F60 rt60 bd;simp only[RT.val,mq,(F97_of _ _).1,(F97_of _ _).2,cond_true]
  by_cases h:f=p
  ·subst h
   by_cases h1:t≤f
   ·simp [h1]
   ·by_cases h2:(100000000:Int)<t
    ·simp [h1,h2]
    ·simp only[h1,h2,decide_true,decide_false,Bool.not_true,cond_false,if_true,if_false]
     cases spW xl xh<;>cases spW yl yh<;>rfl
  ·simp [h]
 exact ⟨by simp only[F60_ok,q];rfl,by simp only[F60_0,q]⟩
theorem rows6 {c:Array Value}{n k:Nat}(g:GL I6 6 c n) (hk:k<n):isInt .i64 c (k*6)=true∧isInt .i64 c (k*6+1)=true∧rdOk c [(Leaf.int .i64),(Leaf.int .i64)] (k*6+2)=true∧rdOk c [(Leaf.int .i64),(Leaf.int .i64)] (k*6+4)=true:=by
 have hr:rdOk c I6 (0+k*6)=true:=g.good.2 k hk;rw[Nat.zero_add]at hr;have hr':(isInt .i64 c (k*6)&&(isInt .i64 c (k*6+1)&&(isInt .i64 c (k*6+2)&&(isInt .i64 c (k*6+3)&&(isInt .i64 c (k*6+4)&&(isInt .i64 c (k*6+5)&&true))))))=true:=hr;simp only[Bool.and_eq_true]at hr';obtain ⟨h0,h1,h2,h3,h4,h5,_⟩:=hr'
 refine ⟨h0,h1,?_,?_⟩
 ·show (isInt .i64 c (k*6+2)&&(isInt .i64 c (k*6+3)&&true))=true
  rw[h2,h3];rfl
 ·show (isInt .i64 c (k*6+4)&&(isInt .i64 c (k*6+5)&&true))=true
  rw[h4,h5];rfl
section
variable {c:Array Value}{n:Nat}
theorem step27 (g:GL I6 6 c n)(few:n≤1000)(k:Nat)(hk:k<n):(rd27_0 ⟨prv c k,c,0,n,(n:Int),(k:Int)⟩).val =
  some (if bdE c k=0 then .inl ⟨prv c (k+1),c,0,n,(n:Int),((k+1:Nat):Int)⟩ else .inr (.k0 (k:Int) (bdE c k))):=by
 have hki:(k:Int)<(n:Int):=by omega
 have h0:(0:Int)≤(k:Int):=by omega
 have h3:IntKind.wrap .i64 ((k:Int)+1)=((k+1:Nat):Int):=by rw[wrap64_id (by omega) (by omega)];omega
 have hr:rdOk c I6 (0+k*6)=true:=g.good.2 k hk;unfold I6 at hr;unfold bdE;simp only[rd27_0,RT.val,mq,hki,h0,h3,hr,(F60_of _ _ _ _ _ _ _).1,(F60_of _ _ _ _ _ _ _).2,Int.toNat_natCast,Int.ofNat_eq_natCast,decide_true,Bool.and_self,cond_true];simp only[Nat.zero_add,Nat.add_assoc,Nat.reduceAdd]
 cases hb:decide (bd (getInt c (k*6)) (getInt c (k*6+1)) (getInt c (k*6+2)) (getInt c (k*6+3)) (getInt c (k*6+4)) (getInt c (k*6+5)) (prv c k)=0) with
 | true=>rw[if_pos (of_decide_eq_true hb)];rfl
 | false=>rw[if_neg (of_decide_eq_false hb)];rfl
theorem F27_eq (g:GL I6 6 c n):F27 c 0 n=some ⟨(bnF c n).1,(bnF c n).2⟩:=by
 unfold F27 rt27 bnF
 by_cases h1:n<1
 ·have i1:(n:Int)<1:=by omega
  rw[if_pos h1];simp only[RT.val,mq,i1,Int.ofNat_eq_natCast,decide_true,cond_true]
 have i1:¬(n:Int)<1:=by omega
 rw[if_neg h1]
 by_cases h2:20<n
 ·have i2:(20:Int)<(n:Int):=by omega
  rw[if_pos h2];simp only[RT.val,mq,i1,i2,Int.ofNat_eq_natCast,decide_true,decide_false,cond_true,cond_false]
 have i2:¬(20:Int)<(n:Int):=by omega
 rw[if_neg h2]
 have z1:¬(n:Int)<(n:Int):=by omega
 have l:L27_0 (X27_0.mk 0 c 0 n (n:Int) 0)=some (match fst1 (bdE c) n 0 with | some (i,r)=>.k0 (i:Int) r | none=>.k1) :=
  loop_fst (rd:=rd27_0) (S:=fun k=>X27_0.mk (prv c k) c 0 n (n:Int) (k:Int)) (E:=bdE c) (n:=n) (err:=fun i r=>.k0 (i:Int) r) (fin:=.k1)
   (fun k hk=>step27 g (by omega) k hk) (by simp only[rd27_0,RT.val,mq,z1,decide_false,cond_false]) n 0 (by omega)
 simp only[RT.val,mq,i1,i2,Int.ofNat_eq_natCast,eqCode_self,decide_false,cond_true,cond_false]
 cases hf:fst1 (bdE c) n 0 with
 | some ir =>
  obtain ⟨i,r⟩:=ir;rw[hf]at l;simp only[L27_0_k0,Qi0,Qi1,l,cond_true]
 | none =>
  rw[hf]at l;simp only[L27_0_k0,L27_0_k1,l,cond_true,cond_false]
end
end
end Go.Proofs.YtkcahhbhfmdpmaaGreat
namespace Go.Gi
open Go.RowKit
noncomputable section
def thV (y:Nat)(bl:List Ob)(v:Value):Option (Value×Bool×List Nat) :=
 match v with
 | .slice (some ⟨b,off,none⟩) len sz=>match nthO bl b with
  | some (.cells c false)=>some (lstV c off len sz,allFz c&&decide (off+len*sz≤c.size),[b])
  | _=>none
 | .slice none 0 0=>some (lstV ⟨[]⟩ 0 0 y,true,[])
 | v=>if fz0 v then some (v,true,[]) else none
def thL (bl:List Ob):List Nat→List Value→Option (List Value×Bool×List Nat)
 | _,[]=>some ([],true,[])
 | ys,v::r=>match thV (ys.headD 0) bl v with
  | some (u,b,S)=>match thL bl ys.tail r with
   | some (us,b',S')=>some (u::us,b&&b',S++S')
   | none=>none
  | none=>none
def thA (ys:List Nat)(bl:List Ob)(v:Value):Option (Value×Bool×List Nat) :=
 match v with
 | .agg ⟨l⟩=>match thL bl ys l with
  | some (us,b,S)=>some (.agg ⟨us⟩,b,S)
  | none=>none
 | v=>thV (ys.headD 0) bl v
def thAll (bl:List Ob):List (List Nat)→List Value→Option (List Value×Bool×List Nat)
 | _,[]=>some ([],true,[])
 | ys,v::r=>match thA (ys.headD []) bl v with
  | some (u,b,S)=>match thAll bl ys.tail r with
   | some (us,b',S')=>some (u::us,b&&b',S++S')
   | none=>none
  | none=>none
def inS1 (S:List Nat)(b:Nat):Bool:=S.any fun x=>Nat.beq x b
def killB (S:List Nat):Nat→List Ob→List Ob
 | _,[]=>[]
 | i,o::r=>(match inS1 S i with | true=>Ob.dead | false=>o)::killB S (i+1) r
open Classical in
def zS (φ:Phi)(X:List Ob)(S:List Nat)(w:World):Nat→Option Obj:=fun B=>if ∃b ob x,inS1 S b=true∧X[b]?=some ob∧ob.rw=true∧φ b=some x∧x.1=B then w.heap[B]? else φ.z B
section
variable {K:Nat→Prop}{w0 w:World} {φ:Phi}{X:List Ob}{S:List Nat}
theorem zS_le (hF:Inv K w0 φ X w):∀B o,φ.z B=some o→zS φ X S w B=some o:=by
 intro B o hB;unfold zS
 split
 ·exact hF.frz B o hB
 ·exact hB
theorem zS_frz (hF:Inv K w0 φ X w):∀B o,zS φ X S w B=some o→w.heap[B]?=some o:=by
 intro B o hB;unfold zS at hB
 split at hB
 ·exact hB
 ·exact hF.frz B o hB
theorem madeS (hF:Inv K w0 φ X w):Made X.length (zS φ X S w) φ X w :=
 ⟨zS_le hF,fun b c hb hm=>by rw[List.getElem?_eq_none hm]at hb;cases hb⟩
theorem thV_ok (hF:Inv K w0 φ X w) {y:Nat} {v v' u:Value}{b:Bool}{S1:List Nat}(e:thV y X v=some (u,b,S1)) (hb:b=true) (hs:∀x∈S1,x∈S) (hv:VR φ v v'):FR (zS φ X S w) u v':=by
 unfold thV at e
 split at e
 ·rename_i b0 off len sz
  rw[nthO_eq]at e
  split at e
  ·rename_i c hb0
   simp only[Option.some.injEq,Prod.mk.injEq]at e;obtain ⟨rfl,h1,rfl⟩:=e;rw[hb,Bool.and_eq_true,decide_eq_true_eq]at h1;obtain ⟨B,base,tot,h3,C,el,fr,h5,h6,h7⟩:=hF.obs b0 _ hb0 rfl;obtain ⟨h8,h9,_⟩:=h7 rfl
   cases hv with
   | sliceZ _ a' k'=>exact .lstZ _ _ _ _
   | slice hφ hl hc =>
    rw[h3]at hφ;cases hφ
    have hin:inS1 S b0=true:=by
     unfold inS1;rw[List.any_eq_true];exact ⟨b0,hs b0 (List.mem_singleton.2 rfl),Nat.beq_refl b0⟩
    have hz:zS φ X S w B=some (.cells C el fr):=by
     unfold zS;rw[if_pos ⟨b0,_,_,hin,hb0,rfl,h3,rfl⟩];exact h5
    exact .lst hz (by omega) (cells_fr (madeS hF) h1.1 h6) hl h1.2
  ·cases e
 ·simp only[Option.some.injEq,Prod.mk.injEq]at e
  obtain ⟨rfl,_,_⟩:=e
  cases hv
  exact .lstZ _ _ _ _
 ·split at e
  ·rename_i hf
   simp only[Option.some.injEq,Prod.mk.injEq]at e;obtain ⟨rfl,_,_⟩:=e;exact fz0_fr (madeS hF) hf hv
  ·cases e
theorem thL_ok (hF:Inv K w0 φ X w):∀{ys:List Nat} {l l' us:List Value}{b:Bool}{S1:List Nat},thL X ys l=some (us,b,S1)→b=true→(∀x∈S1,x∈S)→VRl φ l l'→FRl (zS φ X S w) us l'
 | _,[],_,_,_,_,e,hb,hs,hv=>by
  simp only[thL,Option.some.injEq,Prod.mk.injEq]at e;obtain ⟨rfl,_,_⟩:=e
  cases hv;exact .nil
 | ys,v::r,_,_,_,_,e,hb,hs,hv=>by
  unfold thL at e
  split at e
  ·rename_i u b1 S1 h1
   split at e
   ·rename_i us b2 S2 h2
    simp only[Option.some.injEq,Prod.mk.injEq]at e;obtain ⟨rfl,rfl,rfl⟩:=e;rw[Bool.and_eq_true]at hb
    cases hv with
    | cons hv hr =>
     exact .cons (thV_ok hF h1 hb.1 (fun x hx=>hs x (List.mem_append_left _ hx)) hv) (thL_ok hF h2 hb.2 (fun x hx=>hs x (List.mem_append_right _ hx)) hr)
   ·cases e
  ·cases e
theorem thA_ok (hF:Inv K w0 φ X w) {ys:List Nat} {v v' u:Value}{b:Bool}{S1:List Nat}(e:thA ys X v=some (u,b,S1)) (hb:b=true) (hs:∀x∈S1,x∈S) (hv:VR φ v v'):FR (zS φ X S w) u v':=by
 unfold thA at e
 split at e
 ·rename_i l
  split at e
  ·rename_i us b1 S2 h1
   simp only[Option.some.injEq,Prod.mk.injEq]at e;obtain ⟨rfl,rfl,rfl⟩:=e;obtain ⟨⟨zs⟩,rfl,hs'⟩:=hv.agg_inv;exact (thL_ok hF h1 hb hs hs'.toList).fr
  ·cases e
 ·exact thV_ok hF e hb hs hv
theorem thAll_ok (hF:Inv K w0 φ X w):∀{ys:List (List Nat)} {l l' us:List Value}{b:Bool}{S1:List Nat},thAll X ys l=some (us,b,S1)→b=true→(∀x∈S1,x∈S)→VRl φ l l'→FRl (zS φ X S w) us l'
 | _,[],_,_,_,_,e,hb,hs,hv=>by
  simp only[thAll,Option.some.injEq,Prod.mk.injEq]at e;obtain ⟨rfl,_,_⟩:=e
  cases hv;exact .nil
 | ys,v::r,_,_,_,_,e,hb,hs,hv=>by
  unfold thAll at e
  split at e
  ·rename_i u b1 S1 h1
   split at e
   ·rename_i us b2 S2 h2
    simp only[Option.some.injEq,Prod.mk.injEq]at e;obtain ⟨rfl,rfl,rfl⟩:=e;rw[Bool.and_eq_true]at hb
    cases hv with
    | cons hv hr =>
     exact .cons (thA_ok hF h1 hb.1 (fun x hx=>hs x (List.mem_append_left _ hx)) hv) (thAll_ok hF h2 hb.2 (fun x hx=>hs x (List.mem_append_right _ hx)) hr)
   ·cases e
  ·cases e
theorem FRl.vrl {ψ:Phi} {l l':List Value}(h:FRl ψ.z l l'):VRl ψ l l':=by
 induction h with
 | nil=>exact .nil
 | cons h _ ih=>exact .cons h.vr ih
end
section
variable {P:Program}
theorem Fact.thawG {zss:List (List Nat)}{f:FuncId}{l us:List Value}{v:Value}{b:Bool}{S:List Nat}{h h1:Hp}(ht:thAll h.bl zss l=some (us,b,S)) (hb:b=true)
  (hf:Fact P (.call f ⟨us⟩ ⟨[],0,[]⟩) (.ret v h1)) (hg:gr v=true):Fact P (.call f ⟨l⟩ h) (.ret v h):=by
 obtain ⟨_,hh⟩:=hf.1 (Nat.le_refl _)
 refine ⟨fun _=>⟨Pres.refl _,?_⟩,trivial⟩
 intro K w0 φ w args' n hI hA;obtain ⟨ys⟩:=args'
 have hA1:=thAll_ok (S:=S) hI ht hb (fun _ h=>h) hA.toList
 have hZ:Inv (fun k=>k<w.heap.size∧zS φ h.bl S w k=none) w ⟨fun _=>none,zS φ h.bl S w⟩ ([]:List Ob) w :=
  ⟨fun b ob h=>by simp at h,fun b b' ob ob' x y _ h=>by simp at h,fun b ob x h=>by simp at h,fun _ _=>rfl,fun _ h=>h.1,Nat.le_refl _,rfl,rfl,rfl,fun _ _=>rfl,zS_frz hI,fun b ob x h=>by simp at h,fun _ h=>h.2⟩
 have hA2:VRs ⟨fun _=>none,zS φ h.bl S w⟩ ⟨us⟩ ⟨ys⟩:=(FRl.vrl (ψ:=⟨fun _=>none,zS φ h.bl S w⟩) hA1).vrs
 refine (hh _ w _ w ⟨ys⟩ n hZ hA2).mono ?_
 intro e w' he
 cases e with
 | returned v' =>
  obtain ⟨φ',hle,hv',hF⟩:=he;have hI':Inv K w0 φ ([]++h.bl) w:=hI
  have hsame:∀k,k<w.heap.size→w'.heap[k]?=w.heap[k]?:=by
   intro k hk
   cases hz:zS φ h.bl S w k with
   | none=>exact hF.keep k ⟨hk,hz⟩
   | some o=>rw[hF.frz k o (hle.zz k o hz),zS_frz hI k o hz]
  have hW:Inv (fun k=>k<w.heap.size∧¬RwAt φ ([]:List Ob) k∧φ.z k=none) w ⟨fun _=>none,φ.z⟩ (([]:List Ob)++[]) w' :=
   ⟨fun b ob h=>by simp at h,fun b b' ob ob' x y _ h=>by simp at h,fun b ob x h=>by simp at h,fun k hk=>hsame k hk.1,fun _ h=>h.1,hF.size,hF.os,hF.tape,hF.output,fun _ _=>rfl,
     fun B o hB=>by
      have h1:=hI.frz B o hB
      rw[hsame B ((Array.getElem?_eq_some_iff.1 h1).1)];exact h1,
     fun b ob x h=>by simp at h,fun _ h=>h.2.2⟩
  have hlec:le (cut φ ([]:List Ob).length) ⟨fun _=>none,φ.z⟩:=⟨fun b x hx=>(by rw[cut_ge (show ([]:List Ob).length≤b from Nat.zero_le b)]at hx;cases hx),fun _ _ h=>h⟩
  obtain ⟨φ'',q1,q2,q3⟩:=hI'.widen (H1:=[]) (X:=[]) hW hlec .nil
  refine ⟨φ'',q1,?_,q3⟩
  rw[gr_eq hg hv'];exact gr_refl hg
 | panicked ch=>exact he.elim
 | outgrown=>exact he.elim
def AT.grH (h:Hp):AT→AT
 | .leaf (.ret v _)=>match gr v with | true=>.leaf (.ret v h) | false=>.no
 | .br b x y=>.br b (x.grH h) (y.grH h)
 | _=>.no
theorem AT.grH_out {h:Hp}{o:Out}:∀{a:AT},(a.grH h).out=some o→∃v h1,a.out=some (.ret v h1)∧gr v=true∧o=.ret v h
 | .leaf o',e=>by
  cases o' with
  | ret v h1 =>
   unfold AT.grH at e
   cases hg:gr v with
   | true=>rw[hg]at e;simp only[AT.out,Option.some.injEq]at e;exact ⟨v,h1,rfl,hg,e.symm⟩
   | false=>rw[hg]at e;cases e
  | _=>cases e
 | .no,e=>by cases e
 | .br b x y,e=>by
  cases b with
  | true=>exact AT.grH_out (a:=x) e
  | false=>exact AT.grH_out (a:=y) e
def thawG (g:Nat)(zss:List (List Nat))(p:Ans):Ans
 | .call f ⟨l⟩ h=>match Nat.beq f g with
  | true=>match thAll h.bl zss l with
   | some (us,b,_)=>match p (.call f ⟨us⟩ ⟨[],0,[]⟩) with
    | some a=>some (.br b (a.grH h) .no)
    | none=>none
   | none=>none
  | false=>none
 | _=>none
theorem Known.thawG {p:Ans}(hp:Known P p) (g:Nat) (zss:List (List Nat)):Known P (thawG g zss p):=by
 intro t x o e ho;unfold Gi.thawG at e
 split at e
 case h_2=>cases e
 rename_i f l h
 split at e
 case h_2=>cases e
 split at e
 case h_2=>cases e
 rename_i us b S ht
 split at e
 case h_2=>cases e
 rename_i a ha;simp only[Option.some.injEq]at e;subst e
 obtain ⟨hb,h2⟩:=cond_some (show cond b (a.grH h).out none=some o from ho)
 obtain ⟨v,h1,h3,h4,rfl⟩:=AT.grH_out h2;exact Fact.thawG ht hb (hp _ a _ ha h3) h4
end
end
end Go.Gi
namespace Go.Proofs.YtkcahhbhfmdpmaaGreat
open Go.Gi Go.RowKit Go.Proofs.YtkcahhbhfmdpmaaGreat.Old
noncomputable section
set_option maxRecDepth 100000
set_option maxHeartbeats 4000000
structure R61 where
 (r0 r1:Int)
structure A61 where
 (a0 a1:Int)
 (a2 a3:Int)
def rt61 (a0 a1:Int)(a2 a3:Int):RT R61 :=
 .leaf ⟨(min a0 a2),(max a1 a3)⟩
def en61 (r:R61):Value:=(.agg ⟨[(.int .i64 r.r0),(.int .i64 r.r1)]⟩)
theorem T61  (a0 a1:Int) (a2 a3:Int):evC Tryz.prog (Ans.c (fun _=>none:Ans)) 60 (.call 61 ⟨[(.agg ⟨[(.int .i64 a0),(.int .i64 a1)]⟩),(.agg ⟨[(.int .i64 a2),(.int .i64 a3)]⟩)]⟩ ⟨[],0,[]⟩) (frzK [0])=(rt61 a0 a1 a2 a3).out (fun r=>.ret (en61 r) ⟨[],0,[]⟩):=by kernel_rfl
def F61 (a0 a1:Int)(a2 a3:Int):Option R61:=(rt61 a0 a1 a2 a3).val
section
variable (a0 a1:Int) (a2 a3:Int)
def F61_ok:Bool:=(F61 a0 a1 a2 a3).isSome
def F61_0:Int:=match F61 a0 a1 a2 a3 with | some r=>r.r0 | none=>0
def F61_1:Int:=match F61 a0 a1 a2 a3 with | some r=>r.r1 | none=>0
end
def dec61:Task→Option (A61×Hp)
 | .call g ⟨[(.agg ⟨[(.int .i64 a0),(.int .i64 a1)]⟩),(.agg ⟨[(.int .i64 a2),(.int .i64 a3)]⟩)]⟩ h=>(match Nat.beq g 61 with | true=>some (⟨a0,a1,a2,a3⟩,h) | false=>none)
 | _=>none
def alt61 (x:A61)(h:Hp):AT:=.br (F61_ok x.a0 x.a1 x.a2 x.a3) (.leaf (.ret (.agg ⟨[(.int .i64 (F61_0 x.a0 x.a1 x.a2 x.a3)),(.int .i64 (F61_1 x.a0 x.a1 x.a2 x.a3))]⟩) h)) .no
def p61:Ans:=fnAns dec61 alt61
theorem ha61:∀(x:A61) (h:Hp)(o:Out),(alt61 x h).out=some o→∃r,(rt61 x.a0 x.a1 x.a2 x.a3).val=some r∧o=.ret (en61 r) h:=by
 intro x h o e;unfold alt61 at e;simp only[AT.out]at e;obtain ⟨g,e⟩:=cond_some e;unfold F61_ok at g;obtain ⟨r,hF⟩:=Option.isSome_iff_exists.1 g
 refine ⟨r,by delta F61 at hF;exact hF,?_⟩
 simp only[Option.some.injEq]at e;rw[← e]
 unfold F61_0 F61_1;rw[hF]<;>rfl
theorem hd61:∀(t:Task) (x:A61)(h:Hp),dec61 t=some (x,h)→t=.call 61 ⟨[(.agg ⟨[(.int .i64 x.a0),(.int .i64 x.a1)]⟩),(.agg ⟨[(.int .i64 x.a2),(.int .i64 x.a3)]⟩)]⟩ h:=by
 intro t x h e;unfold dec61 at e
 split at e
 case h_2=>cases e
 split at e
 case h_2=>cases e
 rename_i hg;simp only[Option.some.injEq,Prod.mk.injEq]at e;obtain ⟨rfl,rfl⟩:=e;rw[Nat.eq_of_beq_eq_true hg]
theorem known61:Known Tryz.prog p61:=by
 exact Known.fn noNG mixed (Known.nothing Tryz.prog) (n:=60) (zs:=[0]) 61 (fun x:A61=>[(.agg ⟨[(.int .i64 x.a0),(.int .i64 x.a1)]⟩),(.agg ⟨[(.int .i64 x.a2),(.int .i64 x.a3)]⟩)]) (fun x=>rt61 x.a0 x.a1 x.a2 x.a3) en61 (fun x=>T61  x.a0 x.a1 x.a2 x.a3) (fun x=>rfl) dec61 alt61 hd61 ha61
structure X28_0 where
 (v0:Array Value)
 (v1 v2:Nat)
 (v3 v4:Int)
 (v5 v6:Int)
 (v7 v8:Int)
 (v9 v10:Int)
 (v11 v12:Int)
inductive D28_0 where
 | k0 (d0 d1:Int) (d2 d3:Int) (d4 d5:Int) (d6 d7:Int)
def Lp28_0:LoopOf X28_0 D28_0 where
 c:=(theLoop Tryz.prog 28 0)
 N:=39
 M:=3
 S:=[2,4,5,10,11,12]
 sl:=fun x=>[(Value.pointer (Option.some (Addr.mk 0 0 Option.none))),(Value.pointer (Option.some (Addr.mk 1 0 Option.none))),(Value.pointer (Option.some (Addr.mk 2 0 Option.none))),(lstV x.v0 x.v1 x.v2 6),(.int .i64 x.v3),(.int .i64 x.v4)]
 hp:=fun x=>[.cells ⟨[(.int .i64 x.v5),(.int .i64 x.v6),(.int .i64 x.v7),(.int .i64 x.v8)]⟩ false,.cells ⟨[(.int .i64 x.v9),(.int .i64 x.v10)]⟩ false,.cells ⟨[(.int .i64 x.v11),(.int .i64 x.v12)]⟩ false]
 ex:=fun d=>match d with | .k0 ..=>.exit 0
 pick:=fun e=>match e with | .exit 0=>[4,5] | _=>[]
 dv:=fun d=>match d with | .k0 d0 d1 d2 d3 d4 d5 d6 d7=>[(Value.pointer (Option.some (Addr.mk 1 0 Option.none))),(Value.pointer (Option.some (Addr.mk 2 0 Option.none)))]
 dh:=fun d=>match d with | .k0 d0 d1 d2 d3 d4 d5 d6 d7=>[.cells ⟨[(.int .i64 d0),(.int .i64 d1),(.int .i64 d2),(.int .i64 d3)]⟩ false,.cells ⟨[(.int .i64 d4),(.int .i64 d5)]⟩ false,.cells ⟨[(.int .i64 d6),(.int .i64 d7)]⟩ false]
theorem ok28_0:Lp28_0.Ok:=⟨fun x=>rfl,fun x=>rfl,fun x=>rfl,fun x=>rfl,fun d=>by cases d<;>rfl,fun d=>by cases d<;>rfl,fun d=>by cases d<;>rfl,fun d=>by cases d<;>(intro h;cases h),fun d=>by cases d<;>rfl,fun d=>by cases d<;>rfl⟩
def rd28_0 (x:X28_0):RT (Sum X28_0 D28_0):=match x with
 | ⟨v0,v1,v2,v3,v4,v5,v6,v7,v8,v9,v10,v11,v12⟩ =>let u2:=(Int.toNat v4);let u0:=(getInt v0 ((((((v1+(u2*6))+1)+1)+1)+1)+1));let u1:=(getInt v0 (((((v1+(u2*6))+1)+1)+1)+1));let u3:=(Leaf.int .i64);let u4:=(IntKind.wrap .i64 (v4+(1:Int)));
   .br (decide (v4<v3)) (.br (and (decide ((0:Int)≤v4)) (decide (v4<(Int.ofNat v2)))) (.br (rdOk v0 [u3,u3,u3,u3,u3,u3] (v1+(u2*6))) (.br (decide ((getInt v0 (v1+(u2*6)))<v6)) (.br (decide (v5<(getInt v0 ((v1+(u2*6))+1)))) (mq v11 (mq v12 (mq v11 (mq v12 (mq u1 (mq u0 (mq u1 (mq u0 (.leaf (.inl ⟨v0,v1,v2,v3,u4,v5,v6,v7,v8,(F61_0 v9 v10 (getInt v0 (((v1+(u2*6))+1)+1)) (getInt v0 ((((v1+(u2*6))+1)+1)+1))),(F61_1 v9 v10 (getInt v0 (((v1+(u2*6))+1)+1)) (getInt v0 ((((v1+(u2*6))+1)+1)+1))),(F61_0 v11 v12 u1 u0),(F61_1 v11 v12 u1 u0)⟩)))))))))) (.leaf (.inl ⟨v0,v1,v2,v3,u4,v5,v6,v7,v8,v9,v10,v11,v12⟩))) (.leaf (.inl ⟨v0,v1,v2,v3,u4,v5,v6,v7,v8,v9,v10,v11,v12⟩))) (.no)) (.no)) (.leaf (.inr (.k0 v5 v6 v7 v8 v9 v10 v11 v12)))
theorem T28_0  (y:List Value) (v0:Array Value) (v1 v2:Nat) (v3 v4:Int) (v5 v6:Int) (v7 v8:Int) (v9 v10:Int) (v11 v12:Int):evC Tryz.prog (Ans.c p61) 60 (.code none (theLoop Tryz.prog 28 0) ⟨sets (junkF 39 y) [(2,(Value.pointer (some (Addr.mk 0 0 none)))),(4,(Value.pointer (some (Addr.mk 1 0 none)))),(5,(Value.pointer (some (Addr.mk 2 0 none)))),(10,(lstV v0 v1 v2 6)),(11,(.int .i64 v3)),(12,(.int .i64 v4))],[],⟨[.cells ⟨[(.int .i64 v5),(.int .i64 v6),(.int .i64 v7),(.int .i64 v8)]⟩ false,.cells ⟨[(.int .i64 v9),(.int .i64 v10)]⟩ false,.cells ⟨[(.int .i64 v11),(.int .i64 v12)]⟩ false],0,[]⟩⟩) (sumK 3 39 Lp28_0.pk)=(rd28_0 ⟨v0,v1,v2,v3,v4,v5,v6,v7,v8,v9,v10,v11,v12⟩).out Lp28_0.enc:=by kernel_rfl
def L28_0 (x:X28_0):Option D28_0:=loopR rd28_0 x
section
variable (x:X28_0)
def L28_0_k0:Bool:=match L28_0 x with | some (.k0 ..)=>true | _=>false
def Qj0:Int:=match L28_0 x with | some (.k0 (d0:=d) ..)=>d | _=>0
def Qj1:Int:=match L28_0 x with | some (.k0 (d1:=d) ..)=>d | _=>0
def Qj2:Int:=match L28_0 x with | some (.k0 (d2:=d) ..)=>d | _=>0
def Qj3:Int:=match L28_0 x with | some (.k0 (d3:=d) ..)=>d | _=>0
def Qj4:Int:=match L28_0 x with | some (.k0 (d4:=d) ..)=>d | _=>0
def Qj5:Int:=match L28_0 x with | some (.k0 (d5:=d) ..)=>d | _=>0
def Qj6:Int:=match L28_0 x with | some (.k0 (d6:=d) ..)=>d | _=>0
def Qj7:Int:=match L28_0 x with | some (.k0 (d7:=d) ..)=>d | _=>0
end
def dec28_0:Task→Option (Code×X28_0)
 | .code none (.loop code) ⟨t,[],⟨[.cells ⟨[(.int .i64 v5),(.int .i64 v6),(.int .i64 v7),(.int .i64 v8)]⟩ false,.cells ⟨[(.int .i64 v9),(.int .i64 v10)]⟩ false,.cells ⟨[(.int .i64 v11),(.int .i64 v12)]⟩ false],0,[]⟩⟩ =>
  (match Nat.beq (firstReg code) 4,lenIs t 39,lget t 2,lget t 4,lget t 5,lget t 10,lget t 11,lget t 12 with
  | true,true,(Value.pointer (Option.some (Addr.mk 0 0 Option.none))),(Value.pointer (Option.some (Addr.mk 1 0 Option.none))),(Value.pointer (Option.some (Addr.mk 2 0 Option.none))),(.func (.via 0 ⟨[]⟩ 0 true) v0 ⟨[.slice (some ⟨0,v1,none⟩) v2 6]⟩),(.int .i64 v3),(.int .i64 v4)=>some (code,⟨v0,v1,v2,v3,v4,v5,v6,v7,v8,v9,v10,v11,v12⟩)
  | _,_,_,_,_,_,_,_=>none)
 | _=>none
def alt28_0 (x:X28_0)(j:List Value):AT:=.br (L28_0_k0 x) (loopEnd 39 (.exit 0) [(4,(Value.pointer (Option.some (Addr.mk 1 0 Option.none)))),(5,(Value.pointer (Option.some (Addr.mk 2 0 Option.none))))] ⟨[.cells ⟨[(.int .i64 (Qj0 x)),(.int .i64 (Qj1 x)),(.int .i64 (Qj2 x)),(.int .i64 (Qj3 x))]⟩ false,.cells ⟨[(.int .i64 (Qj4 x)),(.int .i64 (Qj5 x))]⟩ false,.cells ⟨[(.int .i64 (Qj6 x)),(.int .i64 (Qj7 x))]⟩ false],0,[]⟩ j) (.no)
def la28_0 (J:Task→List Value):Ans:=loopAns Lp28_0.c dec28_0 alt28_0 J
theorem ha28_0:∀(x:X28_0) (j:List Value)(o:Out),(alt28_0 x j).out=some o→∃d,loopR rd28_0 x=some d∧o=Lp28_0.tail d j:=by
 intro x j o h;unfold alt28_0 at h
 cases hL:L28_0 x with
 | none=>simp [L28_0_k0,Qj0,Qj1,Qj2,Qj3,Qj4,Qj5,Qj6,Qj7,hL,AT.out]at h
 | some d =>
  refine ⟨d,hL,?_⟩
  cases d<;>(simp only[L28_0_k0,Qj0,Qj1,Qj2,Qj3,Qj4,Qj5,Qj6,Qj7,hL,AT.out,loopEnd,cond_true,cond_false,Option.some.injEq]at h;rw[← h];rfl)
theorem hd28_0:∀(t:Task) (c:Code)(x:X28_0),dec28_0 t=some (c,x)→c=Lp28_0.c→∃T,t=.code none (.loop Lp28_0.c) ⟨T,[],⟨Lp28_0.hp x,0,[]⟩⟩∧T.length=Lp28_0.N∧∀kv∈Lp28_0.S.zip (Lp28_0.sl x),lget T kv.1=kv.2:=by
 intro t c x h hc;unfold dec28_0 at h
 split at h
 case h_2=>cases h
 split at h
 case h_2=>cases h
 simp only[Option.some.injEq,Prod.mk.injEq]at h;obtain ⟨rfl,rfl⟩:=h;subst hc
 refine ⟨_,rfl,lenIs_eq _ _ (by assumption),?_⟩
 intro kv hk;simp only[Lp28_0,List.zip_cons_cons,List.zip_nil_right,List.mem_cons,List.not_mem_nil,or_false]at hk
 rcases hk with rfl | rfl | rfl | rfl | rfl | rfl<;>assumption
theorem kl28_0:∃J,Known Tryz.prog (la28_0 J):=by
 exact LoopOf.known noNG mixed ok28_0 (by decide) (by decide) known61 (n:=60) (rd:=rd28_0) (fun x j=>T28_0  j x.v0 x.v1 x.v2 x.v3 x.v4 x.v5 x.v6 x.v7 x.v8 x.v9 x.v10 x.v11 x.v12) dec28_0 alt28_0 hd28_0 ha28_0
structure R28 where
 (r0 r1:Int)
 (r2 r3:Int)
structure A28 where
 (a0 a1:Int)
 (a2 a3:Int)
 (a4:Array Value)
 (a5 a6:Nat)
def rt28 (a0 a1:Int)(a2 a3:Int)(a4:Array Value)(a5 a6:Nat):RT R28 :=let u0:=(Qj6 (X28_0.mk a4 a5 a6 (Int.ofNat a6) (0:Int) a0 a1 a2 a3 (20000:Int) (-20000:Int) (20000:Int) (-20000:Int)));let u1:=(Qj7 (X28_0.mk a4 a5 a6 (Int.ofNat a6) (0:Int) a0 a1 a2 a3 (20000:Int) (-20000:Int) (20000:Int) (-20000:Int)));
 .sw (eqCode (Lp28_0.c) (Lp28_0.c)) true (by simp only[eqCode_self,arrEq_self]) (.br (L28_0_k0 (X28_0.mk a4 a5 a6 (Int.ofNat a6) (0:Int) a0 a1 a2 a3 (20000:Int) (-20000:Int) (20000:Int) (-20000:Int))) (mq u0 (mq u1 (mq u0 (mq u1 (.leaf ⟨(Qj4 (X28_0.mk a4 a5 a6 (Int.ofNat a6) (0:Int) a0 a1 a2 a3 (20000:Int) (-20000:Int) (20000:Int) (-20000:Int))),(Qj5 (X28_0.mk a4 a5 a6 (Int.ofNat a6) (0:Int) a0 a1 a2 a3 (20000:Int) (-20000:Int) (20000:Int) (-20000:Int))),u0,u1⟩))))) (.no)) (.no)
def en28 (r:R28):Value:=(.tuple ⟨[(.agg ⟨[(.int .i64 r.r0),(.int .i64 r.r1)]⟩),(.agg ⟨[(.int .i64 r.r2),(.int .i64 r.r3)]⟩)]⟩)
theorem T28 (J0:Task→List Value)(a0 a1:Int)(a2 a3:Int)(a4:Array Value)(a5 a6:Nat):evC Tryz.prog (Ans.c (p61.or (la28_0 J0))) 60 (.call 28 ⟨[(.agg ⟨[(.int .i64 a0),(.int .i64 a1),(.int .i64 a2),(.int .i64 a3)]⟩),(lstV a4 a5 a6 6)]⟩ ⟨[],0,[]⟩) (frzK [0,0])=(rt28 a0 a1 a2 a3 a4 a5 a6).out (fun r=>.ret (en28 r) ⟨[],0,[]⟩):=by kernel_rfl
def F28 (a0 a1:Int)(a2 a3:Int)(a4:Array Value)(a5 a6:Nat):Option R28:=(rt28 a0 a1 a2 a3 a4 a5 a6).val
section
variable (a0 a1:Int) (a2 a3:Int) (a4:Array Value) (a5 a6:Nat)
def F28_ok:Bool:=(F28 a0 a1 a2 a3 a4 a5 a6).isSome
def F28_0:Int:=match F28 a0 a1 a2 a3 a4 a5 a6 with | some r=>r.r0 | none=>0
def F28_1:Int:=match F28 a0 a1 a2 a3 a4 a5 a6 with | some r=>r.r1 | none=>0
def F28_2:Int:=match F28 a0 a1 a2 a3 a4 a5 a6 with | some r=>r.r2 | none=>0
def F28_3:Int:=match F28 a0 a1 a2 a3 a4 a5 a6 with | some r=>r.r3 | none=>0
end
def dec28:Task→Option (A28×Hp)
 | .call g ⟨[(.agg ⟨[(.int .i64 a0),(.int .i64 a1),(.int .i64 a2),(.int .i64 a3)]⟩),(.func (.via 0 ⟨[]⟩ 0 true) a4 ⟨[.slice (some ⟨0,a5,none⟩) a6 6]⟩)]⟩ h=>(match Nat.beq g 28 with | true=>some (⟨a0,a1,a2,a3,a4,a5,a6⟩,h) | false=>none)
 | _=>none
def alt28 (x:A28)(h:Hp):AT:=.br (F28_ok x.a0 x.a1 x.a2 x.a3 x.a4 x.a5 x.a6) (.leaf (.ret (.tuple ⟨[(.agg ⟨[(.int .i64 (F28_0 x.a0 x.a1 x.a2 x.a3 x.a4 x.a5 x.a6)),(.int .i64 (F28_1 x.a0 x.a1 x.a2 x.a3 x.a4 x.a5 x.a6))]⟩),(.agg ⟨[(.int .i64 (F28_2 x.a0 x.a1 x.a2 x.a3 x.a4 x.a5 x.a6)),(.int .i64 (F28_3 x.a0 x.a1 x.a2 x.a3 x.a4 x.a5 x.a6))]⟩)]⟩) h)) .no
def p28:Ans:=fnAns dec28 alt28
theorem ha28:∀(x:A28) (h:Hp)(o:Out),(alt28 x h).out=some o→∃r,(rt28 x.a0 x.a1 x.a2 x.a3 x.a4 x.a5 x.a6).val=some r∧o=.ret (en28 r) h:=by
 intro x h o e;unfold alt28 at e;simp only[AT.out]at e;obtain ⟨g,e⟩:=cond_some e;unfold F28_ok at g;obtain ⟨r,hF⟩:=Option.isSome_iff_exists.1 g
 refine ⟨r,by delta F28 at hF;exact hF,?_⟩
 simp only[Option.some.injEq]at e;rw[← e]
 unfold F28_0 F28_1 F28_2 F28_3;rw[hF]<;>rfl
theorem hd28:∀(t:Task) (x:A28)(h:Hp),dec28 t=some (x,h)→t=.call 28 ⟨[(.agg ⟨[(.int .i64 x.a0),(.int .i64 x.a1),(.int .i64 x.a2),(.int .i64 x.a3)]⟩),(lstV x.a4 x.a5 x.a6 6)]⟩ h:=by
 intro t x h e;unfold dec28 at e
 split at e
 case h_2=>cases e
 split at e
 case h_2=>cases e
 rename_i hg;simp only[Option.some.injEq,Prod.mk.injEq]at e;obtain ⟨rfl,rfl⟩:=e;rw[Nat.eq_of_beq_eq_true hg]
theorem known28:Known Tryz.prog p28:=by
 obtain ⟨J0,hJ0⟩:=kl28_0
 exact Known.fn noNG mixed (Known.or known61 hJ0) (n:=60) (zs:=[0,0]) 28 (fun x:A28=>[(.agg ⟨[(.int .i64 x.a0),(.int .i64 x.a1),(.int .i64 x.a2),(.int .i64 x.a3)]⟩),(lstV x.a4 x.a5 x.a6 6)]) (fun x=>rt28 x.a0 x.a1 x.a2 x.a3 x.a4 x.a5 x.a6) en28 (fun x=>T28 J0 x.a0 x.a1 x.a2 x.a3 x.a4 x.a5 x.a6) (fun x=>rfl) dec28 alt28 hd28 ha28
structure R62 where
 (r0 r1:Int)
structure A62 where
 (a0 a1:Int)
 (a2 a3:Int)
def rt62 (a0 a1:Int)(a2 a3:Int):RT R62 :=
 .leaf ⟨(min (min (min (IntKind.wrap .i64 (a0*a2)) (IntKind.wrap .i64 (a0*a3))) (IntKind.wrap .i64 (a1*a2))) (IntKind.wrap .i64 (a1*a3))),(max (max (max (IntKind.wrap .i64 (a0*a2)) (IntKind.wrap .i64 (a0*a3))) (IntKind.wrap .i64 (a1*a2))) (IntKind.wrap .i64 (a1*a3)))⟩
def en62 (r:R62):Value:=(.agg ⟨[(.int .i64 r.r0),(.int .i64 r.r1)]⟩)
theorem T62  (a0 a1:Int) (a2 a3:Int):evC Tryz.prog (Ans.c (fun _=>none:Ans)) 60 (.call 62 ⟨[(.agg ⟨[(.int .i64 a0),(.int .i64 a1),(.int .i64 a2),(.int .i64 a3)]⟩)]⟩ ⟨[],0,[]⟩) (frzK [0])=(rt62 a0 a1 a2 a3).out (fun r=>.ret (en62 r) ⟨[],0,[]⟩):=by kernel_rfl
def F62 (a0 a1:Int)(a2 a3:Int):Option R62:=(rt62 a0 a1 a2 a3).val
section
variable (a0 a1:Int) (a2 a3:Int)
def F62_ok:Bool:=(F62 a0 a1 a2 a3).isSome
def F62_0:Int:=match F62 a0 a1 a2 a3 with | some r=>r.r0 | none=>0
def F62_1:Int:=match F62 a0 a1 a2 a3 with | some r=>r.r1 | none=>0
end
def dec62:Task→Option (A62×Hp)
 | .call g ⟨[(.agg ⟨[(.int .i64 a0),(.int .i64 a1),(.int .i64 a2),(.int .i64 a3)]⟩)]⟩ h=>(match Nat.beq g 62 with | true=>some (⟨a0,a1,a2,a3⟩,h) | false=>none)
 | _=>none
def alt62 (x:A62)(h:Hp):AT:=.br (F62_ok x.a0 x.a1 x.a2 x.a3) (.leaf (.ret (.agg ⟨[(.int .i64 (F62_0 x.a0 x.a1 x.a2 x.a3)),(.int .i64 (F62_1 x.a0 x.a1 x.a2 x.a3))]⟩) h)) .no
def p62:Ans:=fnAns dec62 alt62
theorem ha62:∀(x:A62) (h:Hp)(o:Out),(alt62 x h).out=some o→∃r,(rt62 x.a0 x.a1 x.a2 x.a3).val=some r∧o=.ret (en62 r) h:=by
 intro x h o e;unfold alt62 at e;simp only[AT.out]at e;obtain ⟨g,e⟩:=cond_some e;unfold F62_ok at g;obtain ⟨r,hF⟩:=Option.isSome_iff_exists.1 g
 refine ⟨r,by delta F62 at hF;exact hF,?_⟩
 simp only[Option.some.injEq]at e;rw[← e]
 unfold F62_0 F62_1;rw[hF]<;>rfl
theorem hd62:∀(t:Task) (x:A62)(h:Hp),dec62 t=some (x,h)→t=.call 62 ⟨[(.agg ⟨[(.int .i64 x.a0),(.int .i64 x.a1),(.int .i64 x.a2),(.int .i64 x.a3)]⟩)]⟩ h:=by
 intro t x h e;unfold dec62 at e
 split at e
 case h_2=>cases e
 split at e
 case h_2=>cases e
 rename_i hg;simp only[Option.some.injEq,Prod.mk.injEq]at e;obtain ⟨rfl,rfl⟩:=e;rw[Nat.eq_of_beq_eq_true hg]
theorem known62:Known Tryz.prog p62:=by
 exact Known.fn noNG mixed (Known.nothing Tryz.prog) (n:=60) (zs:=[0]) 62 (fun x:A62=>[(.agg ⟨[(.int .i64 x.a0),(.int .i64 x.a1),(.int .i64 x.a2),(.int .i64 x.a3)]⟩)]) (fun x=>rt62 x.a0 x.a1 x.a2 x.a3) en62 (fun x=>T62  x.a0 x.a1 x.a2 x.a3) (fun x=>rfl) dec62 alt62 hd62 ha62
structure X29_0 where
 (v0:Array Value)
 (v1 v2:Nat)
 (v3 v4:Int)
 (v5 v6:Int)
 (v7 v8:Int)
inductive D29_0 where
 | k0 (d0 d1:Int) (d2 d3:Int)
def Lp29_0:LoopOf X29_0 D29_0 where
 c:=(theLoop Tryz.prog 29 0)
 N:=29
 M:=2
 S:=[2,3,7,8,9]
 sl:=fun x=>[(Value.pointer (Option.some (Addr.mk 0 0 Option.none))),(Value.pointer (Option.some (Addr.mk 1 0 Option.none))),(lstV x.v0 x.v1 x.v2 4),(.int .i64 x.v3),(.int .i64 x.v4)]
 hp:=fun x=>[.cells ⟨[(.int .i64 x.v5),(.int .i64 x.v6)]⟩ false,.cells ⟨[(.int .i64 x.v7),(.int .i64 x.v8)]⟩ false]
 ex:=fun d=>match d with | .k0 ..=>.exit 0
 pick:=fun e=>match e with | .exit 0=>[2,3] | _=>[]
 dv:=fun d=>match d with | .k0 d0 d1 d2 d3=>[(Value.pointer (Option.some (Addr.mk 0 0 Option.none))),(Value.pointer (Option.some (Addr.mk 1 0 Option.none)))]
 dh:=fun d=>match d with | .k0 d0 d1 d2 d3=>[.cells ⟨[(.int .i64 d0),(.int .i64 d1)]⟩ false,.cells ⟨[(.int .i64 d2),(.int .i64 d3)]⟩ false]
theorem ok29_0:Lp29_0.Ok:=⟨fun x=>rfl,fun x=>rfl,fun x=>rfl,fun x=>rfl,fun d=>by cases d<;>rfl,fun d=>by cases d<;>rfl,fun d=>by cases d<;>rfl,fun d=>by cases d<;>(intro h;cases h),fun d=>by cases d<;>rfl,fun d=>by cases d<;>rfl⟩
def rd29_0 (x:X29_0):RT (Sum X29_0 D29_0):=match x with
 | ⟨v0,v1,v2,v3,v4,v5,v6,v7,v8⟩ =>let u0:=(Int.toNat v4);
   .br (decide (v4<v3)) (.br (and (decide ((0:Int)≤v4)) (decide (v4<(Int.ofNat v2)))) (.br (rdOk v0 [(Leaf.int .i64),(Leaf.int .i64),(Leaf.int .i64),(Leaf.int .i64)] (v1+(u0*4))) (.leaf (.inl ⟨v0,v1,v2,v3,(IntKind.wrap .i64 (v4+(1:Int))),v5,v6,(IntKind.wrap .i64 (v7+(F62_0 (getInt v0 (v1+(u0*4))) (getInt v0 ((v1+(u0*4))+1)) (getInt v0 (((v1+(u0*4))+1)+1)) (getInt v0 ((((v1+(u0*4))+1)+1)+1))))),(IntKind.wrap .i64 (v8+(F62_1 (getInt v0 (v1+(u0*4))) (getInt v0 ((v1+(u0*4))+1)) (getInt v0 (((v1+(u0*4))+1)+1)) (getInt v0 ((((v1+(u0*4))+1)+1)+1)))))⟩)) (.no)) (.no)) (.leaf (.inr (.k0 v5 v6 v7 v8)))
theorem T29_0  (y:List Value) (v0:Array Value) (v1 v2:Nat) (v3 v4:Int) (v5 v6:Int) (v7 v8:Int):evC Tryz.prog (Ans.c p62) 60 (.code none (theLoop Tryz.prog 29 0) ⟨sets (junkF 29 y) [(2,(Value.pointer (some (Addr.mk 0 0 none)))),(3,(Value.pointer (some (Addr.mk 1 0 none)))),(7,(lstV v0 v1 v2 4)),(8,(.int .i64 v3)),(9,(.int .i64 v4))],[],⟨[.cells ⟨[(.int .i64 v5),(.int .i64 v6)]⟩ false,.cells ⟨[(.int .i64 v7),(.int .i64 v8)]⟩ false],0,[]⟩⟩) (sumK 2 29 Lp29_0.pk)=(rd29_0 ⟨v0,v1,v2,v3,v4,v5,v6,v7,v8⟩).out Lp29_0.enc:=by kernel_rfl
def L29_0 (x:X29_0):Option D29_0:=loopR rd29_0 x
section
variable (x:X29_0)
def L29_0_k0:Bool:=match L29_0 x with | some (.k0 ..)=>true | _=>false
def Qk0:Int:=match L29_0 x with | some (.k0 d _ _ _)=>d | _=>0
def Qk1:Int:=match L29_0 x with | some (.k0 _ d _ _)=>d | _=>0
def Qk2:Int:=match L29_0 x with | some (.k0 _ _ d _)=>d | _=>0
def Qk3:Int:=match L29_0 x with | some (.k0 _ _ _ d)=>d | _=>0
end
def dec29_0:Task→Option (Code×X29_0)
 | .code none (.loop code) ⟨t,[],⟨[.cells ⟨[(.int .i64 v5),(.int .i64 v6)]⟩ false,.cells ⟨[(.int .i64 v7),(.int .i64 v8)]⟩ false],0,[]⟩⟩ =>
  (match Nat.beq (firstReg code) 3,lenIs t 29,lget t 2,lget t 3,lget t 7,lget t 8,lget t 9 with
  | true,true,(Value.pointer (Option.some (Addr.mk 0 0 Option.none))),(Value.pointer (Option.some (Addr.mk 1 0 Option.none))),(.func (.via 0 ⟨[]⟩ 0 true) v0 ⟨[.slice (some ⟨0,v1,none⟩) v2 4]⟩),(.int .i64 v3),(.int .i64 v4)=>some (code,⟨v0,v1,v2,v3,v4,v5,v6,v7,v8⟩)
  | _,_,_,_,_,_,_=>none)
 | _=>none
def alt29_0 (x:X29_0)(j:List Value):AT:=.br (L29_0_k0 x) (loopEnd 29 (.exit 0) [(2,(Value.pointer (Option.some (Addr.mk 0 0 Option.none)))),(3,(Value.pointer (Option.some (Addr.mk 1 0 Option.none))))] ⟨[.cells ⟨[(.int .i64 (Qk0 x)),(.int .i64 (Qk1 x))]⟩ false,.cells ⟨[(.int .i64 (Qk2 x)),(.int .i64 (Qk3 x))]⟩ false],0,[]⟩ j) (.no)
def la29_0 (J:Task→List Value):Ans:=loopAns Lp29_0.c dec29_0 alt29_0 J
theorem ha29_0:∀(x:X29_0) (j:List Value)(o:Out),(alt29_0 x j).out=some o→∃d,loopR rd29_0 x=some d∧o=Lp29_0.tail d j:=by
 intro x j o h;unfold alt29_0 at h
 cases hL:L29_0 x with
 | none=>simp [L29_0_k0,Qk0,Qk1,Qk2,Qk3,hL,AT.out]at h
 | some d =>
  refine ⟨d,hL,?_⟩
  cases d<;>(simp only[L29_0_k0,Qk0,Qk1,Qk2,Qk3,hL,AT.out,loopEnd,cond_true,cond_false,Option.some.injEq]at h;rw[← h];rfl)
theorem hd29_0:∀(t:Task) (c:Code)(x:X29_0),dec29_0 t=some (c,x)→c=Lp29_0.c→∃T,t=.code none (.loop Lp29_0.c) ⟨T,[],⟨Lp29_0.hp x,0,[]⟩⟩∧T.length=Lp29_0.N∧∀kv∈Lp29_0.S.zip (Lp29_0.sl x),lget T kv.1=kv.2:=by
 intro t c x h hc;unfold dec29_0 at h
 split at h
 case h_2=>cases h
 split at h
 case h_2=>cases h
 simp only[Option.some.injEq,Prod.mk.injEq]at h;obtain ⟨rfl,rfl⟩:=h;subst hc
 refine ⟨_,rfl,lenIs_eq _ _ (by assumption),?_⟩
 intro kv hk;simp only[Lp29_0,List.zip_cons_cons,List.zip_nil_right,List.mem_cons,List.not_mem_nil,or_false]at hk
 rcases hk with rfl | rfl | rfl | rfl | rfl<;>assumption
theorem kl29_0:∃J,Known Tryz.prog (la29_0 J):=by
 exact LoopOf.known noNG mixed ok29_0 (by decide) (by decide) known62 (n:=60) (rd:=rd29_0) (fun x j=>T29_0  j x.v0 x.v1 x.v2 x.v3 x.v4 x.v5 x.v6 x.v7 x.v8) dec29_0 alt29_0 hd29_0 ha29_0
structure R29 where
 (r0 r1:Int)
structure A29 where
 (a0:Array Value)
 (a1 a2:Nat)
def rt29 (a0:Array Value)(a1 a2:Nat):RT R29 :=
 .sw (eqCode (Lp29_0.c) (Lp29_0.c)) true (by simp only[eqCode_self,arrEq_self]) (.br (L29_0_k0 (X29_0.mk a0 a1 a2 (Int.ofNat a2) (0:Int) (0:Int) (0:Int) (0:Int) (0:Int))) (.leaf ⟨(Qk2 (X29_0.mk a0 a1 a2 (Int.ofNat a2) (0:Int) (0:Int) (0:Int) (0:Int) (0:Int))),(Qk3 (X29_0.mk a0 a1 a2 (Int.ofNat a2) (0:Int) (0:Int) (0:Int) (0:Int) (0:Int)))⟩) (.no)) (.no)
def en29 (r:R29):Value:=(.agg ⟨[(.int .i64 r.r0),(.int .i64 r.r1)]⟩)
theorem T29 (J0:Task→List Value)(a0:Array Value)(a1 a2:Nat):evC Tryz.prog (Ans.c (p62.or (la29_0 J0))) 60 (.call 29 ⟨[(lstV a0 a1 a2 4)]⟩ ⟨[],0,[]⟩) (frzK [0])=(rt29 a0 a1 a2).out (fun r=>.ret (en29 r) ⟨[],0,[]⟩):=by kernel_rfl
def F29 (a0:Array Value)(a1 a2:Nat):Option R29:=(rt29 a0 a1 a2).val
section
variable (a0:Array Value) (a1 a2:Nat)
def F29_ok:Bool:=(F29 a0 a1 a2).isSome
def F29_0:Int:=match F29 a0 a1 a2 with | some r=>r.r0 | none=>0
def F29_1:Int:=match F29 a0 a1 a2 with | some r=>r.r1 | none=>0
end
def dec29:Task→Option (A29×Hp)
 | .call g ⟨[(.func (.via 0 ⟨[]⟩ 0 true) a0 ⟨[.slice (some ⟨0,a1,none⟩) a2 4]⟩)]⟩ h=>(match Nat.beq g 29 with | true=>some (⟨a0,a1,a2⟩,h) | false=>none)
 | _=>none
def alt29 (x:A29)(h:Hp):AT:=.br (F29_ok x.a0 x.a1 x.a2) (.leaf (.ret (.agg ⟨[(.int .i64 (F29_0 x.a0 x.a1 x.a2)),(.int .i64 (F29_1 x.a0 x.a1 x.a2))]⟩) h)) .no
def p29:Ans:=fnAns dec29 alt29
theorem ha29:∀(x:A29) (h:Hp)(o:Out),(alt29 x h).out=some o→∃r,(rt29 x.a0 x.a1 x.a2).val=some r∧o=.ret (en29 r) h:=by
 intro x h o e;unfold alt29 at e;simp only[AT.out]at e;obtain ⟨g,e⟩:=cond_some e;unfold F29_ok at g;obtain ⟨r,hF⟩:=Option.isSome_iff_exists.1 g
 refine ⟨r,by delta F29 at hF;exact hF,?_⟩
 simp only[Option.some.injEq]at e;rw[← e]
 unfold F29_0 F29_1;rw[hF]<;>rfl
theorem hd29:∀(t:Task) (x:A29)(h:Hp),dec29 t=some (x,h)→t=.call 29 ⟨[(lstV x.a0 x.a1 x.a2 4)]⟩ h:=by
 intro t x h e;unfold dec29 at e
 split at e
 case h_2=>cases e
 split at e
 case h_2=>cases e
 rename_i hg;simp only[Option.some.injEq,Prod.mk.injEq]at e;obtain ⟨rfl,rfl⟩:=e;rw[Nat.eq_of_beq_eq_true hg]
theorem known29:Known Tryz.prog p29:=by
 obtain ⟨J0,hJ0⟩:=kl29_0
 exact Known.fn noNG mixed (Known.or known62 hJ0) (n:=60) (zs:=[0]) 29 (fun x:A29=>[(lstV x.a0 x.a1 x.a2 4)]) (fun x=>rt29 x.a0 x.a1 x.a2) en29 (fun x=>T29 J0 x.a0 x.a1 x.a2) (fun x=>rfl) dec29 alt29 hd29 ha29
end
end Go.Proofs.YtkcahhbhfmdpmaaGreat
