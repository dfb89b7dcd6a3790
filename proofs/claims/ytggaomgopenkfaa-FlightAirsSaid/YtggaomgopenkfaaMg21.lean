/- FlightAirs proved: Winds and Air return what the document says, for any bands, vehicle and heights. Conditions: none. -/
import Derived.Test.YtggaomgopenkfaaMg20
import Derived.Test.YtggaomgopenkfaaMg7
import Derived.Test.YtggaomgopenkfaaMg10
import Derived.Test.YtggaomgopenkfaaMg19
set_option linter.unusedVariables false
set_option linter.unusedSimpArgs false
namespace Go.Proofs.Ytggaomgopenkfaa
open Go.Gi Go.RowKit
noncomputable section
set_option maxRecDepth 100000
set_option maxHeartbeats 1000000
theorem fst1_ne {E:Nat→Int}{i:Nat}{r:Int}:∀m k,fst1 E m k=some (i,r)→r≠0
 | 0,k,h=>by cases h
 | m+1,k,h=>by
  unfold fst1 at h
  split at h
  ·exact fst1_ne m (k+1) h
  ·rename_i he
   simp only[Option.some.injEq,Prod.mk.injEq]at h;rw[← h.2];exact he
section
variable {c ca cp:Array Value}{n na np k:Nat}{s nm:ByteArray}{g1 g2 a1 a2 a3 a4 a5 a6 a7 a8 a9 a10 a11 a12:Int}
theorem step87 (g:GL S13 13 c n)(few:n≤1000)(hkn:k≤n)(j:Nat)(hj:j<k):(rd87_0 ⟨c,0,k,(k:Int),(j:Int),s,a1,a2,a3,a4,a5,a6,a7,a8,a9,a10,a11,a12⟩).val =
  some (if twE c s j=0 then .inl ⟨c,0,k,(k:Int),((j+1:Nat):Int),s,a1,a2,a3,a4,a5,a6,a7,a8,a9,a10,a11,a12⟩ else .inr (.k0 5 s a1 a2 a3 a4 a5 a6 a7 a8 a9 a10 a11 a12)):=by
 have hji:(j:Int)<(k:Int):=by omega
 have h0:(0:Int)≤(j:Int):=by omega
 have h3:IntKind.wrap .i64 ((j:Int)+1)=((j+1:Nat):Int):=by rw[wrap64_id (by omega) (by omega)];omega
 have hr:rdOk c S13 (0+j*13)=true:=srow13 g (by omega)
 unfold S13 at hr;unfold twE;simp only[rd87_0,RT.val,mq,hji,h0,h3,hr,Int.toNat_natCast,Int.ofNat_eq_natCast,decide_true,Bool.and_self,cond_true]
 cases strEq (getStr c (0+j*13)) s<;>rfl
theorem F87_of (g:GL S13 13 c n)(few:n≤1000)(hkn:k≤n):F87_ok s a1 a2 a3 a4 a5 a6 a7 a8 a9 a10 a11 a12 c 0 k=true∧F87_0 s a1 a2 a3 a4 a5 a6 a7 a8 a9 a10 a11 a12 c 0 k=piC s a1 a2 a3 a4 a5 a6 a7 a8 a9 a10 a11 a12 (twB c s k):=by
 have q:F87 s a1 a2 a3 a4 a5 a6 a7 a8 a9 a10 a11 a12 c 0 k=some ⟨piC s a1 a2 a3 a4 a5 a6 a7 a8 a9 a10 a11 a12 (twB c s k)⟩:=by
  have i2:¬(k:Int)<(k:Int):=by omega
  have l:L87_0 (X87_0.mk c 0 k (k:Int) 0 s a1 a2 a3 a4 a5 a6 a7 a8 a9 a10 a11 a12)=some (match fst1 (twE c s) k 0 with | some (i,r)=>.k0 5 s a1 a2 a3 a4 a5 a6 a7 a8 a9 a10 a11 a12 | none=>.k1 s a1 a2 a3 a4 a5 a6 a7 a8 a9 a10 a11 a12) :=
   loop_fst (rd:=rd87_0) (S:=fun j=>⟨c,0,k,(k:Int),(j:Int),s,a1,a2,a3,a4,a5,a6,a7,a8,a9,a10,a11,a12⟩) (E:=twE c s) (n:=k) (err:=fun _ _=>.k0 5 s a1 a2 a3 a4 a5 a6 a7 a8 a9 a10 a11 a12) (fin:=.k1 s a1 a2 a3 a4 a5 a6 a7 a8 a9 a10 a11 a12) (fun j hj=>step87 g few hkn j hj)
    (by simp only[rd87_0,RT.val,mq,i2,decide_false,cond_false]) k 0 (by omega)
  unfold F87 rt87 piC twB;simp only[RT.val,mq,F42_of.1,F42_of.2,cond_true]
  cases nmB s with
  | false=>rfl
  | true =>
   cases hf:fst1 (twE c s) k 0 with
   | some p =>
    rw[hf]at l;simp only[Int.ofNat_eq_natCast,L87_0_k0,Qe0,l,Option.isSome_some,Bool.not_true,cond_true,cond_false,if_true]
   | none =>
    rw[hf]at l
    simp only[Int.ofNat_eq_natCast,L87_0_k0,L87_0_k1,Qf0,Qf1,Qf2,Qf3,Qf4,Qf5,Qf6,Qf7,Qf8,Qf9,Qf10,Qf11,Qf12,l,Option.isSome_none,(F84_of _ _ _ _).1,(F84_of _ _ _ _).2,(F86_of (r:=1000000) (by omega)).1,(F86_of (r:=1000000) (by omega)).2,(F85_of _ _ _ _ _ _).1,(F85_of _ _ _ _ _ _).2.1,(F85_of _ _ _ _ _ _).2.2.1,(F85_of _ _ _ _ _ _).2.2.2.1,(F85_of _ _ _ _ _ _).2.2.2.2.1,(F85_of _ _ _ _ _ _).2.2.2.2.2.1,(F85_of _ _ _ _ _ _).2.2.2.2.2.2,(F107_of _).1,(F107_of _).2,Bool.not_true,cond_true,cond_false,if_true,Bool.false_eq_true,if_false]
    rw[inB_alt a1]
    by_cases h1:a1<1<;>by_cases h2:3000<a1<;>cases boB a2 a3 a4 a5<;>cases thB a6 a7 a8 a9 a10 a11 1000000<;>cases inB a12 0 2000000000<;>simp [h1,h2]
 exact ⟨by simp only[F87_ok,q];rfl,by simp only[F87_0,q]⟩
theorem step46 (g:GL S13 13 c n)(few:n≤1000)(k:Nat)(hk:k<n):(rd46_0 ⟨c,0,n,c,0,n,(n:Int),(k:Int)⟩).val=some (if piK c k=0 then .inl ⟨c,0,n,c,0,n,(n:Int),((k+1:Nat):Int)⟩ else .inr (.k0 (k:Int) (piK c k))):=by
 have hki:(k:Int)<(n:Int):=by omega
 have h0:(0:Int)≤(k:Int):=by omega
 have h3:IntKind.wrap .i64 ((k:Int)+1)=((k+1:Nat):Int):=by rw[wrap64_id (by omega) (by omega)];omega
 have hr:rdOk c S13 (0+k*13)=true:=srow13 g hk;unfold S13 at hr
 have hk1:(0:Nat)≤k:=by omega
 have hk2:k≤n:=by omega
 obtain ⟨o,e⟩:=F87_of (s:=getStr c (0+k*13)) (a1:=getInt c (0+k*13+1)) (a2:=getInt c (0+k*13+1+1)) (a3:=getInt c (0+k*13+1+1+1)) (a4:=getInt c (0+k*13+1+1+1+1)) (a5:=getInt c (0+k*13+1+1+1+1+1)) (a6:=getInt c (0+k*13+1+1+1+1+1+1)) (a7:=getInt c (0+k*13+1+1+1+1+1+1+1)) (a8:=getInt c (0+k*13+1+1+1+1+1+1+1+1)) (a9:=getInt c (0+k*13+1+1+1+1+1+1+1+1+1)) (a10:=getInt c (0+k*13+1+1+1+1+1+1+1+1+1+1)) (a11:=getInt c (0+k*13+1+1+1+1+1+1+1+1+1+1+1)) (a12:=getInt c (0+k*13+1+1+1+1+1+1+1+1+1+1+1+1)) g few hk2;have e':F87_0 (getStr c (0+k*13)) (getInt c (0+k*13+1)) (getInt c (0+k*13+1+1)) (getInt c (0+k*13+1+1+1)) (getInt c (0+k*13+1+1+1+1)) (getInt c (0+k*13+1+1+1+1+1)) (getInt c (0+k*13+1+1+1+1+1+1)) (getInt c (0+k*13+1+1+1+1+1+1+1)) (getInt c (0+k*13+1+1+1+1+1+1+1+1)) (getInt c (0+k*13+1+1+1+1+1+1+1+1+1)) (getInt c (0+k*13+1+1+1+1+1+1+1+1+1+1)) (getInt c (0+k*13+1+1+1+1+1+1+1+1+1+1+1)) (getInt c (0+k*13+1+1+1+1+1+1+1+1+1+1+1+1)) c 0 k=piK c k:=e
 simp only[rd46_0,RT.val,mq,hki,h0,h3,hr,hk1,hk2,o,e',Int.toNat_natCast,Int.ofNat_eq_natCast,Nat.add_zero,Nat.sub_zero,decide_true,Bool.and_self,cond_true]
 by_cases hz:piK c k=0
 ·simp only[hz,decide_true,Bool.not_true,cond_false,if_true]
 ·simp only[hz,decide_false,Bool.not_false,cond_true,if_false]
def piS (c:Array Value)(n:Nat):Int×Int:=if 6<n then (0,3) else match fst1 (piK c) n 0 with | some (i,r)=>((i:Int),r) | none=>(0,0)
theorem F46_eq (g:GL S13 13 c n):F46 c 0 n=some ⟨(piS c n).1,(piS c n).2⟩:=by
 unfold F46 rt46 piS
 by_cases h:6<n
 ·have:(6:Int)<(n:Int):=by omega
  rw[if_pos h];simp only[RT.val,mq,this,Int.ofNat_eq_natCast,decide_true,cond_true]
 ·have i1:¬(6:Int)<(n:Int):=by omega
  have i2:¬(n:Int)<(n:Int):=by omega
  rw[if_neg h]
  have l:L46_0 (X46_0.mk c 0 n c 0 n (n:Int) 0)=some (match fst1 (piK c) n 0 with | some (i,r)=>.k0 (i:Int) r | none=>.k1) :=
   loop_fst (rd:=rd46_0) (S:=fun k=>⟨c,0,n,c,0,n,(n:Int),(k:Int)⟩) (E:=piK c) (n:=n) (err:=fun i r=>.k0 (i:Int) r) (fin:=.k1) (fun k hk=>step46 g (by omega) k hk)
    (by simp only[rd46_0,RT.val,mq,i2,decide_false,cond_false]) n 0 (by omega)
  cases hf:fst1 (piK c) n 0 with
  | none =>
   rw[hf]at l;simp only[RT.val,mq,i1,Int.ofNat_eq_natCast,L46_0_k0,L46_0_k1,l,decide_false,cond_true,cond_false]
  | some p =>
   obtain ⟨i,r⟩:=p;rw[hf]at l;simp only[RT.val,mq,i1,Int.ofNat_eq_natCast,L46_0_k0,Qg0,Qg1,l,decide_false,cond_true,cond_false]
theorem step52 (g:GL S13 13 c n)(few:n≤1000)(hkn:k<n)(j:Nat)(hj:j<k):(rd52_0 ⟨(k:Int),(j:Int),nm,g1,g2,ca,0,na,cp,0,np,c,0,n,s,a1,a2,a3,a4,a5,a6,a7,a8,a9,a10,a11,a12⟩).val =
  some (if twE c s j=0 then .inl ⟨(k:Int),((j+1:Nat):Int),nm,g1,g2,ca,0,na,cp,0,np,c,0,n,s,a1,a2,a3,a4,a5,a6,a7,a8,a9,a10,a11,a12⟩ else .inr (.k0 5 nm g1 g2 ca 0 na cp 0 np c 0 n s a1 a2 a3 a4 a5 a6 a7 a8 a9 a10 a11 a12)):=by
 have hji:(j:Int)<(k:Int):=by omega
 have hjn:(j:Int)<(n:Int):=by omega
 have h0:(0:Int)≤(j:Int):=by omega
 have h3:IntKind.wrap .i64 ((j:Int)+1)=((j+1:Nat):Int):=by rw[wrap64_id (by omega) (by omega)];omega
 have hr:rdOk c S13 (0+j*13)=true:=srow13 g (by omega)
 unfold S13 at hr;have hi:isStr c (0+j*13)=true:=(rd_and hr).1;unfold twE;simp only[rd52_0,RT.val,mq,hji,hjn,h0,h3,hi,Int.toNat_natCast,Int.ofNat_eq_natCast,Nat.add_zero,decide_true,Bool.and_self,cond_true]
 cases strEq (getStr c (0+j*13)) s<;>rfl
theorem F52_of (g:GL S13 13 c n)(few:n≤1000)(hk:k<n):F52_ok nm g1 g2 ca 0 na cp 0 np c 0 n (k:Int)=true∧F52_0 nm g1 g2 ca 0 na cp 0 np c 0 n (k:Int)=piK c k:=by
 have hki:(k:Int)<(n:Int):=by omega
 have h0:(0:Int)≤(k:Int):=by omega
 have hr:rdOk c S13 (0+k*13)=true:=srow13 g hk;unfold S13 at hr
 have q:F52 nm g1 g2 ca 0 na cp 0 np c 0 n (k:Int)=some ⟨piK c k⟩:=by
  have i2:¬(k:Int)<(k:Int):=by omega
  have l:L52_0 (X52_0.mk (k:Int) 0 nm g1 g2 ca 0 na cp 0 np c 0 n (getStr c (0+k*13)) (getInt c (0+k*13+1)) (getInt c (0+k*13+1+1)) (getInt c (0+k*13+1+1+1)) (getInt c (0+k*13+1+1+1+1)) (getInt c (0+k*13+1+1+1+1+1)) (getInt c (0+k*13+1+1+1+1+1+1)) (getInt c (0+k*13+1+1+1+1+1+1+1)) (getInt c (0+k*13+1+1+1+1+1+1+1+1)) (getInt c (0+k*13+1+1+1+1+1+1+1+1+1)) (getInt c (0+k*13+1+1+1+1+1+1+1+1+1+1)) (getInt c (0+k*13+1+1+1+1+1+1+1+1+1+1+1)) (getInt c (0+k*13+1+1+1+1+1+1+1+1+1+1+1+1)))=some (match fst1 (twE c (getStr c (0+k*13))) k 0 with | some (i,r)=>.k0 5 nm g1 g2 ca 0 na cp 0 np c 0 n (getStr c (0+k*13)) (getInt c (0+k*13+1)) (getInt c (0+k*13+1+1)) (getInt c (0+k*13+1+1+1)) (getInt c (0+k*13+1+1+1+1)) (getInt c (0+k*13+1+1+1+1+1)) (getInt c (0+k*13+1+1+1+1+1+1)) (getInt c (0+k*13+1+1+1+1+1+1+1)) (getInt c (0+k*13+1+1+1+1+1+1+1+1)) (getInt c (0+k*13+1+1+1+1+1+1+1+1+1)) (getInt c (0+k*13+1+1+1+1+1+1+1+1+1+1)) (getInt c (0+k*13+1+1+1+1+1+1+1+1+1+1+1)) (getInt c (0+k*13+1+1+1+1+1+1+1+1+1+1+1+1)) | none=>.k1 nm g1 g2 ca 0 na cp 0 np c 0 n (getStr c (0+k*13)) (getInt c (0+k*13+1)) (getInt c (0+k*13+1+1)) (getInt c (0+k*13+1+1+1)) (getInt c (0+k*13+1+1+1+1)) (getInt c (0+k*13+1+1+1+1+1)) (getInt c (0+k*13+1+1+1+1+1+1)) (getInt c (0+k*13+1+1+1+1+1+1+1)) (getInt c (0+k*13+1+1+1+1+1+1+1+1)) (getInt c (0+k*13+1+1+1+1+1+1+1+1+1)) (getInt c (0+k*13+1+1+1+1+1+1+1+1+1+1)) (getInt c (0+k*13+1+1+1+1+1+1+1+1+1+1+1)) (getInt c (0+k*13+1+1+1+1+1+1+1+1+1+1+1+1))) :=
   loop_fst (rd:=rd52_0) (S:=fun j=>X52_0.mk (k:Int) (j:Int) nm g1 g2 ca 0 na cp 0 np c 0 n (getStr c (0+k*13)) (getInt c (0+k*13+1)) (getInt c (0+k*13+1+1)) (getInt c (0+k*13+1+1+1)) (getInt c (0+k*13+1+1+1+1)) (getInt c (0+k*13+1+1+1+1+1)) (getInt c (0+k*13+1+1+1+1+1+1)) (getInt c (0+k*13+1+1+1+1+1+1+1)) (getInt c (0+k*13+1+1+1+1+1+1+1+1)) (getInt c (0+k*13+1+1+1+1+1+1+1+1+1)) (getInt c (0+k*13+1+1+1+1+1+1+1+1+1+1)) (getInt c (0+k*13+1+1+1+1+1+1+1+1+1+1+1)) (getInt c (0+k*13+1+1+1+1+1+1+1+1+1+1+1+1))) (E:=twE c (getStr c (0+k*13))) (n:=k) (err:=fun _ _=>.k0 5 nm g1 g2 ca 0 na cp 0 np c 0 n (getStr c (0+k*13)) (getInt c (0+k*13+1)) (getInt c (0+k*13+1+1)) (getInt c (0+k*13+1+1+1)) (getInt c (0+k*13+1+1+1+1)) (getInt c (0+k*13+1+1+1+1+1)) (getInt c (0+k*13+1+1+1+1+1+1)) (getInt c (0+k*13+1+1+1+1+1+1+1)) (getInt c (0+k*13+1+1+1+1+1+1+1+1)) (getInt c (0+k*13+1+1+1+1+1+1+1+1+1)) (getInt c (0+k*13+1+1+1+1+1+1+1+1+1+1)) (getInt c (0+k*13+1+1+1+1+1+1+1+1+1+1+1)) (getInt c (0+k*13+1+1+1+1+1+1+1+1+1+1+1+1))) (fin:=.k1 nm g1 g2 ca 0 na cp 0 np c 0 n (getStr c (0+k*13)) (getInt c (0+k*13+1)) (getInt c (0+k*13+1+1)) (getInt c (0+k*13+1+1+1)) (getInt c (0+k*13+1+1+1+1)) (getInt c (0+k*13+1+1+1+1+1)) (getInt c (0+k*13+1+1+1+1+1+1)) (getInt c (0+k*13+1+1+1+1+1+1+1)) (getInt c (0+k*13+1+1+1+1+1+1+1+1)) (getInt c (0+k*13+1+1+1+1+1+1+1+1+1)) (getInt c (0+k*13+1+1+1+1+1+1+1+1+1+1)) (getInt c (0+k*13+1+1+1+1+1+1+1+1+1+1+1)) (getInt c (0+k*13+1+1+1+1+1+1+1+1+1+1+1+1))) (fun j hj=>step52 g few hk j hj)
    (by simp only[rd52_0,RT.val,mq,i2,decide_false,cond_false]) k 0 (by omega)
  unfold F52 rt52 piK piC twB;simp only[RT.val,mq,hki,h0,hr,F47_of.1,F47_of.2,Int.toNat_natCast,Int.ofNat_eq_natCast,decide_true,Bool.and_self,cond_true]
  cases nmB (getStr c (0+k*13)) with
  | false=>rfl
  | true =>
   cases hf:fst1 (twE c (getStr c (0+k*13))) k 0 with
   | some p =>
    rw[hf]at l;simp only[L52_0_k0,Qh0,l,Option.isSome_some,Bool.not_true,cond_true,cond_false,if_true]
   | none =>
    rw[hf]at l
    simp only[L52_0_k0,L52_0_k1,Qi0,Qi1,Qi2,Qi3,Qi4,Qi5,Qi6,Qi7,Qi8,Qi9,Qi10,Qi11,Qi12,Qi13,Qi14,Qi15,Qi16,Qi17,Qi18,Qi19,Qi20,Qi21,Qi22,Qi23,Qi24,l,Option.isSome_none,(F50_of _ _ _).1,(F50_of _ _ _).2,(F88_of _ _ _ _).1,(F88_of _ _ _ _).2,(F89_of (r:=1000000) (by omega)).1,(F89_of (r:=1000000) (by omega)).2,Bool.not_true,cond_true,cond_false,if_true,Bool.false_eq_true,if_false]
    generalize inB (getInt c (0+k*13+1)) 1 3000=z1
    generalize boB _ _ _ _=z2
    generalize thB _ _ _ _ _ _ 1000000=z3
    generalize inB _ 0 2000000000=z4
    cases z1<;>cases z2<;>cases z3<;>cases z4<;>rfl
 exact ⟨by simp only[F52_ok,q];rfl,by simp only[F52_0,q]⟩
def ckS (nm:ByteArray)(g1 g2:Int)(ca:Array Value)(na:Nat)(cp:Array Value)(np:Nat)(c:Array Value)(n:Nat):Int×Int×Int :=
 if nmB nm=true then (if spB g1 g2 0 200=true then (if (arS ca na).2=0 then (if (phS cp np).2=0 then (if (piS c n).2=0 then (0,0,0) else (4,(piS c n).1,(piS c n).2)) else (3,(phS cp np).1,(phS cp np).2)) else (2,(arS ca na).1,(arS ca na).2)) else (1,0,7)) else (1,0,6)
theorem F13_eq (ga:GL I2 2 ca na)(gp:GL I13 13 cp np)(g:GL S13 13 c n):F13 nm g1 g2 ca 0 na cp 0 np c 0 n=some ⟨(ckS nm g1 g2 ca na cp np c n).1,(ckS nm g1 g2 ca na cp np c n).2.1,(ckS nm g1 g2 ca na cp np c n).2.2⟩:=by
 have e44:=F44_eq ga;have e45:=F45_eq gp;have e46:=F46_eq g
 have o44:F44_ok ca 0 na=true:=by simp only[F44_ok,e44];rfl
 have o45:F45_ok cp 0 np=true:=by simp only[F45_ok,e45];rfl
 have o46:F46_ok c 0 n=true:=by simp only[F46_ok,e46];rfl
 unfold F13 rt13 ckS;simp only[RT.val,mq,F42_of.1,F42_of.2,(F43_of _ _ _ _).1,(F43_of _ _ _ _).2,o44,o45,o46,F44_0,F44_1,F45_0,F45_1,F46_0,F46_1,e44,e45,e46,cond_true]
 cases nmB nm<;>cases spB g1 g2 0 200<;>by_cases h1:(arS ca na).2=0<;>by_cases h2:(phS cp np).2=0<;>by_cases h3:(piS c n).2=0<;>simp [h1,h2,h3]
end
section
variable {c ca cp:Array Value}{n na np k:Nat}{nm:ByteArray}{g1 g2:Int}
theorem step14_0 (g:GL I2 2 ca na)(few:na≤1000)(k:Nat)(hk:k<na):(rd14_0 ⟨(k:Int),nm,g1,g2,ca,0,na,cp,0,np,c,0,n⟩).val =
  some (if arK ca k=0 then .inl ⟨((k+1:Nat):Int),nm,g1,g2,ca,0,na,cp,0,np,c,0,n⟩ else .inr (.k0 2 (k:Int) (arK ca k) nm g1 g2 ca 0 na cp 0 np c 0 n)):=by
 have hki:(k:Int)<(na:Int):=by omega
 have h3:IntKind.wrap .i64 ((k:Int)+1)=((k+1:Nat):Int):=by rw[wrap64_id (by omega) (by omega)];omega
 obtain ⟨o,e⟩:=F49_eq (s:=nm) (g1:=g1) (g2:=g2) (cp:=cp) (np:=np) (c:=c) (n:=n) g k few hk;simp only[rd14_0,RT.val,mq,hki,h3,o,e,Int.ofNat_eq_natCast,decide_true,cond_true]
 by_cases hz:arK ca k=0
 ·simp only[hz,decide_true,Bool.not_true,cond_false,if_true]
 ·simp only[hz,decide_false,Bool.not_false,cond_true,if_false]
theorem step14_1 (g:GL I13 13 cp np)(few:np≤1000)(k:Nat)(hk:k<np):(rd14_1 ⟨(k:Int),nm,g1,g2,ca,0,na,cp,0,np,c,0,n⟩).val =
  some (if phK cp k=0 then .inl ⟨((k+1:Nat):Int),nm,g1,g2,ca,0,na,cp,0,np,c,0,n⟩ else .inr (.k0 3 (k:Int) (phK cp k) nm g1 g2 ca 0 na cp 0 np c 0 n)):=by
 have hki:(k:Int)<(np:Int):=by omega
 have h0:(0:Int)≤(k:Int):=by omega
 have h3:IntKind.wrap .i64 ((k:Int)+1)=((k+1:Nat):Int):=by rw[wrap64_id (by omega) (by omega)];omega
 have hr:rdOk cp I13 (0+k*13)=true:=row13 g hk;unfold I13 at hr
 by_cases hz:phK cp k=0
 ·have hz':=hz
  unfold phK at hz';simp only[rd14_1,RT.val,mq,hki,h0,h3,hr,(F51_of _ _ _ _ _ _ _ _ _ _ _ _ _).1,(F51_of _ _ _ _ _ _ _ _ _ _ _ _ _).2,hz,hz',Int.toNat_natCast,Int.ofNat_eq_natCast,decide_true,Bool.and_self,Bool.not_true,cond_true,cond_false,if_true]
 ·have hz':=hz
  unfold phK at hz';rw[if_neg hz];simp only[rd14_1,RT.val,mq,hki,h0,h3,hr,(F51_of _ _ _ _ _ _ _ _ _ _ _ _ _).1,(F51_of _ _ _ _ _ _ _ _ _ _ _ _ _).2,hz',Int.toNat_natCast,Int.ofNat_eq_natCast,decide_true,decide_false,Bool.and_self,Bool.not_false,cond_true,cond_false]
  rfl
theorem step14_2 (g:GL S13 13 c n)(few:n≤1000)(k:Nat)(hk:k<n):(rd14_2 ⟨(k:Int),nm,g1,g2,ca,0,na,cp,0,np,c,0,n⟩).val =
  some (if piK c k=0 then .inl ⟨((k+1:Nat):Int),nm,g1,g2,ca,0,na,cp,0,np,c,0,n⟩ else .inr (.k0 4 (k:Int) (piK c k) nm g1 g2 ca 0 na cp 0 np c 0 n)):=by
 have hki:(k:Int)<(n:Int):=by omega
 have h3:IntKind.wrap .i64 ((k:Int)+1)=((k+1:Nat):Int):=by rw[wrap64_id (by omega) (by omega)];omega
 obtain ⟨o,e⟩:=F52_of (nm:=nm) (g1:=g1) (g2:=g2) (ca:=ca) (na:=na) (cp:=cp) (np:=np) g few hk;simp only[rd14_2,RT.val,mq,hki,h3,o,e,Int.ofNat_eq_natCast,decide_true,cond_true]
 by_cases hz:piK c k=0
 ·simp only[hz,decide_true,Bool.not_true,cond_false,if_true]
 ·simp only[hz,decide_false,Bool.not_false,cond_true,if_false]
theorem F14_eq (ga:GL I2 2 ca na)(gp:GL I13 13 cp np)(g:GL S13 13 c n):F14 nm g1 g2 ca 0 na cp 0 np c 0 n=some ⟨(ckS nm g1 g2 ca na cp np c n).1,(ckS nm g1 g2 ca na cp np c n).2.1,(ckS nm g1 g2 ca na cp np c n).2.2⟩:=by
 unfold F14 rt14 ckS;simp only[RT.val,mq,F47_of.1,F47_of.2,(F48_of _ _ _ _).1,(F48_of _ _ _ _).2,(F50_of _ _ _).1,(F50_of _ _ _).2,Int.ofNat_eq_natCast,cond_true]
 cases nmB nm with
 | false=>rfl
 | true =>
 cases spB g1 g2 0 200 with
 | false=>rfl
 | true =>
 simp only[Bool.not_true,cond_false,if_true]
 by_cases h1:20<na
 ·have i1:(20:Int)<(na:Int):=by omega
  unfold arS;rw[if_pos h1];simp only[i1,decide_true,cond_true]
  rfl
 have i1:¬(20:Int)<(na:Int):=by omega
 have z1:¬(na:Int)<(na:Int):=by omega
 have l0:L14_0 (Y14_0 nm g1 g2 ca 0 na cp 0 np c 0 n)=some (match fst1 (arK ca) na 0 with | some (i,r)=>.k0 2 (i:Int) r nm g1 g2 ca 0 na cp 0 np c 0 n | none=>.k1 nm g1 g2 ca 0 na cp 0 np c 0 n) :=
  loop_fst (rd:=rd14_0) (S:=fun k=>X14_0.mk (k:Int) nm g1 g2 ca 0 na cp 0 np c 0 n) (E:=arK ca) (n:=na) (err:=fun i r=>.k0 2 (i:Int) r nm g1 g2 ca 0 na cp 0 np c 0 n) (fin:=.k1 nm g1 g2 ca 0 na cp 0 np c 0 n) (fun k hk=>step14_0 ga (by omega) k hk)
   (by simp only[rd14_0,RT.val,mq,z1,Int.ofNat_eq_natCast,decide_false,cond_false]) na 0 (by omega)
 have a0:arS ca na=match fst1 (arK ca) na 0 with | some (i,r)=>((i:Int),r) | none=>(0,0):=by unfold arS;rw[if_neg h1];rfl
 rw[a0]
 cases hf:fst1 (arK ca) na 0 with
 | some p =>
  obtain ⟨i,r⟩:=p;have hr:=fst1_ne _ _ hf;rw[hf]at l0;simp only[i1,L14_0_k0,Qj0,Qj1,Qj2,l0,hr,decide_false,cond_true,cond_false,if_false]
 | none =>
 rw[hf]at l0;simp only[i1,L14_0_k0,L14_0_k1,Qk8,l0,decide_false,cond_true,cond_false,if_true]
 have p0:phS cp np=if inB (np:Int) 1 12=true then (match fst1 (phK cp) np 0 with | some (i,r)=>((i:Int),r) | none=>(0,0)) else (0,3):=rfl
 rw[p0]
 cases hb:inB (np:Int) 1 12 with
 | false=>rfl
 | true =>
 have hb':=hb;unfold inB at hb';simp only[Bool.and_eq_true,decide_eq_true_eq]at hb'
 have z2:¬(np:Int)<(np:Int):=by omega
 have l1:L14_1 (Y14_1 nm g1 g2 ca 0 na cp 0 np c 0 n)=some (match fst1 (phK cp) np 0 with | some (i,r)=>.k0 3 (i:Int) r nm g1 g2 ca 0 na cp 0 np c 0 n | none=>.k1 nm g1 g2 ca 0 na cp 0 np c 0 n):=by
  have e:Y14_1 nm g1 g2 ca 0 na cp 0 np c 0 n=X14_1.mk 0 nm g1 g2 ca 0 na cp 0 np c 0 n:=by
   unfold Y14_1;simp only[Qk0,Qk1,Qk2,Qk3,Qk4,Qk5,Qk6,Qk7,Qk8,Qk9,Qk10,Qk11,l0]
  rw[e]
  exact loop_fst (rd:=rd14_1) (S:=fun k=>X14_1.mk (k:Int) nm g1 g2 ca 0 na cp 0 np c 0 n) (E:=phK cp) (n:=np) (err:=fun i r=>.k0 3 (i:Int) r nm g1 g2 ca 0 na cp 0 np c 0 n) (fin:=.k1 nm g1 g2 ca 0 na cp 0 np c 0 n) (fun k hk=>step14_1 gp (by omega) k hk)
   (by simp only[rd14_1,RT.val,mq,z2,Int.ofNat_eq_natCast,decide_false,cond_false]) np 0 (by omega)
 simp only[Bool.not_true,cond_false,if_true]
 cases hf2:fst1 (phK cp) np 0 with
 | some p =>
  obtain ⟨i,r⟩:=p;have hr:=fst1_ne _ _ hf2;rw[hf2]at l1;simp only[L14_1_k0,Ql0,Ql1,Ql2,l1,hr,cond_true,cond_false,if_false]
 | none =>
 rw[hf2]at l1;simp only[L14_1_k0,L14_1_k1,Qm11,l1,cond_true,cond_false,if_true]
 by_cases h3:6<n
 ·have i3:(6:Int)<(n:Int):=by omega
  unfold piS;rw[if_pos h3];simp only[i3,decide_true,cond_true]
  rfl
 have i3:¬(6:Int)<(n:Int):=by omega
 have z3:¬(n:Int)<(n:Int):=by omega
 have l2:L14_2 (Y14_2 nm g1 g2 ca 0 na cp 0 np c 0 n)=some (match fst1 (piK c) n 0 with | some (i,r)=>.k0 4 (i:Int) r nm g1 g2 ca 0 na cp 0 np c 0 n | none=>.k1 nm g1 g2 ca 0 na cp 0 np c 0 n):=by
  have e:Y14_2 nm g1 g2 ca 0 na cp 0 np c 0 n=X14_2.mk 0 nm g1 g2 ca 0 na cp 0 np c 0 n:=by
   unfold Y14_2;simp only[Qm0,Qm1,Qm2,Qm3,Qm4,Qm5,Qm6,Qm7,Qm8,Qm9,Qm10,Qm11,l1]
  rw[e]
  exact loop_fst (rd:=rd14_2) (S:=fun k=>X14_2.mk (k:Int) nm g1 g2 ca 0 na cp 0 np c 0 n) (E:=piK c) (n:=n) (err:=fun i r=>.k0 4 (i:Int) r nm g1 g2 ca 0 na cp 0 np c 0 n) (fin:=.k1 nm g1 g2 ca 0 na cp 0 np c 0 n) (fun k hk=>step14_2 g (by omega) k hk)
   (by simp only[rd14_2,RT.val,mq,z3,Int.ofNat_eq_natCast,decide_false,cond_false]) n 0 (by omega)
 have q0:piS c n=match fst1 (piK c) n 0 with | some (i,r)=>((i:Int),r) | none=>(0,0):=by unfold piS;exact if_neg h3
 rw[q0]
 cases hf3:fst1 (piK c) n 0 with
 | some p =>
  obtain ⟨i,r⟩:=p;have hr:=fst1_ne _ _ hf3;rw[hf3]at l2;simp only[i3,L14_2_k0,Qn0,Qn1,Qn2,l2,hr,decide_false,cond_true,cond_false,if_false]
 | none =>
  rw[hf3]at l2;simp only[i3,L14_2_k0,L14_2_k1,l2,decide_false,cond_true,cond_false,if_true]
end
theorem F54_far (a b:Int):F54_ok a b 2000000000=true∧F54_0 a b 2000000000=spB a b (-2000000000) 2000000000:=by
 have q:F54 a b 2000000000=some ⟨spB a b (-2000000000) 2000000000⟩:=by
  have wn:IntKind.wrap .i64 (0-2000000000)=-2000000000:=by rw[wrap64_id (by omega) (by omega)];omega
  unfold F54 rt54;simp only[RT.val,mq,wn,(F83_of _ _ _ _).1,(F83_of _ _ _ _).2,cond_true]
 exact ⟨by simp only[F54_ok,q];rfl,by simp only[F54_0,q]⟩
def htE (a b:Int):Int:=if spB a b (-2000000000) 2000000000=true then 0 else 7
theorem F60_of (a b:Int):F60_ok a b=true∧F60_0 a b=htE a b:=by
 have q:F60 a b=some ⟨htE a b⟩:=by
  unfold F60 rt60 htE;simp only[RT.val,mq,(F48_of _ _ _ _).1,(F48_of _ _ _ _).2,cond_true]
  cases spB a b (-2000000000) 2000000000<;>rfl
 exact ⟨by simp only[F60_ok,q];rfl,by simp only[F60_0,q]⟩
theorem F96_of (a b c d:Int):F96_0 a b c d=min a c∧F96_1 a b c d=max b d:=by
 have q:F96 a b c d=some ⟨min a c,max b d⟩:=rfl
 exact ⟨by simp only[F96_0,q],by simp only[F96_1,q]⟩
theorem F64_of (a b c d:Int):F64_0 a b c d=min a c∧F64_1 a b c d=max b d:=by
 have q:F64 a b c d=some ⟨min a c,max b d⟩:=rfl
 exact ⟨by simp only[F64_0,q],by simp only[F64_1,q]⟩
theorem F95_of (a:Int):F95_0 a=a∧F95_1 a=a:=by
 have q:F95 a=some ⟨a,a⟩:=rfl
 exact ⟨by simp only[F95_0,q],by simp only[F95_1,q]⟩
theorem pre1 (n:Nat)(few:n≤1000)(k:Nat)(hk:k<n):(k:Int)<(n:Int)∧(0:Int)≤(k:Int)∧IntKind.wrap .i64 ((k:Int)+1)=((k+1:Nat):Int) :=
 ⟨by omega,by omega,by rw[wrap64_id (by omega) (by omega)];omega⟩
def aF (ca:Array Value)(na k:Nat):Int:=if na=0 then 0 else getInt ca (k*2)
def aD (ca:Array Value)(na k:Nat):Int:=if na=0 then 0 else getInt ca (k*2+1)
def aN (na:Nat):Nat:=if na=0 then 1 else na
structure Ly3 (c:Array Value) (n:Nat) (fr lo hi:Nat→Int):Prop where
 r:∀k,k<n→rdOk c [(Leaf.int .i64),(Leaf.int .i64),(Leaf.int .i64)] (k*3)=true
 f:∀k,k<n→getInt c (k*3)=fr k
 l:∀k,k<n→getInt c (k*3+1)=lo k
 h:∀k,k<n→getInt c (k*3+2)=hi k
def rA (ca:Array Value)(k:Nat):List Value:=[.int .i64 (getInt ca (k*2)),.int .i64 (getInt ca (k*2+1)),.int .i64 (getInt ca (k*2+1))]
theorem rA_len (ca:Array Value)(k:Nat):(rA ca k).length=3:=rfl
theorem rA_fz (ca:Array Value)(k:Nat):(rA ca k).all fz0=true:=rfl
theorem encR (row:Nat→List Value)(k:Nat):encL row (List.range (k+1))=some (arrL row (List.range (k+1)),k+1):=by
 rw[List.range_succ,encL_app,List.length_range]
section
variable {ca:Array Value}{na:Nat}
theorem apA (k:Nat):apB (Array.extract (arrL (rA ca) (List.range k)) 0 (0+k*3)) ⟨[.int .i64 (getInt ca (k*2)),.int .i64 (getInt ca (k*2+1)),.int .i64 (getInt ca (k*2+1))]⟩=arrL (rA ca) (List.range (k+1)):=by
 have h:=apB_arrL (rA_len ca) (List.range k) k;rw[List.length_range,← List.range_succ]at h;exact h
theorem loop63 (g:GL I2 2 ca na)(few:na≤1000)(pos:0<na):∀m k,k+m=na→loopR rd63_0 ⟨encL (rA ca) (List.range k),ca,0,na,(na:Int),(k:Int)⟩=some (.k0 (arrL (rA ca) (List.range na)) 0 na)
 | 0,k,h=>by
  obtain rfl:k=na:=by omega
  obtain ⟨j,rfl⟩:∃j,k=j+1:=⟨k-1,by omega⟩
  have z1:¬((j+1:Nat):Int)<((j+1:Nat):Int):=by omega
  have sz:0+(j+1)*3≤(arrL (rA ca) (List.range (j+1))).size:=by rw[size_arrL (rA_len ca),List.length_range];omega
  rw[encR]
  exact loopR_done (by simp only[rd63_0,RT.val,mq,z1,sz,allFz_arrL (rA_fz ca),decide_true,decide_false,cond_false,cond_true,Bool.and_self])
 | m+1,k,h=>by
  have hk:k<na:=by omega
  obtain ⟨p1,p2,p3⟩:=pre1 na few k hk;have hr:=row2 g hk
  refine (loopR_next ?_).trans (loop63 g few pos m (k+1) (by omega))
  have fo:=fun a=>F95_of a
  rcases Nat.eq_zero_or_pos k with rfl | hp
  ·rw[encR]
   have p3':IntKind.wrap .i64 (((0:Nat):Int)+1)=((0+1:Nat):Int):=p3;simp only[List.range_zero,encL,rd63_0,RT.val,mq,p1,p2,p3',hr,(F95_of _).1,(F95_of _).2,Int.toNat_natCast,Int.ofNat_eq_natCast,decide_true,Bool.and_self,cond_true,Nat.zero_add,Nat.add_assoc,Nat.reduceAdd]
   rfl
  ·obtain ⟨j,rfl⟩:∃j,k=j+1:=⟨k-1,by omega⟩
   have e:=apA (ca:=ca) (j+1)
   have sz:0+(j+1)*3≤(arrL (rA ca) (List.range (j+1))).size:=by rw[size_arrL (rA_len ca),List.length_range];omega
   have c1:(j+1+1)*24≤140737488355328:=by omega
   have c2:j+1+1≤4611686018427387904:=by omega
   rw[encR,encR (rA ca) (j+1)];simp only[Nat.zero_add]at e sz hr;simp only[rd63_0,RT.val,mq,p1,p2,p3,hr,c1,c2,sz,e,(F95_of _).1,(F95_of _).2,allFz_arrL (rA_fz ca),Int.toNat_natCast,Int.ofNat_eq_natCast,decide_true,Bool.and_self,cond_true,Nat.zero_add]
theorem F63_eq (g:GL I2 2 ca na)(few:na≤1000):∃c,F63 ca 0 na=some ⟨c,0,aN na⟩∧Ly3 c (aN na) (aF ca na) (aD ca na) (aD ca na):=by
 by_cases h:na=0
 ·subst h
  have l:L63_0 (X63_0.mk none ca 0 0 (0:Int) 0)=some (.k0 ⟨[]⟩ 0 0):=loopR_done (by
   have z1:¬(0:Int)<0:=by omega
   simp only[rd63_0,RT.val,mq,z1,decide_false,cond_false])
  refine ⟨⟨[.int .i64 0,.int .i64 0,.int .i64 0]⟩,?_,⟨fun k hk=>?_,fun k hk=>?_,fun k hk=>?_,fun k hk=>?_⟩⟩
  ·have l':L63_0 (X63_0.mk none ca 0 0 ((0:Nat):Int) 0)=some (.k0 ⟨[]⟩ 0 0):=l
   unfold F63 rt63;simp only[RT.val,mq,Int.ofNat_eq_natCast,eqCode_self,L63_0_k0,Qu0,Qu1,Qu2,l',cond_true]
   rfl
  all_goals
   obtain rfl:k=0:=by simp only[aN,if_true]at hk;omega
   rfl
 ·have l:L63_0 (X63_0.mk none ca 0 na (na:Int) 0)=some (.k0 (arrL (rA ca) (List.range na)) 0 na):=loop63 g few (by omega) na 0 (by omega)
  have hz:¬(na:Int)=0:=by omega
  refine ⟨arrL (rA ca) (List.range na),?_,?_⟩
  ·unfold F63 rt63
   simp only[RT.val,mq,Int.ofNat_eq_natCast,eqCode_self,L63_0_k0,Qu0,Qu1,Qu2,l,hz,decide_false,cond_true,cond_false]
   rw[show aN na=na from if_neg h]
  ·have hN:aN na=na:=if_neg h
   rw[hN]
   have lt:∀k,k<na→k<(List.range na).length:=fun k hk=>by rw[List.length_range];exact hk
   refine ⟨fun k hk=>?_,fun k hk=>?_,fun k hk=>?_,fun k hk=>?_⟩
   ·have hr:=rdOk_arrL (rA_len ca) (List.range na) (lt k hk) [(Leaf.int .i64),(Leaf.int .i64),(Leaf.int .i64)] 0 (by decide)
    rw[Nat.add_zero]at hr;exact hr.trans rfl
   ·have:=getInt_arrL (rA_len ca) (List.range na) (j:=0) (lt k hk) (by decide)
    rw[Nat.add_zero]at this;rw[this,List.getElem_range,aF,if_neg h];rfl
   ·rw[getInt_arrL (rA_len ca) (List.range na) (lt k hk) (by decide),List.getElem_range,aD,if_neg h];rfl
   ·rw[getInt_arrL (rA_len ca) (List.range na) (lt k hk) (by decide),List.getElem_range,aD,if_neg h];rfl
end
section
variable {c:Array Value}{n:Nat}{fr lo hi:Nat→Int}
section
variable {hb:Nat}{hw:List Nat}{a0:ByteArray}{a1 a2:Int}{a3:Array Value}{a4 a5:Nat}{a6:Array Value}{a7 a8:Nat}{a9:Array Value}{a10 a11:Nat}{b0 b1 b2 b3 zl zh b6 b7:Int}
theorem low20 (g:Ly3 c n fr lo hi)(few:n≤1000):∀m i,i+m+1=n→(∀k,1≤k→k≤i→fr k≤zl) →
  ∃q:Nat,q<n∧(∀k,1≤k→k≤q→fr k≤zl)∧(q+1<n→zl<fr (q+1)) ∧
   loopR rd20_62x0 ⟨hb,hw,c,0,n,(i:Int),a0,a1,a2,a3,a4,a5,a6,a7,a8,a9,a10,a11,b0,b1,b2,b3,zl,zh,b6,b7⟩=some (.k0 c 0 n (q:Int) a0 a1 a2 a3 a4 a5 a6 a7 a8 a9 a10 a11 b0 b1 b2 b3 zl zh b6 b7)
 | 0,i,h,hi'=>by
  have e:IntKind.wrap .i64 ((i:Int)+1)=((i+1:Nat):Int):=by rw[wrap64_id (by omega) (by omega)];omega
  have z1:¬((i+1:Nat):Int)<(n:Int):=by omega
  exact ⟨i,by omega,hi',fun q=>by omega,loopR_done (by simp only[rd20_62x0,RT.val,mq,e,z1,Int.ofNat_eq_natCast,decide_false,cond_false])⟩
 | m+1,i,h,hi'=>by
  have e:IntKind.wrap .i64 ((i:Int)+1)=((i+1:Nat):Int):=by rw[wrap64_id (by omega) (by omega)];omega
  have z1:((i+1:Nat):Int)<(n:Int):=by omega
  have z2:(0:Int)≤((i+1:Nat):Int):=by omega
  have r:=(rd_and (g.r (i+1) (by omega))).1
  have r':isInt .i64 c ((i+1)*3)=true:=r
  have f:=g.f (i+1) (by omega)
  by_cases hc:fr (i+1)≤zl
  ·obtain ⟨q,q1,q2,q3,q4⟩:=low20 g few m (i+1) (by omega) (fun k k1 k2=>by
    rcases Nat.lt_or_eq_of_le k2 with k2 | rfl
    ·exact hi' k k1 (by omega)
    ·exact hc)
   refine ⟨q,q1,q2,q3,(loopR_next ?_).trans q4⟩
   simp only[rd20_62x0,RT.val,mq,e,z1,z2,r',f,hc,Int.ofNat_eq_natCast,Int.toNat_natCast,Nat.zero_add,Nat.add_zero,decide_true,Bool.and_self,cond_true]
  ·refine ⟨i,by omega,hi',fun _=>by omega,loopR_done ?_⟩
   simp only[rd20_62x0,RT.val,mq,e,z1,z2,r',f,hc,Int.ofNat_eq_natCast,Int.toNat_natCast,Nat.zero_add,Nat.add_zero,decide_true,decide_false,Bool.and_self,cond_true,cond_false]
theorem up20 (g:Ly3 c n fr lo hi)(few:n≤1000) {q:Nat}(hq:q<n):∀m k (a b:Int),q+1+k+m=n→(∀j,q<j→j<q+1+k→fr j≤zh)→IsH (fun j=>q≤j∧j<q+1+k) lo hi a b →
  ∃J a' b',q<J∧J≤n∧(∀j,q<j→j<J→fr j≤zh)∧(J<n→zh<fr J)∧IsH (fun j=>q≤j∧j<J) lo hi a' b' ∧
   loopR rd20_62x1 ⟨hb,hw,c,(q+1)*3,n-(q+1),((n-(q+1):Nat):Int),(k:Int),a0,a1,a2,a3,a4,a5,a6,a7,a8,a9,a10,a11,b0,b1,b2,b3,b6,zh,b7,zl,a,b⟩=some (.k0 a0 a1 a2 a3 a4 a5 a6 a7 a8 a9 a10 a11 b0 b1 b2 b3 b6 zh b7 zl a' b')
 | 0,k,a,b,h,h3,hh=>by
  have z1:¬(k:Int)<((n-(q+1):Nat):Int):=by omega
  exact ⟨q+1+k,a,b,by omega,by omega,h3,fun _=>by omega,hh,loopR_done (by simp only[rd20_62x1,RT.val,mq,z1,Int.ofNat_eq_natCast,decide_false,cond_false])⟩
 | m+1,k,a,b,h,h3,hh=>by
  have z1:(k:Int)<((n-(q+1):Nat):Int):=by omega
  have z2:(0:Int)≤(k:Int):=by omega
  have e:IntKind.wrap .i64 ((k:Int)+1)=((k+1:Nat):Int):=by rw[wrap64_id (by omega) (by omega)];omega
  have hx:(q+1)*3+k*3=(q+1+k)*3:=by omega
  have r:=g.r (q+1+k) (by omega)
  have f:=g.f (q+1+k) (by omega)
  have l:=g.l (q+1+k) (by omega)
  have u:=g.h (q+1+k) (by omega)
  by_cases hc:zh<fr (q+1+k)
  ·refine ⟨q+1+k,a,b,by omega,by omega,h3,fun _=>hc,hh,loopR_done ?_⟩
   simp only[rd20_62x1,RT.val,mq,z1,z2,hx,r,f,hc,Int.ofNat_eq_natCast,Int.toNat_natCast,decide_true,Bool.and_self,cond_true]
  ·obtain ⟨J,a',b',j1,j2,j3,j4,j5,j6⟩:=up20 g few hq m (k+1) (min a (lo (q+1+k))) (max b (hi (q+1+k))) (by omega) (fun j k1 k2=>by
    rcases Nat.lt_or_ge j (q+1+k) with k3 | k3
    ·exact h3 j k1 k3
    ·obtain rfl:j=q+1+k:=by omega
     omega) ((hh.add (q+1+k)).congr fun j=>by omega)
   refine ⟨J,a',b',j1,j2,j3,j4,j5,(loopR_next ?_).trans j6⟩
   simp only[rd20_62x1,RT.val,mq,z1,z2,e,hx,r,f,l,u,hc,(F64_of _ _ _ _).1,(F64_of _ _ _ _).2,Int.ofNat_eq_natCast,Int.toNat_natCast,Nat.add_assoc,Nat.reduceAdd,decide_true,decide_false,Bool.and_self,cond_true,cond_false]
   rw[show q+(1+k)=q+1+k by omega]at *
   simp only[hx,r,f,l,u,hc,decide_true,decide_false,cond_true,cond_false]
end
end
section
variable {nm:ByteArray}{g1 g2:Int}{ca cp c:Array Value}{na np n:Nat}{zl zh:Int}
theorem fst1_no {E:Nat→Int}:∀{m k:Nat},fst1 E m k=none→∀j,k≤j→j<k+m→E j=0
 | 0,k,h,j,h1,h2=>by omega
 | m+1,k,h,j,h1,h2=>by
  unfold fst1 at h
  split at h
  ·rename_i e
   rcases Nat.lt_or_eq_of_le h1 with q | rfl
   ·exact fst1_no h j (by omega) (by omega)
   ·exact e
  ·cases h
theorem fst1_nz {E:Nat→Int}:∀{m k i:Nat}{r:Int},fst1 E m k=some (i,r)→r≠0
 | 0,k,i,r,h=>by cases h
 | m+1,k,i,r,h=>by
  unfold fst1 at h
  split at h
  ·exact fst1_nz h
  ·rename_i e
   cases h
   exact e
theorem ck_air (h:(ckS nm g1 g2 ca na cp np c n).2.2=0):na≤1000∧∀k,k<na→arK ca k=0:=by
 unfold ckS at h
 split at h
 ·split at h
  ·split at h
   ·rename_i h0
    unfold arS at h0
    split at h0
    ·cases h0
    ·rename_i hn
     refine ⟨by omega,fun k hk=>?_⟩
     cases hf:fst1 (arK ca) na 0 with
     | none=>exact fst1_no hf k (by omega) (by omega)
     | some p =>
      obtain ⟨i,r⟩:=p;rw[hf]at h0;exact absurd h0 (fst1_nz hf)
   ·rename_i h0
    exact absurd h h0
  ·cases h
 ·cases h
theorem ar_inc (h:∀k,k<na→arK ca k=0):∀k,k+1<aN na→aF ca na k<aF ca na (k+1):=by
 intro k hk
 by_cases h0:na=0
 ·subst h0;simp only[aN,if_true]at hk;omega
 ·rw[aN,if_neg h0]at hk
  have e:=h (k+1) hk;unfold arK arC at e
  have z:¬k+1=0:=by omega
  simp only[z,decide_false,Bool.false_eq_true,if_false,Nat.add_sub_cancel,Nat.zero_add,Nat.add_zero]at e;rw[aF,aF,if_neg h0,if_neg h0]
  by_cases q:getInt ca (k*2)<getInt ca ((k+1)*2)
  ·exact q
  ·simp only[q,decide_false,Bool.false_eq_true,if_false]at e
   cases e
theorem sp_le {a b lo hi:Int}(h:spB a b lo hi=true):a≤b∧lo≤a∧b≤hi:=by
 unfold spB at h;simp only[Bool.and_eq_true,decide_eq_true_eq]at h;exact ⟨h.1,h.2.1,h.2.2⟩
def AirR (nm:ByteArray)(g1 g2:Int)(ca:Array Value)(na:Nat)(cp:Array Value)(np:Nat)(c:Array Value)(n:Nat)(zl zh a b e:Int):Prop :=
 (e=(if (ckS nm g1 g2 ca na cp np c n).2.2=0 then htE zl zh else (ckS nm g1 g2 ca na cp np c n).2.2))∧(e≠0→a=0∧b=0)∧(e=0→zl≤zh∧(∀k,k+1<aN na→aF ca na k<aF ca na (k+1))∧IsH (La (aF ca na) (aN na) zl zh) (aD ca na) (aD ca na) a b)
theorem aN_pos (na:Nat):0<aN na:=by unfold aN;split<;>omega
theorem F20_of (ga:GL I2 2 ca na)(gp:GL I13 13 cp np)(g:GL S13 13 c n):∃a b e,F20 nm g1 g2 ca 0 na cp 0 np c 0 n zl zh=some ⟨a,b,e⟩∧AirR nm g1 g2 ca na cp np c n zl zh a b e:=by
 have p:=F13_eq (nm:=nm) (g1:=g1) (g2:=g2) ga gp g
 have o1:F13_ok nm g1 g2 ca 0 na cp 0 np c 0 n=true:=by unfold F13_ok;rw[p];rfl
 have o2:F13_2 nm g1 g2 ca 0 na cp 0 np c 0 n=(ckS nm g1 g2 ca na cp np c n).2.2:=by unfold F13_2;rw[p]
 unfold AirR
 by_cases hc:(ckS nm g1 g2 ca na cp np c n).2.2=0
 ·cases hs:spB zl zh (-2000000000) 2000000000 with
  | false =>
   have hh:htE zl zh=7:=by unfold htE;rw[hs];rfl
   refine ⟨0,0,7,?_,by rw[if_pos hc,hh],fun _=>⟨rfl,rfl⟩,fun h=>by cases h⟩
   unfold F20 rt20;simp only[RT.val,mq,o1,o2,hc,(F54_far _ _).1,(F54_far _ _).2,hs,decide_true,Bool.not_true,Bool.not_false,cond_true,cond_false]
  | true =>
   have hh:htE zl zh=0:=by unfold htE;rw[hs];rfl
   obtain ⟨few,har⟩:=ck_air hc;have inc:=ar_inc har;have zz:=(sp_le hs).1;obtain ⟨d,f63,ly⟩:=F63_eq ga few
   have f0:F63_ok ca 0 na=true:=by unfold F63_ok;rw[f63];rfl
   have f1:F63_0 ca 0 na=d:=by unfold F63_0;rw[f63]
   have f2:F63_1 ca 0 na=0:=by unfold F63_1;rw[f63]
   have f3:F63_2 ca 0 na=aN na:=by unfold F63_2;rw[f63]
   have fewN:aN na≤1000:=by unfold aN;split<;>omega
   have pos:=aN_pos na
   obtain ⟨q,q1,q2,q3,q4⟩:=low20 (hb:=3) (hw:=[]) (a0:=nm) (a1:=g1) (a2:=g2) (a3:=ca) (a4:=0) (a5:=na) (a6:=cp) (a7:=0) (a8:=np) (a9:=c) (a10:=0) (a11:=n) (b0:=zl) (b1:=zh) (b2:=0) (b3:=0) (zl:=zl) (zh:=zh) (b6:=0) (b7:=0) ly fewN (aN na-1) 0 (by omega) (fun k k1 k2=>by omega)
   have l0:L20_62x0 (Y20_0 nm g1 g2 ca 0 na cp 0 np c 0 n zl zh)=some (.k0 d 0 (aN na) (q:Int) nm g1 g2 ca 0 na cp 0 np c 0 n zl zh 0 0 zl zh 0 0):=by
    unfold Y20_0;rw[f1,f2,f3];exact q4
   obtain ⟨J,a',b',j1,j2,j3,j4,j5,j6⟩:=up20 (hb:=3) (hw:=[0,1,2,3,4]) (a0:=nm) (a1:=g1) (a2:=g2) (a3:=ca) (a4:=0) (a5:=na) (a6:=cp) (a7:=0) (a8:=np) (a9:=c) (a10:=0) (a11:=n) (b0:=zl) (b1:=zh) (b2:=0) (b3:=0) (zl:=0) (zh:=zh) (b6:=zl) (b7:=0) ly fewN q1 (aN na-(q+1)) 0 (aD ca na q) (aD ca na q) (by omega) (fun j k1 k2=>by omega) ((IsH.one q).congr fun j=>by omega)
   have wq:IntKind.wrap .i64 ((q:Int)+1)=((q+1:Nat):Int):=by rw[wrap64_id (by omega) (by omega)];omega
   have l1:L20_62x1 (Y20_1 nm g1 g2 ca 0 na cp 0 np c 0 n zl zh)=some (.k0 nm g1 g2 ca 0 na cp 0 np c 0 n zl zh 0 0 zl zh 0 0 a' b'):=by
    unfold Y20_1;simp only[L20_62x0_k0_0,L20_62x0_k0_1,L20_62x0_k0_2,L20_62x0_k0_3,L20_62x0_k0_4,L20_62x0_k0_5,L20_62x0_k0_6,L20_62x0_k0_7,L20_62x0_k0_8,L20_62x0_k0_9,L20_62x0_k0_10,L20_62x0_k0_11,L20_62x0_k0_12,L20_62x0_k0_13,L20_62x0_k0_14,L20_62x0_k0_15,L20_62x0_k0_16,L20_62x0_k0_17,L20_62x0_k0_18,L20_62x0_k0_19,L20_62x0_k0_20,L20_62x0_k0_21,L20_62x0_k0_22,L20_62x0_k0_23,l0,wq,Int.toNat_natCast,Nat.zero_add,Nat.add_assoc,Nat.reduceAdd,ly.l q q1,ly.h q q1];exact j6
   have qn:(q:Int)<(aN na:Int):=by omega
   have q0:(0:Int)≤(q:Int):=by omega
   have q01:(0:Int)≤((q+1:Nat):Int):=by omega
   have qle:q+1≤aN na:=by omega
   have r2:=(rd_and (ly.r q q1)).2
   refine ⟨a',b',0,?_,by rw[if_pos hc,hh],fun h=>absurd rfl h,fun _=>⟨zz,inc,j5.congr (la_seg inc zz q1 q2 q3 j1 j2 j3 j4)⟩⟩
   unfold F20 rt20;simp only[RT.val,mq,o1,o2,hc,(F54_far _ _).1,(F54_far _ _).2,hs,f0,eqCode_self,decide_true,Bool.not_true,cond_true,cond_false];simp only[L20_62x0_k0,L20_62x0_k0_0,L20_62x0_k0_1,L20_62x0_k0_2,L20_62x0_k0_3,l0,wq,qn,q0,q01,qle,r2,Nat.le_refl,Int.toNat_natCast,Int.ofNat_eq_natCast,Nat.zero_add,L20_62x1_k0,L20_62x1_k0_20,L20_62x1_k0_21,l1,decide_true,Bool.and_self,cond_true]
 ·refine ⟨0,0,_,?_,by rw[if_neg hc],fun _=>⟨rfl,rfl⟩,fun h=>absurd h hc⟩
  unfold F20 rt20;simp only[RT.val,mq,o1,o2,hc,decide_false,Bool.not_false,cond_true]
end
section
variable {nm:ByteArray}{g1 g2:Int}{ca cp c:Array Value}{na np n:Nat}{zl zh:Int}
def S65 (nm:ByteArray)(g1 g2:Int)(ca:Array Value)(na:Nat)(cp:Array Value)(np:Nat)(c:Array Value)(n:Nat)(zl zh:Int)(k:Nat)(s:Bool)(a b:Int):X65_0:=⟨s,(k:Int),nm,g1,g2,ca,0,na,cp,0,np,c,0,n,zl,zh,0,0,a,b⟩
theorem step65 (g:GL I2 2 ca na)(few:na≤1000) {k:Nat}(hk:k<na) (s:Bool) (a b:Int) :
  (La (aF ca na) na zl zh k→(rd65_0 (S65 nm g1 g2 ca na cp np c n zl zh k s a b)).val=some (.inl (S65 nm g1 g2 ca na cp np c n zl zh (k+1) true (if s=true then min a (aD ca na k) else aD ca na k) (if s=true then max b (aD ca na k) else aD ca na k)))) ∧
  (¬La (aF ca na) na zl zh k→(rd65_0 (S65 nm g1 g2 ca na cp np c n zl zh k s a b)).val=some (.inl (S65 nm g1 g2 ca na cp np c n zl zh (k+1) s a b))):=by
 obtain ⟨p1,p2,p3⟩:=pre1 na few k hk
 have h0:¬na=0:=by omega
 have hr:=row2 g hk;have i0:=(rd_and hr).1;have i1:=(rd_and (rd_and hr).2).1;rw[Nat.zero_add]at i0 i1;have i0':isInt .i64 ca (k*2)=true:=i0;have i1':isInt .i64 ca (k*2+1)=true:=i1
 have e0:getInt ca (k*2)=aF ca na k:=by rw[aF,if_neg h0]
 have e1:getInt ca (k*2+1)=aD ca na k:=by rw[aD,if_neg h0]
 have tail:∀(skip take:Option (Sum X65_0 D65_0)),(cond (decide (((k+1:Nat):Int)<(na:Int))) (cond (decide ((0:Int)≤((k+1:Nat):Int))&&decide (((k+1:Nat):Int)<(na:Int))) (cond (isInt .i64 ca ((k+1)*2)) (cond (decide (getInt ca ((k+1)*2)≤zl)) skip take) none) none) take) =
   if (k+1<na→zl<aF ca na (k+1)) then take else skip:=by
  intro skip take
  by_cases hn:k+1<na
  ·have q1:((k+1:Nat):Int)<(na:Int):=by omega
   have q2:(0:Int)≤((k+1:Nat):Int):=by omega
   have hr':=row2 g hn;have j0:=(rd_and hr').1;rw[Nat.zero_add]at j0;have j0':isInt .i64 ca ((k+1)*2)=true:=j0
   have e2:getInt ca ((k+1)*2)=aF ca na (k+1):=by rw[aF,if_neg h0]
   by_cases hz:aF ca na (k+1)≤zl
   ·rw[if_neg (by intro h;have:=h hn;omega)]
    simp only[q1,q2,j0',e2,hz,decide_true,Bool.and_self,cond_true]
   ·rw[if_pos (by intro _;omega)]
    simp only[q1,q2,j0',e2,hz,decide_true,decide_false,Bool.and_self,cond_true,cond_false]
  ·have q1:¬((k+1:Nat):Int)<(na:Int):=by omega
   rw[if_pos (by intro h;exact absurd h hn)]
   simp only[q1,decide_false,cond_false]
 have key:(rd65_0 (S65 nm g1 g2 ca na cp np c n zl zh k s a b)).val=if (k=0∨aF ca na k≤zh)∧(k+1<na→zl<aF ca na (k+1)) then some (.inl (S65 nm g1 g2 ca na cp np c n zl zh (k+1) true (if s=true then min a (aD ca na k) else aD ca na k) (if s=true then max b (aD ca na k) else aD ca na k))) else some (.inl (S65 nm g1 g2 ca na cp np c n zl zh (k+1) s a b)):=by
  by_cases hf:zh<aF ca na k
  ·by_cases hk0:k=0
   ·subst hk0
    have z:¬(0:Int)<((0:Nat):Int):=by omega
    have t:=tail
    cases s
    all_goals
     simp only[S65,rd65_0,RT.val,mq,p1,p2,p3,i0',i1',e0,e1,hf,z,(F96_of _ _ _ _).1,(F96_of _ _ _ _).2,Int.toNat_natCast,Int.ofNat_eq_natCast,Nat.zero_add,Nat.add_zero,decide_true,decide_false,Bool.and_self,Bool.true_and,cond_true,cond_false];rw[Nat.zero_add]at t
     refine (t _ _).trans ?_
     by_cases hx:(0+1<na→zl<aF ca na (0+1))
     ·rw[if_pos (by rw[Nat.zero_add]at hx;exact hx),if_pos ⟨.inl trivial,hx⟩];rfl
     ·rw[if_neg (by rw[Nat.zero_add]at hx;exact hx),if_neg (fun h=>hx h.2)]
   ·have z:(0:Int)<(k:Int):=by omega
    rw[if_neg (by intro h;rcases h.1 with h | h<;>omega)]
    simp only[S65,rd65_0,RT.val,mq,p1,p2,p3,i0',e0,hf,z,Int.toNat_natCast,Int.ofNat_eq_natCast,Nat.zero_add,Nat.add_zero,decide_true,Bool.and_self,cond_true]
  ·have hle:aF ca na k≤zh:=by omega
   have t:=tail
   cases s
   all_goals
    simp only[S65,rd65_0,RT.val,mq,p1,p2,p3,i0',i1',e0,e1,hf,(F96_of _ _ _ _).1,(F96_of _ _ _ _).2,Int.toNat_natCast,Int.ofNat_eq_natCast,Nat.zero_add,Nat.add_zero,decide_true,decide_false,Bool.and_self,Bool.true_and,cond_true,cond_false]
    refine (t _ _).trans ?_
    by_cases hx:(k+1<na→zl<aF ca na (k+1))
    ·rw[if_pos hx,if_pos ⟨.inr hle,hx⟩];rfl
    ·rw[if_neg hx,if_neg (fun h=>hx h.2)]
 constructor
 ·intro h
  rw[key,if_pos ⟨h.2.1,h.2.2⟩]
 ·intro h
  rw[key,if_neg (fun q=>h ⟨hk,q.1,q.2⟩)]
theorem loop65 (g:GL I2 2 ca na)(few:na≤1000):∀m k (s:Bool) (a b:Int),k+m=na→RefI (fun j=>La (aF ca na) na zl zh j∧j<k) (aD ca na) (aD ca na) s a b →
  ∃s' a' b',RefI (La (aF ca na) na zl zh) (aD ca na) (aD ca na) s' a' b'∧loopR rd65_0 (S65 nm g1 g2 ca na cp np c n zl zh k s a b)=some (.k0 nm g1 g2 ca 0 na cp 0 np c 0 n zl zh 0 0 a' b')
 | 0,k,s,a,b,h,hi=>by
  obtain rfl:k=na:=by omega
  have z1:¬(k:Int)<(k:Int):=by omega
  exact ⟨s,a,b,hi.skip fun j=>⟨fun q=>q.1,fun q=>⟨q,q.1⟩⟩,loopR_done (by simp only[S65,rd65_0,RT.val,mq,z1,Int.ofNat_eq_natCast,decide_false,cond_false])⟩
 | m+1,k,s,a,b,h,hi=>by
  have hk:k<na:=by omega
  obtain ⟨y,no⟩:=step65 (nm:=nm) (g1:=g1) (g2:=g2) (cp:=cp) (np:=np) (c:=c) (n:=n) (zl:=zl) (zh:=zh) g few hk s a b
  by_cases hL:La (aF ca na) na zl zh k
  ·obtain ⟨s',a',b',q1,q2⟩:=loop65 g few m (k+1) true _ _ (by omega) (hi.take k fun j=>⟨fun q=>by
    rcases q with q | rfl
    ·exact ⟨q.1,by omega⟩
    ·exact ⟨hL,by omega⟩,fun q=>by
    rcases Nat.lt_or_ge j k with w | w
    ·exact .inl ⟨q.1,w⟩
    ·exact .inr (by omega)⟩)
   exact ⟨s',a',b',q1,(loopR_next (y hL)).trans q2⟩
  ·obtain ⟨s',a',b',q1,q2⟩:=loop65 g few m (k+1) s a b (by omega) (hi.skip fun j=>⟨fun q=>⟨q.1,by omega⟩,fun q=>⟨q.1,by
    rcases Nat.lt_or_ge j k with w | w
    ·exact w
    ·obtain rfl:j=k:=by omega
     exact absurd q.1 hL⟩⟩)
   exact ⟨s',a',b',q1,(loopR_next (no hL)).trans q2⟩
theorem F65_of (ga:GL I2 2 ca na)(few:na≤1000) {x y:Int}(hx:IsH (La (aF ca na) (aN na) zl zh) (aD ca na) (aD ca na) x y) :
  F65_ok nm g1 g2 ca 0 na cp 0 np c 0 n zl zh=true∧F65_0 nm g1 g2 ca 0 na cp 0 np c 0 n zl zh=x∧F65_1 nm g1 g2 ca 0 na cp 0 np c 0 n zl zh=y:=by
 obtain ⟨s,a,b,r,l⟩:=loop65 (nm:=nm) (g1:=g1) (g2:=g2) (cp:=cp) (np:=np) (c:=c) (n:=n) (zl:=zl) (zh:=zh) ga few na 0 false 0 0 (by omega) (.inl ⟨rfl,fun j h=>by omega⟩)
 have l':L65_0 (X65_0.mk false 0 nm g1 g2 ca 0 na cp 0 np c 0 n zl zh 0 0 0 0)=some (.k0 nm g1 g2 ca 0 na cp 0 np c 0 n zl zh 0 0 a b):=l
 have q:F65 nm g1 g2 ca 0 na cp 0 np c 0 n zl zh=some ⟨a,b⟩:=by
  unfold F65 rt65;simp only[RT.val,mq,eqCode_self,L65_0_k0,Qv16,Qv17,l',cond_true]
 have e:a=x∧b=y:=by
  by_cases h0:na=0
  ·subst h0
   have ln:loopR rd65_0 (S65 nm g1 g2 ca 0 cp np c n zl zh 0 false 0 0)=some (.k0 nm g1 g2 ca 0 0 cp 0 np c 0 n zl zh 0 0 0 0):=loopR_done (by
    have z1:¬((0:Nat):Int)<((0:Nat):Int):=by omega
    simp only[S65,rd65_0,RT.val,mq,z1,Int.ofNat_eq_natCast,decide_false,cond_false])
   have e2:some (D65_0.k0 nm g1 g2 ca 0 0 cp 0 np c 0 n zl zh 0 0 a b)=some (D65_0.k0 nm g1 g2 ca 0 0 cp 0 np c 0 n zl zh 0 0 0 0):=l.symm.trans ln;simp only[Option.some.injEq,D65_0.k0.injEq,true_and]at e2;obtain ⟨_,⟨j,_,hj⟩,⟨i,_,hi⟩⟩:=hx
   have z:∀k,aD ca 0 k=0:=fun k=>by unfold aD;rw[if_pos rfl]
   rw[z]at hj hi;rw[hj,hi];exact ⟨e2.1,e2.2⟩
  ·rw[show aN na=na from if_neg h0]at hx
   exact r.end hx fun j=>Iff.rfl
 obtain ⟨rfl,rfl⟩:=e
 exact ⟨by unfold F65_ok;rw[q];rfl,by unfold F65_0;rw[q],by unfold F65_1;rw[q]⟩
theorem F21_of (ga:GL I2 2 ca na)(gp:GL I13 13 cp np)(g:GL S13 13 c n) {a b e:Int}(h:AirR nm g1 g2 ca na cp np c n zl zh a b e):F21 nm g1 g2 ca 0 na cp 0 np c 0 n zl zh=some ⟨a,b,e⟩:=by
 have p:=F14_eq (nm:=nm) (g1:=g1) (g2:=g2) ga gp g
 have o1:F14_ok nm g1 g2 ca 0 na cp 0 np c 0 n=true:=by unfold F14_ok;rw[p];rfl
 have o2:F14_2 nm g1 g2 ca 0 na cp 0 np c 0 n=(ckS nm g1 g2 ca na cp np c n).2.2:=by unfold F14_2;rw[p]
 obtain ⟨h1,h2,h3⟩:=h;unfold F21 rt21
 by_cases hc:(ckS nm g1 g2 ca na cp np c n).2.2=0
 ·rw[if_pos hc]at h1
  by_cases hh:htE zl zh=0
  ·rw[hh]at h1
   obtain ⟨few,_⟩:=ck_air hc;obtain ⟨w1,w2,w3⟩:=F65_of (nm:=nm) (g1:=g1) (g2:=g2) (cp:=cp) (np:=np) (c:=c) (n:=n) ga few (h3 h1).2.2;simp only[RT.val,mq,o1,o2,hc,(F60_of _ _).1,(F60_of _ _).2,hh,w1,w2,w3,h1,decide_true,Bool.not_true,cond_true,cond_false]
  ·obtain ⟨a0,b0⟩:=h2 (by rw[h1];exact hh)
   simp only[RT.val,mq,o1,o2,hc,(F60_of _ _).1,(F60_of _ _).2,hh,h1,a0,b0,decide_true,decide_false,Bool.not_true,Bool.not_false,cond_true,cond_false]
 ·rw[if_neg hc]at h1
  obtain ⟨a0,b0⟩:=h2 (by rw[h1];exact hc)
  simp only[RT.val,mq,o1,o2,hc,h1,a0,b0,decide_true,decide_false,Bool.not_true,Bool.not_false,cond_true,cond_false]
end
def wF (l:Array Value)(n k:Nat):Int:=if k=n then prv l n else getInt l (k*6)
def wV (l:Array Value)(n j k:Nat):Int:=if k=n then 0 else getInt l (k*6+2+j)
structure Ly7 (c:Array Value) (n:Nat) (fr xl xh yl yh:Nat→Int):Prop where
 r:∀k,k<n→rdOk c [(Leaf.int .i64),(Leaf.int .i64),(Leaf.int .i64),(Leaf.int .i64),(Leaf.int .i64),(Leaf.int .i64),(Leaf.int .i64)] (k*7)=true
 f:∀k,k<n→getInt c (k*7)=fr k
 x:∀k,k<n→getInt c (k*7+1)=xl k∧getInt c (k*7+2)=xh k
 y:∀k,k<n→getInt c (k*7+3)=yl k∧getInt c (k*7+4)=yh k
def rW (l:Array Value)(n k:Nat):List Value:=[.int .i64 (wF l n k),.int .i64 (wV l n 0 k),.int .i64 (wV l n 1 k),.int .i64 (wV l n 2 k),.int .i64 (wV l n 3 k),.int .i64 0,.int .i64 0]
theorem rW_len (l:Array Value)(n k:Nat):(rW l n k).length=7:=rfl
theorem rW_fz (l:Array Value)(n k:Nat):(rW l n k).all fz0=true:=rfl
section
variable {l:Array Value}{n:Nat}
theorem rW_mid {k:Nat}(hk:k<n):rW l n k=[.int .i64 (getInt l (k*6)),.int .i64 (getInt l (k*6+2)),.int .i64 (getInt l (k*6+3)),.int .i64 (getInt l (k*6+4)),.int .i64 (getInt l (k*6+5)),.int .i64 0,.int .i64 0]:=by
 have h:¬k=n:=by omega
 simp only[rW,wF,wV,if_neg h,Nat.add_assoc,Nat.reduceAdd]
theorem apW {k:Nat}(hk:k<n):apB (Array.extract (arrL (rW l n) (List.range k)) 0 (0+k*7)) ⟨[.int .i64 (getInt l (k*6)),.int .i64 (getInt l (k*6+2)),.int .i64 (getInt l (k*6+3)),.int .i64 (getInt l (k*6+4)),.int .i64 (getInt l (k*6+5)),.int .i64 0,.int .i64 0]⟩=arrL (rW l n) (List.range (k+1)):=by
 have h:=apB_arrL (rW_len l n) (List.range k) k;rw[List.length_range,← List.range_succ,rW_mid hk]at h;exact h
theorem loop56 (g:GL I6 6 l n)(few:n≤1000)(pos:0<n):∀m k,k+m=n→loopR rd56_0 ⟨encL (rW l n) (List.range k),prv l k,l,0,n,(n:Int),(k:Int)⟩=some (.k1 (arrL (rW l n) (List.range n)) n (prv l n))
 | 0,k,h=>by
  obtain rfl:k=n:=by omega
  obtain ⟨j,rfl⟩:∃j,k=j+1:=⟨k-1,by omega⟩
  have z1:¬((j+1:Nat):Int)<((j+1:Nat):Int):=by omega
  rw[encR]
  exact loopR_done (by simp only[rd56_0,RT.val,mq,z1,allFz_arrL (rW_fz l (j+1)),decide_false,cond_false,cond_true])
 | m+1,k,h=>by
  have hk:k<n:=by omega
  obtain ⟨p1,p2,p3⟩:=pre1 n few k hk;have hr:rdOk l I6 (0+k*6)=true:=g.good.2 k hk;rw[Nat.zero_add]at hr;unfold I6 at hr
  refine (loopR_next ?_).trans (loop56 g few pos m (k+1) (by omega))
  rcases Nat.eq_zero_or_pos k with rfl | hp
  ·rw[encR]
   have p3':IntKind.wrap .i64 (((0:Nat):Int)+1)=((0+1:Nat):Int):=p3
   have e:arrL (rW l n) (List.range (0+1))=⟨[.int .i64 (getInt l (0*6)),.int .i64 (getInt l (0*6+2)),.int .i64 (getInt l (0*6+3)),.int .i64 (getInt l (0*6+4)),.int .i64 (getInt l (0*6+5)),.int .i64 0,.int .i64 0]⟩:=by
    show (⟨rW l n 0++[]⟩:Array Value)=_
    rw[List.append_nil,rW_mid hk]
   rw[e];simp only[List.range_zero,encL,rd56_0,RT.val,mq,p1,p2,p3',hr,Int.toNat_natCast,Int.ofNat_eq_natCast,decide_true,Bool.and_self,cond_true,Nat.zero_add,Nat.add_assoc,Nat.reduceAdd]
   rfl
  ·obtain ⟨j,rfl⟩:∃j,k=j+1:=⟨k-1,by omega⟩
   have e:=apW (l:=l) hk
   have sz:0+(j+1)*7≤(arrL (rW l n) (List.range (j+1))).size:=by rw[size_arrL (rW_len l n),List.length_range];omega
   have c1:(j+1+1)*56≤140737488355328:=by omega
   have c2:j+1+1≤4611686018427387904:=by omega
   rw[encR,encR (rW l n) (j+1)];simp only[Nat.zero_add]at e sz;simp only[rd56_0,RT.val,mq,p1,p2,p3,hr,c1,c2,sz,Int.toNat_natCast,Int.ofNat_eq_natCast,decide_true,Bool.and_self,cond_true,Nat.zero_add,Nat.add_assoc,Nat.reduceAdd]at *;simp only[e,allFz_arrL (rW_fz l n),cond_true]
   rfl
theorem F56_eq (g:GL I6 6 l n)(few:n≤1000)(pos:0<n):∃c,F56 l 0 n=some ⟨c,0,n+1⟩∧Ly7 c (n+1) (wF l n) (wV l n 0) (wV l n 1) (wV l n 2) (wV l n 3):=by
 have q:L56_0 (X56_0.mk none 0 l 0 n (n:Int) 0)=some (.k1 (arrL (rW l n) (List.range n)) n (prv l n)):=loop56 g few pos n 0 (by omega)
 have e:(arrL (rW l n) (List.range n)).extract 0 (0+n*7)++⟨[.int .i64 (prv l n),.int .i64 0,.int .i64 0,.int .i64 0,.int .i64 0,.int .i64 0,.int .i64 0]⟩=arrL (rW l n) (List.range (n+1)):=by
  have h:=apB_arrL (rW_len l n) (List.range n) n;rw[List.length_range,← List.range_succ]at h
  have w:rW l n n=[.int .i64 (prv l n),.int .i64 0,.int .i64 0,.int .i64 0,.int .i64 0,.int .i64 0,.int .i64 0]:=by simp only[rW,wF,wV,if_pos]
  rw[w]at h;rw[← h];simp only[apB]
 have c1:(n+1)*56≤140737488355328:=by omega
 have c2:n+1≤4611686018427387904:=by omega
 have sz:0+n*7≤(arrL (rW l n) (List.range n)).size:=by rw[size_arrL (rW_len l n),List.length_range];omega
 have sz2:0+(n+1)*7≤(arrL (rW l n) (List.range (n+1))).size:=by rw[size_arrL (rW_len l n),List.length_range];omega
 refine ⟨arrL (rW l n) (List.range (n+1)),?_,?_⟩
 ·unfold F56 rt56
  simp only[RT.val,mq,Int.ofNat_eq_natCast,eqCode_self,L56_0_k0,L56_0_k1,Qs0,Qs1,Qs2,q,e,c1,c2,sz,sz2,allFz_arrL (rW_fz l n),decide_true,Bool.and_self,cond_true,cond_false]
 ·have lt:∀k,k<n+1→k<(List.range (n+1)).length:=fun k hk=>by rw[List.length_range];exact hk
  refine ⟨fun k hk=>?_,fun k hk=>?_,fun k hk=>⟨?_,?_⟩,fun k hk=>⟨?_,?_⟩⟩
  ·have hr:=rdOk_arrL (rW_len l n) (List.range (n+1)) (lt k hk) [(Leaf.int .i64),(Leaf.int .i64),(Leaf.int .i64),(Leaf.int .i64),(Leaf.int .i64),(Leaf.int .i64),(Leaf.int .i64)] 0 (by decide)
   exact hr.trans rfl
  ·have this:getInt (arrL (rW l n) (List.range (n+1))) (k*7)=_:=getInt_arrL (rW_len l n) (List.range (n+1)) (j:=0) (lt k hk) (by decide)
   rw[this,List.getElem_range];rfl
  all_goals
   rw[getInt_arrL (rW_len l n) (List.range (n+1)) (lt k hk) (by decide),List.getElem_range];rfl
end
theorem F57_of (a b c d e f g h i j k m:Int):F57_0 a b c d e f g h i j k m=min a g∧F57_1 a b c d e f g h i j k m=max b h∧F57_2 a b c d e f g h i j k m=min c i∧F57_3 a b c d e f g h i j k m=max d j:=by
 have q:F57 a b c d e f g h i j k m=some ⟨F64_0 a b g h,F64_1 a b g h,F64_0 c d i j,F64_1 c d i j,F64_0 e f k m,F64_1 e f k m⟩:=rfl
 refine ⟨?_,?_,?_,?_⟩
 ·unfold F57_0;rw[q];exact (F64_of a b g h).1
 ·unfold F57_1;rw[q];exact (F64_of a b g h).2
 ·unfold F57_2;rw[q];exact (F64_of c d i j).1
 ·unfold F57_3;rw[q];exact (F64_of c d i j).2
theorem F58_of (a b c d e f:Int):F58_0 a b c d e f=a∧F58_1 a b c d e f=b∧F58_2 a b c d e f=c∧F58_3 a b c d e f=d:=by
 have q:F58 a b c d e f=some ⟨a,b,c,d⟩:=rfl
 exact ⟨by unfold F58_0;rw[q],by unfold F58_1;rw[q],by unfold F58_2;rw[q],by unfold F58_3;rw[q]⟩
section
variable {c:Array Value}{n:Nat}{fr xl xh yl yh:Nat→Int}
variable {hb:Nat}{hw:List Nat}{b0 b1 b2 b3 b4 b5 zl zh c0 c1 c2 c3 c4 c5:Int}
theorem low18 (g:Ly7 c n fr xl xh yl yh)(few:n≤2000):∀m i,i+m+1=n→(∀k,1≤k→k≤i→fr k≤zl) →
  ∃q:Nat,q<n∧(∀k,1≤k→k≤q→fr k≤zl)∧(q+1<n→zl<fr (q+1)) ∧
   loopR rd18_55x0 ⟨hb,hw,c,0,n,(i:Int),b0,b1,b2,b3,b4,b5,zl,zh,c0,c1,c2,c3,c4,c5⟩=some (.k0 c 0 n (q:Int) b0 b1 b2 b3 b4 b5 zl zh c0 c1 c2 c3 c4 c5)
 | 0,i,h,hi'=>by
  have e:IntKind.wrap .i64 ((i:Int)+1)=((i+1:Nat):Int):=by rw[wrap64_id (by omega) (by omega)];omega
  have z1:¬((i+1:Nat):Int)<(n:Int):=by omega
  exact ⟨i,by omega,hi',fun q=>by omega,loopR_done (by simp only[rd18_55x0,RT.val,mq,e,z1,Int.ofNat_eq_natCast,decide_false,cond_false])⟩
 | m+1,i,h,hi'=>by
  have e:IntKind.wrap .i64 ((i:Int)+1)=((i+1:Nat):Int):=by rw[wrap64_id (by omega) (by omega)];omega
  have z1:((i+1:Nat):Int)<(n:Int):=by omega
  have z2:(0:Int)≤((i+1:Nat):Int):=by omega
  have r:=(rd_and (g.r (i+1) (by omega))).1
  have r':isInt .i64 c ((i+1)*7)=true:=r
  have f:=g.f (i+1) (by omega)
  by_cases hc:fr (i+1)≤zl
  ·obtain ⟨q,q1,q2,q3,q4⟩:=low18 g few m (i+1) (by omega) (fun k k1 k2=>by
    rcases Nat.lt_or_eq_of_le k2 with k2 | rfl
    ·exact hi' k k1 (by omega)
    ·exact hc)
   refine ⟨q,q1,q2,q3,(loopR_next ?_).trans q4⟩
   simp only[rd18_55x0,RT.val,mq,e,z1,z2,r',f,hc,Int.ofNat_eq_natCast,Int.toNat_natCast,Nat.zero_add,Nat.add_zero,decide_true,Bool.and_self,cond_true]
  ·refine ⟨i,by omega,hi',fun _=>by omega,loopR_done ?_⟩
   simp only[rd18_55x0,RT.val,mq,e,z1,z2,r',f,hc,Int.ofNat_eq_natCast,Int.toNat_natCast,Nat.zero_add,Nat.add_zero,decide_true,decide_false,Bool.and_self,cond_true,cond_false]
theorem up18 (g:Ly7 c n fr xl xh yl yh)(few:n≤2000) {q:Nat}(hq:q<n):∀m k (a b a' b' v w:Int),q+1+k+m=n→(∀j,q<j→j<q+1+k→fr j≤zh)→IsH (fun j=>q≤j∧j<q+1+k) xl xh a b→IsH (fun j=>q≤j∧j<q+1+k) yl yh a' b' →
  ∃J d0 d1 d2 d3 d4 d5,q<J∧J≤n∧(∀j,q<j→j<J→fr j≤zh)∧(J<n→zh<fr J)∧IsH (fun j=>q≤j∧j<J) xl xh d0 d1∧IsH (fun j=>q≤j∧j<J) yl yh d2 d3 ∧
   loopR rd18_55x1 ⟨hb,hw,c,(q+1)*7,n-(q+1),((n-(q+1):Nat):Int),(k:Int),b0,b1,b2,b3,b4,b5,zl,zh,c0,c1,c2,c3,c4,c5,a,b,a',b',v,w⟩=some (.k0 b0 b1 b2 b3 b4 b5 zl zh c0 c1 c2 c3 c4 c5 d0 d1 d2 d3 d4 d5)
 | 0,k,a,b,a',b',v,w,h,h3,hh,hy=>by
  have z1:¬(k:Int)<((n-(q+1):Nat):Int):=by omega
  exact ⟨q+1+k,a,b,a',b',v,w,by omega,by omega,h3,fun _=>by omega,hh,hy,loopR_done (by simp only[rd18_55x1,RT.val,mq,z1,Int.ofNat_eq_natCast,decide_false,cond_false])⟩
 | m+1,k,a,b,a',b',v,w,h,h3,hh,hy=>by
  have z1:(k:Int)<((n-(q+1):Nat):Int):=by omega
  have z2:(0:Int)≤(k:Int):=by omega
  have e:IntKind.wrap .i64 ((k:Int)+1)=((k+1:Nat):Int):=by rw[wrap64_id (by omega) (by omega)];omega
  have hx:(q+1)*7+k*7=(q+1+k)*7:=by omega
  have r:=g.r (q+1+k) (by omega)
  have f:=g.f (q+1+k) (by omega)
  obtain ⟨x1,x2⟩:=g.x (q+1+k) (by omega)
  obtain ⟨y1,y2⟩:=g.y (q+1+k) (by omega)
  have fo:=fun A B C D E F G H I J K L=>F57_of A B C D E F G H I J K L
  by_cases hc:zh<fr (q+1+k)
  ·refine ⟨q+1+k,a,b,a',b',v,w,by omega,by omega,h3,fun _=>hc,hh,hy,loopR_done ?_⟩
   simp only[rd18_55x1,RT.val,mq,z1,z2,hx,r,f,hc,Int.ofNat_eq_natCast,Int.toNat_natCast,decide_true,Bool.and_self,cond_true]
  ·obtain ⟨J,d0,d1,d2,d3,d4,d5,j1,j2,j3,j4,j5,j6,j7⟩:=up18 g few hq m (k+1) (min a (xl (q+1+k))) (max b (xh (q+1+k))) (min a' (yl (q+1+k))) (max b' (yh (q+1+k)))
    (F57_4 a b a' b' v w (getInt c ((q+1+k)*7+1)) (getInt c ((q+1+k)*7+2)) (getInt c ((q+1+k)*7+3)) (getInt c ((q+1+k)*7+4)) (getInt c ((q+1+k)*7+5)) (getInt c ((q+1+k)*7+6)))
    (F57_5 a b a' b' v w (getInt c ((q+1+k)*7+1)) (getInt c ((q+1+k)*7+2)) (getInt c ((q+1+k)*7+3)) (getInt c ((q+1+k)*7+4)) (getInt c ((q+1+k)*7+5)) (getInt c ((q+1+k)*7+6))) (by omega) (fun j k1 k2=>by
    rcases Nat.lt_or_ge j (q+1+k) with k3 | k3
    ·exact h3 j k1 k3
    ·obtain rfl:j=q+1+k:=by omega
     omega) ((hh.add (q+1+k)).congr fun j=>by omega) ((hy.add (q+1+k)).congr fun j=>by omega)
   refine ⟨J,d0,d1,d2,d3,d4,d5,j1,j2,j3,j4,j5,j6,(loopR_next ?_).trans j7⟩
   obtain ⟨i,hi⟩:∃i,q+1+k=i:=⟨_,rfl⟩;simp only[hi]at *;simp only[rd18_55x1,RT.val,mq,z1,z2,e,hx,r,f,hc,(fo _ _ _ _ _ _ _ _ _ _ _ _).1,(fo _ _ _ _ _ _ _ _ _ _ _ _).2.1,(fo _ _ _ _ _ _ _ _ _ _ _ _).2.2.1,(fo _ _ _ _ _ _ _ _ _ _ _ _).2.2.2,Int.ofNat_eq_natCast,Int.toNat_natCast,decide_true,decide_false,Bool.and_self,cond_true,cond_false];simp only[Nat.add_assoc,Nat.reduceAdd,x1,x2,y1,y2]
end
section
variable {l:Array Value}{n:Nat}{zl zh:Int}
theorem bn_of (h:(bnF l n).2=0):1≤n∧n≤20∧∀k,k<n→bdE l k=0:=by
 unfold bnF at h
 split at h
 ·cases h
 ·split at h
  ·cases h
  ·refine ⟨by omega,by omega,fun k hk=>?_⟩
   cases hf:fst1 (bdE l) n 0 with
   | none=>exact fst1_no hf k (by omega) (by omega)
   | some p =>
    obtain ⟨i,r⟩:=p;rw[hf]at h;exact absurd h (fst1_nz hf)
theorem bd_ft {k:Nat}(h:bdE l k=0):getInt l (k*6)=prv l k∧getInt l (k*6)<getInt l (k*6+1):=by
 unfold bdE bd at h
 split at h
 ·rename_i e
  split at h
  ·cases h
  ·exact ⟨e,by omega⟩
 ·cases h
theorem wF_next (hb:∀k,k<n→bdE l k=0) {k:Nat}(hk:k<n):wF l n (k+1)=getInt l (k*6+1):=by
 unfold wF
 split
 ·rename_i e
  subst e
  rfl
 ·exact (bd_ft (hb (k+1) (by omega))).1
theorem wF_mid {k:Nat}(hk:k<n):wF l n k=getInt l (k*6):=by unfold wF;rw[if_neg (by omega)]
theorem w_inc (hb:∀k,k<n→bdE l k=0):∀k,k+1<n+1→wF l n k<wF l n (k+1):=by
 intro k hk
 rw[wF_next hb (by omega),wF_mid (by omega)]
 exact (bd_ft (hb k (by omega))).2
def WndR (l:Array Value)(n:Nat)(zl zh a b c d e:Int):Prop :=
 (e=(if (bnF l n).2=0 then htE zl zh else (bnF l n).2))∧(e≠0→a=0∧b=0∧c=0∧d=0) ∧
 (e=0→zl≤zh∧(∀k,k<n→bdE l k=0)∧IsH (La (wF l n) (n+1) zl zh) (wV l n 0) (wV l n 1) a b∧IsH (La (wF l n) (n+1) zl zh) (wV l n 2) (wV l n 3) c d)
theorem F18_of (g:GL I6 6 l n):∃a b c d e,F18 l 0 n zl zh=some ⟨a,b,c,d,e⟩∧WndR l n zl zh a b c d e:=by
 have p:=F53_eq g
 have o1:F53_ok l 0 n=true:=by unfold F53_ok;rw[p];rfl
 have o2:F53_1 l 0 n=(bnF l n).2:=by unfold F53_1;rw[p]
 unfold WndR
 by_cases hc:(bnF l n).2=0
 ·cases hs:spB zl zh (-2000000000) 2000000000 with
  | false =>
   have hh:htE zl zh=7:=by unfold htE;rw[hs];rfl
   refine ⟨0,0,0,0,7,?_,by rw[if_pos hc,hh],fun _=>⟨rfl,rfl,rfl,rfl⟩,fun h=>by cases h⟩
   unfold F18 rt18;simp only[RT.val,mq,o1,o2,hc,(F54_far _ _).1,(F54_far _ _).2,hs,decide_true,Bool.not_true,Bool.not_false,cond_true,cond_false]
  | true =>
   have hh:htE zl zh=0:=by unfold htE;rw[hs];rfl
   obtain ⟨pos,few,hb⟩:=bn_of hc;have inc:=w_inc hb;have zz:=(sp_le hs).1
   obtain ⟨d,f56,ly⟩:=F56_eq g (by omega) pos
   have f0:F56_ok l 0 n=true:=by unfold F56_ok;rw[f56];rfl
   have f1:F56_0 l 0 n=d:=by unfold F56_0;rw[f56]
   have f2:F56_1 l 0 n=0:=by unfold F56_1;rw[f56]
   have f3:F56_2 l 0 n=n+1:=by unfold F56_2;rw[f56]
   obtain ⟨q,q1,q2,q3,q4⟩:=low18 (hb:=2) (hw:=[]) (b0:=zl) (b1:=zh) (b2:=0) (b3:=0) (b4:=0) (b5:=0) (zl:=zl) (zh:=zh) (c0:=0) (c1:=0) (c2:=0) (c3:=0) (c4:=0) (c5:=0) ly (by omega) n 0 (by omega) (fun k k1 k2=>by omega)
   have l0:L18_55x0 (Y18_0 l 0 n zl zh)=some (.k0 d 0 (n+1) (q:Int) zl zh 0 0 0 0 zl zh 0 0 0 0 0 0):=by
    unfold Y18_0;rw[f1,f2,f3];exact q4
   obtain ⟨J,d0,d1,d2,d3,d4,d5,j1,j2,j3,j4,j5,j6,j7⟩:=up18 (hb:=2) (hw:=[0,1,2,3]) (b0:=zl) (b1:=zh) (b2:=0) (b3:=0) (b4:=0) (b5:=0) (zl:=zl) (zh:=zh) (c0:=0) (c1:=0) (c2:=0) (c3:=0) (c4:=0) (c5:=0) ly (by omega) q1 (n+1-(q+1)) 0 (wV l n 0 q) (wV l n 1 q) (wV l n 2 q) (wV l n 3 q) (getInt d (q*7+5)) (getInt d (q*7+6)) (by omega) (fun j k1 k2=>by omega) ((IsH.one q).congr fun j=>by omega) ((IsH.one q).congr fun j=>by omega)
   have wq:IntKind.wrap .i64 ((q:Int)+1)=((q+1:Nat):Int):=by rw[wrap64_id (by omega) (by omega)];omega
   obtain ⟨x1,x2⟩:=ly.x q q1;obtain ⟨y1,y2⟩:=ly.y q q1
   have l1:L18_55x1 (Y18_1 l 0 n zl zh)=some (.k0 zl zh 0 0 0 0 zl zh 0 0 0 0 0 0 d0 d1 d2 d3 d4 d5):=by
    unfold Y18_1;simp only[L18_55x0_k0_0,L18_55x0_k0_1,L18_55x0_k0_2,L18_55x0_k0_3,L18_55x0_k0_4,L18_55x0_k0_5,L18_55x0_k0_6,L18_55x0_k0_7,L18_55x0_k0_8,L18_55x0_k0_9,L18_55x0_k0_10,L18_55x0_k0_11,L18_55x0_k0_12,L18_55x0_k0_13,L18_55x0_k0_14,L18_55x0_k0_15,L18_55x0_k0_16,L18_55x0_k0_17,l0,wq,Int.toNat_natCast,Nat.zero_add];simp only[Nat.add_assoc (q*7),Nat.reduceAdd,x1,x2,y1,y2];exact j7
   have qn:(q:Int)<((n+1:Nat):Int):=by omega
   have q0:(0:Int)≤(q:Int):=by omega
   have q01:(0:Int)≤((q+1:Nat):Int):=by omega
   have qle:q+1≤n+1:=by omega
   have r2:=(rd_and (ly.r q q1)).2
   refine ⟨d0,d1,d2,d3,0,?_,by rw[if_pos hc,hh],fun h=>absurd rfl h,fun _=>⟨zz,hb,j5.congr (la_seg inc zz q1 q2 q3 j1 j2 j3 j4),j6.congr (la_seg inc zz q1 q2 q3 j1 j2 j3 j4)⟩⟩
   unfold F18 rt18;simp only[RT.val,mq,o1,o2,hc,(F54_far _ _).1,(F54_far _ _).2,hs,f0,eqCode_self,decide_true,Bool.not_true,cond_true,cond_false];simp only[L18_55x0_k0,L18_55x0_k0_0,L18_55x0_k0_1,L18_55x0_k0_2,L18_55x0_k0_3,l0,wq,qn,q0,q01,qle,r2,Nat.le_refl,Int.toNat_natCast,Int.ofNat_eq_natCast,Nat.zero_add,L18_55x1_k0,L18_55x1_k0_0,L18_55x1_k0_1,L18_55x1_k0_14,L18_55x1_k0_15,L18_55x1_k0_16,L18_55x1_k0_17,L18_55x1_k0_18,L18_55x1_k0_19,l1,(F58_of _ _ _ _ _ _).1,(F58_of _ _ _ _ _ _).2.1,(F58_of _ _ _ _ _ _).2.2.1,(F58_of _ _ _ _ _ _).2.2.2,decide_true,Bool.and_self,cond_true]
 ·refine ⟨0,0,0,0,_,?_,by rw[if_neg hc],fun _=>⟨rfl,rfl,rfl,rfl⟩,fun h=>absurd h hc⟩
  unfold F18 rt18;simp only[RT.val,mq,o1,o2,hc,decide_false,Bool.not_false,cond_true]
theorem F94_of (a b c d e f g h:Int):F94_ok a b c d e f g h=true∧F94_0 a b c d e f g h=min a e∧F94_1 a b c d e f g h=max b f∧F94_2 a b c d e f g h=min c g∧F94_3 a b c d e f g h=max d h:=by
 have q:F94 a b c d e f g h=some ⟨min a e,max b f,min c g,max d h⟩:=by
  unfold F94 rt94;simp only[RT.val,mq,(F96_of _ _ _ _).1,(F96_of _ _ _ _).2,decide_true,cond_true]
 exact ⟨by unfold F94_ok;rw[q];rfl,by unfold F94_0;rw[q],by unfold F94_1;rw[q],by unfold F94_2;rw[q],by unfold F94_3;rw[q]⟩
def S61 (l:Array Value)(n:Nat)(zl zh:Int)(k:Nat)(s:Bool)(a b c d:Int):X61_0:=⟨l,0,n,s,(k:Int),zl,zh,0,0,0,0,a,b,c,d⟩
theorem step61 (g:GL I6 6 l n)(few:n≤1000)(hb:∀k,k<n→bdE l k=0) {k:Nat}(hk:k<n) (s:Bool) (a b c d:Int) :
  (rd61_0 (S61 l n zl zh k s a b c d)).val=if (k=0∨wF l n k≤zh)∧zl<wF l n (k+1) then some (.inl (S61 l n zl zh (k+1) true (if s=true then min a (wV l n 0 k) else wV l n 0 k) (if s=true then max b (wV l n 1 k) else wV l n 1 k) (if s=true then min c (wV l n 2 k) else wV l n 2 k) (if s=true then max d (wV l n 3 k) else wV l n 3 k))) else some (.inl (S61 l n zl zh (k+1) s a b c d)):=by
 obtain ⟨p1,p2,p3⟩:=pre1 n few k hk;have hr:rdOk l I6 (0+k*6)=true:=g.good.2 k hk;rw[Nat.zero_add]at hr;unfold I6 at hr;have e0:getInt l (k*6)=wF l n k:=(wF_mid hk).symm;have e1:getInt l (k*6+1)=wF l n (k+1):=(wF_next hb hk).symm
 have hn:¬k=n:=by omega
 have v0:getInt l (k*6+2)=wV l n 0 k:=by unfold wV;rw[if_neg hn]
 have v1:getInt l (k*6+3)=wV l n 1 k:=by unfold wV;rw[if_neg hn]
 have v2:getInt l (k*6+4)=wV l n 2 k:=by unfold wV;rw[if_neg hn]
 have v3:getInt l (k*6+5)=wV l n 3 k:=by unfold wV;rw[if_neg hn]
 have fo:=fun A B C D E F G H=>F94_of A B C D E F G H
 by_cases hf:zh<wF l n k
 ·by_cases hk0:k=0
  ·subst hk0
   have z:¬(0:Int)<((0:Nat):Int):=by omega
   by_cases hx:wF l n (0+1)≤zl
   ·rw[if_neg (by omega)]
    simp only[S61,rd61_0,RT.val,mq,p1,p2,p3,hr,Int.toNat_natCast,Int.ofNat_eq_natCast,Nat.zero_add,Nat.add_assoc,Nat.reduceAdd,decide_true,Bool.and_self,cond_true]at *;simp only[e0,e1,hf,z,hx,decide_true,decide_false,cond_true,cond_false]
   ·rw[if_pos ⟨.inl rfl,by omega⟩]
    simp only[S61,rd61_0,RT.val,mq,p1,p2,p3,hr,Int.toNat_natCast,Int.ofNat_eq_natCast,Nat.zero_add,Nat.add_assoc,Nat.reduceAdd,decide_true,Bool.and_self,cond_true]at *;simp only[e0,e1,v0,v1,v2,v3,hf,z,hx,(fo _ _ _ _ _ _ _ _).1,(fo _ _ _ _ _ _ _ _).2.1,(fo _ _ _ _ _ _ _ _).2.2.1,(fo _ _ _ _ _ _ _ _).2.2.2.1,(fo _ _ _ _ _ _ _ _).2.2.2.2,decide_true,decide_false,cond_true,cond_false]
    cases s<;>rfl
  ·have z:(0:Int)<(k:Int):=by omega
   rw[if_neg (by omega)]
   simp only[S61,rd61_0,RT.val,mq,p1,p2,p3,hr,e0,hf,z,Int.toNat_natCast,Int.ofNat_eq_natCast,Nat.zero_add,decide_true,Bool.and_self,cond_true]
 ·by_cases hx:wF l n (k+1)≤zl
  ·rw[if_neg (by omega)]
   simp only[S61,rd61_0,RT.val,mq,p1,p2,p3,hr,e0,e1,hf,hx,Int.toNat_natCast,Int.ofNat_eq_natCast,Nat.zero_add,decide_true,decide_false,Bool.and_self,cond_true,cond_false]
  ·rw[if_pos ⟨.inr (by omega),by omega⟩]
   simp only[S61,rd61_0,RT.val,mq,p1,p2,p3,hr,e0,e1,hf,hx,Int.toNat_natCast,Int.ofNat_eq_natCast,Nat.zero_add,decide_true,decide_false,Bool.and_self,cond_true,cond_false];simp only[Nat.add_assoc,Nat.reduceAdd,v0,v1,v2,v3,(fo _ _ _ _ _ _ _ _).1,(fo _ _ _ _ _ _ _ _).2.1,(fo _ _ _ _ _ _ _ _).2.2.1,(fo _ _ _ _ _ _ _ _).2.2.2.1,(fo _ _ _ _ _ _ _ _).2.2.2.2,cond_true]
   cases s<;>rfl
theorem loop61 (g:GL I6 6 l n)(few:n≤1000)(hb:∀k,k<n→bdE l k=0):∀m k (s:Bool) (a b c d:Int),k+m=n→RefI (fun j=>La (wF l n) (n+1) zl zh j∧(j<k∨j=n)) (wV l n 0) (wV l n 1) s a b→RefI (fun j=>La (wF l n) (n+1) zl zh j∧(j<k∨j=n)) (wV l n 2) (wV l n 3) s c d →
  ∃s' a' b' c' d',RefI (La (wF l n) (n+1) zl zh) (wV l n 0) (wV l n 1) s' a' b'∧RefI (La (wF l n) (n+1) zl zh) (wV l n 2) (wV l n 3) s' c' d'∧loopR rd61_0 (S61 l n zl zh k s a b c d)=some (.k0 zl zh 0 0 0 0 a' b' c' d')
 | 0,k,s,a,b,c,d,h,hi,hj=>by
  obtain rfl:k=n:=by omega
  have z1:¬(k:Int)<(k:Int):=by omega
  have e:∀j,(La (wF l k) (k+1) zl zh j∧(j<k∨j=k))↔La (wF l k) (k+1) zl zh j:=fun j=>⟨fun q=>q.1,fun q=>⟨q,by have:=q.1;omega⟩⟩
  exact ⟨s,a,b,c,d,hi.skip e,hj.skip e,loopR_done (by simp only[S61,rd61_0,RT.val,mq,z1,Int.ofNat_eq_natCast,decide_false,cond_false])⟩
 | m+1,k,s,a,b,c,d,h,hi,hj=>by
  have hk:k<n:=by omega
  have st:=step61 (zl:=zl) (zh:=zh) g few hb hk s a b c d
  by_cases hL:La (wF l n) (n+1) zl zh k
  ·have e:∀j,((La (wF l n) (n+1) zl zh j∧(j<k∨j=n))∨j=k)↔(La (wF l n) (n+1) zl zh j∧(j<k+1∨j=n)):=fun j=>⟨fun q=>by
    rcases q with q | rfl
    ·exact ⟨q.1,by omega⟩
    ·exact ⟨hL,by omega⟩,fun q=>by
    rcases Nat.lt_trichotomy j k with w | w | w
    ·exact .inl ⟨q.1,by omega⟩
    ·exact .inr w
    ·exact .inl ⟨q.1,by omega⟩⟩
   obtain ⟨s',a',b',c',d',q1,q2,q3⟩:=loop61 g few hb m (k+1) true _ _ _ _ (by omega) (hi.take k e) (hj.take k e)
   rw[if_pos ⟨hL.2.1,hL.2.2 (by omega)⟩]at st
   exact ⟨s',a',b',c',d',q1,q2,(loopR_next st).trans q3⟩
  ·have e:∀j,(La (wF l n) (n+1) zl zh j∧(j<k∨j=n))↔(La (wF l n) (n+1) zl zh j∧(j<k+1∨j=n)):=fun j=>⟨fun q=>⟨q.1,by omega⟩,fun q=>⟨q.1,by
    rcases Nat.lt_trichotomy j k with w | w | w
    ·omega
    ·subst w;exact absurd q.1 hL
    ·omega⟩⟩
   obtain ⟨s',a',b',c',d',q1,q2,q3⟩:=loop61 g few hb m (k+1) s a b c d (by omega) (hi.skip e) (hj.skip e)
   rw[if_neg (fun q=>hL ⟨by omega,q.1,fun _=>q.2⟩)]at st
   exact ⟨s',a',b',c',d',q1,q2,(loopR_next st).trans q3⟩
theorem F61_of (g:GL I6 6 l n)(pos:1≤n)(few:n≤1000)(hb:∀k,k<n→bdE l k=0) {a b c d:Int}(hx:IsH (La (wF l n) (n+1) zl zh) (wV l n 0) (wV l n 1) a b) (hy:IsH (La (wF l n) (n+1) zl zh) (wV l n 2) (wV l n 3) c d) :
  F61_ok l 0 n zl zh=true∧F61_0 l 0 n zl zh=a∧F61_1 l 0 n zl zh=b∧F61_2 l 0 n zl zh=c∧F61_3 l 0 n zl zh=d:=by
 obtain ⟨m,rfl⟩:∃m,n=m+1:=⟨n-1,by omega⟩
 have last:wF l (m+1) (m+1)=getInt l (m*6+1):=wF_next hb (by omega)
 have w1:IntKind.wrap .i64 (((m+1:Nat):Int)-1)=(m:Int):=by rw[wrap64_id (by omega) (by omega)];omega
 have z1:¬((m+1:Nat):Int)=0:=by omega
 have z2:(0:Int)≤(m:Int):=by omega
 have z3:(m:Int)<((m+1:Nat):Int):=by omega
 have i1:isInt .i64 l (m*6+1)=true:=(rows6 g (show m<m+1 by omega)).2.1
 have start:RefI (fun j=>La (wF l (m+1)) (m+1+1) zl zh j∧(j<0∨j=m+1)) (wV l (m+1) 0) (wV l (m+1) 1) (decide (wF l (m+1) (m+1)≤zh)) 0 0∧RefI (fun j=>La (wF l (m+1)) (m+1+1) zl zh j∧(j<0∨j=m+1)) (wV l (m+1) 2) (wV l (m+1) 3) (decide (wF l (m+1) (m+1)≤zh)) 0 0:=by
  have v:∀j,wV l (m+1) j (m+1)=0:=fun j=>by unfold wV;rw[if_pos rfl]
  by_cases h:wF l (m+1) (m+1)≤zh
  ·have e:∀j,j=m+1↔(La (wF l (m+1)) (m+1+1) zl zh j∧(j<0∨j=m+1)):=fun j=>⟨fun q=>by subst q;exact ⟨⟨by omega,.inr h,fun q=>by omega⟩,.inr rfl⟩,fun q=>by omega⟩
   rw[decide_eq_true h]
   have o1:IsH (fun j=>j=m+1) (wV l (m+1) 0) (wV l (m+1) 1) _ _:=IsH.one (m+1)
   have o2:IsH (fun j=>j=m+1) (wV l (m+1) 2) (wV l (m+1) 3) _ _:=IsH.one (m+1)
   rw[v,v]at o1 o2;exact ⟨.inr ⟨rfl,o1.congr e⟩,.inr ⟨rfl,o2.congr e⟩⟩
  ·rw[decide_eq_false h]
   have e:∀j,¬(La (wF l (m+1)) (m+1+1) zl zh j∧(j<0∨j=m+1)):=fun j q=>by
    obtain ⟨⟨_,q1,_⟩,q2⟩:=q
    obtain rfl:j=m+1:=by omega
    rcases q1 with q1 | q1<;>omega
   exact ⟨.inl ⟨rfl,e⟩,.inl ⟨rfl,e⟩⟩
 obtain ⟨s',a',b',c',d',r1,r2,lp⟩:=loop61 g few hb (m+1) 0 _ 0 0 0 0 (by omega) start.1 start.2
 obtain ⟨rfl,rfl⟩:=r1.end hx fun j=>Iff.rfl
 obtain ⟨rfl,rfl⟩:=r2.end hy fun j=>Iff.rfl
 have lp':L61_0 (X61_0.mk l 0 (m+1) (decide (getInt l (m*6+1)≤zh)) 0 zl zh 0 0 0 0 0 0 0 0)=some (.k0 zl zh 0 0 0 0 a' b' c' d'):=by rw[← last];exact lp
 have q:F61 l 0 (m+1) zl zh=some ⟨a',b',c',d'⟩:=by
  unfold F61 rt61;simp only[RT.val,mq,w1,z1,z2,z3,i1,Int.toNat_natCast,Int.ofNat_eq_natCast,Nat.zero_add,eqCode_self,L61_0_k0,Qt6,Qt7,Qt8,Qt9,lp',decide_true,decide_false,Bool.and_self,cond_true,cond_false]
 exact ⟨by unfold F61_ok;rw[q];rfl,by unfold F61_0;rw[q],by unfold F61_1;rw[q],by unfold F61_2;rw[q],by unfold F61_3;rw[q]⟩
theorem F19_of (g:GL I6 6 l n) {a b c d e:Int}(h:WndR l n zl zh a b c d e):F19 l 0 n zl zh=some ⟨a,b,c,d,e⟩:=by
 have p:=F59_eq g
 have o1:F59_ok l 0 n=true:=by unfold F59_ok;rw[p];rfl
 have o2:F59_1 l 0 n=(bnF l n).2:=by unfold F59_1;rw[p]
 obtain ⟨h1,h2,h3⟩:=h;unfold F19 rt19
 by_cases hc:(bnF l n).2=0
 ·rw[if_pos hc]at h1
  by_cases hh:htE zl zh=0
  ·rw[hh]at h1
   obtain ⟨pos,few,hb⟩:=bn_of hc;obtain ⟨_,_,hx,hy⟩:=h3 h1
   obtain ⟨w0,w1,w2,w3,w4⟩:=F61_of g pos (by omega) hb hx hy
   simp only[RT.val,mq,o1,o2,hc,(F60_of _ _).1,(F60_of _ _).2,hh,w0,w1,w2,w3,w4,h1,decide_true,Bool.not_true,cond_true,cond_false]
  ·obtain ⟨a0,b0,c0,d0⟩:=h2 (by rw[h1];exact hh)
   simp only[RT.val,mq,o1,o2,hc,(F60_of _ _).1,(F60_of _ _).2,hh,h1,a0,b0,c0,d0,decide_true,decide_false,Bool.not_true,Bool.not_false,cond_true,cond_false]
 ·rw[if_neg hc]at h1
  obtain ⟨a0,b0,c0,d0⟩:=h2 (by rw[h1];exact hc)
  simp only[RT.val,mq,o1,o2,hc,h1,a0,b0,c0,d0,decide_true,decide_false,Bool.not_true,Bool.not_false,cond_true,cond_false]
end
theorem true4:True4:=by
 intro lc ln nm g1 g2 ca na cp np c n zl zh hl h1 h2 h3;obtain ⟨a,b,d,e,x,p,hp⟩:=F18_of (zl:=zl) (zh:=zh) hl;have q:=F19_of hl hp;obtain ⟨s,t,y,p2,hp2⟩:=F20_of (nm:=nm) (g1:=g1) (g2:=g2) (zl:=zl) (zh:=zh) h1 h2 h3;have q2:=F21_of h1 h2 h3 hp2;unfold rt4;simp only[RT.val,mq,F18_ok,F18_0,F18_1,F18_2,F18_3,F18_4,F19_ok,F19_0,F19_1,F19_2,F19_3,F19_4,F20_ok,F20_0,F20_1,F20_2,F21_ok,F21_0,F21_1,F21_2,p,q,p2,q2,Option.isSome_some,decide_true,Bool.and_self,Bool.not_true,cond_true,cond_false]
theorem flightAirsProved:Rows.FlightAirsSaid:=said4 true4
end
end Go.Proofs.Ytggaomgopenkfaa
