/- FrameChecks proved: Check and CheckSky of frame return what the document says, for any format and sky. Conditions: none. -/
import Derived.Test.YtoojllndfjamgaaMg11
import Derived.Test.YtoojllndfjamgaaMg10
set_option linter.unusedVariables false
set_option linter.unusedSimpArgs false
namespace Go.Proofs.Ytoojllndfjamgaa
open Go.Gi Go.RowKit
noncomputable section
set_option maxRecDepth 100000
set_option maxHeartbeats 2000000
def dotI (a b c x y z:Int):Int:=IntKind.wrap .i64 ((IntKind.wrap .i64 ((IntKind.wrap .i64 (a*x))+(IntKind.wrap .i64 (b*y))))+(IntKind.wrap .i64 (c*z)))
def diN (tu x y z:Int):Int:=if (inB x (-10000) 10000&&(inB y (-10000) 10000&&inB z (-10000) 10000))=true then (if tu≤dotI x y z x y z then 0 else 2) else 7
def diE (tu:Int)(c:Array Value)(k:Nat):Int:=diN tu (getInt c (0+k*3)) (getInt c (0+k*3+1)) (getInt c (0+k*3+1+1))
def seN (n ch x y z sc er:Int):Int:=if inB ch 0 n=true then (if (inB x (-1000000) 1000000&&(inB y (-1000000) 1000000&&(inB z (-1000000) 1000000&&(inB sc 1 1000&&inB er 0 1000000))))=true then 0 else 7) else 4
def seE (n:Int)(c:Array Value)(k:Nat):Int:=seN n (getInt c (0+k*7)) (getInt c (0+k*7+1)) (getInt c (0+k*7+1+1)) (getInt c (0+k*7+1+1+1)) (getInt c (0+k*7+1+1+1+1)) (getInt c (0+k*7+1+1+1+1+1))
def skF (s:ByteArray)(ws dp:Int)(cc:Array Value)(nc:Nat)(cd:Array Value)(nd:Nat)(tu:Int)(cs:Array Value)(ns:Nat):Int×Int :=
  if (ckF s ws dp cc nc).2.2=0 then (if inB (nd:Int) 1 30=true then (if 6<ns then (0,3) else (if inB tu (-100000000) 100000000=true then
    (match fst1 (diE tu cd) nd 0 with
      | some (i,r)=>((i:Int),r)
      | none=>match fst1 (seE (IntKind.wrap .i64 ((nc:Int)-1)) cs) ns 0 with | some (i,r)=>((i:Int),r) | none=>(0,0)) else (0,7))) else (0,3)) else (0,(ckF s ws dp cc nc).2.2)
theorem F47_of (n m:Int):F47_ok n m=true∧F47_0 n m=inB n (IntKind.wrap .i64 (0-m)) m:=by
  have q:F47 n m=some ⟨inB n (IntKind.wrap .i64 (0-m)) m⟩:=by
    unfold F47 rt47
    simp only [RT.val,(F42_of _ _ _).1,(F42_of _ _ _).2,cond_true]
  exact ⟨by simp only [F47_ok,q];rfl,by simp only [F47_0,q]⟩
theorem F48_of (x y z m:Int):F48_ok x y z m=true∧F48_0 x y z m=(inB x (IntKind.wrap .i64 (0-m)) m&&(inB y (IntKind.wrap .i64 (0-m)) m&&inB z (IntKind.wrap .i64 (0-m)) m)):=by
  have q:F48 x y z m=some ⟨inB x (IntKind.wrap .i64 (0-m)) m&&(inB y (IntKind.wrap .i64 (0-m)) m&&inB z (IntKind.wrap .i64 (0-m)) m)⟩:=by
    unfold F48 rt48
    simp only [RT.val,(F47_of _ _).1,(F47_of _ _).2,cond_true]
    cases inB x (IntKind.wrap .i64 (0-m)) m<;>cases inB y (IntKind.wrap .i64 (0-m)) m<;>cases inB z (IntKind.wrap .i64 (0-m)) m<;>rfl
  exact ⟨by simp only [F48_ok,q];rfl,by simp only [F48_0,q]⟩
theorem F53_of (n:Int):F53_ok n=true∧F53_0 n=inB n (-10000) 10000:=by
  have q:F53 n=some ⟨inB n (-10000) 10000⟩:=by
    unfold F53 rt53
    simp only [RT.val,(F45_of _ _ _).1,(F45_of _ _ _).2,cond_true]
  exact ⟨by simp only [F53_ok,q];rfl,by simp only [F53_0,q]⟩
theorem F55_of (n:Int):F55_ok n=true∧F55_0 n=inB n (-1000000) 1000000:=by
  have q:F55 n=some ⟨inB n (-1000000) 1000000⟩:=by
    unfold F55 rt55
    simp only [RT.val,(F45_of _ _ _).1,(F45_of _ _ _).2,cond_true]
  exact ⟨by simp only [F55_ok,q];rfl,by simp only [F55_0,q]⟩
theorem F86_of (a b c x y z:Int):F86_0 a b c x y z=dotI a b c x y z:=rfl
theorem F54_of (a b c x y z:Int):F54_0 a b c x y z=dotI a b c x y z:=rfl
section
variable {cc cd cs:Array Value}{nc nd ns k:Nat}{s:ByteArray}{ws dp tu:Int}
theorem F49_of (a b c x y z:Int):F49_ok cd 0 nd tu cs 0 ns a b c x y z=true∧F49_0 cd 0 nd tu cs 0 ns a b c x y z=decide (tu≤dotI a b c x y z):=by
  have q:F49 cd 0 nd tu cs 0 ns a b c x y z=some ⟨decide (tu≤dotI a b c x y z)⟩:=by
    unfold F49 rt49
    simp only [RT.val,F86_of,decide_true,cond_true]
    rfl
  exact ⟨by simp only [F49_ok,q];rfl,by simp only [F49_0,q]⟩
theorem F50_of (n:Int):F50_ok cc 0 nc n=true∧F50_0 cc 0 nc n=inB n 0 (IntKind.wrap .i64 ((nc:Int)-1)):=by
  have q:F50 cc 0 nc n=some ⟨inB n 0 (IntKind.wrap .i64 ((nc:Int)-1))⟩:=by
    unfold F50 rt50
    simp only [RT.val,(F42_of _ _ _).1,(F42_of _ _ _).2,Int.ofNat_eq_natCast,cond_true]
  exact ⟨by simp only [F50_ok,q];rfl,by simp only [F50_0,q]⟩
theorem row3 {c:Array Value}{n k:Nat}(h:GL D3 3 c n) (hk:k<n):rdOk c D3 (0+k*3)=true:=h.good.2 k hk
theorem row7 {c:Array Value}{n k:Nat}(h:GL S7 7 c n) (hk:k<n):rdOk c S7 (0+k*7)=true:=h.good.2 k hk
theorem w10:IntKind.wrap .i64 (0-10000)=-10000:=by decide
theorem w1m:IntKind.wrap .i64 (0-1000000)=-1000000:=by decide
theorem w1e:IntKind.wrap .i64 (0-100000000)=-100000000:=by decide
theorem step17a (g:GL D3 3 cd nd)(few:nd≤1000)(k:Nat)(hk:k<nd):(rd17_0 ⟨cd,0,nd,(nd:Int),(k:Int),s,ws,dp,cc,0,nc,cd,0,nd,tu,cs,0,ns⟩).val =
    some (if diE tu cd k=0 then .inl ⟨cd,0,nd,(nd:Int),((k+1:Nat):Int),s,ws,dp,cc,0,nc,cd,0,nd,tu,cs,0,ns⟩ else .inr (.k0 (k:Int) (diE tu cd k) s ws dp cc 0 nc cd 0 nd tu cs 0 ns)):=by
  have hki:(k:Int)<(nd:Int):=by omega
  have h0:(0:Int)≤(k:Int):=by omega
  have h3:IntKind.wrap .i64 ((k:Int)+1)=((k+1:Nat):Int):=by rw [wrap64_id (by omega) (by omega)];omega
  have hr:rdOk cd D3 (0+k*3)=true:=row3 g hk
  unfold D3 at hr
  unfold diE diN
  simp only [rd17_0,RT.val,hki,h0,h3,hr,(F48_of _ _ _ _).1,(F48_of _ _ _ _).2,(F49_of _ _ _ _ _ _).1,(F49_of _ _ _ _ _ _).2,w10,Int.toNat_natCast,Int.ofNat_eq_natCast,decide_true,Bool.and_self,cond_true]
  cases inB (getInt cd (0+k*3)) (-10000) 10000&&(inB (getInt cd (0+k*3+1)) (-10000) 10000&&inB (getInt cd (0+k*3+1+1)) (-10000) 10000) with
  | false=>rfl
  | true =>
    by_cases ht:tu≤dotI (getInt cd (0+k*3)) (getInt cd (0+k*3+1)) (getInt cd (0+k*3+1+1)) (getInt cd (0+k*3)) (getInt cd (0+k*3+1)) (getInt cd (0+k*3+1+1))
    · simp only [ht,decide_true,Bool.not_true,cond_false,if_true]
    · simp only [ht,decide_false,Bool.not_true,Bool.not_false,cond_true,cond_false,if_true,if_false];rfl
theorem step18a (g:GL D3 3 cd nd)(few:nd≤1000)(k:Nat)(hk:k<nd):(rd18_0 ⟨(k:Int),s,ws,dp,cc,0,nc,cd,0,nd,tu,cs,0,ns⟩).val =
    some (if diE tu cd k=0 then .inl ⟨((k+1:Nat):Int),s,ws,dp,cc,0,nc,cd,0,nd,tu,cs,0,ns⟩ else .inr (.k0 (k:Int) (diE tu cd k) s ws dp cc 0 nc cd 0 nd tu cs 0 ns)):=by
  have hki:(k:Int)<(nd:Int):=by omega
  have h0:(0:Int)≤(k:Int):=by omega
  have h3:IntKind.wrap .i64 ((k:Int)+1)=((k+1:Nat):Int):=by rw [wrap64_id (by omega) (by omega)];omega
  have hr:rdOk cd D3 (0+k*3)=true:=row3 g hk
  unfold D3 at hr
  unfold diE diN
  simp only [rd18_0,RT.val,hki,h0,h3,hr,(F53_of _).1,(F53_of _).2,F54_of,Int.toNat_natCast,Int.ofNat_eq_natCast,decide_true,Bool.and_self,cond_true]
  cases inB (getInt cd (0+k*3)) (-10000) 10000 with
  | false=>rfl
  | true =>
  cases inB (getInt cd (0+k*3+1)) (-10000) 10000 with
  | false=>rfl
  | true =>
  cases inB (getInt cd (0+k*3+1+1)) (-10000) 10000 with
  | false=>rfl
  | true =>
    by_cases ht:tu≤dotI (getInt cd (0+k*3)) (getInt cd (0+k*3+1)) (getInt cd (0+k*3+1+1)) (getInt cd (0+k*3)) (getInt cd (0+k*3+1)) (getInt cd (0+k*3+1+1))
    · have ht2:¬dotI (getInt cd (0+k*3)) (getInt cd (0+k*3+1)) (getInt cd (0+k*3+1+1)) (getInt cd (0+k*3)) (getInt cd (0+k*3+1)) (getInt cd (0+k*3+1+1))<tu:=by omega
      simp only [ht,ht2,decide_false,Bool.not_true,Bool.and_self,cond_false,if_true]
    · have ht2:dotI (getInt cd (0+k*3)) (getInt cd (0+k*3+1)) (getInt cd (0+k*3+1+1)) (getInt cd (0+k*3)) (getInt cd (0+k*3+1)) (getInt cd (0+k*3+1+1))<tu:=by omega
      simp only [ht,ht2,decide_true,Bool.not_true,Bool.and_self,cond_true,cond_false,if_true,if_false];rfl
theorem step17b (g:GL S7 7 cs ns)(few:ns≤1000)(k:Nat)(hk:k<ns):(rd17_1 ⟨cs,0,ns,(ns:Int),(k:Int),s,ws,dp,cc,0,nc,cd,0,nd,tu,cs,0,ns⟩).val =
    some (if seE (IntKind.wrap .i64 ((nc:Int)-1)) cs k=0 then .inl ⟨cs,0,ns,(ns:Int),((k+1:Nat):Int),s,ws,dp,cc,0,nc,cd,0,nd,tu,cs,0,ns⟩ else .inr (.k0 (k:Int) (seE (IntKind.wrap .i64 ((nc:Int)-1)) cs k) s ws dp cc 0 nc cd 0 nd tu cs 0 ns)):=by
  have hki:(k:Int)<(ns:Int):=by omega
  have h0:(0:Int)≤(k:Int):=by omega
  have h3:IntKind.wrap .i64 ((k:Int)+1)=((k+1:Nat):Int):=by rw [wrap64_id (by omega) (by omega)];omega
  have hr:rdOk cs S7 (0+k*7)=true:=row7 g hk
  unfold S7 at hr
  unfold seE seN
  have e0:∀a b c d e f g,F51_0 a b c d e f g=b:=fun _ _ _ _ _ _ _=>rfl
  have e1:∀a b c d e f g,F51_1 a b c d e f g=c:=fun _ _ _ _ _ _ _=>rfl
  have e2:∀a b c d e f g,F51_2 a b c d e f g=d:=fun _ _ _ _ _ _ _=>rfl
  simp only [rd17_1,RT.val,hki,h0,h3,hr,e0,e1,e2,(F50_of _).1,(F50_of _).2,(F48_of _ _ _ _).1,(F48_of _ _ _ _).2,(F42_of _ _ _).1,(F42_of _ _ _).2,w1m,Int.toNat_natCast,Int.ofNat_eq_natCast,decide_true,Bool.and_self,cond_true]
  cases inB (getInt cs (0+k*7)) 0 (IntKind.wrap .i64 ((nc:Int)-1))<;>cases inB (getInt cs (0+k*7+1)) (-1000000) 1000000<;>cases inB (getInt cs (0+k*7+1+1)) (-1000000) 1000000<;>cases inB (getInt cs (0+k*7+1+1+1)) (-1000000) 1000000<;>cases inB (getInt cs (0+k*7+1+1+1+1)) 1 1000<;>cases inB (getInt cs (0+k*7+1+1+1+1+1)) 0 1000000<;>rfl
theorem step18b (g:GL S7 7 cs ns)(few:ns≤1000)(k:Nat)(hk:k<ns):(rd18_1 ⟨(k:Int),s,ws,dp,cc,0,nc,cd,0,nd,tu,cs,0,ns⟩).val =
    some (if seE (IntKind.wrap .i64 ((nc:Int)-1)) cs k=0 then .inl ⟨((k+1:Nat):Int),s,ws,dp,cc,0,nc,cd,0,nd,tu,cs,0,ns⟩ else .inr (.k0 (k:Int) (seE (IntKind.wrap .i64 ((nc:Int)-1)) cs k) s ws dp cc 0 nc cd 0 nd tu cs 0 ns)):=by
  have hki:(k:Int)<(ns:Int):=by omega
  have h0:(0:Int)≤(k:Int):=by omega
  have h3:IntKind.wrap .i64 ((k:Int)+1)=((k+1:Nat):Int):=by rw [wrap64_id (by omega) (by omega)];omega
  have hr:rdOk cs S7 (0+k*7)=true:=row7 g hk
  unfold S7 at hr
  unfold seE seN
  simp only [rd18_1,RT.val,hki,h0,h3,hr,(F45_of _ _ _).1,(F45_of _ _ _).2,(F55_of _).1,(F55_of _).2,Int.toNat_natCast,Int.ofNat_eq_natCast,decide_true,Bool.and_self,cond_true]
  cases inB (getInt cs (0+k*7)) 0 (IntKind.wrap .i64 ((nc:Int)-1))<;>cases inB (getInt cs (0+k*7+1)) (-1000000) 1000000<;>cases inB (getInt cs (0+k*7+1+1)) (-1000000) 1000000<;>cases inB (getInt cs (0+k*7+1+1+1)) (-1000000) 1000000<;>cases inB (getInt cs (0+k*7+1+1+1+1)) 1 1000<;>cases inB (getInt cs (0+k*7+1+1+1+1+1)) 0 1000000<;>rfl
theorem F17_eq (gc:GL C4 4 cc nc)(gd:GL D3 3 cd nd)(gs:GL S7 7 cs ns):F17 s ws dp cc 0 nc cd 0 nd tu cs 0 ns=some ⟨(skF s ws dp cc nc cd nd tu cs ns).1,(skF s ws dp cc nc cd nd tu cs ns).2⟩:=by
  have e15:=F15_eq (s:=s) (ws:=ws) (dp:=dp) gc
  have o:F15_ok s ws dp cc 0 nc=true:=by simp only [F15_ok,e15];rfl
  have o2:F15_2 s ws dp cc 0 nc=(ckF s ws dp cc nc).2.2:=by simp only [F15_2,e15]
  unfold F17 rt17 skF
  simp only [RT.val,o,o2,(F42_of _ _ _).1,(F42_of _ _ _).2,(F47_of _ _).1,(F47_of _ _).2,w1e,Int.ofNat_eq_natCast,cond_true]
  by_cases hz:(ckF s ws dp cc nc).2.2=0
  case neg=>simp only [hz,decide_false,Bool.not_false,cond_true,if_false]
  rw [if_pos hz]
  simp only [hz,decide_true,Bool.not_true,cond_false]
  cases hd:inB (nd:Int) 1 30 with
  | false=>rfl
  | true =>
  simp only [Bool.not_true,cond_false,if_true]
  simp only [inB,Bool.and_eq_true,decide_eq_true_eq]at hd
  by_cases h2:6<ns
  · have i2:(6:Int)<(ns:Int):=by omega
    rw [if_pos h2]
    simp only [i2,decide_true,cond_true]
  have i2:¬(6:Int)<(ns:Int):=by omega
  rw [if_neg h2]
  simp only [i2,decide_false,cond_false]
  cases inB tu (-100000000) 100000000 with
  | false=>rfl
  | true =>
  simp only [Bool.not_true,cond_false,if_true]
  have z1:¬(nd:Int)<(nd:Int):=by omega
  have z2:¬(ns:Int)<(ns:Int):=by omega
  have l0:L17_0 (X17_0.mk cd 0 nd (nd:Int) 0 s ws dp cc 0 nc cd 0 nd tu cs 0 ns)=some (match fst1 (diE tu cd) nd 0 with | some (i,r)=>.k0 (i:Int) r s ws dp cc 0 nc cd 0 nd tu cs 0 ns | none=>.k1 s ws dp cc 0 nc cd 0 nd tu cs 0 ns) :=
    loop_fst (rd:=rd17_0) (S:=fun k=>X17_0.mk cd 0 nd (nd:Int) (k:Int) s ws dp cc 0 nc cd 0 nd tu cs 0 ns) (E:=diE tu cd) (n:=nd) (err:=fun i r=>.k0 (i:Int) r s ws dp cc 0 nc cd 0 nd tu cs 0 ns) (fin:=.k1 s ws dp cc 0 nc cd 0 nd tu cs 0 ns)
      (fun k hk=>step17a gd (by omega) k hk) (by simp only [rd17_0,RT.val,z1,decide_false,cond_false]) nd 0 (by omega)
  cases hf:fst1 (diE tu cd) nd 0 with
  | some ir =>
    obtain ⟨i,r⟩:=ir
    rw [hf]at l0
    simp only [L17_0_k0,Qn0,Qn1,l0,cond_true]
  | none =>
  rw [hf]at l0
  simp only [L17_0_k0,L17_0_k1,Qo0,Qo1,Qo2,Qo3,Qo4,Qo5,Qo6,Qo7,Qo8,Qo9,Qo10,Qo11,Qo12,l0,cond_true,cond_false]
  have l1:L17_1 (X17_1.mk cs 0 ns (ns:Int) 0 s ws dp cc 0 nc cd 0 nd tu cs 0 ns)=some (match fst1 (seE (IntKind.wrap .i64 ((nc:Int)-1)) cs) ns 0 with | some (i,r)=>.k0 (i:Int) r s ws dp cc 0 nc cd 0 nd tu cs 0 ns | none=>.k1 s ws dp cc 0 nc cd 0 nd tu cs 0 ns) :=
    loop_fst (rd:=rd17_1) (S:=fun k=>X17_1.mk cs 0 ns (ns:Int) (k:Int) s ws dp cc 0 nc cd 0 nd tu cs 0 ns) (E:=seE (IntKind.wrap .i64 ((nc:Int)-1)) cs) (n:=ns) (err:=fun i r=>.k0 (i:Int) r s ws dp cc 0 nc cd 0 nd tu cs 0 ns) (fin:=.k1 s ws dp cc 0 nc cd 0 nd tu cs 0 ns)
      (fun k hk=>step17b gs (by omega) k hk) (by simp only [rd17_1,RT.val,z2,decide_false,cond_false]) ns 0 (by omega)
  cases hf2:fst1 (seE (IntKind.wrap .i64 ((nc:Int)-1)) cs) ns 0 with
  | some ir =>
    obtain ⟨i,r⟩:=ir
    rw [hf2]at l1
    simp only [L17_1_k0,Qp0,Qp1,l1,cond_true]
  | none =>
    rw [hf2]at l1
    simp only [L17_1_k0,L17_1_k1,l1,cond_true,cond_false]
theorem F18_eq (gc:GL C4 4 cc nc)(gd:GL D3 3 cd nd)(gs:GL S7 7 cs ns):F18 s ws dp cc 0 nc cd 0 nd tu cs 0 ns=some ⟨(skF s ws dp cc nc cd nd tu cs ns).1,(skF s ws dp cc nc cd nd tu cs ns).2⟩:=by
  have e16:=F16_eq (s:=s) (ws:=ws) (dp:=dp) gc
  have o0:F16_ok s ws dp cc 0 nc=true:=by simp only [F16_ok,e16];rfl
  have o1:F16_2 s ws dp cc 0 nc=(ckF s ws dp cc nc).2.2:=by simp only [F16_2,e16]
  have e52:F52 s ws dp cc 0 nc=some ⟨(ckF s ws dp cc nc).2.2⟩:=by
    unfold F52 rt52
    simp only [RT.val,o0,o1,cond_true]
  have o:F52_ok s ws dp cc 0 nc=true:=by simp only [F52_ok,e52];rfl
  have o2:F52_0 s ws dp cc 0 nc=(ckF s ws dp cc nc).2.2:=by simp only [F52_0,e52]
  unfold F18 rt18 skF
  simp only [RT.val,o,o2,(F45_of _ _ _).1,(F45_of _ _ _).2,Int.ofNat_eq_natCast,cond_true]
  by_cases hz:(ckF s ws dp cc nc).2.2=0
  case neg=>simp only [hz,decide_false,Bool.not_false,cond_true,if_false]
  rw [if_pos hz]
  simp only [hz,decide_true,Bool.not_true,cond_false]
  cases hd:inB (nd:Int) 1 30 with
  | false=>rfl
  | true =>
  simp only [Bool.not_true,cond_false,if_true]
  simp only [inB,Bool.and_eq_true,decide_eq_true_eq]at hd
  by_cases h2:6<ns
  · have i2:(6:Int)<(ns:Int):=by omega
    rw [if_pos h2]
    simp only [i2,decide_true,cond_true]
  have i2:¬(6:Int)<(ns:Int):=by omega
  rw [if_neg h2]
  simp only [i2,decide_false,cond_false]
  cases inB tu (-100000000) 100000000 with
  | false=>rfl
  | true =>
  simp only [Bool.not_true,cond_false,if_true]
  have z1:¬(nd:Int)<(nd:Int):=by omega
  have z2:¬(ns:Int)<(ns:Int):=by omega
  have l0:L18_0 (X18_0.mk 0 s ws dp cc 0 nc cd 0 nd tu cs 0 ns)=some (match fst1 (diE tu cd) nd 0 with | some (i,r)=>.k0 (i:Int) r s ws dp cc 0 nc cd 0 nd tu cs 0 ns | none=>.k1 s ws dp cc 0 nc cd 0 nd tu cs 0 ns) :=
    loop_fst (rd:=rd18_0) (S:=fun k=>X18_0.mk (k:Int) s ws dp cc 0 nc cd 0 nd tu cs 0 ns) (E:=diE tu cd) (n:=nd) (err:=fun i r=>.k0 (i:Int) r s ws dp cc 0 nc cd 0 nd tu cs 0 ns) (fin:=.k1 s ws dp cc 0 nc cd 0 nd tu cs 0 ns)
      (fun k hk=>step18a gd (by omega) k hk) (by simp only [rd18_0,RT.val,z1,Int.ofNat_eq_natCast,decide_false,cond_false]) nd 0 (by omega)
  cases hf:fst1 (diE tu cd) nd 0 with
  | some ir =>
    obtain ⟨i,r⟩:=ir
    rw [hf]at l0
    simp only [L18_0_k0,Qr0,Qr1,l0,cond_true]
  | none =>
  rw [hf]at l0
  simp only [L18_0_k0,L18_0_k1,Qs0,Qs1,Qs2,Qs3,Qs4,Qs5,Qs6,Qs7,Qs8,Qs9,Qs10,Qs11,Qs12,l0,cond_true,cond_false]
  have l1:L18_1 (X18_1.mk 0 s ws dp cc 0 nc cd 0 nd tu cs 0 ns)=some (match fst1 (seE (IntKind.wrap .i64 ((nc:Int)-1)) cs) ns 0 with | some (i,r)=>.k0 (i:Int) r s ws dp cc 0 nc cd 0 nd tu cs 0 ns | none=>.k1 s ws dp cc 0 nc cd 0 nd tu cs 0 ns) :=
    loop_fst (rd:=rd18_1) (S:=fun k=>X18_1.mk (k:Int) s ws dp cc 0 nc cd 0 nd tu cs 0 ns) (E:=seE (IntKind.wrap .i64 ((nc:Int)-1)) cs) (n:=ns) (err:=fun i r=>.k0 (i:Int) r s ws dp cc 0 nc cd 0 nd tu cs 0 ns) (fin:=.k1 s ws dp cc 0 nc cd 0 nd tu cs 0 ns)
      (fun k hk=>step18b gs (by omega) k hk) (by simp only [rd18_1,RT.val,z2,Int.ofNat_eq_natCast,decide_false,cond_false]) ns 0 (by omega)
  cases hf2:fst1 (seE (IntKind.wrap .i64 ((nc:Int)-1)) cs) ns 0 with
  | some ir =>
    obtain ⟨i,r⟩:=ir
    rw [hf2]at l1
    simp only [L18_1_k0,Qt0,Qt1,l1,cond_true]
  | none =>
    rw [hf2]at l1
    simp only [L18_1_k0,L18_1_k1,l1,cond_true,cond_false]
end
end
end Go.Proofs.Ytoojllndfjamgaa
namespace Go.Proofs.Ytoojllndfjamgaa
open Go.Gi Go.RowKit
noncomputable section
set_option maxRecDepth 100000
theorem true3:True3:=by
  intro s ws dp cc nc cd nd tu cs ns _ _ _ gc gd _ gs
  have p:=F15_eq (s:=s) (ws:=ws) (dp:=dp) gc
  have q:=F16_eq (s:=s) (ws:=ws) (dp:=dp) gc
  have u:=F17_eq (s:=s) (ws:=ws) (dp:=dp) (tu:=tu) gc gd gs
  have v:=F18_eq (s:=s) (ws:=ws) (dp:=dp) (tu:=tu) gc gd gs
  have o1:F15_ok s ws dp cc 0 nc=true:=by simp only [F15_ok,p];rfl
  have o2:F16_ok s ws dp cc 0 nc=true:=by simp only [F16_ok,q];rfl
  have o3:F17_ok s ws dp cc 0 nc cd 0 nd tu cs 0 ns=true:=by simp only [F17_ok,u];rfl
  have o4:F18_ok s ws dp cc 0 nc cd 0 nd tu cs 0 ns=true:=by simp only [F18_ok,v];rfl
  unfold rt3
  simp only [RT.val,o1,o2,o3,o4,F15_0,F15_1,F15_2,F16_0,F16_1,F16_2,F17_0,F17_1,F18_0,F18_1,p,q,u,v,decide_true,Bool.not_true,cond_true,cond_false]
theorem frameChecksProved:Rows.FrameChecksSaid:=said3 true3
end
end Go.Proofs.Ytoojllndfjamgaa
