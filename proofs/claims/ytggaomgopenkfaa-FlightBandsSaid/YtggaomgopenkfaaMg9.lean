/- Part 9 of the texts below the claim. Conditions: none. -/
import Derived.Test.YtggaomgopenkfaaMg7
import Derived.Test.YtggaomgopenkfaaMg8
import Derived.Test.YtggaomgopenkfaaRows
import Derived.Test.YtggaomgopenkfaaMg6
set_option linter.unusedVariables false
set_option linter.unusedSimpArgs false
namespace Go.Proofs.Ytggaomgopenkfaa
open Go.Gi Go.RowKit Go.Proofs.Ytggaomgopenkfaa.Old
noncomputable section
set_option maxRecDepth 100000
set_option maxHeartbeats 4000000
structure R13 where
 (r0 r1 r2:Int)
structure A13 where
 (a0:ByteArray)
 (a1 a2:Int)
 (a3:Array Value)
 (a4 a5:Nat)
 (a6:Array Value)
 (a7 a8:Nat)
 (a9:Array Value)
 (a10 a11:Nat)
def rt13 (a0:ByteArray)(a1 a2:Int)(a3:Array Value)(a4 a5:Nat)(a6:Array Value)(a7 a8:Nat)(a9:Array Value)(a10 a11:Nat):RT R13 :=
 .br (F42_ok a0) (.br (not (F42_0 a0)) (.leaf ⟨(1:Int),(0:Int),(6:Int)⟩) (.br (F43_ok a1 a2 (0:Int) (200:Int)) (.br (not (F43_0 a1 a2 (0:Int) (200:Int))) (.leaf ⟨(1:Int),(0:Int),(7:Int)⟩) (.br (F44_ok a3 a4 a5) (.br (not (decide ((F44_1 a3 a4 a5)=(0:Int)))) (.leaf ⟨(2:Int),(F44_0 a3 a4 a5),(F44_1 a3 a4 a5)⟩) (.br (F45_ok a6 a7 a8) (.br (not (decide ((F45_1 a6 a7 a8)=(0:Int)))) (.leaf ⟨(3:Int),(F45_0 a6 a7 a8),(F45_1 a6 a7 a8)⟩) (.br (F46_ok a9 a10 a11) (.br (not (decide ((F46_1 a9 a10 a11)=(0:Int)))) (.leaf ⟨(4:Int),(F46_0 a9 a10 a11),(F46_1 a9 a10 a11)⟩) (.leaf ⟨(0:Int),(0:Int),(0:Int)⟩)) (.no))) (.no))) (.no))) (.no))) (.no)
def en13 (r:R13):Value:=(.tuple ⟨[(.int .i64 r.r0),(.int .i64 r.r1),(.int .i64 r.r2)]⟩)
theorem T13  (a0:ByteArray) (a1 a2:Int) (a3:Array Value) (a4 a5:Nat) (a6:Array Value) (a7 a8:Nat) (a9:Array Value) (a10 a11:Nat):evC Try.prog (Ans.c (p42.or (p43.or (p44.or (p45.or p46))))) 60 (.call 13 ⟨[(.agg ⟨[(.string a0),(.int .i64 a1),(.int .i64 a2),(lstV a3 a4 a5 2),(lstV a6 a7 a8 13),(lstV a9 a10 a11 13)]⟩)]⟩ ⟨[],0,[]⟩) (frzK [0,0,0])=(rt13 a0 a1 a2 a3 a4 a5 a6 a7 a8 a9 a10 a11).out (fun r=>.ret (en13 r) ⟨[],0,[]⟩):=by kernel_rfl
def F13 (a0:ByteArray)(a1 a2:Int)(a3:Array Value)(a4 a5:Nat)(a6:Array Value)(a7 a8:Nat)(a9:Array Value)(a10 a11:Nat):Option R13:=(rt13 a0 a1 a2 a3 a4 a5 a6 a7 a8 a9 a10 a11).val
section
variable (a0:ByteArray) (a1 a2:Int) (a3:Array Value) (a4 a5:Nat) (a6:Array Value) (a7 a8:Nat) (a9:Array Value) (a10 a11:Nat)
def F13_ok:Bool:=(F13 a0 a1 a2 a3 a4 a5 a6 a7 a8 a9 a10 a11).isSome
def F13_0:Int:=match F13 a0 a1 a2 a3 a4 a5 a6 a7 a8 a9 a10 a11 with | some r=>r.r0 | none=>0
def F13_1:Int:=match F13 a0 a1 a2 a3 a4 a5 a6 a7 a8 a9 a10 a11 with | some r=>r.r1 | none=>0
def F13_2:Int:=match F13 a0 a1 a2 a3 a4 a5 a6 a7 a8 a9 a10 a11 with | some r=>r.r2 | none=>0
end
def dec13:Task→Option (A13×Hp)
 | .call g ⟨[(.agg ⟨[(.string a0),(.int .i64 a1),(.int .i64 a2),(.func (.via 0 ⟨[]⟩ 0 true) a3 ⟨[.slice (some ⟨0,a4,none⟩) a5 2]⟩),(.func (.via 0 ⟨[]⟩ 0 true) a6 ⟨[.slice (some ⟨0,a7,none⟩) a8 13]⟩),(.func (.via 0 ⟨[]⟩ 0 true) a9 ⟨[.slice (some ⟨0,a10,none⟩) a11 13]⟩)]⟩)]⟩ h=>(match Nat.beq g 13 with | true=>some (⟨a0,a1,a2,a3,a4,a5,a6,a7,a8,a9,a10,a11⟩,h) | false=>none)
 | _=>none
def alt13 (x:A13)(h:Hp):AT:=.br (F13_ok x.a0 x.a1 x.a2 x.a3 x.a4 x.a5 x.a6 x.a7 x.a8 x.a9 x.a10 x.a11) (.leaf (.ret (.tuple ⟨[(.int .i64 (F13_0 x.a0 x.a1 x.a2 x.a3 x.a4 x.a5 x.a6 x.a7 x.a8 x.a9 x.a10 x.a11)),(.int .i64 (F13_1 x.a0 x.a1 x.a2 x.a3 x.a4 x.a5 x.a6 x.a7 x.a8 x.a9 x.a10 x.a11)),(.int .i64 (F13_2 x.a0 x.a1 x.a2 x.a3 x.a4 x.a5 x.a6 x.a7 x.a8 x.a9 x.a10 x.a11))]⟩) h)) .no
def p13:Ans:=fnAns dec13 alt13
theorem ha13:∀(x:A13) (h:Hp)(o:Out),(alt13 x h).out=some o→∃r,(rt13 x.a0 x.a1 x.a2 x.a3 x.a4 x.a5 x.a6 x.a7 x.a8 x.a9 x.a10 x.a11).val=some r∧o=.ret (en13 r) h:=by
 intro x h o e;unfold alt13 at e;simp only[AT.out]at e;obtain ⟨g,e⟩:=cond_some e;unfold F13_ok at g;obtain ⟨r,hF⟩:=Option.isSome_iff_exists.1 g
 refine ⟨r,by delta F13 at hF;exact hF,?_⟩
 simp only[Option.some.injEq]at e;rw[← e]
 unfold F13_0 F13_1 F13_2;rw[hF]<;>rfl
theorem hd13:∀(t:Task) (x:A13)(h:Hp),dec13 t=some (x,h)→t=.call 13 ⟨[(.agg ⟨[(.string x.a0),(.int .i64 x.a1),(.int .i64 x.a2),(lstV x.a3 x.a4 x.a5 2),(lstV x.a6 x.a7 x.a8 13),(lstV x.a9 x.a10 x.a11 13)]⟩)]⟩ h:=by
 intro t x h e;unfold dec13 at e
 split at e
 case h_2=>cases e
 split at e
 case h_2=>cases e
 rename_i hg;simp only[Option.some.injEq,Prod.mk.injEq]at e;obtain ⟨rfl,rfl⟩:=e;rw[Nat.eq_of_beq_eq_true hg]
theorem known13:Known Try.prog p13:=by
 exact Known.fn noNG mixed (Known.or known42 (Known.or known43 (Known.or known44 (Known.or known45 known46)))) (n:=60) (zs:=[0,0,0]) 13 (fun x:A13=>[(.agg ⟨[(.string x.a0),(.int .i64 x.a1),(.int .i64 x.a2),(lstV x.a3 x.a4 x.a5 2),(lstV x.a6 x.a7 x.a8 13),(lstV x.a9 x.a10 x.a11 13)]⟩)]) (fun x=>rt13 x.a0 x.a1 x.a2 x.a3 x.a4 x.a5 x.a6 x.a7 x.a8 x.a9 x.a10 x.a11) en13 (fun x=>T13  x.a0 x.a1 x.a2 x.a3 x.a4 x.a5 x.a6 x.a7 x.a8 x.a9 x.a10 x.a11) (fun x=>rfl) dec13 alt13 hd13 ha13
structure R50 where
 (r0:Bool)
def rt50 (a0 a1 a2:Int):RT R50 :=
 .br (decide (a1≤a0)) (.leaf ⟨(decide (a0≤a2))⟩) (.leaf ⟨false⟩)
def F50 (a0 a1 a2:Int):Option R50:=(rt50 a0 a1 a2).val
section
variable (a0 a1 a2:Int)
def F50_ok:Bool:=(F50 a0 a1 a2).isSome
def F50_0:Bool:=match F50 a0 a1 a2 with | some r=>r.r0 | none=>false
end
structure R49 where
 (r0:Int)
def rt49 (a0:ByteArray)(a1 a2:Int)(a3:Array Value)(a4 a5:Nat)(a6:Array Value)(a7 a8:Nat)(a9:Array Value)(a10 a11:Nat)(a12:Int):RT R49 :=let u0:=(getInt a3 ((a4+((Int.toNat a12)*2))+1));let u1:=(IntKind.wrap .i64 (a12-(1:Int)));let u2:=(getInt a3 (a4+((Int.toNat a12)*2)));let u3:=(F50_ok u0 (0:Int) (1000:Int));let u4:=(F50_0 u0 (0:Int) (1000:Int));
 .br (and (decide ((0:Int)≤a12)) (decide (a12<(Int.ofNat a5)))) (.br (rdOk a3 [(Leaf.int .i64),(Leaf.int .i64)] (a4+((Int.toNat a12)*2))) (.br (decide (a12=(0:Int))) (.br (not (decide (u2=(0:Int)))) (.leaf ⟨(2:Int)⟩) (.br (decide ((0:Int)<a12)) (.br (and (decide ((0:Int)≤u1)) (decide (u1<(Int.ofNat a5)))) (.br (isInt .i64 a3 ((a4+((Int.toNat u1)*2))+0)) (.br (decide (u2≤(getInt a3 ((a4+((Int.toNat u1)*2))+0)))) (.leaf ⟨(2:Int)⟩) (.br (decide ((2000000000:Int)<u2)) (.leaf ⟨(7:Int)⟩) (.br u3 (.br (not u4) (.leaf ⟨(7:Int)⟩) (.leaf ⟨(0:Int)⟩)) (.no)))) (.no)) (.no))
 (.br (decide ((2000000000:Int)<u2)) (.leaf ⟨(7:Int)⟩) (.br u3 (.br (not u4) (.leaf ⟨(7:Int)⟩) (.leaf ⟨(0:Int)⟩)) (.no))))) (.br (decide ((0:Int)<a12)) (.br (and (decide ((0:Int)≤u1)) (decide (u1<(Int.ofNat a5)))) (.br (isInt .i64 a3 ((a4+((Int.toNat u1)*2))+0)) (.br (decide (u2≤(getInt a3 ((a4+((Int.toNat u1)*2))+0)))) (.leaf ⟨(2:Int)⟩) (.br (decide ((2000000000:Int)<u2)) (.leaf ⟨(7:Int)⟩) (.br u3 (.br (not u4) (.leaf ⟨(7:Int)⟩) (.leaf ⟨(0:Int)⟩)) (.no)))) (.no)) (.no))
 (.br (decide ((2000000000:Int)<u2)) (.leaf ⟨(7:Int)⟩) (.br u3 (.br (not u4) (.leaf ⟨(7:Int)⟩) (.leaf ⟨(0:Int)⟩)) (.no))))) (.no)) (.no)
def F49 (a0:ByteArray)(a1 a2:Int)(a3:Array Value)(a4 a5:Nat)(a6:Array Value)(a7 a8:Nat)(a9:Array Value)(a10 a11:Nat)(a12:Int):Option R49:=(rt49 a0 a1 a2 a3 a4 a5 a6 a7 a8 a9 a10 a11 a12).val
section
variable (a0:ByteArray) (a1 a2:Int) (a3:Array Value) (a4 a5:Nat) (a6:Array Value) (a7 a8:Nat) (a9:Array Value) (a10 a11:Nat) (a12:Int)
def F49_ok:Bool:=(F49 a0 a1 a2 a3 a4 a5 a6 a7 a8 a9 a10 a11 a12).isSome
def F49_0:Int:=match F49 a0 a1 a2 a3 a4 a5 a6 a7 a8 a9 a10 a11 a12 with | some r=>r.r0 | none=>0
end
end
end Go.Proofs.Ytggaomgopenkfaa
namespace Go.Proofs.Ytggaomgopenkfaa
open Go.Gi Go.RowKit
noncomputable section
set_option maxRecDepth 100000
set_option maxHeartbeats 1000000
def inB (n lo hi:Int):Bool:=decide (lo≤n)&&decide (n≤hi)
def spB (a b lo hi:Int):Bool:=decide (a≤b)&&(decide (lo≤a)&&decide (b≤hi))
def boB (a b c e:Int):Bool:=spB a b 1 100000&&spB c e 0 1000
def thB (a b c e f g far:Int):Bool:=spB a b (-far) far&&(spB c e (-far) far&&spB f g (-far) far)
theorem inB_alt (n lo hi:Int):inB n lo hi=(!decide (n<lo)&&!decide (hi<n)):=by
 unfold inB;rw[Bool.eq_iff_iff];simp only[Bool.and_eq_true,decide_eq_true_eq,Bool.not_eq_true',decide_eq_false_iff_not]
 omega
theorem F50_of (n lo hi:Int):F50_ok n lo hi=true∧F50_0 n lo hi=inB n lo hi:=by
 have q:F50 n lo hi=some ⟨inB n lo hi⟩:=by
  unfold F50 rt50 inB
  by_cases h:lo≤n<;>simp [RT.val,mq,h]
 exact ⟨by simp only[F50_ok,q];rfl,by simp only[F50_0,q]⟩
theorem F83_of (a b lo hi:Int):F83_ok a b lo hi=true∧F83_0 a b lo hi=spB a b lo hi:=by
 have q:F83 a b lo hi=some ⟨spB a b lo hi⟩:=by
  unfold F83 rt83 spB
  by_cases h:a≤b<;>by_cases h2:lo≤a<;>simp [RT.val,mq,h,h2]
 exact ⟨by simp only[F83_ok,q];rfl,by simp only[F83_0,q]⟩
theorem F43_of (a b lo hi:Int):F43_ok a b lo hi=true∧F43_0 a b lo hi=spB a b lo hi:=by
 have q:F43 a b lo hi=some ⟨spB a b lo hi⟩:=by
  unfold F43 rt43;simp only[RT.val,mq,(F83_of _ _ _ _).1,(F83_of _ _ _ _).2,cond_true]
 exact ⟨by simp only[F43_ok,q];rfl,by simp only[F43_0,q]⟩
theorem wneg {f:Int}(hf:0≤f∧f≤1000000000):IntKind.wrap .i64 (0-f)=-f:=by rw[wrap64_id (by omega) (by omega)];omega
theorem F54_of {a b f:Int}(hf:0≤f∧f≤1000000000):F54_ok a b f=true∧F54_0 a b f=spB a b (-f) f:=by
 have q:F54 a b f=some ⟨spB a b (-f) f⟩:=by
  unfold F54 rt54;simp only[RT.val,mq,wneg hf,(F83_of _ _ _ _).1,(F83_of _ _ _ _).2,cond_true]
 exact ⟨by simp only[F54_ok,q];rfl,by simp only[F54_0,q]⟩
theorem F84_of (a b c e:Int):F84_ok a b c e=true∧F84_0 a b c e=boB a b c e:=by
 have q:F84 a b c e=some ⟨boB a b c e⟩:=by
  unfold F84 rt84 boB;simp only[RT.val,mq,(F43_of _ _ _ _).1,(F43_of _ _ _ _).2,cond_true]
  cases spB a b 1 100000<;>rfl
 exact ⟨by simp only[F84_ok,q];rfl,by simp only[F84_0,q]⟩
theorem F86_of {a b c e f g r:Int}(hr:0≤r∧r≤1000000000):F86_ok a b c e f g r=true∧F86_0 a b c e f g r=thB a b c e f g r:=by
 have q:F86 a b c e f g r=some ⟨thB a b c e f g r⟩:=by
  unfold F86 rt86 thB;simp only[RT.val,mq,(F54_of hr).1,(F54_of hr).2,cond_true]
  cases spB a b (-r) r<;>cases spB c e (-r) r<;>cases spB f g (-r) r<;>rfl
 exact ⟨by simp only[F86_ok,q];rfl,by simp only[F86_0,q]⟩
theorem F85_of (a b c e f g:Int):F85_ok a b c e f g=true∧F85_0 a b c e f g=a∧F85_1 a b c e f g=b∧F85_2 a b c e f g=c∧F85_3 a b c e f g=e∧F85_4 a b c e f g=f∧F85_5 a b c e f g=g:=by
 have q:F85 a b c e f g=some ⟨a,b,c,e,f,g⟩:=rfl
 exact ⟨by simp only[F85_ok,q];rfl,by simp only[F85_0,q],by simp only[F85_1,q],by simp only[F85_2,q],by simp only[F85_3,q],by simp only[F85_4,q],by simp only[F85_5,q]⟩
theorem F107_of (n:Int):F107_ok n=true∧F107_0 n=inB n 0 2000000000:=by
 have q:F107 n=some ⟨inB n 0 2000000000⟩:=by
  unfold F107 rt107 inB
  by_cases h:(0:Int)≤n<;>simp [RT.val,mq,h]
 exact ⟨by simp only[F107_ok,q];rfl,by simp only[F107_0,q]⟩
def arC (f dn fr:Int)(z:Bool):Int:=if (if z=true then decide (f=0) else decide (fr<f))=true then (if 2000000000<f then 7 else if inB dn 0 1000=true then 0 else 7) else 2
def arK (c:Array Value)(k:Nat):Int:=arC (getInt c (0+k*2)) (getInt c (0+k*2+1)) (getInt c (0+(k-1)*2+0)) (decide (k=0))
def phC (t a b c e f g h i j l m n:Int):Int:=if (inB t 1 3000&&(spB a b 0 2000000&&(boB c e f g&&thB h i j l m n 2000)))=true then 0 else 7
def phK (c:Array Value)(k:Nat):Int:=phC (getInt c (0+k*13)) (getInt c (0+k*13+1)) (getInt c (0+k*13+1+1)) (getInt c (0+k*13+1+1+1)) (getInt c (0+k*13+1+1+1+1)) (getInt c (0+k*13+1+1+1+1+1)) (getInt c (0+k*13+1+1+1+1+1+1)) (getInt c (0+k*13+1+1+1+1+1+1+1)) (getInt c (0+k*13+1+1+1+1+1+1+1+1)) (getInt c (0+k*13+1+1+1+1+1+1+1+1+1)) (getInt c (0+k*13+1+1+1+1+1+1+1+1+1+1)) (getInt c (0+k*13+1+1+1+1+1+1+1+1+1+1+1)) (getInt c (0+k*13+1+1+1+1+1+1+1+1+1+1+1+1))
def piC (s:ByteArray)(t a b c e f g h i j l m:Int)(tw:Bool):Int:=if nmB s=true then (if tw=true then 5 else if (inB t 1 3000&&(boB a b c e&&(thB f g h i j l 1000000&&inB m 0 2000000000)))=true then 0 else 7) else 6
def twE (c:Array Value)(s:ByteArray)(j:Nat):Int:=if strEq (getStr c (0+j*13)) s=true then 5 else 0
def twB (c:Array Value)(s:ByteArray)(k:Nat):Bool:=(fst1 (twE c s) k 0).isSome
def piK (c:Array Value)(k:Nat):Int:=piC (getStr c (0+k*13)) (getInt c (0+k*13+1)) (getInt c (0+k*13+1+1)) (getInt c (0+k*13+1+1+1)) (getInt c (0+k*13+1+1+1+1)) (getInt c (0+k*13+1+1+1+1+1)) (getInt c (0+k*13+1+1+1+1+1+1)) (getInt c (0+k*13+1+1+1+1+1+1+1)) (getInt c (0+k*13+1+1+1+1+1+1+1+1)) (getInt c (0+k*13+1+1+1+1+1+1+1+1+1)) (getInt c (0+k*13+1+1+1+1+1+1+1+1+1+1)) (getInt c (0+k*13+1+1+1+1+1+1+1+1+1+1+1)) (getInt c (0+k*13+1+1+1+1+1+1+1+1+1+1+1+1)) (twB c (getStr c (0+k*13)) k)
def I2:List Leaf:=[.int .i64,.int .i64]
def I13:List Leaf:=[(Leaf.int .i64),(Leaf.int .i64),(Leaf.int .i64),(Leaf.int .i64),(Leaf.int .i64),(Leaf.int .i64),(Leaf.int .i64),(Leaf.int .i64),(Leaf.int .i64),(Leaf.int .i64),(Leaf.int .i64),(Leaf.int .i64),(Leaf.int .i64)]
def S13:List Leaf:=[Leaf.str,(Leaf.int .i64),(Leaf.int .i64),(Leaf.int .i64),(Leaf.int .i64),(Leaf.int .i64),(Leaf.int .i64),(Leaf.int .i64),(Leaf.int .i64),(Leaf.int .i64),(Leaf.int .i64),(Leaf.int .i64),(Leaf.int .i64)]
theorem rd_and {c:Array Value}{l:Leaf}{L:List Leaf}{i:Nat}(h:rdOk c (l::L) i=true):(rdLeaf c l i).1=true∧rdOk c L (i+1)=true:=by
 simpa only [rdOk,Bool.and_eq_true] using h
theorem ar44 (f dn fr:Int)(k:Nat)(S:X44_0)(F:Int→D44_0):(cond (decide (f≤fr)) (some (Sum.inr (F 2))) (cond (decide (2000000000<f)) (some (Sum.inr (F 7))) (cond (decide (dn<0)) (some (Sum.inr (F 7))) (cond (decide (1000<dn)) (some (Sum.inr (F 7))) (some (Sum.inl S)))))) =
  some (if arC f dn fr false=0 then Sum.inl S else Sum.inr (F (arC f dn fr false))):=by
 unfold arC;rw[inB_alt]
 by_cases h1:f≤fr
 ·have:¬fr<f:=by omega
  simp [h1,this]
 ·have h1':fr<f:=by omega
  by_cases h2:2000000000<f<;>by_cases h3:dn<0<;>by_cases h4:1000<dn<;>simp [h1,h1',h2,h3,h4]
theorem ar44z (f dn fr:Int)(S:X44_0)(F:Int→D44_0):(cond (!decide (f=0)) (some (Sum.inr (F 2))) (cond (decide (2000000000<f)) (some (Sum.inr (F 7))) (cond (decide (dn<0)) (some (Sum.inr (F 7))) (cond (decide (1000<dn)) (some (Sum.inr (F 7))) (some (Sum.inl S)))))) =
  some (if arC f dn fr true=0 then Sum.inl S else Sum.inr (F (arC f dn fr true))):=by
 unfold arC;rw[inB_alt]
 by_cases h1:f=0<;>by_cases h2:2000000000<f<;>by_cases h3:dn<0<;>by_cases h4:1000<dn<;>simp [h1,h2,h3,h4]
theorem row2 {c:Array Value}{n k:Nat}(h:GL I2 2 c n) (hk:k<n):rdOk c [(Leaf.int .i64),(Leaf.int .i64)] (0+k*2)=true:=h.good.2 k hk
section
variable {c:Array Value}{n:Nat}
theorem step44 (g:GL I2 2 c n)(few:n≤1000)(k:Nat)(hk:k<n):(rd44_0 ⟨c,0,n,c,0,n,(n:Int),(k:Int)⟩).val=some (if arK c k=0 then .inl ⟨c,0,n,c,0,n,(n:Int),((k+1:Nat):Int)⟩ else .inr (.k0 (k:Int) (arK c k))):=by
 have hki:(k:Int)<(n:Int):=by omega
 have h0:(0:Int)≤(k:Int):=by omega
 have h3:IntKind.wrap .i64 ((k:Int)+1)=((k+1:Nat):Int):=by rw[wrap64_id (by omega) (by omega)];omega
 have hr:=row2 g hk;unfold arK
 by_cases hk0:k=0
 ·subst hk0
  have hz:((0:Nat):Int)=0:=rfl
  have hlt:¬((0:Int)<((0:Nat):Int)):=by decide
  have hki0:(0:Int)<(n:Int):=by omega
  have hle:(0:Int)≤0:=by decide
  have h30:IntKind.wrap .i64 ((0:Int)+1)=((0+1:Nat):Int):=by rw[wrap64_id (by omega) (by omega)];rfl
  simp only[rd44_0,RT.val,mq,hki0,hle,h30,hr,hz,Int.lt_irrefl,Int.toNat_natCast,Int.toNat_zero,Int.ofNat_eq_natCast,decide_true,decide_false,Bool.and_self,cond_true,cond_false]
  exact ar44z _ _ _ _ (fun r=>.k0 0 r)
 ·have hz:¬(k:Int)=0:=by omega
  have hlt:(0:Int)<(k:Int):=by omega
  have hw:IntKind.wrap .i64 ((k:Int)-1)=((k-1:Nat):Int):=by rw[wrap64_id (by omega) (by omega)];omega
  have h0':(0:Int)≤((k-1:Nat):Int):=by omega
  have hlt':((k-1:Nat):Int)<(n:Int):=by omega
  have hi:isInt .i64 c (0+(k-1)*2+0)=true:=(rd_and (row2 g (show k-1<n by omega))).1
  simp only[rd44_0,RT.val,mq,hki,h0,h3,hr,hz,hlt,hw,h0',hlt',hi,Int.toNat_natCast,Int.ofNat_eq_natCast,decide_true,decide_false,Bool.and_self,cond_true,cond_false]
  rw[show decide (k=0)=false from decide_eq_false hk0]
  exact ar44 _ _ _ k _ (fun r=>.k0 (k:Int) r)
def arS (c:Array Value)(n:Nat):Int×Int:=if 20<n then (0,3) else match fst1 (arK c) n 0 with | some (i,r)=>((i:Int),r) | none=>(0,0)
theorem F44_eq (g:GL I2 2 c n):F44 c 0 n=some ⟨(arS c n).1,(arS c n).2⟩:=by
 unfold F44 rt44 arS
 by_cases h:20<n
 ·have:(20:Int)<(n:Int):=by omega
  rw[if_pos h];simp only[RT.val,mq,this,Int.ofNat_eq_natCast,decide_true,cond_true]
 ·have i1:¬(20:Int)<(n:Int):=by omega
  have i2:¬(n:Int)<(n:Int):=by omega
  rw[if_neg h]
  have l:L44_0 (X44_0.mk c 0 n c 0 n (n:Int) 0)=some (match fst1 (arK c) n 0 with | some (i,r)=>.k0 (i:Int) r | none=>.k1) :=
   loop_fst (rd:=rd44_0) (S:=fun k=>⟨c,0,n,c,0,n,(n:Int),(k:Int)⟩) (E:=arK c) (n:=n) (err:=fun i r=>.k0 (i:Int) r) (fin:=.k1) (fun k hk=>step44 g (by omega) k hk)
    (by simp only[rd44_0,RT.val,mq,i2,decide_false,cond_false]) n 0 (by omega)
  cases hf:fst1 (arK c) n 0 with
  | none =>
   rw[hf]at l;simp only[RT.val,mq,i1,Int.ofNat_eq_natCast,L44_0_k0,L44_0_k1,l,decide_false,cond_true,cond_false]
  | some p =>
   obtain ⟨i,r⟩:=p;rw[hf]at l;simp only[RT.val,mq,i1,Int.ofNat_eq_natCast,L44_0_k0,Qc0,Qc1,l,decide_false,cond_true,cond_false]
end
end
end Go.Proofs.Ytggaomgopenkfaa
namespace Go.Proofs.Ytggaomgopenkfaa
open Go.ChangeShapes Go.WideShapes Go.ChangeAt Go.RowKit Go.Gi
set_option maxRecDepth 100000
theorem own:ownKnob Try.prog.godebug=none:=by kernel_rfl
theorem laidOut:laidOutB Try.prog=true:=by kernel_rfl
theorem flat146:flatT Try.prog 18 146=true:=by kernel_rfl
theorem leaves146:leaves Try.prog false 18 146=I2:=by kernel_rfl
theorem cells146:Try.prog.cellsOf 146=2:=by kernel_rfl
theorem flat81:flatT Try.prog 18 81=true:=by kernel_rfl
theorem leaves81:leaves Try.prog false 18 81=I13:=by kernel_rfl
theorem cells81:Try.prog.cellsOf 81=13:=by kernel_rfl
theorem flat78:flatT Try.prog 18 78=true:=by kernel_rfl
theorem leaves78:leaves Try.prog false 18 78=S13:=by kernel_rfl
theorem cells78:Try.prog.cellsOf 78=13:=by kernel_rfl
theorem tyB28:tyB Try.prog 20 28=true:=by kernel_rfl
theorem tyStr {P:Program}{d:Nat}{t:TypeId}{cs:List Value}(hu:P.underlying t=some .string) (h:Ty P (d+1) t cs):∃s,cs=[.string s]∧s.size≤maxLen:=by
 unfold Ty at h;rw[hu]at h;exact h
theorem tySpan {d:Nat}{cs:List Value}(h:Ty Try.prog (d+1+1) 23 cs):∃a b,cs=[.int .i64 a,.int .i64 b]:=by
 obtain ⟨p0,p1,rfl,h0,h1⟩:=tyS2 Try.underlying23 h;obtain ⟨a,rfl,_⟩:=tyI Try.underlying3 h0;obtain ⟨b,rfl,_⟩:=tyI Try.underlying3 h1;exact ⟨a,b,rfl⟩
def Veh (abs:List Value):Prop:=∃nm g1 g2 ca na cp np c n,abs=[.string nm,.int .i64 g1,.int .i64 g2,lstV ca 0 na 2,lstV cp 0 np 13,lstV c 0 n 13]∧GL I2 2 ca na∧GL I13 13 cp np∧GL S13 13 c n
theorem veh {abs:List Value}(h:Ty Try.prog 20 28 abs):Veh abs:=by
 obtain ⟨p0,p1,p2,p3,p4,rfl,h0,h1,h2,h3,h4⟩:=tyS5 Try.underlying28 h;obtain ⟨nm,rfl,_⟩:=tyStr Try.underlying9 h0;obtain ⟨g1,g2,rfl⟩:=tySpan h1
 obtain ⟨ca,na,rfl,q1⟩:=tyG Try.underlying24 flat146 cells146 leaves146 rfl (by decide) h2
 obtain ⟨cp,np,rfl,q2⟩:=tyG Try.underlying25 flat81 cells81 leaves81 rfl (by decide) h3
 obtain ⟨c,n,rfl,q3⟩:=tyG Try.underlying26 flat78 cells78 leaves78 rfl (by decide) h4
 exact ⟨nm,g1,g2,ca,na,cp,np,c,n,rfl,q1,q2,q3⟩
section
variable {H:Type}{enc:TypeId×Value→H}{w:World}{r:Reach}{b0:Nat}{v:Value}{dd:DataW H}{p:List MemPlace}
theorem vehArg (hval:Value.okWide Try.prog w r b0 28 v)(h:DataW.Trod enc Try.prog w 0 (fun _=>true) true 28 v dd p):∃abs,VR (zAll w) (.agg ⟨abs⟩) v∧Veh abs:=by
 obtain ⟨abs,h1,h2⟩:=argS Try.underlying28 tyB28 hval h;exact ⟨abs,h1,veh h2⟩
end
end Go.Proofs.Ytggaomgopenkfaa
namespace Go.Proofs.Ytggaomgopenkfaa
open Go.Gi Go.RowKit Go.Proofs.Ytggaomgopenkfaa.Old
noncomputable section
set_option maxRecDepth 100000
set_option maxHeartbeats 4000000
structure R122 where
 (r0:Bool)
structure A122 where
 (a0:Int)
def rt122 (a0:Int):RT R122 :=
 .br (decide ((-20000:Int)≤a0)) (.leaf ⟨(decide (a0≤(20000:Int)))⟩) (.leaf ⟨false⟩)
def en122 (r:R122):Value:=(.bool r.r0)
theorem T122  (a0:Int):evC Try.prog (Ans.c (fun _=>none:Ans)) 60 (.call 122 ⟨[(.int .i64 a0)]⟩ ⟨[],0,[]⟩) (frzK [0])=(rt122 a0).out (fun r=>.ret (en122 r) ⟨[],0,[]⟩):=by kernel_rfl
def F122 (a0:Int):Option R122:=(rt122 a0).val
section
variable (a0:Int)
def F122_ok:Bool:=(F122 a0).isSome
def F122_0:Bool:=match F122 a0 with | some r=>r.r0 | none=>false
end
def dec122:Task→Option (A122×Hp)
 | .call g ⟨[(.int .i64 a0)]⟩ h=>(match Nat.beq g 122 with | true=>some (⟨a0⟩,h) | false=>none)
 | _=>none
def alt122 (x:A122)(h:Hp):AT:=.br (F122_ok x.a0) (.leaf (.ret (.bool (F122_0 x.a0)) h)) .no
def p122:Ans:=fnAns dec122 alt122
theorem ha122:∀(x:A122) (h:Hp)(o:Out),(alt122 x h).out=some o→∃r,(rt122 x.a0).val=some r∧o=.ret (en122 r) h:=by
 intro x h o e;unfold alt122 at e;simp only[AT.out]at e;obtain ⟨g,e⟩:=cond_some e;unfold F122_ok at g;obtain ⟨r,hF⟩:=Option.isSome_iff_exists.1 g
 refine ⟨r,by delta F122 at hF;exact hF,?_⟩
 simp only[Option.some.injEq]at e;rw[← e]
 unfold F122_0;rw[hF]<;>rfl
theorem hd122:∀(t:Task) (x:A122)(h:Hp),dec122 t=some (x,h)→t=.call 122 ⟨[(.int .i64 x.a0)]⟩ h:=by
 intro t x h e;unfold dec122 at e
 split at e
 case h_2=>cases e
 split at e
 case h_2=>cases e
 rename_i hg;simp only[Option.some.injEq,Prod.mk.injEq]at e;obtain ⟨rfl,rfl⟩:=e;rw[Nat.eq_of_beq_eq_true hg]
theorem known122:Known Try.prog p122:=by
 exact Known.fn noNG mixed (Known.nothing Try.prog) (n:=60) (zs:=[0]) 122 (fun x:A122=>[(.int .i64 x.a0)]) (fun x=>rt122 x.a0) en122 (fun x=>T122  x.a0) (fun x=>rfl) dec122 alt122 hd122 ha122
structure R109 where
 (r0:Bool)
structure A109 where
 (a0 a1:Int)
def rt109 (a0 a1:Int):RT R109 :=
 .br (decide (a0≤a1)) (.br (F122_ok a0) (.br (F122_0 a0) (.br (F122_ok a1) (.leaf ⟨(F122_0 a1)⟩) (.no)) (.leaf ⟨false⟩)) (.no)) (.leaf ⟨false⟩)
def en109 (r:R109):Value:=(.bool r.r0)
theorem T109  (a0 a1:Int):evC Try.prog (Ans.c p122) 60 (.call 109 ⟨[(.agg ⟨[(.int .i64 a0),(.int .i64 a1)]⟩)]⟩ ⟨[],0,[]⟩) (frzK [0])=(rt109 a0 a1).out (fun r=>.ret (en109 r) ⟨[],0,[]⟩):=by kernel_rfl
def F109 (a0 a1:Int):Option R109:=(rt109 a0 a1).val
section
variable (a0 a1:Int)
def F109_ok:Bool:=(F109 a0 a1).isSome
def F109_0:Bool:=match F109 a0 a1 with | some r=>r.r0 | none=>false
end
def dec109:Task→Option (A109×Hp)
 | .call g ⟨[(.agg ⟨[(.int .i64 a0),(.int .i64 a1)]⟩)]⟩ h=>(match Nat.beq g 109 with | true=>some (⟨a0,a1⟩,h) | false=>none)
 | _=>none
def alt109 (x:A109)(h:Hp):AT:=.br (F109_ok x.a0 x.a1) (.leaf (.ret (.bool (F109_0 x.a0 x.a1)) h)) .no
def p109:Ans:=fnAns dec109 alt109
theorem ha109:∀(x:A109) (h:Hp)(o:Out),(alt109 x h).out=some o→∃r,(rt109 x.a0 x.a1).val=some r∧o=.ret (en109 r) h:=by
 intro x h o e;unfold alt109 at e;simp only[AT.out]at e;obtain ⟨g,e⟩:=cond_some e;unfold F109_ok at g;obtain ⟨r,hF⟩:=Option.isSome_iff_exists.1 g
 refine ⟨r,by delta F109 at hF;exact hF,?_⟩
 simp only[Option.some.injEq]at e;rw[← e]
 unfold F109_0;rw[hF]<;>rfl
theorem hd109:∀(t:Task) (x:A109)(h:Hp),dec109 t=some (x,h)→t=.call 109 ⟨[(.agg ⟨[(.int .i64 x.a0),(.int .i64 x.a1)]⟩)]⟩ h:=by
 intro t x h e;unfold dec109 at e
 split at e
 case h_2=>cases e
 split at e
 case h_2=>cases e
 rename_i hg;simp only[Option.some.injEq,Prod.mk.injEq]at e;obtain ⟨rfl,rfl⟩:=e;rw[Nat.eq_of_beq_eq_true hg]
theorem known109:Known Try.prog p109:=by
 exact Known.fn noNG mixed known122 (n:=60) (zs:=[0]) 109 (fun x:A109=>[(.agg ⟨[(.int .i64 x.a0),(.int .i64 x.a1)]⟩)]) (fun x=>rt109 x.a0 x.a1) en109 (fun x=>T109  x.a0 x.a1) (fun x=>rfl) dec109 alt109 hd109 ha109
structure R90 where
 (r0:Int)
structure A90 where
 (a0 a1:Int)
 (a2 a3:Int)
 (a4 a5 a6:Int)
def rt90 (a0 a1:Int)(a2 a3:Int)(a4 a5 a6:Int):RT R90 :=
 .br (not (decide (a0=a6))) (.leaf ⟨(2:Int)⟩) (.br (decide (a1≤a0)) (.leaf ⟨(7:Int)⟩) (.br (decide ((100000000:Int)<a1)) (.leaf ⟨(7:Int)⟩) (.br (F109_ok a2 a3) (.br (not (F109_0 a2 a3)) (.leaf ⟨(7:Int)⟩) (.br (F109_ok a4 a5) (.br (not (F109_0 a4 a5)) (.leaf ⟨(7:Int)⟩) (.leaf ⟨(0:Int)⟩)) (.no))) (.no))))
def en90 (r:R90):Value:=(.int .i64 r.r0)
theorem T90  (a0 a1:Int) (a2 a3:Int) (a4 a5 a6:Int):evC Try.prog (Ans.c p109) 60 (.call 90 ⟨[(.agg ⟨[(.int .i64 a0),(.int .i64 a1),(.int .i64 a2),(.int .i64 a3),(.int .i64 a4),(.int .i64 a5)]⟩),(.int .i64 a6)]⟩ ⟨[],0,[]⟩) (frzK [0])=(rt90 a0 a1 a2 a3 a4 a5 a6).out (fun r=>.ret (en90 r) ⟨[],0,[]⟩):=by kernel_rfl
def F90 (a0 a1:Int)(a2 a3:Int)(a4 a5 a6:Int):Option R90:=(rt90 a0 a1 a2 a3 a4 a5 a6).val
section
variable (a0 a1:Int) (a2 a3:Int) (a4 a5 a6:Int)
def F90_ok:Bool:=(F90 a0 a1 a2 a3 a4 a5 a6).isSome
def F90_0:Int:=match F90 a0 a1 a2 a3 a4 a5 a6 with | some r=>r.r0 | none=>0
end
def dec90:Task→Option (A90×Hp)
 | .call g ⟨[(.agg ⟨[(.int .i64 a0),(.int .i64 a1),(.int .i64 a2),(.int .i64 a3),(.int .i64 a4),(.int .i64 a5)]⟩),(.int .i64 a6)]⟩ h=>(match Nat.beq g 90 with | true=>some (⟨a0,a1,a2,a3,a4,a5,a6⟩,h) | false=>none)
 | _=>none
def alt90 (x:A90)(h:Hp):AT:=.br (F90_ok x.a0 x.a1 x.a2 x.a3 x.a4 x.a5 x.a6) (.leaf (.ret (.int .i64 (F90_0 x.a0 x.a1 x.a2 x.a3 x.a4 x.a5 x.a6)) h)) .no
def p90:Ans:=fnAns dec90 alt90
theorem ha90:∀(x:A90) (h:Hp)(o:Out),(alt90 x h).out=some o→∃r,(rt90 x.a0 x.a1 x.a2 x.a3 x.a4 x.a5 x.a6).val=some r∧o=.ret (en90 r) h:=by
 intro x h o e;unfold alt90 at e;simp only[AT.out]at e;obtain ⟨g,e⟩:=cond_some e;unfold F90_ok at g;obtain ⟨r,hF⟩:=Option.isSome_iff_exists.1 g
 refine ⟨r,by delta F90 at hF;exact hF,?_⟩
 simp only[Option.some.injEq]at e;rw[← e]
 unfold F90_0;rw[hF]<;>rfl
theorem hd90:∀(t:Task) (x:A90)(h:Hp),dec90 t=some (x,h)→t=.call 90 ⟨[(.agg ⟨[(.int .i64 x.a0),(.int .i64 x.a1),(.int .i64 x.a2),(.int .i64 x.a3),(.int .i64 x.a4),(.int .i64 x.a5)]⟩),(.int .i64 x.a6)]⟩ h:=by
 intro t x h e;unfold dec90 at e
 split at e
 case h_2=>cases e
 split at e
 case h_2=>cases e
 rename_i hg;simp only[Option.some.injEq,Prod.mk.injEq]at e;obtain ⟨rfl,rfl⟩:=e;rw[Nat.eq_of_beq_eq_true hg]
theorem known90:Known Try.prog p90:=by
 exact Known.fn noNG mixed known109 (n:=60) (zs:=[0]) 90 (fun x:A90=>[(.agg ⟨[(.int .i64 x.a0),(.int .i64 x.a1),(.int .i64 x.a2),(.int .i64 x.a3),(.int .i64 x.a4),(.int .i64 x.a5)]⟩),(.int .i64 x.a6)]) (fun x=>rt90 x.a0 x.a1 x.a2 x.a3 x.a4 x.a5 x.a6) en90 (fun x=>T90  x.a0 x.a1 x.a2 x.a3 x.a4 x.a5 x.a6) (fun x=>rfl) dec90 alt90 hd90 ha90
structure X53_0 where
 (v0:Int)
 (v1:Array Value)
 (v2 v3:Nat)
 (v4 v5:Int)
inductive D53_0 where
 | k0 (d0 d1:Int)
 | k1
def Lp53_0:LoopOf X53_0 D53_0 where
 c:=(theLoop Try.prog 53 0)
 N:=33
 M:=0
 S:=[4,16,17,18]
 sl:=fun x=>[(.int .i64 x.v0),(lstV x.v1 x.v2 x.v3 6),(.int .i64 x.v4),(.int .i64 x.v5)]
 hp:=fun x=>[]
 ex:=fun d=>match d with | .k0 ..=>.ret | .k1 ..=>.exit 0
 pick:=fun e=>match e with | .ret=>[2,3] | .exit 0=>[] | _=>[]
 dv:=fun d=>match d with | .k0 d0 d1=>[(.int .i64 d0),(.int .i64 d1)] | .k1 =>[]
 dh:=fun d=>match d with | .k0 d0 d1=>[] | .k1 =>[]
theorem ok53_0:Lp53_0.Ok:=⟨fun x=>rfl,fun x=>rfl,fun x=>rfl,fun x=>rfl,fun d=>by cases d<;>rfl,fun d=>by cases d<;>rfl,fun d=>by cases d<;>rfl,fun d=>by cases d<;>(intro h;cases h),fun d=>by cases d<;>rfl,fun d=>by cases d<;>rfl⟩
def rd53_0 (x:X53_0):RT (Sum X53_0 D53_0):=match x with
 | ⟨v0,v1,v2,v3,v4,v5⟩ =>let u1:=(Int.toNat v5);let u0:=(F90_0 (getInt v1 (v2+(u1*6))) (getInt v1 ((v2+(u1*6))+1)) (getInt v1 (((v2+(u1*6))+1)+1)) (getInt v1 ((((v2+(u1*6))+1)+1)+1)) (getInt v1 (((((v2+(u1*6))+1)+1)+1)+1)) (getInt v1 ((((((v2+(u1*6))+1)+1)+1)+1)+1)) v0);let u2:=(Leaf.int .i64);
   .br (decide (v5<v4)) (.br (and (decide ((0:Int)≤v5)) (decide (v5<(Int.ofNat v3)))) (.br (rdOk v1 [u2,u2,u2,u2,u2,u2] (v2+(u1*6))) (.br (F90_ok (getInt v1 (v2+(u1*6))) (getInt v1 ((v2+(u1*6))+1)) (getInt v1 (((v2+(u1*6))+1)+1)) (getInt v1 ((((v2+(u1*6))+1)+1)+1)) (getInt v1 (((((v2+(u1*6))+1)+1)+1)+1)) (getInt v1 ((((((v2+(u1*6))+1)+1)+1)+1)+1)) v0)
   (.br (not (decide (u0=(0:Int)))) (.leaf (.inr (.k0 v5 (u0)))) (.leaf (.inl ⟨(getInt v1 ((v2+(u1*6))+1)),v1,v2,v3,v4,(IntKind.wrap .i64 (v5+(1:Int)))⟩))) (.no)) (.no)) (.no)) (.leaf (.inr (.k1)))
theorem T53_0  (y:List Value) (v0:Int) (v1:Array Value) (v2 v3:Nat) (v4 v5:Int):evC Try.prog (Ans.c p90) 60 (.code none (theLoop Try.prog 53 0) ⟨sets (junkF 33 y) [(4,(.int .i64 v0)),(16,(lstV v1 v2 v3 6)),(17,(.int .i64 v4)),(18,(.int .i64 v5))],[],⟨[],0,[]⟩⟩) (sumK 0 33 Lp53_0.pk)=(rd53_0 ⟨v0,v1,v2,v3,v4,v5⟩).out Lp53_0.enc:=by kernel_rfl
def L53_0 (x:X53_0):Option D53_0:=loopR rd53_0 x
section
variable (x:X53_0)
def L53_0_k0:Bool:=match L53_0 x with | some (.k0 ..)=>true | _=>false
def Qh0:Int:=match L53_0 x with | some (.k0 d _)=>d | _=>0
def Qh1:Int:=match L53_0 x with | some (.k0 _ d)=>d | _=>0
def L53_0_k1:Bool:=match L53_0 x with | some (.k1 ..)=>true | _=>false
end
def dec53_0:Task→Option (Code×X53_0)
 | .code none (.loop code) ⟨t,[],⟨[],0,[]⟩⟩ =>
  (match Nat.beq (firstReg code) 5,lenIs t 33,lget t 4,lget t 16,lget t 17,lget t 18 with
  | true,true,(.int .i64 v0),(.func (.via 0 ⟨[]⟩ 0 true) v1 ⟨[.slice (some ⟨0,v2,none⟩) v3 6]⟩),(.int .i64 v4),(.int .i64 v5)=>some (code,⟨v0,v1,v2,v3,v4,v5⟩)
  | _,_,_,_,_,_=>none)
 | _=>none
def alt53_0 (x:X53_0)(j:List Value):AT:=.br (L53_0_k0 x) (loopEnd 33 (.ret) [(2,(.int .i64 (Qh0 x))),(3,(.int .i64 (Qh1 x)))] ⟨[],0,[]⟩ j) (.br (L53_0_k1 x) (loopEnd 33 (.exit 0) [] ⟨[],0,[]⟩ j) (.no))
def la53_0 (J:Task→List Value):Ans:=loopAns Lp53_0.c dec53_0 alt53_0 J
theorem ha53_0:∀(x:X53_0) (j:List Value)(o:Out),(alt53_0 x j).out=some o→∃d,loopR rd53_0 x=some d∧o=Lp53_0.tail d j:=by
 intro x j o h;unfold alt53_0 at h
 cases hL:L53_0 x with
 | none=>simp [L53_0_k0,Qh0,Qh1,L53_0_k1,hL,AT.out]at h
 | some d =>
  refine ⟨d,hL,?_⟩
  cases d<;>(simp only[L53_0_k0,Qh0,Qh1,L53_0_k1,hL,AT.out,loopEnd,cond_true,cond_false,Option.some.injEq]at h;rw[← h];rfl)
theorem hd53_0:∀(t:Task) (c:Code)(x:X53_0),dec53_0 t=some (c,x)→c=Lp53_0.c→∃T,t=.code none (.loop Lp53_0.c) ⟨T,[],⟨Lp53_0.hp x,0,[]⟩⟩∧T.length=Lp53_0.N∧∀kv∈Lp53_0.S.zip (Lp53_0.sl x),lget T kv.1=kv.2:=by
 intro t c x h hc;unfold dec53_0 at h
 split at h
 case h_2=>cases h
 split at h
 case h_2=>cases h
 simp only[Option.some.injEq,Prod.mk.injEq]at h;obtain ⟨rfl,rfl⟩:=h;subst hc
 refine ⟨_,rfl,lenIs_eq _ _ (by assumption),?_⟩
 intro kv hk;simp only[Lp53_0,List.zip_cons_cons,List.zip_nil_right,List.mem_cons,List.not_mem_nil,or_false]at hk
 rcases hk with rfl | rfl | rfl | rfl<;>assumption
theorem kl53_0:∃J,Known Try.prog (la53_0 J):=by
 exact LoopOf.known noNG mixed ok53_0 (by decide) (by decide) known90 (n:=60) (rd:=rd53_0) (fun x j=>T53_0  j x.v0 x.v1 x.v2 x.v3 x.v4 x.v5) dec53_0 alt53_0 hd53_0 ha53_0
structure R53 where
 (r0 r1:Int)
structure A53 where
 (a0:Array Value)
 (a1 a2:Nat)
def rt53 (a0:Array Value)(a1 a2:Nat):RT R53 :=
 .br (decide ((Int.ofNat a2)<(1:Int))) (.leaf ⟨(0:Int),(3:Int)⟩) (.br (decide ((20:Int)<(Int.ofNat a2))) (.leaf ⟨(0:Int),(3:Int)⟩)
  (.sw (eqCode (Lp53_0.c) (Lp53_0.c)) true (by simp only[eqCode_self,arrEq_self]) (.br (L53_0_k0 (X53_0.mk (0:Int) a0 a1 a2 (Int.ofNat a2) (0:Int))) (.leaf ⟨(Qh0 (X53_0.mk (0:Int) a0 a1 a2 (Int.ofNat a2) (0:Int))),(Qh1 (X53_0.mk (0:Int) a0 a1 a2 (Int.ofNat a2) (0:Int)))⟩) (.br (L53_0_k1 (X53_0.mk (0:Int) a0 a1 a2 (Int.ofNat a2) (0:Int))) (.leaf ⟨(0:Int),(0:Int)⟩) (.no))) (.no)))
def en53 (r:R53):Value:=(.tuple ⟨[(.int .i64 r.r0),(.int .i64 r.r1)]⟩)
theorem T53 (J0:Task→List Value)(a0:Array Value)(a1 a2:Nat):evC Try.prog (Ans.c (p90.or (la53_0 J0))) 60 (.call 53 ⟨[(lstV a0 a1 a2 6)]⟩ ⟨[],0,[]⟩) (frzK [0,0])=(rt53 a0 a1 a2).out (fun r=>.ret (en53 r) ⟨[],0,[]⟩):=by kernel_rfl
def F53 (a0:Array Value)(a1 a2:Nat):Option R53:=(rt53 a0 a1 a2).val
section
variable (a0:Array Value) (a1 a2:Nat)
def F53_ok:Bool:=(F53 a0 a1 a2).isSome
def F53_0:Int:=match F53 a0 a1 a2 with | some r=>r.r0 | none=>0
def F53_1:Int:=match F53 a0 a1 a2 with | some r=>r.r1 | none=>0
end
def dec53:Task→Option (A53×Hp)
 | .call g ⟨[(.func (.via 0 ⟨[]⟩ 0 true) a0 ⟨[.slice (some ⟨0,a1,none⟩) a2 6]⟩)]⟩ h=>(match Nat.beq g 53 with | true=>some (⟨a0,a1,a2⟩,h) | false=>none)
 | _=>none
def alt53 (x:A53)(h:Hp):AT:=.br (F53_ok x.a0 x.a1 x.a2) (.leaf (.ret (.tuple ⟨[(.int .i64 (F53_0 x.a0 x.a1 x.a2)),(.int .i64 (F53_1 x.a0 x.a1 x.a2))]⟩) h)) .no
def p53:Ans:=fnAns dec53 alt53
theorem ha53:∀(x:A53) (h:Hp)(o:Out),(alt53 x h).out=some o→∃r,(rt53 x.a0 x.a1 x.a2).val=some r∧o=.ret (en53 r) h:=by
 intro x h o e;unfold alt53 at e;simp only[AT.out]at e;obtain ⟨g,e⟩:=cond_some e;unfold F53_ok at g;obtain ⟨r,hF⟩:=Option.isSome_iff_exists.1 g
 refine ⟨r,by delta F53 at hF;exact hF,?_⟩
 simp only[Option.some.injEq]at e;rw[← e]
 unfold F53_0 F53_1;rw[hF]<;>rfl
theorem hd53:∀(t:Task) (x:A53)(h:Hp),dec53 t=some (x,h)→t=.call 53 ⟨[(lstV x.a0 x.a1 x.a2 6)]⟩ h:=by
 intro t x h e;unfold dec53 at e
 split at e
 case h_2=>cases e
 split at e
 case h_2=>cases e
 rename_i hg;simp only[Option.some.injEq,Prod.mk.injEq]at e;obtain ⟨rfl,rfl⟩:=e;rw[Nat.eq_of_beq_eq_true hg]
theorem known53:Known Try.prog p53:=by
 obtain ⟨J0,hJ0⟩:=kl53_0
 exact Known.fn noNG mixed (Known.or known90 hJ0) (n:=60) (zs:=[0,0]) 53 (fun x:A53=>[(lstV x.a0 x.a1 x.a2 6)]) (fun x=>rt53 x.a0 x.a1 x.a2) en53 (fun x=>T53 J0 x.a0 x.a1 x.a2) (fun x=>rfl) dec53 alt53 hd53 ha53
end
end Go.Proofs.Ytggaomgopenkfaa
namespace Go.Proofs.Ytggaomgopenkfaa
open Go.Gi Go.RowKit
noncomputable section
set_option maxRecDepth 100000
set_option maxHeartbeats 1000000
def I6:List Leaf:=[(Leaf.int .i64),(Leaf.int .i64),(Leaf.int .i64),(Leaf.int .i64),(Leaf.int .i64),(Leaf.int .i64)]
def spW (a b:Int):Bool:=decide (a≤b)&&(inB a (-20000) 20000&&inB b (-20000) 20000)
def bd (f t xl xh yl yh p:Int):Int:=if f=p then (if t≤f then 7 else if 100000000<t then 7 else if spW xl xh=true then (if spW yl yh=true then 0 else 7) else 7) else 2
def prv (c:Array Value):Nat→Int
 | 0=>0
 | k+1=>getInt c (k*6+1)
def bdE (c:Array Value)(k:Nat):Int:=bd (getInt c (k*6)) (getInt c (k*6+1)) (getInt c (k*6+2)) (getInt c (k*6+3)) (getInt c (k*6+4)) (getInt c (k*6+5)) (prv c k)
def bnF (c:Array Value)(n:Nat):Int×Int:=if n<1 then (0,3) else if 20<n then (0,3) else (match fst1 (bdE c) n 0 with | some (i,r)=>((i:Int),r) | none=>(0,0))
theorem F122_of (a:Int):F122_ok a=true∧F122_0 a=inB a (-20000) 20000:=by
 have q:F122 a=some ⟨inB a (-20000) 20000⟩:=by
  unfold F122 rt122 inB
  by_cases h:(-20000:Int)≤a<;>simp [RT.val,mq,h]
 exact ⟨by simp only[F122_ok,q];rfl,by simp only[F122_0,q]⟩
theorem F109_of (a b:Int):F109_ok a b=true∧F109_0 a b=spW a b:=by
 have q:F109 a b=some ⟨spW a b⟩:=by
  unfold F109 rt109 spW;simp only[RT.val,mq,(F122_of _).1,(F122_of _).2,cond_true]
  by_cases h:a≤b
  ·cases inB a (-20000) 20000<;>simp [h]
  ·simp [h]
 exact ⟨by simp only[F109_ok,q];rfl,by simp only[F109_0,q]⟩
theorem F90_of (f t xl xh yl yh p:Int):F90_ok f t xl xh yl yh p=true∧F90_0 f t xl xh yl yh p=bd f t xl xh yl yh p:=by
 have q:F90 f t xl xh yl yh p=some ⟨bd f t xl xh yl yh p⟩:=by
  unfold F90 rt90 bd;simp only[RT.val,mq,(F109_of _ _).1,(F109_of _ _).2,cond_true]
  by_cases h:f=p
  ·subst h
   by_cases h1:t≤f
   ·simp [h1]
   ·by_cases h2:(100000000:Int)<t
    ·simp [h1,h2]
    ·simp only[h1,h2,decide_true,decide_false,Bool.not_true,cond_false,if_true,if_false]
     cases spW xl xh<;>cases spW yl yh<;>rfl
  ·simp [h]
 exact ⟨by simp only[F90_ok,q];rfl,by simp only[F90_0,q]⟩
section
variable {c:Array Value}{n:Nat}
theorem step53 (g:GL I6 6 c n)(few:n≤1000)(k:Nat)(hk:k<n):(rd53_0 ⟨prv c k,c,0,n,(n:Int),(k:Int)⟩).val =
  some (if bdE c k=0 then .inl ⟨prv c (k+1),c,0,n,(n:Int),((k+1:Nat):Int)⟩ else .inr (.k0 (k:Int) (bdE c k))):=by
 have hki:(k:Int)<(n:Int):=by omega
 have h0:(0:Int)≤(k:Int):=by omega
 have h3:IntKind.wrap .i64 ((k:Int)+1)=((k+1:Nat):Int):=by rw[wrap64_id (by omega) (by omega)];omega
 have hr:rdOk c I6 (0+k*6)=true:=g.good.2 k hk;unfold I6 at hr;unfold bdE;simp only[rd53_0,RT.val,mq,hki,h0,h3,hr,(F90_of _ _ _ _ _ _ _).1,(F90_of _ _ _ _ _ _ _).2,Int.toNat_natCast,Int.ofNat_eq_natCast,decide_true,Bool.and_self,cond_true];simp only[Nat.zero_add,Nat.add_assoc,Nat.reduceAdd]
 cases hb:decide (bd (getInt c (k*6)) (getInt c (k*6+1)) (getInt c (k*6+2)) (getInt c (k*6+3)) (getInt c (k*6+4)) (getInt c (k*6+5)) (prv c k)=0) with
 | true=>rw[if_pos (of_decide_eq_true hb)];rfl
 | false=>rw[if_neg (of_decide_eq_false hb)];rfl
theorem F53_eq (g:GL I6 6 c n):F53 c 0 n=some ⟨(bnF c n).1,(bnF c n).2⟩:=by
 unfold F53 rt53 bnF
 by_cases h1:n<1
 ·have i1:(n:Int)<1:=by omega
  rw[if_pos h1];simp only[RT.val,mq,i1,Int.ofNat_eq_natCast,decide_true,cond_true]
 have i1:¬(n:Int)<1:=by omega
 rw[if_neg h1]
 by_cases h2:20<n
 ·have i2:(20:Int)<(n:Int):=by omega
  rw[if_pos h2];simp only[RT.val,mq,i1,i2,Int.ofNat_eq_natCast,decide_true,decide_false,cond_true,cond_false]
 have i2:¬(20:Int)<(n:Int):=by omega
 rw[if_neg h2]
 have z1:¬(n:Int)<(n:Int):=by omega
 have l:L53_0 (X53_0.mk 0 c 0 n (n:Int) 0)=some (match fst1 (bdE c) n 0 with | some (i,r)=>.k0 (i:Int) r | none=>.k1) :=
  loop_fst (rd:=rd53_0) (S:=fun k=>X53_0.mk (prv c k) c 0 n (n:Int) (k:Int)) (E:=bdE c) (n:=n) (err:=fun i r=>.k0 (i:Int) r) (fin:=.k1)
   (fun k hk=>step53 g (by omega) k hk) (by simp only[rd53_0,RT.val,mq,z1,decide_false,cond_false]) n 0 (by omega)
 simp only[RT.val,mq,i1,i2,Int.ofNat_eq_natCast,eqCode_self,decide_false,cond_true,cond_false]
 cases hf:fst1 (bdE c) n 0 with
 | some ir =>
  obtain ⟨i,r⟩:=ir;rw[hf]at l;simp only[L53_0_k0,Qh0,Qh1,l,cond_true]
 | none =>
  rw[hf]at l;simp only[L53_0_k0,L53_0_k1,l,cond_true,cond_false]
end
end
end Go.Proofs.Ytggaomgopenkfaa
namespace Go.Proofs.Ytggaomgopenkfaa
open Go.ChangeShapes Go.WideShapes Go.ChangeAt Go.RowKit Go.Gi
set_option maxRecDepth 100000
theorem flat86:flatT Try.prog 19 86=true:=by kernel_rfl
theorem leaves86:leaves Try.prog false 19 86=I6:=by kernel_rfl
theorem cells86:Try.prog.cellsOf 86=6:=by kernel_rfl
theorem tyB37:tyB Try.prog 20 37=true:=by kernel_rfl
theorem tyB96:tyB Try.prog 20 96=true:=by kernel_rfl
section
variable {H:Type}{enc:TypeId×Value→H}{w:World}{r:Reach}{b0:Nat}{v:Value}{dd:DataW H}{p:List MemPlace}
theorem bandsArg (hval:Value.okWide Try.prog w r b0 37 v)(h:DataW.Trod enc Try.prog w 0 (fun _=>true) true 37 v dd p):∃c n,VR (zAll w) (lstV c 0 n 6) v∧GL I6 6 c n :=
 argRows Try.underlying37 flat86 cells86 leaves86 rfl (by decide) tyB37 hval h
theorem betArg (hval:Value.okWide Try.prog w r b0 96 v)(h:DataW.Trod enc Try.prog w 0 (fun _=>true) true 96 v dd p):∃a b s,VR (zAll w) (.agg ⟨[.int .i64 a,.int .i64 b,.int .u8 s]⟩) v∧(Lit.int .u8 s).wf=true:=by
 obtain ⟨abs,h1,h2⟩:=argS Try.underlying96 tyB96 hval h;obtain ⟨p0,p1,rfl,g0,g1⟩:=tyS2 Try.underlying96 h2;obtain ⟨a,b,rfl⟩:=tySpan g0;obtain ⟨s,rfl,hs⟩:=tyK Try.underlying5 g1;exact ⟨a,b,s,h1,hs⟩
theorem vehArg' (hval:Value.okWide Try.prog w r b0 28 v)(h:DataW.Trod enc Try.prog w 0 (fun _=>true) true 28 v dd p):∃nm g1 g2 ca na cp np c n,VR (zAll w) (.agg ⟨[.string nm,.int .i64 g1,.int .i64 g2,lstV ca 0 na 2,lstV cp 0 np 13,lstV c 0 n 13]⟩) v∧GL I2 2 ca na∧GL I13 13 cp np∧GL S13 13 c n:=by
 obtain ⟨abs,u0,nm,g1,g2,ca,na,cp,np,c,n,rfl,q1,q2,q3⟩:=vehArg hval h;exact ⟨nm,g1,g2,ca,na,cp,np,c,n,u0,q1,q2,q3⟩
end
end Go.Proofs.Ytggaomgopenkfaa
namespace Go.Gi
open Go.RowKit
noncomputable section
abbrev vT:Value:=.bool true
abbrev vF:Value:=.bool false
abbrev vI (n:Nat):Value:=.int .i64 (.ofNat n)
abbrev vJ (n:Nat):Value:=.int .i64 (.negSucc n)
structure CF where
  g:Nat
  args:List Value
  u:Value
def CF.Ok (P:Program)(c:CF):Prop:=∀h,Fact P (.call c.g ⟨c.args⟩ h) (.ret c.u h)
def lookCF (f:Nat)(vs:List Value)(h:Hp):List CF→Option AT
  | []=>none
  | c::r=>match Nat.beq f c.g with
    | true=>(match eqLs (eqVn 8) vs c.args with
      | true=>some (.leaf (.ret c.u h))
      | false=>lookCF f vs h r)
    | false=>lookCF f vs h r
def tabA (l:List CF):Ans:=fun t=>match t with
  | .call f vs h=>lookCF f vs.toList h l
  | _=>none
inductive CFs (P:Program):List CF→Prop
  | nil:CFs P []
  | cons {c:CF} {l:List CF} (h:c.Ok P) (r:CFs P l):CFs P (c::l)
theorem lookCF_ok {P:Program}{f:Nat}{vs:List Value}{h:Hp}:∀{l:List CF},CFs P l→∀{x:AT}{o:Out},lookCF f vs h l=some x→x.out=some o→Fact P (.call f ⟨vs⟩ h) o
  | [],_,x,o,hx,_=>by cases hx
  | c::r,hl,x,o,hx,ho=>by
    cases hl with
    | cons hc hr =>
      unfold lookCF at hx
      split at hx
      · rename_i hf
        split at hx
        · rename_i ha
          simp only[Option.some.injEq]at hx;subst hx;simp only[AT.out,Option.some.injEq]at ho;subst ho
          rw[Nat.eq_of_beq_eq_true hf,eqLs_eq (fun _ _ h=>eqVn_eq h) ha]
          exact hc h
        · exact lookCF_ok hr hx ho
      · exact lookCF_ok hr hx ho
theorem tabA_ok {P:Program}{l:List CF}(hl:CFs P l):Known P (tabA l):=by
  intro t x o h ho;unfold tabA at h
  split at h
  · rename_i f vs hh
    exact lookCF_ok hl h ho
  · cases h
def frDs (f:Value→Option Value):List Value→Option (List Value)
  | []=>some []
  | v::r=>match f v with
    | some u=>(match frDs f r with
      | some l=>some (u::l)
      | none=>none)
    | none=>none
def frC (f:Value→Option Value)(v:Value):Option Value:=match v with
  | .slice none 0 0=>some (lstV ⟨[]⟩ 0 0 1)
  | v=>f v
def frD (bl:List Ob):Nat→Value→Option Value
  | 0,_=>none
  | n+1,v=>match v with
    | .slice (some ⟨b,off,none⟩) len sz=>(match nthO bl b with
      | some (.cells c false)=>(match frDs (frC (frD bl n)) c.toList with
        | some l=>if off+len*sz≤c.size then some (lstV ⟨l⟩ off len sz) else none
        | none=>none)
      | _=>none)
    | .pointer (some ⟨b,off,none⟩)=>(match nthO bl b with
      | some (.cells c false)=>(match frDs (frC (frD bl n)) c.toList with
        | some l=>some (dptV ⟨l⟩ off)
        | none=>none)
      | _=>none)
    | .agg ⟨l⟩=>(match frDs (frD bl n) l with
      | some l=>some (.agg ⟨l⟩)
      | none=>none)
    | .iface t v=>(match frD bl n v with
      | some v=>some (.iface t v)
      | none=>none)
    | .func (.func g) ⟨l⟩ ⟨m⟩=>(match frDs (frD bl n) l,frDs (frD bl n) m with
      | some l,some m=>some (.func (.func g) ⟨l⟩ ⟨m⟩)
      | _,_=>none)
    | v=>if fz0 v then some v else none
def frDV (bl:List Ob)(v:Value):Option Value:=match v with
  | .tuple ⟨x::l⟩=>(match frDs (frD bl 8) (x::l) with
    | some l=>some (.tuple ⟨l⟩)
    | none=>none)
  | v=>frD bl 8 v
def frDK:Kn
  | .ret v h=>(match frDV h.bl v with
    | some v=>some (.ret v ⟨[],0,[]⟩)
    | none=>none)
  | _=>none
section
variable {K:Nat→Prop}{w0 w:World} {φ:Phi}{X:List Ob}{z:Nat→Option Obj}
theorem frDs_ok {f:Value→Option Value}(hf:∀v u v',f v=some u→VR φ v v'→FR z u v'):∀{l us l':List Value},frDs f l=some us→VRl φ l l'→FRl z us l'
  | [],us,_,h,hv=>by
    cases hv
    simp only[frDs,Option.some.injEq]at h;subst h;exact .nil
  | v::r,us,_,h,hv=>by
    cases hv with
    | cons h1 h2 =>
      simp only[frDs]at h
      split at h
      · rename_i u hu
        split at h
        · rename_i l hl
          simp only[Option.some.injEq]at h;subst h;exact .cons (hf _ _ _ hu h1) (frDs_ok hf hl h2)
        · cases h
      · cases h
theorem FRl.fn {z:Nat→Option Obj} {l l' m m':List Value}(g:FuncId) (h:FRl z l l') (h2:FRl z m m'):FR z (.func (.func g) ⟨l⟩ ⟨m⟩) (.func (.func g) ⟨l'⟩ ⟨m'⟩):=by
  have hh:∀{us ys:List Value},FRl z us ys→(⟨us⟩:Array Value).size=(⟨ys⟩:Array Value).size∧∀i,i<(⟨us⟩:Array Value).size→FR z ((⟨us⟩:Array Value).getD i undef) ((⟨ys⟩:Array Value).getD i undef):=by
    intro us ys hf
    refine ⟨by simpa using hf.agg.1,fun i hi=>?_⟩
    rcases hf.agg.2 i with h5 | h5
    · exact h5
    · simp at hi;omega
  exact .fn (hh h).1 (hh h).2 (hh h2).1 (hh h2).2
theorem cells_frl {c C:Array Value}{base:Nat}(hC:base+c.size≤C.size) (h2:∀(i:Nat) (v:Value),c[i]?=some v→∃v',C[base+i]?=some v'∧VR φ v v'):VRl φ c.toList ((C.toList.drop base).take c.size):=by
  have key:∀(l:List Value) (m:List Value),l.length=m.length→(∀(i:Nat) (v:Value),l[i]?=some v→∃v',m[i]?=some v'∧VR φ v v')→VRl φ l m:=by
    intro l
    induction l with
    | nil=>intro m hl _;cases m with
      | nil=>exact .nil
      | cons _ _=>simp at hl
    | cons x r ih=>intro m hl hh;cases m with
      | nil=>simp at hl
      | cons y s =>
        refine .cons ?_ (ih s (by simpa using hl) fun i v hv=>by simpa using hh (i+1) v (by simpa using hv))
        obtain ⟨v',h3,h4⟩:=hh 0 x rfl
        simp only[List.getElem?_cons_zero,Option.some.injEq]at h3
        rw[h3];exact h4
  refine key _ _ (by simp;omega) fun i v hv=>?_
  have hv2:c[i]?=some v:=by rw[← Array.getElem?_toList];exact hv
  obtain ⟨v',h3,h4⟩:=h2 i v hv2
  refine ⟨v',?_,h4⟩
  have hi:i<c.size:=by rw[Array.getElem?_eq_some_iff]at hv2;exact hv2.1
  rw[List.getElem?_take,if_pos hi,List.getElem?_drop,Array.getElem?_toList]
  exact h3
theorem FRl.cells {l:List Value}{C:Array Value}{base n:Nat}(h:FRl z l ((C.toList.drop base).take n)) (hC:base+n≤C.size):l.length=n∧∀i,i<(⟨l⟩:Array Value).size→FR z ((⟨l⟩:Array Value).getD i undef) (C.getD (base+i) undef):=by
  have hn:l.length=n:=by rw[h.agg.1];simp;omega
  refine ⟨hn,fun i hi=>?_⟩
  have hi':i<n:=by simpa [hn] using hi
  rcases h.agg.2 i with h1 | h1
  · have e:(⟨(C.toList.drop base).take n⟩:Array Value).getD i undef=C.getD (base+i) undef:=by
      rw[Array.getD_eq_getD_getElem?,Array.getD_eq_getD_getElem?]
      have:(⟨(C.toList.drop base).take n⟩:Array Value)[i]?=C[base+i]?:=by
        rw[← Array.getElem?_toList,List.getElem?_take,if_pos hi',List.getElem?_drop,Array.getElem?_toList]
      rw[this]
    rw[← e];exact h1
  · omega
theorem frC_ok {f:Value→Option Value}(hf:∀v u v',f v=some u→VR φ v v'→FR z u v'):∀v u v',frC f v=some u→VR φ v v'→FR z u v':=by
  intro v u v' h hv;unfold frC at h
  split at h
  · cases h;cases hv;exact .lstZ _ _ _ _
  · exact hf _ _ _ h hv
theorem frD_ok (h:Made 0 z φ X w):∀{n:Nat} {v u v':Value},frD X n v=some u→VR φ v v'→FR z u v'
  | 0,_,_,_,hk,_=>by cases hk
  | n+1,v,u,v',hk,hv=>by
    have ih:∀v u v',frD X n v=some u→VR φ v v'→FR z u v':=fun v u v' h1 h2=>frD_ok h h1 h2
    unfold frD at hk
    split at hk
    · rename_i b off len sz
      rw[nthO_eq]at hk
      split at hk
      · rename_i c hb
        split at hk
        · rename_i l hl
          split at hk
          · rename_i hle
            simp only[Option.some.injEq]at hk;subst hk;obtain ⟨B,base,tot,C,el,fr,h3,hz,h8,h6⟩:=h.obs b _ hb (Nat.zero_le _)
            cases hv with
            | sliceZ _ a' k'=>exact .lstZ _ _ _ _
            | slice hφ hl1 hc =>
              rw[h3]at hφ;cases hφ;obtain ⟨k1,k2⟩:=(frDs_ok (frC_ok ih) hl (cells_frl h8 h6)).cells h8
              exact .lst hz (by simpa [k1] using h8) k2 hl1 (by simpa [k1] using hle)
          · cases hk
        · cases hk
      · cases hk
    · rename_i b off
      rw[nthO_eq]at hk
      split at hk
      · rename_i c hb
        split at hk
        · rename_i l hl
          simp only[Option.some.injEq]at hk;subst hk;obtain ⟨B,base,tot,C,el,fr,h3,hz,h8,h6⟩:=h.obs b _ hb (Nat.zero_le _)
          cases hv with
          | ptr hφ =>
            rw[h3]at hφ;cases hφ;obtain ⟨k1,k2⟩:=(frDs_ok (frC_ok ih) hl (cells_frl h8 h6)).cells h8
            exact .dpt hz (by simpa [k1] using h8) k2
        · cases hk
      · cases hk
    · rename_i l
      split at hk
      · rename_i us hl
        simp only[Option.some.injEq]at hk;subst hk;obtain ⟨⟨ys⟩,rfl,hs⟩:=hv.agg_inv;exact (frDs_ok ih hl hs.toList).fr
      · cases hk
    · rename_i t x
      split at hk
      · rename_i y hy
        simp only[Option.some.injEq]at hk;subst hk
        cases hv with
        | iface _ hv=>exact .iface _ (ih _ _ _ hy hv)
      · cases hk
    · rename_i g l m
      split at hk
      · rename_i us ws hl hm
        simp only[Option.some.injEq]at hk;subst hk
        cases hv with
        | @fn _ _ first' _ cap' hg h1 h2 h3 h4 =>
          obtain ⟨first'⟩:=first';obtain ⟨cap'⟩:=cap';exact FRl.fn g (frDs_ok ih hl (VRs.toList (VRs.of h1 h2))) (frDs_ok ih hm (VRs.toList (VRs.of h3 h4)))
      · cases hk
    · split at hk
      · rename_i hf
        simp only[Option.some.injEq]at hk;subst hk;exact fz0_fr h hf hv
      · cases hk
theorem FRl.vrl {ψ:Phi} {l l':List Value}(h:FRl ψ.z l l'):VRl ψ l l':=by
  induction h with
  | nil=>exact .nil
  | cons h _ ih=>exact .cons h.vr ih
theorem frDV_ok {ψ:Phi}(h:Made 0 ψ.z φ X w) {v u v':Value}(hk:frDV X v=some u) (hv:VR φ v v'):VR ψ u v':=by
  unfold frDV at hk
  split at hk
  · rename_i x l
    split at hk
    · rename_i us hl
      simp only[Option.some.injEq]at hk;subst hk;obtain ⟨⟨ys⟩,rfl,hs⟩:=hv.tuple_inv rfl
      exact (frDs_ok (fun _ _ _ h1 h2=>frD_ok h h1 h2) hl hs.toList).vrl.vrs.tuple
    · cases hk
  · exact (frD_ok h hk hv).vr
end
section
variable {P:Program}
theorem Fact.liftD {f:FuncId}{args:Array Value}{v u:Value}{h1:Hp}(hf:Fact P (.call f args ⟨[],0,[]⟩) (.ret v h1)) (hfz:frDV h1.bl v=some u)
    (ha:args.toList.all pureA=true) (h:Hp):Fact P (.call f args h) (.ret u h):=by
  obtain ⟨_,hh⟩:=hf.1 (Nat.le_refl _)
  refine ⟨fun hb=>⟨Pres.refl _,?_⟩,trivial⟩
  intro K w0 φ w args' n hI hA;have hI':Inv K w0 φ ([]++h.bl) w:=hI
  have hN:=hI'.narrow (H0:=[]) (fun b ob h=>by simp at h)
  have hA1:VRs (cut φ ([]:List Ob).length) args args':=VRs.of hA.size fun i hi=>scT_cut (all_getD (p:=pureA) ha hi) (hA.getD i)
  refine (hh _ w _ w args' n hN hA1).mono ?_
  intro e w' he
  cases e with
  | returned v' =>
    obtain ⟨φ',hle,hv',hF⟩:=he
    have hZ:=hF.freeze (H1:=[]) (k:=0) (fun b ob h=>by simp at h)
    have k1:=frDV_ok (ψ:=⟨fun b=>if b<([]:List Ob).length+0 then φ' b else none,zF φ' h1.bl 0 w'⟩) (zF_made hF 0) hfz hv'
    have hle2:le (cut φ ([]:List Ob).length) ⟨fun b=>if b<([]:List Ob).length+0 then φ' b else none,zF φ' h1.bl 0 w'⟩:=by
      refine ⟨fun b x hx=>?_,fun B o hB=>(zF_made hF 0).le B o (hle.zz B o hB)⟩
      rw[cut_ge (show ([]:List Ob).length≤b from Nat.zero_le b)]at hx;cases hx
    obtain ⟨φ'',q1,q2,q3⟩:=hI'.widen (H1:=[]) (X:=[]) hZ hle2 .nil
    refine ⟨φ'',q1,?_,q3⟩
    have hc:cut ⟨fun b=>if b<([]:List Ob).length+0 then φ' b else none,zF φ' h1.bl ([]:List Ob).length w'⟩ ([]:List Ob).length=⟨fun b=>if b<([]:List Ob).length+0 then φ' b else none,zF φ' h1.bl 0 w'⟩:=by
      unfold cut
      simp
    rw[hc]at q2;exact k1.mono q2
  | panicked ch=>exact he.elim
  | outgrown=>exact he.elim
end
def hasApp (os:Array Oper):Bool:=os.toList.any fun o=>match o.op with
  | .call { callee:=.builtin b,.. }=>(match b with | .append | .copy=>true | _=>false)
  | _=>false
def forceK (k:Kn):Kn:=fun o=>match o with
  | .ex e s=>forceE s.h.bl fun bl=>k (.ex e ⟨s.t,s.d,⟨bl,s.h.base,s.h.wr⟩⟩)
  | o=>k o
theorem forceK_eq (k:Kn):forceK k=k:=by
  funext o
  cases o with
  | ex e s=>simp only[forceK,forceE_eq]
  | _=>rfl
def catL:List Value→Nat→Nat→List Value→List Value
  | [],_,_,m=>m
  | x::r,off,n,m=>match off with
    | o+1=>catL r o n m
    | 0=>(match n with
      | k+1=>x::catL r 0 k m
      | 0=>m)
theorem catL_eq:∀(l:List Value) (off n:Nat) (m:List Value),catL l off n m=(l.drop off).take n++m
  | [],off,n,m=>by simp [catL]
  | x::r,0,0,m=>by simp [catL]
  | x::r,0,k+1,m=>by simp [catL,catL_eq r 0 k m]
  | x::r,o+1,n,m=>by simp [catL,catL_eq r o n m]
theorem catA_eq (c:Array Value)(off n:Nat)(m:Array Value):(⟨catL c.toList off n m.toList⟩:Array Value)=c.extract off (off+n)++m:=by
  apply Array.ext'
  rw[catL_eq,Array.toList_append,Array.toList_extract,List.extract]
  simp
def appendZ (P:Program)(h:Hp)(ts tx:TypeId)(s x:Value)(k:Value→Hp→Option Out):Option Out :=
  match P.underlying ts,P.underlying tx with
  | some (.slice e),some d =>
    if intB d=true then none else
    match P.info? e,zeroB P e with
    | some inf,some z =>
      natF inf.size fun isz=>natF inf.bytes fun iby =>
      match s,lenB x with
      | .slice base sl sz,some n =>
        natF n fun n =>
        cond (decide (n=0)) (k (.slice base sl sz) h)
        (newC h.bl isz n x fun news =>
          cond (decide (news.size=n*isz)&&(oneAll news&&decide (z.cells.size=isz))) (cond (decide ((sl+n)*iby≤140737488355328)&&decide (sl+n≤4611686018427387904))
            (match base with
            | none=>cond (decide (sl=0)) (k (.slice (some ⟨h.bl.length,0,none⟩) n isz) (h.push (.cells news false))) none
            | some ⟨b,off,none⟩ =>
              match nthO h.bl b with
              | some (.cells c false) =>
                cond (decide (sz=isz)) (cond (decide (off+sl*isz≤c.size))
                  (k (.slice (some ⟨h.bl.length,0,none⟩) (sl+n) isz) ((h.put b .dead).push (.cells ⟨catL c.toList off (sl*isz) news.toList⟩ false))) none) none
              | _=>none
            | _=>none) none) none)
      | _,_=>none
    | _,_=>none
  | _,_=>none
theorem appendZ_eq:appendZ=appendC:=by
  funext P h ts tx s x k
  simp only[appendZ,appendC,catA_eq]
  rfl
def loudZ (P:Program) (ρ:Operand→Value)(h:Hp)(o:Oper)(k:Ends):Option Out :=
  match o.op with
  | .call { callee:=.builtin .append,args,argTypes } =>
    match args.toList,argTypes.toList with
    | [s,x],[ts,tx]=>if okO s&&okO x then appendZ P h ts tx (ρ s) (ρ x) k.val else none
    | _,_=>none
  | _=>loudC P ρ h o k
theorem loudZ_eq:loudZ=loudC:=by
  funext P ρ h o k
  unfold loudZ
  split
  · rename_i args ts ho
    unfold loudC;simp only[ho,appendZ_eq]
    rfl
  · rfl
def opDZ (P:Program)(self:SelfC)(T:List Value)(h:Hp)(o:Oper)(k:Value→Hp→Bool→Option Out):Option Out :=
  match aread P (evalT T) h.bl o with
  | some v=>k v h false
  | none=>loudZ P (evalT T) h o {
    val:=fun v h'=>heapK h' fun h'=>k v h' true
    enter:=fun f args=>headsK args fun args=>self (.call f ⟨args⟩ h) fun | .ret v h'=>k v h' true | _=>none
    yield:=fun l args=>headsK args fun args=>self (.round l ⟨args⟩ h) fun | .ret v h'=>k v h' true | _=>none
    defer:=fun _=>none
    panic:=fun _=>none }
theorem opDZ_ok {P:Program}{self:SelfC}{sd:Self}(hs:CpsOk self sd) {T:List Value}{h:Hp}{o:Oper}{k:Value→Hp→Bool→Option Out}{r:Out}(hc:opDZ P self T h o k=some r) :
    (∃v,aread P (evalT T) h.bl o=some v∧k v h false=some r)∨(aread P (evalT T) h.bl o=none∧∃v h',dloud P sd (evalT T) h o=some (v,h')∧k v h' true=some r):=by
  unfold opDZ at hc
  split at hc
  · rename_i v ha;exact .inl ⟨v,ha,hc⟩
  · rename_i ha
    refine .inr ⟨ha,?_⟩
    rw[loudZ_eq]at hc;obtain ⟨nx,h1,h2⟩:=loudC_ok hc;unfold dloud;rw[h1]
    cases nx with
    | val v hp=>simp only[Ends.on,heapK_eq]at h2;exact ⟨_,_,rfl,h2⟩
    | enter f args =>
      simp only[Ends.on,headsK_eq]at h2;obtain ⟨o',h3,h4⟩:=hs _ _ _ h2
      rw[show (⟨args.toList⟩:Array Value)=args from rfl]at h3
      simp only[h3]
      cases o' with
      | ret v hp=>exact ⟨_,_,rfl,h4⟩
      | _=>cases h4
    | yield l' args =>
      simp only[Ends.on,headsK_eq]at h2;obtain ⟨o',h3,h4⟩:=hs _ _ _ h2
      rw[show (⟨args.toList⟩:Array Value)=args from rfl]at h3
      simp only[h3]
      cases o' with
      | ret v hp=>exact ⟨_,_,rfl,h4⟩
      | _=>cases h4
    | defer d=>cases h2
    | panic v=>cases h2
    | recover=>cases h2
def drunZ (P:Program)(self:SelfC)(os:Array Oper):List Nat→List Value→Hp→(List Rec→List Value→Hp→Option Out)→Option Out
  | [],T,h,k=>k [] T h
  | i::r,T,h,k =>
    match os[i]? with
    | none=>none
    | some o =>
      guardC os o T
        (fun T=>opDZ P self T h o fun v h' loud=>headK v fun v=>setK' T o.dst v fun T'=>drunZ P self os r T' h' fun l T2 h2=>k (⟨i,o,T,v,h,h',loud⟩::l) T2 h2)
        (fun T=>setK' T o.dst undef fun T'=>drunZ P self os r T' h fun l T2 h2=>k (⟨i,o,T,undef,h,h,false⟩::l) T2 h2)
theorem drunZ_ok {P:Program}{self:SelfC}{sd:Self}(hs:CpsOk self sd) {os:Array Oper}:∀{l:List Nat}{T:List Value}{h:Hp}{k:List Rec→List Value→Hp→Option Out}{r:Out},drunZ P self os l T h k=some r →
    ∃recs T' h',drun P sd os l T h=some (recs,T',h')∧k recs T' h'=some r
  | [],T,h,k,r,hc=>⟨_,_,_,rfl,hc⟩
  | i::l,T,h,k,r,hc=>by
    simp only[drunZ]at hc;simp only[drun]
    split at hc
    · cases hc
    · rename_i o hi
      rw[hi];simp only[forceV_eq,putK_eq,forceH_eq]
      rcases guardC_ok hc with ⟨hw,hc⟩ | ⟨hw,hc⟩
      · rw[if_pos hw]
        rcases opDZ_ok hs hc with ⟨v,ha,hc⟩ | ⟨ha,v,h',hd,hc⟩
        · rw[ha]
          simp only[headK_eq,setK'_eq]at hc;obtain ⟨recs,T',h',h1,h2⟩:=drunZ_ok hs hc;simp only;rw[h1];exact ⟨_,_,_,rfl,h2⟩
        · rw[ha]
          simp only[headK_eq,setK'_eq]at hc;obtain ⟨recs,T',h'',h1,h2⟩:=drunZ_ok hs hc;simp only;rw[hd];simp only;rw[h1];exact ⟨_,_,_,rfl,h2⟩
      · rw[if_neg (by rw[hw];intro h;cases h)]
        simp only[setK'_eq]at hc;obtain ⟨recs,T',h'',h1,h2⟩:=drunZ_ok hs hc;rw[h1];exact ⟨_,_,_,rfl,h2⟩
def drawnFZ (P:Program)(self:SelfC)(os:Array Oper)(s:St)(k:Ex→St→Option Out):Option Out :=
  if planOk os (late os) (mkClo os (late os) (List.replicate os.size 0)) then
    drunZ P self os (late os) s.t s.h fun recs T h =>
      if floatOk (mkClo os (late os) (List.replicate os.size 0)) [] recs&&recs.all fun r=>!(r.loud&&isAlR r)||r.o.dst.all fun t=>decide (t<s.t.length) then
        fchkC P os (mkClo os (late os) (List.replicate os.size 0)) recs (k .normal { t:=T,d:=s.d,h:=h })
      else none
  else none
def sameZ (P:Program)(os:Array Oper)(clo:List Nat)(recs:List Rec):Bool:=(chkC P os clo recs (some (.ret .nilFunc ⟨[],0,[]⟩))).isSome||dchk P os clo recs
def drawnNZ (P:Program)(self:SelfC)(os:Array Oper)(s:St)(k:Ex→St→Option Out):Option Out :=
  if planOk os (Region.linearise .any os 0) (mkClo os (Region.linearise .any os 0) (List.replicate os.size 0)) then
    drunZ P self os (Region.linearise .any os 0) s.t s.h fun recs T h =>
      cond (sameZ P os (mkClo os (Region.linearise .any os 0) (List.replicate os.size 0)) recs) (k .normal { t:=T,d:=s.d,h:=h }) none
  else none
def drawnXZ (P:Program)(self:SelfC)(os:Array Oper)(s:St)(k:Ex→St→Option Out):Option Out :=
  match floaty os (mkClo os (Region.linearise .any os 0) (List.replicate os.size 0)) with
  | true=>drawnFZ P self os s k
  | false=>drawnNZ P self os s k
theorem drawnFZ_ok {P:Program}{self:SelfC}{sd:Self}(hs:CpsOk self sd) {rd:Option Nat}{id:Nat}{os:Array Oper}{s:St}{k:Ex→St→Option Out}{r:Out}(hc:drawnFZ P self os s k=some r) :
    ∃e s',drawnF P sd rd id os s=some (.ex e s')∧k e s'=some r:=by
  unfold drawnFZ at hc;unfold drawnF
  split at hc
  · rename_i hp
    rw[if_pos hp];obtain ⟨recs,T,h,h1,h2⟩:=drunZ_ok hs hc;rw[h1]
    split at h2
    · rename_i hf
      obtain ⟨h3,h4⟩:=fchkC_ok h2;simp only
      rw[if_pos (by rw[h3,hf];rfl)]
      exact ⟨_,_,rfl,h4⟩
    · cases h2
  · cases hc
theorem drawnNZ_ok {P:Program}{self:SelfC}{sd:Self}(hs:CpsOk self sd) {rd:Option Nat}{id:Nat}{os:Array Oper}{s:St}{k:Ex→St→Option Out}{r:Out}(hc:drawnNZ P self os s k=some r) :
    ∃e s',drawn P sd rd id os s=some (.ex e s')∧k e s'=some r:=by
  unfold drawnNZ at hc;unfold drawn
  split at hc
  · rename_i hp
    rw[if_pos hp];obtain ⟨recs,T,h,h1,h2⟩:=drunZ_ok hs hc;rw[h1];obtain ⟨h3,h4⟩:=cond_some h2
    have h5:dchk P os (mkClo os (Region.linearise .any os 0) (List.replicate os.size 0)) recs=true:=by
      unfold sameZ at h3;rw[Bool.or_eq_true]at h3
      rcases h3 with h3 | h3
      · obtain ⟨x,hx⟩:=Option.isSome_iff_exists.1 h3
        exact (chkC_ok (fun r hm=>((drun_tr _ _ _ _ _ _ h1).1.recs r hm).1) hx).1
      · exact h3
    simp only;rw[if_pos h5];exact ⟨_,_,rfl,h4⟩
  · cases hc
theorem drawnXZ_ok {P:Program}{self:SelfC}{sd:Self}(hs:CpsOk self sd) {rd:Option Nat}{id:Nat}{os:Array Oper}{s:St}{k:Ex→St→Option Out}{r:Out}(hc:drawnXZ P self os s k=some r) :
    ∃e s',drawnX P sd rd id os s=some (.ex e s')∧k e s'=some r:=by
  unfold drawnXZ at hc;unfold drawnX
  cases hf:floaty os (mkClo os (Region.linearise .any os 0) (List.replicate os.size 0)) with
  | true =>
    rw[hf]at hc;exact drawnFZ_ok (rd:=rd) (id:=id) hs hc
  | false =>
    rw[hf]at hc;exact drawnNZ_ok (rd:=rd) (id:=id) hs hc
def opZ (P:Program) (ρ:Operand→Value)(h:Hp)(o:Oper)(k:Ends):Option Out :=
  match o.op with
  | .pick c a b=>if okO c&&okO a&&okO b then (match ρ c with | .bool t=>cond t (k.val (ρ a) h) (k.val (ρ b) h) | _=>none) else none
  | _ =>
    match symR P ρ h.bl o with
    | some (b,v)=>cond b (k.val v h) none
    | none=>match aread P ρ h.bl o with
      | some v=>k.val v h
      | none=>loudZ P ρ h o k.heap
theorem opZ_eq:opZ=opC:=by
  funext P ρ h o k
  simp only[opZ,loudZ_eq]
  rfl
def runOpsZ (P:Program)(self:SelfC)(rd:Option Nat)(os:Array Oper):List Nat→St→(Ex→St→Option Out)→Option Out
  | [],s,k=>k .normal s
  | i::r,s,k =>
    match os[i]? with
    | none=>runOpsZ P self rd os r s k
    | some o =>
      guardC os o s.t
        (fun t=>opZ P (evalT t) s.h o {
          val:=fun v h=>setK' t o.dst v fun t=>runOpsZ P self rd os r { t:=t,d:=s.d,h:=h } k
          enter:=fun f args=>headsK args fun args=>self (.call f ⟨args⟩ s.h) fun
            | .ret v h=>setK' t o.dst v fun t=>runOpsZ P self rd os r { t:=t,d:=s.d,h:=h } k
            | .pan v h=>k (.panic v) { t:=t,d:=s.d,h:=h }
            | _=>none
          yield:=fun l args=>headsK args fun args=>self (.round l ⟨args⟩ s.h) fun
            | .ret v h=>setK' t o.dst v fun t=>runOpsZ P self rd os r { t:=t,d:=s.d,h:=h } k
            | _=>none
          defer:=fun d=>if rd.isNone then setK' t o.dst undef fun t=>runOpsZ P self rd os r { t:=t,d:=d::s.d,h:=s.h } k else none
          panic:=fun v=>k (.panic v) { t:=t,d:=s.d,h:=s.h } })
        (fun t=>setK' t o.dst undef fun t=>runOpsZ P self rd os r { t:=t,d:=s.d,h:=s.h } k)
theorem runOpsZ_eq (P:Program)(self:SelfC)(rd:Option Nat)(os:Array Oper):∀l,runOpsZ P self rd os l=runOpsC P self rd os l
  | []=>rfl
  | i::r=>by
    funext s k
    simp only[runOpsZ,runOpsC,runOpsZ_eq P self rd os r,opZ_eq]
    rfl
def drawnWZ (P:Program)(self:SelfC)(rd:Option Nat)(os:Array Oper)(s:St)(k:Ex→St→Option Out):Option Out :=
  match waits os (os.size-1)&&Nat.blt 0 os.size with
  | true=>drawnXZ P self os.pop s fun e s'=>(match e with
    | .normal=>runOpsZ P self rd os [os.size-1] s' k
    | _=>none)
  | false=>drawnXZ P self os s k
theorem drawnWZ_ok {P:Program}{self:SelfC}{sd:Self}(hs:CpsOk self sd) {rd:Option Nat}{id:Nat}{os:Array Oper}{s:St}{k:Ex→St→Option Out}{r:Out}(hc:drawnWZ P self rd os s k=some r) :
    ∃e s',drawnW P sd rd id os s=some (.ex e s')∧k e s'=some r:=by
  unfold drawnWZ at hc;unfold drawnW
  by_cases hw:(waits os (os.size-1)&&Nat.blt 0 os.size)=true
  · rw[hw]at hc ⊢
    obtain ⟨e,s',h1,h2⟩:=drawnXZ_ok (rd:=rd) (id:=id) hs hc;simp only[h1]
    cases e with
    | normal =>
      simp only at h2 ⊢;rw[runOpsZ_eq]at h2;exact runOpsC_ok hs h2
    | _=>cases h2
  · rw[Bool.eq_false_iff.2 hw]at hc ⊢
    exact drawnXZ_ok hs hc
def stepZ (P:Program)(self:SelfC):SelfC:=fun t k=>match t with
  | .code rd (.region id os dr) s=>(match dr with
    | true=>drawnWZ P self rd os s fun e s'=>(match hasApp os with
      | true=>forceK k (.ex e s')
      | false=>k (.ex e s'))
    | false=>(match hasApp os with
      | true=>runOpsZ P self rd os (List.range os.size) s fun e s'=>forceK k (.ex e s')
      | false=>stepC P self (.code rd (.region id os false) s) k))
  | t=>stepC P self t k
theorem stepF_drawn {P:Program}{sd:Self}{t:Task}{d1 d2:Program→Self→Option Nat→Nat→Array Oper→St→Option Out}(h:∀rd id os s,t≠.code rd (.region id os true) s):stepF d1 P sd t=stepF d2 P sd t:=by
  cases t with
  | code rd c s =>
    cases c with
    | region id os dr =>
      cases dr with
      | true=>exact (h rd id os s rfl).elim
      | false=>rfl
    | _=>rfl
  | _=>rfl
theorem stepZ_ok {P:Program}{self:SelfC}{sd:Self}(hs:CpsOk self sd):CpsOk (stepZ P self) (stepF drawnW P sd):=by
  intro t k r hc;unfold stepZ at hc
  split at hc
  · rename_i rd id os dr s
    cases dr with
    | true =>
      simp only at hc;obtain ⟨e,s',h1,h2⟩:=drawnWZ_ok (id:=id) hs hc
      refine ⟨.ex e s',by simpa only [stepF,if_true] using h1,?_⟩
      split at h2
      · rw[forceK_eq]at h2;exact h2
      · exact h2
    | false =>
      simp only at hc
      split at hc
      · rw[runOpsZ_eq,forceK_eq]at hc
        obtain ⟨o,h1,h2⟩:=stepC_ok hs (.code rd (.region id os false) s) k r hc
        exact ⟨o,(stepF_drawn (fun _ _ _ _ h=>by cases h)).trans h1,h2⟩
      · obtain ⟨o,h1,h2⟩:=stepC_ok hs (.code rd (.region id os false) s) k r hc
        exact ⟨o,(stepF_drawn (fun _ _ _ _ h=>by cases h)).trans h1,h2⟩
  · rename_i hn
    obtain ⟨o,h1,h2⟩:=stepC_ok hs _ k r hc
    exact ⟨o,(stepF_drawn (fun rd id os s h=>hn rd id os true s h)).trans h1,h2⟩
def evZ (P:Program)(oc:Task→Kn→Option (Option Out)):Nat→SelfC
  | 0,_,_=>none
  | n+1,t,k=>match oc t k with
    | some r=>r
    | none=>stepZ P (evZ P oc n) t k
theorem evZ_ok {P:Program}{oc:Task→Kn→Option (Option Out)}{orc:Self}(ho:OcOk oc orc):∀n,CpsOk (evZ P oc n) (iterO orc drawnW P n)
  | 0=>fun _ _ _ h=>by cases h
  | n+1=>by
    intro t k r h;simp only[evZ]at h;simp only[iterO]
    split at h
    · rename_i r' hr
      subst h;obtain ⟨o,h1,h2⟩:=ho.1 _ _ _ hr;rw[h1];exact ⟨_,rfl,h2⟩
    · rename_i hr
      rw[ho.2 _ _ hr];exact stepZ_ok (evZ_ok ho n) t k r h
theorem Known.factZ {P:Program}(hN:NoNG P) (hm:P.follows .mixedOrders=true) {a:Ans}(hk:Known P a) {n:Nat}{t:Task}{k:Kn}{r:Out}(h:evZ P a.c n t k=some r):∃o,k o=some r∧Fact P t o:=by
  obtain ⟨o',h1,h2⟩:=evZ_ok (P:=P) a.oc n t k r h;have hh:=iterO_ok (drawn:=drawnW) hN (drawnW_ok hN hm) hk.selfOk hk.loopOk n
  refine ⟨o',h2,hh.1 _ _ h1,?_⟩
  unfold LoopFact
  split
  · exact fun hb=>hh.2 _ _ _ _ _ h1 hb
  · trivial
def CF.chk (P:Program)(l:List CF)(n:Nat)(c:CF):Bool:=match evZ P (tabA l).c n (.call c.g ⟨c.args⟩ ⟨[],0,[]⟩) frDK with
  | some (.ret u ⟨[],0,[]⟩)=>(match eqVn 12 u c.u with
    | true=>c.args.all pureA
    | false=>false)
  | _=>false
section
variable {P:Program}(hN:NoNG P) (hm:P.follows .mixedOrders=true)
include hN hm
theorem CF.of2 {l:List CF}(hl:CFs P l) (n:Nat) {c:CF}(h:c.chk P l n=true):c.Ok P:=by
  unfold CF.chk at h
  split at h
  · rename_i u he
    split at h
    · rename_i hu
      have e:=eqVn_eq hu;subst e;intro hp;obtain ⟨o,h3,hf⟩:=(tabA_ok hl).factZ hN hm he
      cases o with
      | ret v h' =>
        simp only[frDK]at h3
        split at h3
        · rename_i u hu
          simp only[Option.some.injEq,Out.ret.injEq,and_true]at h3;subst h3;exact hf.liftD hu h hp
        · cases h3
      | _=>cases h3
    · cases h
  · cases h
end
end
end Go.Gi
namespace Go.Proofs.Ytggaomgopenkfaa
open Go.Gi Go.RowKit
noncomputable section
set_option maxRecDepth 100000
set_option maxHeartbeats 4000000
def wAwake0:Array Value:=⟨[vI 2,vI 1000,vI 1000,vI 10,vI 10,vI 0,vI 0,vJ 9,vI 10,vI 0,vI 0,vI 0,vI 0]⟩
def wAwake1:Array Value:=⟨[.string ⟨⟨[100,97,114,116]⟩⟩,vI 98,vI 98,.slice none 0 0,lstV wAwake0 0 1 13,.slice none 0 0]⟩
def wAwake2:Array Value:=⟨[vI 0,vI 300,vI 300,vI 0,vI 0,vI 0,vI 0,vI 100000,vI 0,vI 0,vI 0,vI 0,vI 0,vI 0]⟩
def wAwake3:Array Value:=⟨[vI 0,vI 0,vI 0,vI 0,vI 10000,vI 10000,vI 98,vI 98,lstV wAwake2 0 2 7,lstV ⟨[vI 0,vI 0,vI 0]⟩ 0 1 3,lstV wAwake0 0 1 13,.slice none 0 0]⟩
def wAwake4:Array Value:=⟨[vI 0,vI 0,vI 0,vI 0,vI 10000,vI 10000,vI 98,vI 98,lstV wAwake2 0 2 7,lstV ⟨[vI 0,vI 0,vI 0]⟩ 0 1 3,lstV wAwake0 0 1 13,lstV ⟨[]⟩ 0 0 1]⟩
def wAwake5:Array Value:=⟨[dptV ⟨[vI 0]⟩ 0,dptV ⟨[vI 0,vI 0,vI 0,vI 0,vI 0,vI 0,vI 0,vI 0,vI 0,vI 0,vI 0,vI 0]⟩ 0,dptV ⟨[vI 3000]⟩ 0,dptV wAwake4 0,dptV ⟨[.func (.func 70) ⟨[lstV wAwake0 0 1 13]⟩ ⟨[]⟩]⟩ 0]⟩
def wAwake6:Array Value:=⟨[vJ 0,vI 1,vI 0,vI 0,vI 902,vI 902,vJ 0,vI 1,vI 0,vI 0,vI 902,vI 902]⟩
def wAwake7:Array Value:=⟨[vJ 2,vI 3,vI 0,vI 0,vI 2706,vI 2706,vJ 1,vI 2,vI 0,vI 0,vI 1804,vI 1804]⟩
def wAwake8:Array Value:=⟨[vJ 4,vI 5,vI 0,vI 0,vI 4412,vI 4412,vJ 1,vI 2,vI 0,vI 0,vI 1706,vI 1706]⟩
def wAwake9:Array Value:=⟨[vJ 6,vI 7,vI 0,vI 0,vI 6020,vI 6020,vJ 1,vI 2,vI 0,vI 0,vI 1608,vI 1608]⟩
def wAwake10:Array Value:=⟨[vJ 8,vI 9,vI 0,vI 0,vI 7530,vI 7530,vJ 1,vI 2,vI 0,vI 0,vI 1510,vI 1510]⟩
def wAwake11:Array Value:=⟨[vJ 10,vI 11,vI 0,vI 0,vI 8942,vI 8942,vJ 1,vI 2,vI 0,vI 0,vI 1412,vI 1412]⟩
def wAwake12:Array Value:=⟨[vJ 12,vI 13,vI 0,vI 0,vI 10256,vI 10256,vJ 1,vI 2,vI 0,vI 0,vI 1314,vI 1314]⟩
def wAwake13:Array Value:=⟨[vJ 14,vI 15,vI 0,vI 0,vI 11472,vI 11472,vJ 1,vI 2,vI 0,vI 0,vI 1216,vI 1216]⟩
def wAwake14:Array Value:=⟨[vJ 16,vI 17,vI 0,vI 0,vI 12590,vI 12590,vJ 1,vI 2,vI 0,vI 0,vI 1118,vI 1118]⟩
def wAwake15:Array Value:=⟨[vJ 18,vI 19,vI 0,vI 0,vI 13610,vI 13610,vJ 1,vI 2,vI 0,vI 0,vI 1020,vI 1020]⟩
def wAwake16:Array Value:=⟨[vJ 20,vI 21,vI 0,vI 0,vI 14532,vI 14532,vJ 1,vI 2,vI 0,vI 0,vI 922,vI 922]⟩
def wAwake17:Array Value:=⟨[vJ 22,vI 23,vI 0,vI 0,vI 15356,vI 15356,vJ 1,vI 2,vI 0,vI 0,vI 824,vI 824]⟩
def wAwake18:Array Value:=⟨[vJ 24,vI 25,vI 0,vI 0,vI 16082,vI 16082,vJ 1,vI 2,vI 0,vI 0,vI 726,vI 726]⟩
def wAwake19:Array Value:=⟨[vJ 26,vI 27,vI 0,vI 0,vI 16710,vI 16710,vJ 1,vI 2,vI 0,vI 0,vI 628,vI 628]⟩
def wAwake20:Array Value:=⟨[vJ 28,vI 29,vI 0,vI 0,vI 17240,vI 17240,vJ 1,vI 2,vI 0,vI 0,vI 530,vI 530]⟩
def wAwake21:Array Value:=⟨[vJ 30,vI 31,vI 0,vI 0,vI 17672,vI 17672,vJ 1,vI 2,vI 0,vI 0,vI 432,vI 432]⟩
def wAwake22:Array Value:=⟨[vJ 32,vI 33,vI 0,vI 0,vI 18006,vI 18006,vJ 1,vI 2,vI 0,vI 0,vI 334,vI 334]⟩
def wAwake23:Array Value:=⟨[vJ 34,vI 35,vI 0,vI 0,vI 18242,vI 18242,vJ 1,vI 2,vI 0,vI 0,vI 236,vI 236]⟩
def wAwake24:Array Value:=⟨[vJ 36,vI 37,vI 0,vI 0,vI 18380,vI 18380,vJ 1,vI 2,vI 0,vI 0,vI 138,vI 138]⟩
def wAwake25:Array Value:=⟨[vJ 38,vI 39,vI 0,vI 0,vI 18420,vI 18420,vJ 1,vI 2,vI 0,vI 0,vI 40,vI 40]⟩
def wAwake26:Array Value:=⟨[vJ 40,vI 41,vI 0,vI 0,vI 18362,vI 18362,vJ 1,vI 2,vI 0,vI 0,vJ 57,vJ 57]⟩
def wAwake27:Array Value:=⟨[vJ 42,vI 43,vI 0,vI 0,vI 18206,vI 18206,vJ 1,vI 2,vI 0,vI 0,vJ 155,vJ 155]⟩
def wAwake28:Array Value:=⟨[vJ 44,vI 45,vI 0,vI 0,vI 17952,vI 17952,vJ 1,vI 2,vI 0,vI 0,vJ 253,vJ 253]⟩
def wAwake29:Array Value:=⟨[vJ 46,vI 47,vI 0,vI 0,vI 17600,vI 17600,vJ 1,vI 2,vI 0,vI 0,vJ 351,vJ 351]⟩
def wAwake30:Array Value:=⟨[vJ 48,vI 49,vI 0,vI 0,vI 17150,vI 17150,vJ 1,vI 2,vI 0,vI 0,vJ 449,vJ 449]⟩
def wAwake31:Array Value:=⟨[vJ 50,vI 51,vI 0,vI 0,vI 16602,vI 16602,vJ 1,vI 2,vI 0,vI 0,vJ 547,vJ 547]⟩
def wAwake32:Array Value:=⟨[vJ 52,vI 53,vI 0,vI 0,vI 15956,vI 15956,vJ 1,vI 2,vI 0,vI 0,vJ 645,vJ 645]⟩
def wAwake33:Array Value:=⟨[vJ 54,vI 55,vI 0,vI 0,vI 15212,vI 15212,vJ 1,vI 2,vI 0,vI 0,vJ 743,vJ 743]⟩
def wAwake34:Array Value:=⟨[vJ 56,vI 57,vI 0,vI 0,vI 14370,vI 14370,vJ 1,vI 2,vI 0,vI 0,vJ 841,vJ 841]⟩
def wAwake35:Array Value:=⟨[vJ 58,vI 59,vI 0,vI 0,vI 13430,vI 13430,vJ 1,vI 2,vI 0,vI 0,vJ 939,vJ 939]⟩
def wAwake36:Array Value:=⟨[vJ 60,vI 61,vI 0,vI 0,vI 12392,vI 12392,vJ 1,vI 2,vI 0,vI 0,vJ 1037,vJ 1037]⟩
def wAwake37:Array Value:=⟨[vJ 62,vI 63,vI 0,vI 0,vI 11256,vI 11256,vJ 1,vI 2,vI 0,vI 0,vJ 1135,vJ 1135]⟩
def wAwake38:Array Value:=⟨[vJ 64,vI 65,vI 0,vI 0,vI 10022,vI 10022,vJ 1,vI 2,vI 0,vI 0,vJ 1233,vJ 1233]⟩
def wAwake39:Array Value:=⟨[vJ 66,vI 67,vI 0,vI 0,vI 8690,vI 8690,vJ 1,vI 2,vI 0,vI 0,vJ 1331,vJ 1331]⟩
def wAwake40:Array Value:=⟨[vJ 68,vI 69,vI 0,vI 0,vI 7260,vI 7260,vJ 1,vI 2,vI 0,vI 0,vJ 1429,vJ 1429]⟩
def wAwake41:Array Value:=⟨[vJ 70,vI 71,vI 0,vI 0,vI 5732,vI 5732,vJ 1,vI 2,vI 0,vI 0,vJ 1527,vJ 1527]⟩
def wAwake42:Array Value:=⟨[vJ 72,vI 73,vI 0,vI 0,vI 4106,vI 4106,vJ 1,vI 2,vI 0,vI 0,vJ 1625,vJ 1625]⟩
def wAwake43:Array Value:=⟨[vJ 74,vI 75,vI 0,vI 0,vI 2382,vI 2382,vJ 1,vI 2,vI 0,vI 0,vJ 1723,vJ 1723]⟩
def wAwake44:Array Value:=⟨[vJ 76,vI 77,vI 0,vI 0,vI 560,vI 560,vJ 1,vI 2,vI 0,vI 0,vJ 1821,vJ 1821]⟩
def wAwake45:Array Value:=⟨[vJ 78,vI 79,vI 0,vI 0,vJ 1359,vJ 1359,vJ 1,vI 2,vI 0,vI 0,vJ 1919,vJ 1919]⟩
def wAwake46:Array Value:=⟨[vI 2,vI 1000,vI 1000,vI 10,vI 10,vI 10,vI 10,vJ 9,vI 10,vI 0,vI 0,vI 0,vI 0]⟩
def wAwake47:Array Value:=⟨[.string ⟨⟨[100,97,114,116]⟩⟩,vI 98,vI 98,lstV ⟨[vI 0,vI 1000]⟩ 0 1 2,lstV wAwake46 0 1 13,.slice none 0 0]⟩
def wAwake48:Array Value:=⟨[vI 0,vI 0,vI 0,vI 0,vI 10000,vI 10000,vI 98,vI 98,lstV wAwake2 0 2 7,lstV ⟨[vI 0,vI 1000,vI 1000]⟩ 0 1 3,lstV wAwake46 0 1 13,.slice none 0 0]⟩
def wAwake49:Array Value:=⟨[vI 0,vI 0,vI 0,vI 0,vI 5000,vI 5000,vI 0,vI 0,vI 0,vI 0,vI 10000,vI 10000]⟩
def wAwake50:Array Value:=⟨[vI 0,vI 0,vI 0,vI 10,vI 10,vI 10,vI 10,vI 0,vI 0,vI 0,vI 0,vI 0,vI 0]⟩
def wAwake51:Array Value:=⟨[vJ 30014999999,vJ 30011999999,vI 0,vI 0,vI 1000400000000,vI 1000500000000]⟩
end
end Go.Proofs.Ytggaomgopenkfaa
