/- Part 9 of the texts below the claim. Conditions: none. -/
import Derived.Test.YtggaomgopenkfaaMg7
import Derived.Test.YtggaomgopenkfaaMg8
set_option linter.unusedVariables false
set_option linter.unusedSimpArgs false
namespace Go.Proofs.Ytggaomgopenkfaa
open Go.Gi Go.RowKit Go.Proofs.Ytggaomgopenkfaa.Old
noncomputable section
set_option maxRecDepth 100000
set_option maxHeartbeats 4000000
structure X46_0 where
 (v0:Array Value)
 (v1 v2:Nat)
 (v3:Array Value)
 (v4 v5:Nat)
 (v6 v7:Int)
inductive D46_0 where
 | k0 (d0 d1:Int)
 | k1
def Lp46_0:LoopOf X46_0 D46_0 where
 c:=(theLoop Try.prog 46 0)
 N:=27
 M:=0
 S:=[0,10,11,12]
 sl:=fun x=>[(lstV x.v0 x.v1 x.v2 13),(lstV x.v3 x.v4 x.v5 13),(.int .i64 x.v6),(.int .i64 x.v7)]
 hp:=fun x=>[]
 ex:=fun d=>match d with | .k0 ..=>.ret | .k1 ..=>.exit 0
 pick:=fun e=>match e with | .ret=>[2,3] | .exit 0=>[] | _=>[]
 dv:=fun d=>match d with | .k0 d0 d1=>[(.int .i64 d0),(.int .i64 d1)] | .k1 =>[]
 dh:=fun d=>match d with | .k0 d0 d1=>[] | .k1 =>[]
theorem ok46_0:Lp46_0.Ok:=⟨fun x=>rfl,fun x=>rfl,fun x=>rfl,fun x=>rfl,fun d=>by cases d<;>rfl,fun d=>by cases d<;>rfl,fun d=>by cases d<;>rfl,fun d=>by cases d<;>(intro h;cases h),fun d=>by cases d<;>rfl,fun d=>by cases d<;>rfl⟩
def rd46_0 (x:X46_0):RT (Sum X46_0 D46_0):=match x with
 | ⟨v0,v1,v2,v3,v4,v5,v6,v7⟩ =>let u1:=(Int.toNat v7);let u0:=(F87_0 (getStr v3 (v4+(u1*13))) (getInt v3 ((v4+(u1*13))+1)) (getInt v3 (((v4+(u1*13))+1)+1)) (getInt v3 ((((v4+(u1*13))+1)+1)+1)) (getInt v3 (((((v4+(u1*13))+1)+1)+1)+1)) (getInt v3 ((((((v4+(u1*13))+1)+1)+1)+1)+1)) (getInt v3 (((((((v4+(u1*13))+1)+1)+1)+1)+1)+1)) (getInt v3 ((((((((v4+(u1*13))+1)+1)+1)+1)+1)+1)+1)) (getInt v3 (((((((((v4+(u1*13))+1)+1)+1)+1)+1)+1)+1)+1)) (getInt v3 ((((((((((v4+(u1*13))+1)+1)+1)+1)+1)+1)+1)+1)+1)) (getInt v3 (((((((((((v4+(u1*13))+1)+1)+1)+1)+1)+1)+1)+1)+1)+1)) (getInt v3 ((((((((((((v4+(u1*13))+1)+1)+1)+1)+1)+1)+1)+1)+1)+1)+1)) (getInt v3 (((((((((((((v4+(u1*13))+1)+1)+1)+1)+1)+1)+1)+1)+1)+1)+1)+1)) v0 (v1+0) (u1-0));let u2:=(Leaf.int .i64);
   .br (decide (v7<v6)) (.br (and (decide ((0:Int)≤v7)) (decide (v7<(Int.ofNat v5)))) (.br (rdOk v3 [Leaf.str,u2,u2,u2,u2,u2,u2,u2,u2,u2,u2,u2,u2] (v4+(u1*13))) (.br (and true (and (decide ((0:Int)≤v7)) (and (decide (0≤u1)) (decide (u1≤v2)))))
   (.br (F87_ok (getStr v3 (v4+(u1*13))) (getInt v3 ((v4+(u1*13))+1)) (getInt v3 (((v4+(u1*13))+1)+1)) (getInt v3 ((((v4+(u1*13))+1)+1)+1)) (getInt v3 (((((v4+(u1*13))+1)+1)+1)+1)) (getInt v3 ((((((v4+(u1*13))+1)+1)+1)+1)+1)) (getInt v3 (((((((v4+(u1*13))+1)+1)+1)+1)+1)+1)) (getInt v3 ((((((((v4+(u1*13))+1)+1)+1)+1)+1)+1)+1)) (getInt v3 (((((((((v4+(u1*13))+1)+1)+1)+1)+1)+1)+1)+1)) (getInt v3 ((((((((((v4+(u1*13))+1)+1)+1)+1)+1)+1)+1)+1)+1)) (getInt v3 (((((((((((v4+(u1*13))+1)+1)+1)+1)+1)+1)+1)+1)+1)+1)) (getInt v3 ((((((((((((v4+(u1*13))+1)+1)+1)+1)+1)+1)+1)+1)+1)+1)+1)) (getInt v3 (((((((((((((v4+(u1*13))+1)+1)+1)+1)+1)+1)+1)+1)+1)+1)+1)+1)) v0 (v1+0) (u1-0))
   (.br (not (decide (u0=(0:Int)))) (.leaf (.inr (.k0 v7 (u0)))) (.leaf (.inl ⟨v0,v1,v2,v3,v4,v5,v6,(IntKind.wrap .i64 (v7+(1:Int)))⟩))) (.no)) (.no)) (.no)) (.no)) (.leaf (.inr (.k1)))
theorem T46_0  (y:List Value) (v0:Array Value) (v1 v2:Nat) (v3:Array Value) (v4 v5:Nat) (v6 v7:Int):evC Try.prog (Ans.c p87) 60 (.code none (theLoop Try.prog 46 0) ⟨sets (junkF 27 y) [(0,(lstV v0 v1 v2 13)),(10,(lstV v3 v4 v5 13)),(11,(.int .i64 v6)),(12,(.int .i64 v7))],[],⟨[],0,[]⟩⟩) (sumK 0 27 Lp46_0.pk)=(rd46_0 ⟨v0,v1,v2,v3,v4,v5,v6,v7⟩).out Lp46_0.enc:=by kernel_rfl
def L46_0 (x:X46_0):Option D46_0:=loopR rd46_0 x
section
variable (x:X46_0)
def L46_0_k0:Bool:=match L46_0 x with | some (.k0 ..)=>true | _=>false
def Qg0:Int:=match L46_0 x with | some (.k0 d _)=>d | _=>0
def Qg1:Int:=match L46_0 x with | some (.k0 _ d)=>d | _=>0
def L46_0_k1:Bool:=match L46_0 x with | some (.k1 ..)=>true | _=>false
end
def dec46_0:Task→Option (Code×X46_0)
 | .code none (.loop code) ⟨t,[],⟨[],0,[]⟩⟩ =>
  (match Nat.beq (firstReg code) 4,lenIs t 27,lget t 0,lget t 10,lget t 11,lget t 12 with
  | true,true,(.func (.via 0 ⟨[]⟩ 0 true) v0 ⟨[.slice (some ⟨0,v1,none⟩) v2 13]⟩),(.func (.via 0 ⟨[]⟩ 0 true) v3 ⟨[.slice (some ⟨0,v4,none⟩) v5 13]⟩),(.int .i64 v6),(.int .i64 v7)=>some (code,⟨v0,v1,v2,v3,v4,v5,v6,v7⟩)
  | _,_,_,_,_,_=>none)
 | _=>none
def alt46_0 (x:X46_0)(j:List Value):AT:=.br (L46_0_k0 x) (loopEnd 27 (.ret) [(2,(.int .i64 (Qg0 x))),(3,(.int .i64 (Qg1 x)))] ⟨[],0,[]⟩ j) (.br (L46_0_k1 x) (loopEnd 27 (.exit 0) [] ⟨[],0,[]⟩ j) (.no))
def la46_0 (J:Task→List Value):Ans:=loopAns Lp46_0.c dec46_0 alt46_0 J
theorem ha46_0:∀(x:X46_0) (j:List Value)(o:Out),(alt46_0 x j).out=some o→∃d,loopR rd46_0 x=some d∧o=Lp46_0.tail d j:=by
 intro x j o h;unfold alt46_0 at h
 cases hL:L46_0 x with
 | none=>simp [L46_0_k0,Qg0,Qg1,L46_0_k1,hL,AT.out]at h
 | some d =>
  refine ⟨d,hL,?_⟩
  cases d<;>(simp only[L46_0_k0,Qg0,Qg1,L46_0_k1,hL,AT.out,loopEnd,cond_true,cond_false,Option.some.injEq]at h;rw[← h];rfl)
theorem hd46_0:∀(t:Task) (c:Code)(x:X46_0),dec46_0 t=some (c,x)→c=Lp46_0.c→∃T,t=.code none (.loop Lp46_0.c) ⟨T,[],⟨Lp46_0.hp x,0,[]⟩⟩∧T.length=Lp46_0.N∧∀kv∈Lp46_0.S.zip (Lp46_0.sl x),lget T kv.1=kv.2:=by
 intro t c x h hc;unfold dec46_0 at h
 split at h
 case h_2=>cases h
 split at h
 case h_2=>cases h
 simp only[Option.some.injEq,Prod.mk.injEq]at h;obtain ⟨rfl,rfl⟩:=h;subst hc
 refine ⟨_,rfl,lenIs_eq _ _ (by assumption),?_⟩
 intro kv hk;simp only[Lp46_0,List.zip_cons_cons,List.zip_nil_right,List.mem_cons,List.not_mem_nil,or_false]at hk
 rcases hk with rfl | rfl | rfl | rfl<;>assumption
theorem kl46_0:∃J,Known Try.prog (la46_0 J):=by
 exact LoopOf.known noNG mixed ok46_0 (by decide) (by decide) known87 (n:=60) (rd:=rd46_0) (fun x j=>T46_0  j x.v0 x.v1 x.v2 x.v3 x.v4 x.v5 x.v6 x.v7) dec46_0 alt46_0 hd46_0 ha46_0
structure R46 where
 (r0 r1:Int)
structure A46 where
 (a0:Array Value)
 (a1 a2:Nat)
def rt46 (a0:Array Value)(a1 a2:Nat):RT R46 :=
 .br (decide ((6:Int)<(Int.ofNat a2))) (.leaf ⟨(0:Int),(3:Int)⟩)
 (.sw (eqCode (Lp46_0.c) (Lp46_0.c)) true (by simp only[eqCode_self,arrEq_self]) (.br (L46_0_k0 (X46_0.mk a0 a1 a2 a0 a1 a2 (Int.ofNat a2) (0:Int))) (.leaf ⟨(Qg0 (X46_0.mk a0 a1 a2 a0 a1 a2 (Int.ofNat a2) (0:Int))),(Qg1 (X46_0.mk a0 a1 a2 a0 a1 a2 (Int.ofNat a2) (0:Int)))⟩) (.br (L46_0_k1 (X46_0.mk a0 a1 a2 a0 a1 a2 (Int.ofNat a2) (0:Int))) (.leaf ⟨(0:Int),(0:Int)⟩) (.no))) (.no))
def en46 (r:R46):Value:=(.tuple ⟨[(.int .i64 r.r0),(.int .i64 r.r1)]⟩)
theorem T46 (J0:Task→List Value)(a0:Array Value)(a1 a2:Nat):evC Try.prog (Ans.c (p87.or (la46_0 J0))) 60 (.call 46 ⟨[(lstV a0 a1 a2 13)]⟩ ⟨[],0,[]⟩) (frzK [0,0])=(rt46 a0 a1 a2).out (fun r=>.ret (en46 r) ⟨[],0,[]⟩):=by kernel_rfl
def F46 (a0:Array Value)(a1 a2:Nat):Option R46:=(rt46 a0 a1 a2).val
section
variable (a0:Array Value) (a1 a2:Nat)
def F46_ok:Bool:=(F46 a0 a1 a2).isSome
def F46_0:Int:=match F46 a0 a1 a2 with | some r=>r.r0 | none=>0
def F46_1:Int:=match F46 a0 a1 a2 with | some r=>r.r1 | none=>0
end
def dec46:Task→Option (A46×Hp)
 | .call g ⟨[(.func (.via 0 ⟨[]⟩ 0 true) a0 ⟨[.slice (some ⟨0,a1,none⟩) a2 13]⟩)]⟩ h=>(match Nat.beq g 46 with | true=>some (⟨a0,a1,a2⟩,h) | false=>none)
 | _=>none
def alt46 (x:A46)(h:Hp):AT:=.br (F46_ok x.a0 x.a1 x.a2) (.leaf (.ret (.tuple ⟨[(.int .i64 (F46_0 x.a0 x.a1 x.a2)),(.int .i64 (F46_1 x.a0 x.a1 x.a2))]⟩) h)) .no
def p46:Ans:=fnAns dec46 alt46
theorem ha46:∀(x:A46) (h:Hp)(o:Out),(alt46 x h).out=some o→∃r,(rt46 x.a0 x.a1 x.a2).val=some r∧o=.ret (en46 r) h:=by
 intro x h o e;unfold alt46 at e;simp only[AT.out]at e;obtain ⟨g,e⟩:=cond_some e;unfold F46_ok at g;obtain ⟨r,hF⟩:=Option.isSome_iff_exists.1 g
 refine ⟨r,by delta F46 at hF;exact hF,?_⟩
 simp only[Option.some.injEq]at e;rw[← e]
 unfold F46_0 F46_1;rw[hF]<;>rfl
theorem hd46:∀(t:Task) (x:A46)(h:Hp),dec46 t=some (x,h)→t=.call 46 ⟨[(lstV x.a0 x.a1 x.a2 13)]⟩ h:=by
 intro t x h e;unfold dec46 at e
 split at e
 case h_2=>cases e
 split at e
 case h_2=>cases e
 rename_i hg;simp only[Option.some.injEq,Prod.mk.injEq]at e;obtain ⟨rfl,rfl⟩:=e;rw[Nat.eq_of_beq_eq_true hg]
theorem known46:Known Try.prog p46:=by
 obtain ⟨J0,hJ0⟩:=kl46_0
 exact Known.fn noNG mixed (Known.or known87 hJ0) (n:=60) (zs:=[0,0]) 46 (fun x:A46=>[(lstV x.a0 x.a1 x.a2 13)]) (fun x=>rt46 x.a0 x.a1 x.a2) en46 (fun x=>T46 J0 x.a0 x.a1 x.a2) (fun x=>rfl) dec46 alt46 hd46 ha46
structure R13 where
 (r0 r1 r2:Int)
structure A13 where
 (a0:ByteArray)
 (a1 a2:Int)
 (a3:Array Value)
 (a4 a5:Nat)
 (a6:Array Value)
 (a7 a8:Nat)
 (a9:Array Value)
 (a10 a11:Nat)
def rt13 (a0:ByteArray)(a1 a2:Int)(a3:Array Value)(a4 a5:Nat)(a6:Array Value)(a7 a8:Nat)(a9:Array Value)(a10 a11:Nat):RT R13 :=
 .br (F42_ok a0) (.br (not (F42_0 a0)) (.leaf ⟨(1:Int),(0:Int),(6:Int)⟩) (.br (F43_ok a1 a2 (0:Int) (200:Int)) (.br (not (F43_0 a1 a2 (0:Int) (200:Int))) (.leaf ⟨(1:Int),(0:Int),(7:Int)⟩) (.br (F44_ok a3 a4 a5) (.br (not (decide ((F44_1 a3 a4 a5)=(0:Int)))) (.leaf ⟨(2:Int),(F44_0 a3 a4 a5),(F44_1 a3 a4 a5)⟩) (.br (F45_ok a6 a7 a8) (.br (not (decide ((F45_1 a6 a7 a8)=(0:Int)))) (.leaf ⟨(3:Int),(F45_0 a6 a7 a8),(F45_1 a6 a7 a8)⟩) (.br (F46_ok a9 a10 a11) (.br (not (decide ((F46_1 a9 a10 a11)=(0:Int)))) (.leaf ⟨(4:Int),(F46_0 a9 a10 a11),(F46_1 a9 a10 a11)⟩) (.leaf ⟨(0:Int),(0:Int),(0:Int)⟩)) (.no))) (.no))) (.no))) (.no))) (.no)
def en13 (r:R13):Value:=(.tuple ⟨[(.int .i64 r.r0),(.int .i64 r.r1),(.int .i64 r.r2)]⟩)
theorem T13  (a0:ByteArray) (a1 a2:Int) (a3:Array Value) (a4 a5:Nat) (a6:Array Value) (a7 a8:Nat) (a9:Array Value) (a10 a11:Nat):evC Try.prog (Ans.c (p42.or (p43.or (p44.or (p45.or p46))))) 60 (.call 13 ⟨[(.agg ⟨[(.string a0),(.int .i64 a1),(.int .i64 a2),(lstV a3 a4 a5 2),(lstV a6 a7 a8 13),(lstV a9 a10 a11 13)]⟩)]⟩ ⟨[],0,[]⟩) (frzK [0,0,0])=(rt13 a0 a1 a2 a3 a4 a5 a6 a7 a8 a9 a10 a11).out (fun r=>.ret (en13 r) ⟨[],0,[]⟩):=by kernel_rfl
def F13 (a0:ByteArray)(a1 a2:Int)(a3:Array Value)(a4 a5:Nat)(a6:Array Value)(a7 a8:Nat)(a9:Array Value)(a10 a11:Nat):Option R13:=(rt13 a0 a1 a2 a3 a4 a5 a6 a7 a8 a9 a10 a11).val
section
variable (a0:ByteArray) (a1 a2:Int) (a3:Array Value) (a4 a5:Nat) (a6:Array Value) (a7 a8:Nat) (a9:Array Value) (a10 a11:Nat)
def F13_ok:Bool:=(F13 a0 a1 a2 a3 a4 a5 a6 a7 a8 a9 a10 a11).isSome
def F13_0:Int:=match F13 a0 a1 a2 a3 a4 a5 a6 a7 a8 a9 a10 a11 with | some r=>r.r0 | none=>0
def F13_1:Int:=match F13 a0 a1 a2 a3 a4 a5 a6 a7 a8 a9 a10 a11 with | some r=>r.r1 | none=>0
def F13_2:Int:=match F13 a0 a1 a2 a3 a4 a5 a6 a7 a8 a9 a10 a11 with | some r=>r.r2 | none=>0
end
def dec13:Task→Option (A13×Hp)
 | .call g ⟨[(.agg ⟨[(.string a0),(.int .i64 a1),(.int .i64 a2),(.func (.via 0 ⟨[]⟩ 0 true) a3 ⟨[.slice (some ⟨0,a4,none⟩) a5 2]⟩),(.func (.via 0 ⟨[]⟩ 0 true) a6 ⟨[.slice (some ⟨0,a7,none⟩) a8 13]⟩),(.func (.via 0 ⟨[]⟩ 0 true) a9 ⟨[.slice (some ⟨0,a10,none⟩) a11 13]⟩)]⟩)]⟩ h=>(match Nat.beq g 13 with | true=>some (⟨a0,a1,a2,a3,a4,a5,a6,a7,a8,a9,a10,a11⟩,h) | false=>none)
 | _=>none
def alt13 (x:A13)(h:Hp):AT:=.br (F13_ok x.a0 x.a1 x.a2 x.a3 x.a4 x.a5 x.a6 x.a7 x.a8 x.a9 x.a10 x.a11) (.leaf (.ret (.tuple ⟨[(.int .i64 (F13_0 x.a0 x.a1 x.a2 x.a3 x.a4 x.a5 x.a6 x.a7 x.a8 x.a9 x.a10 x.a11)),(.int .i64 (F13_1 x.a0 x.a1 x.a2 x.a3 x.a4 x.a5 x.a6 x.a7 x.a8 x.a9 x.a10 x.a11)),(.int .i64 (F13_2 x.a0 x.a1 x.a2 x.a3 x.a4 x.a5 x.a6 x.a7 x.a8 x.a9 x.a10 x.a11))]⟩) h)) .no
def p13:Ans:=fnAns dec13 alt13
theorem ha13:∀(x:A13) (h:Hp)(o:Out),(alt13 x h).out=some o→∃r,(rt13 x.a0 x.a1 x.a2 x.a3 x.a4 x.a5 x.a6 x.a7 x.a8 x.a9 x.a10 x.a11).val=some r∧o=.ret (en13 r) h:=by
 intro x h o e;unfold alt13 at e;simp only[AT.out]at e;obtain ⟨g,e⟩:=cond_some e;unfold F13_ok at g;obtain ⟨r,hF⟩:=Option.isSome_iff_exists.1 g
 refine ⟨r,by delta F13 at hF;exact hF,?_⟩
 simp only[Option.some.injEq]at e;rw[← e]
 unfold F13_0 F13_1 F13_2;rw[hF]<;>rfl
theorem hd13:∀(t:Task) (x:A13)(h:Hp),dec13 t=some (x,h)→t=.call 13 ⟨[(.agg ⟨[(.string x.a0),(.int .i64 x.a1),(.int .i64 x.a2),(lstV x.a3 x.a4 x.a5 2),(lstV x.a6 x.a7 x.a8 13),(lstV x.a9 x.a10 x.a11 13)]⟩)]⟩ h:=by
 intro t x h e;unfold dec13 at e
 split at e
 case h_2=>cases e
 split at e
 case h_2=>cases e
 rename_i hg;simp only[Option.some.injEq,Prod.mk.injEq]at e;obtain ⟨rfl,rfl⟩:=e;rw[Nat.eq_of_beq_eq_true hg]
theorem known13:Known Try.prog p13:=by
 exact Known.fn noNG mixed (Known.or known42 (Known.or known43 (Known.or known44 (Known.or known45 known46)))) (n:=60) (zs:=[0,0,0]) 13 (fun x:A13=>[(.agg ⟨[(.string x.a0),(.int .i64 x.a1),(.int .i64 x.a2),(lstV x.a3 x.a4 x.a5 2),(lstV x.a6 x.a7 x.a8 13),(lstV x.a9 x.a10 x.a11 13)]⟩)]) (fun x=>rt13 x.a0 x.a1 x.a2 x.a3 x.a4 x.a5 x.a6 x.a7 x.a8 x.a9 x.a10 x.a11) en13 (fun x=>T13  x.a0 x.a1 x.a2 x.a3 x.a4 x.a5 x.a6 x.a7 x.a8 x.a9 x.a10 x.a11) (fun x=>rfl) dec13 alt13 hd13 ha13
structure R48 where
 (r0:Bool)
structure A48 where
 (a0 a1:Int)
 (a2 a3:Int)
def rt48 (a0 a1:Int)(a2 a3:Int):RT R48 :=
 .br (decide (a0≤a1)) (.br (decide (a2≤a0)) (.leaf ⟨(decide (a1≤a3))⟩) (.leaf ⟨false⟩)) (.leaf ⟨false⟩)
def en48 (r:R48):Value:=(.bool r.r0)
theorem T48  (a0 a1:Int) (a2 a3:Int):evC Try.prog (Ans.c (fun _=>none:Ans)) 60 (.call 48 ⟨[(.agg ⟨[(.int .i64 a0),(.int .i64 a1)]⟩),(.int .i64 a2),(.int .i64 a3)]⟩ ⟨[],0,[]⟩) (frzK [0])=(rt48 a0 a1 a2 a3).out (fun r=>.ret (en48 r) ⟨[],0,[]⟩):=by kernel_rfl
def F48 (a0 a1:Int)(a2 a3:Int):Option R48:=(rt48 a0 a1 a2 a3).val
section
variable (a0 a1:Int) (a2 a3:Int)
def F48_ok:Bool:=(F48 a0 a1 a2 a3).isSome
def F48_0:Bool:=match F48 a0 a1 a2 a3 with | some r=>r.r0 | none=>false
end
def dec48:Task→Option (A48×Hp)
 | .call g ⟨[(.agg ⟨[(.int .i64 a0),(.int .i64 a1)]⟩),(.int .i64 a2),(.int .i64 a3)]⟩ h=>(match Nat.beq g 48 with | true=>some (⟨a0,a1,a2,a3⟩,h) | false=>none)
 | _=>none
def alt48 (x:A48)(h:Hp):AT:=.br (F48_ok x.a0 x.a1 x.a2 x.a3) (.leaf (.ret (.bool (F48_0 x.a0 x.a1 x.a2 x.a3)) h)) .no
def p48:Ans:=fnAns dec48 alt48
theorem ha48:∀(x:A48) (h:Hp)(o:Out),(alt48 x h).out=some o→∃r,(rt48 x.a0 x.a1 x.a2 x.a3).val=some r∧o=.ret (en48 r) h:=by
 intro x h o e;unfold alt48 at e;simp only[AT.out]at e;obtain ⟨g,e⟩:=cond_some e;unfold F48_ok at g;obtain ⟨r,hF⟩:=Option.isSome_iff_exists.1 g
 refine ⟨r,by delta F48 at hF;exact hF,?_⟩
 simp only[Option.some.injEq]at e;rw[← e]
 unfold F48_0;rw[hF]<;>rfl
theorem hd48:∀(t:Task) (x:A48)(h:Hp),dec48 t=some (x,h)→t=.call 48 ⟨[(.agg ⟨[(.int .i64 x.a0),(.int .i64 x.a1)]⟩),(.int .i64 x.a2),(.int .i64 x.a3)]⟩ h:=by
 intro t x h e;unfold dec48 at e
 split at e
 case h_2=>cases e
 split at e
 case h_2=>cases e
 rename_i hg;simp only[Option.some.injEq,Prod.mk.injEq]at e;obtain ⟨rfl,rfl⟩:=e;rw[Nat.eq_of_beq_eq_true hg]
theorem known48:Known Try.prog p48:=by
 exact Known.fn noNG mixed (Known.nothing Try.prog) (n:=60) (zs:=[0]) 48 (fun x:A48=>[(.agg ⟨[(.int .i64 x.a0),(.int .i64 x.a1)]⟩),(.int .i64 x.a2),(.int .i64 x.a3)]) (fun x=>rt48 x.a0 x.a1 x.a2 x.a3) en48 (fun x=>T48  x.a0 x.a1 x.a2 x.a3) (fun x=>rfl) dec48 alt48 hd48 ha48
structure R50 where
 (r0:Bool)
structure A50 where
 (a0 a1 a2:Int)
def rt50 (a0 a1 a2:Int):RT R50 :=
 .br (decide (a1≤a0)) (.leaf ⟨(decide (a0≤a2))⟩) (.leaf ⟨false⟩)
def en50 (r:R50):Value:=(.bool r.r0)
theorem T50  (a0 a1 a2:Int):evC Try.prog (Ans.c (fun _=>none:Ans)) 60 (.call 50 ⟨[(.int .i64 a0),(.int .i64 a1),(.int .i64 a2)]⟩ ⟨[],0,[]⟩) (frzK [0])=(rt50 a0 a1 a2).out (fun r=>.ret (en50 r) ⟨[],0,[]⟩):=by kernel_rfl
def F50 (a0 a1 a2:Int):Option R50:=(rt50 a0 a1 a2).val
section
variable (a0 a1 a2:Int)
def F50_ok:Bool:=(F50 a0 a1 a2).isSome
def F50_0:Bool:=match F50 a0 a1 a2 with | some r=>r.r0 | none=>false
end
def dec50:Task→Option (A50×Hp)
 | .call g ⟨[(.int .i64 a0),(.int .i64 a1),(.int .i64 a2)]⟩ h=>(match Nat.beq g 50 with | true=>some (⟨a0,a1,a2⟩,h) | false=>none)
 | _=>none
def alt50 (x:A50)(h:Hp):AT:=.br (F50_ok x.a0 x.a1 x.a2) (.leaf (.ret (.bool (F50_0 x.a0 x.a1 x.a2)) h)) .no
def p50:Ans:=fnAns dec50 alt50
theorem ha50:∀(x:A50) (h:Hp)(o:Out),(alt50 x h).out=some o→∃r,(rt50 x.a0 x.a1 x.a2).val=some r∧o=.ret (en50 r) h:=by
 intro x h o e;unfold alt50 at e;simp only[AT.out]at e;obtain ⟨g,e⟩:=cond_some e;unfold F50_ok at g;obtain ⟨r,hF⟩:=Option.isSome_iff_exists.1 g
 refine ⟨r,by delta F50 at hF;exact hF,?_⟩
 simp only[Option.some.injEq]at e;rw[← e]
 unfold F50_0;rw[hF]<;>rfl
theorem hd50:∀(t:Task) (x:A50)(h:Hp),dec50 t=some (x,h)→t=.call 50 ⟨[(.int .i64 x.a0),(.int .i64 x.a1),(.int .i64 x.a2)]⟩ h:=by
 intro t x h e;unfold dec50 at e
 split at e
 case h_2=>cases e
 split at e
 case h_2=>cases e
 rename_i hg;simp only[Option.some.injEq,Prod.mk.injEq]at e;obtain ⟨rfl,rfl⟩:=e;rw[Nat.eq_of_beq_eq_true hg]
theorem known50:Known Try.prog p50:=by
 exact Known.fn noNG mixed (Known.nothing Try.prog) (n:=60) (zs:=[0]) 50 (fun x:A50=>[(.int .i64 x.a0),(.int .i64 x.a1),(.int .i64 x.a2)]) (fun x=>rt50 x.a0 x.a1 x.a2) en50 (fun x=>T50  x.a0 x.a1 x.a2) (fun x=>rfl) dec50 alt50 hd50 ha50
structure R49 where
 (r0:Int)
structure A49 where
 (a0:ByteArray)
 (a1 a2:Int)
 (a3:Array Value)
 (a4 a5:Nat)
 (a6:Array Value)
 (a7 a8:Nat)
 (a9:Array Value)
 (a10 a11:Nat)
 (a12:Int)
def rt49 (a0:ByteArray)(a1 a2:Int)(a3:Array Value)(a4 a5:Nat)(a6:Array Value)(a7 a8:Nat)(a9:Array Value)(a10 a11:Nat)(a12:Int):RT R49 :=let u0:=(getInt a3 ((a4+((Int.toNat a12)*2))+1));let u1:=(IntKind.wrap .i64 (a12-(1:Int)));let u2:=(getInt a3 (a4+((Int.toNat a12)*2)));let u3:=(F50_ok u0 (0:Int) (1000:Int));let u4:=(F50_0 u0 (0:Int) (1000:Int));
 .br (and (decide ((0:Int)≤a12)) (decide (a12<(Int.ofNat a5)))) (.br (rdOk a3 [(Leaf.int .i64),(Leaf.int .i64)] (a4+((Int.toNat a12)*2))) (.br (decide (a12=(0:Int))) (.br (not (decide (u2=(0:Int)))) (.leaf ⟨(2:Int)⟩) (.br (decide ((0:Int)<a12)) (.br (and (decide ((0:Int)≤u1)) (decide (u1<(Int.ofNat a5)))) (.br (isInt .i64 a3 ((a4+((Int.toNat u1)*2))+0)) (.br (decide (u2≤(getInt a3 ((a4+((Int.toNat u1)*2))+0)))) (.leaf ⟨(2:Int)⟩) (.br (decide ((2000000000:Int)<u2)) (.leaf ⟨(7:Int)⟩) (.br u3 (.br (not u4) (.leaf ⟨(7:Int)⟩) (.leaf ⟨(0:Int)⟩)) (.no)))) (.no)) (.no))
 (.br (decide ((2000000000:Int)<u2)) (.leaf ⟨(7:Int)⟩) (.br u3 (.br (not u4) (.leaf ⟨(7:Int)⟩) (.leaf ⟨(0:Int)⟩)) (.no))))) (.br (decide ((0:Int)<a12)) (.br (and (decide ((0:Int)≤u1)) (decide (u1<(Int.ofNat a5)))) (.br (isInt .i64 a3 ((a4+((Int.toNat u1)*2))+0)) (.br (decide (u2≤(getInt a3 ((a4+((Int.toNat u1)*2))+0)))) (.leaf ⟨(2:Int)⟩) (.br (decide ((2000000000:Int)<u2)) (.leaf ⟨(7:Int)⟩) (.br u3 (.br (not u4) (.leaf ⟨(7:Int)⟩) (.leaf ⟨(0:Int)⟩)) (.no)))) (.no)) (.no))
 (.br (decide ((2000000000:Int)<u2)) (.leaf ⟨(7:Int)⟩) (.br u3 (.br (not u4) (.leaf ⟨(7:Int)⟩) (.leaf ⟨(0:Int)⟩)) (.no))))) (.no)) (.no)
def en49 (r:R49):Value:=(.int .i64 r.r0)
theorem T49  (a0:ByteArray) (a1 a2:Int) (a3:Array Value) (a4 a5:Nat) (a6:Array Value) (a7 a8:Nat) (a9:Array Value) (a10 a11:Nat) (a12:Int):evC Try.prog (Ans.c p50) 60 (.call 49 ⟨[(.agg ⟨[(.string a0),(.int .i64 a1),(.int .i64 a2),(lstV a3 a4 a5 2),(lstV a6 a7 a8 13),(lstV a9 a10 a11 13)]⟩),(.int .i64 a12)]⟩ ⟨[],0,[]⟩) (frzK [0])=(rt49 a0 a1 a2 a3 a4 a5 a6 a7 a8 a9 a10 a11 a12).out (fun r=>.ret (en49 r) ⟨[],0,[]⟩):=by kernel_rfl
def F49 (a0:ByteArray)(a1 a2:Int)(a3:Array Value)(a4 a5:Nat)(a6:Array Value)(a7 a8:Nat)(a9:Array Value)(a10 a11:Nat)(a12:Int):Option R49:=(rt49 a0 a1 a2 a3 a4 a5 a6 a7 a8 a9 a10 a11 a12).val
section
variable (a0:ByteArray) (a1 a2:Int) (a3:Array Value) (a4 a5:Nat) (a6:Array Value) (a7 a8:Nat) (a9:Array Value) (a10 a11:Nat) (a12:Int)
def F49_ok:Bool:=(F49 a0 a1 a2 a3 a4 a5 a6 a7 a8 a9 a10 a11 a12).isSome
def F49_0:Int:=match F49 a0 a1 a2 a3 a4 a5 a6 a7 a8 a9 a10 a11 a12 with | some r=>r.r0 | none=>0
end
def dec49:Task→Option (A49×Hp)
 | .call g ⟨[(.agg ⟨[(.string a0),(.int .i64 a1),(.int .i64 a2),(.func (.via 0 ⟨[]⟩ 0 true) a3 ⟨[.slice (some ⟨0,a4,none⟩) a5 2]⟩),(.func (.via 0 ⟨[]⟩ 0 true) a6 ⟨[.slice (some ⟨0,a7,none⟩) a8 13]⟩),(.func (.via 0 ⟨[]⟩ 0 true) a9 ⟨[.slice (some ⟨0,a10,none⟩) a11 13]⟩)]⟩),(.int .i64 a12)]⟩ h=>(match Nat.beq g 49 with | true=>some (⟨a0,a1,a2,a3,a4,a5,a6,a7,a8,a9,a10,a11,a12⟩,h) | false=>none)
 | _=>none
def alt49 (x:A49)(h:Hp):AT:=.br (F49_ok x.a0 x.a1 x.a2 x.a3 x.a4 x.a5 x.a6 x.a7 x.a8 x.a9 x.a10 x.a11 x.a12) (.leaf (.ret (.int .i64 (F49_0 x.a0 x.a1 x.a2 x.a3 x.a4 x.a5 x.a6 x.a7 x.a8 x.a9 x.a10 x.a11 x.a12)) h)) .no
def p49:Ans:=fnAns dec49 alt49
theorem ha49:∀(x:A49) (h:Hp)(o:Out),(alt49 x h).out=some o→∃r,(rt49 x.a0 x.a1 x.a2 x.a3 x.a4 x.a5 x.a6 x.a7 x.a8 x.a9 x.a10 x.a11 x.a12).val=some r∧o=.ret (en49 r) h:=by
 intro x h o e;unfold alt49 at e;simp only[AT.out]at e;obtain ⟨g,e⟩:=cond_some e;unfold F49_ok at g;obtain ⟨r,hF⟩:=Option.isSome_iff_exists.1 g
 refine ⟨r,by delta F49 at hF;exact hF,?_⟩
 simp only[Option.some.injEq]at e;rw[← e]
 unfold F49_0;rw[hF]<;>rfl
theorem hd49:∀(t:Task) (x:A49)(h:Hp),dec49 t=some (x,h)→t=.call 49 ⟨[(.agg ⟨[(.string x.a0),(.int .i64 x.a1),(.int .i64 x.a2),(lstV x.a3 x.a4 x.a5 2),(lstV x.a6 x.a7 x.a8 13),(lstV x.a9 x.a10 x.a11 13)]⟩),(.int .i64 x.a12)]⟩ h:=by
 intro t x h e;unfold dec49 at e
 split at e
 case h_2=>cases e
 split at e
 case h_2=>cases e
 rename_i hg;simp only[Option.some.injEq,Prod.mk.injEq]at e;obtain ⟨rfl,rfl⟩:=e;rw[Nat.eq_of_beq_eq_true hg]
theorem known49:Known Try.prog p49:=by
 exact Known.fn noNG mixed known50 (n:=60) (zs:=[0]) 49 (fun x:A49=>[(.agg ⟨[(.string x.a0),(.int .i64 x.a1),(.int .i64 x.a2),(lstV x.a3 x.a4 x.a5 2),(lstV x.a6 x.a7 x.a8 13),(lstV x.a9 x.a10 x.a11 13)]⟩),(.int .i64 x.a12)]) (fun x=>rt49 x.a0 x.a1 x.a2 x.a3 x.a4 x.a5 x.a6 x.a7 x.a8 x.a9 x.a10 x.a11 x.a12) en49 (fun x=>T49  x.a0 x.a1 x.a2 x.a3 x.a4 x.a5 x.a6 x.a7 x.a8 x.a9 x.a10 x.a11 x.a12) (fun x=>rfl) dec49 alt49 hd49 ha49
structure R88 where
 (r0:Bool)
structure A88 where
 (a0 a1:Int)
 (a2 a3:Int)
def rt88 (a0 a1:Int)(a2 a3:Int):RT R88 :=
 .br (F48_ok a0 a1 (1:Int) (100000:Int)) (.br (F48_0 a0 a1 (1:Int) (100000:Int)) (.br (F48_ok a2 a3 (0:Int) (1000:Int)) (.leaf ⟨(F48_0 a2 a3 (0:Int) (1000:Int))⟩) (.no)) (.leaf ⟨false⟩)) (.no)
def en88 (r:R88):Value:=(.bool r.r0)
theorem T88  (a0 a1:Int) (a2 a3:Int):evC Try.prog (Ans.c p48) 60 (.call 88 ⟨[(.agg ⟨[(.int .i64 a0),(.int .i64 a1)]⟩),(.agg ⟨[(.int .i64 a2),(.int .i64 a3)]⟩)]⟩ ⟨[],0,[]⟩) (frzK [0])=(rt88 a0 a1 a2 a3).out (fun r=>.ret (en88 r) ⟨[],0,[]⟩):=by kernel_rfl
def F88 (a0 a1:Int)(a2 a3:Int):Option R88:=(rt88 a0 a1 a2 a3).val
section
variable (a0 a1:Int) (a2 a3:Int)
def F88_ok:Bool:=(F88 a0 a1 a2 a3).isSome
def F88_0:Bool:=match F88 a0 a1 a2 a3 with | some r=>r.r0 | none=>false
end
def dec88:Task→Option (A88×Hp)
 | .call g ⟨[(.agg ⟨[(.int .i64 a0),(.int .i64 a1)]⟩),(.agg ⟨[(.int .i64 a2),(.int .i64 a3)]⟩)]⟩ h=>(match Nat.beq g 88 with | true=>some (⟨a0,a1,a2,a3⟩,h) | false=>none)
 | _=>none
def alt88 (x:A88)(h:Hp):AT:=.br (F88_ok x.a0 x.a1 x.a2 x.a3) (.leaf (.ret (.bool (F88_0 x.a0 x.a1 x.a2 x.a3)) h)) .no
def p88:Ans:=fnAns dec88 alt88
theorem ha88:∀(x:A88) (h:Hp)(o:Out),(alt88 x h).out=some o→∃r,(rt88 x.a0 x.a1 x.a2 x.a3).val=some r∧o=.ret (en88 r) h:=by
 intro x h o e;unfold alt88 at e;simp only[AT.out]at e;obtain ⟨g,e⟩:=cond_some e;unfold F88_ok at g;obtain ⟨r,hF⟩:=Option.isSome_iff_exists.1 g
 refine ⟨r,by delta F88 at hF;exact hF,?_⟩
 simp only[Option.some.injEq]at e;rw[← e]
 unfold F88_0;rw[hF]<;>rfl
theorem hd88:∀(t:Task) (x:A88)(h:Hp),dec88 t=some (x,h)→t=.call 88 ⟨[(.agg ⟨[(.int .i64 x.a0),(.int .i64 x.a1)]⟩),(.agg ⟨[(.int .i64 x.a2),(.int .i64 x.a3)]⟩)]⟩ h:=by
 intro t x h e;unfold dec88 at e
 split at e
 case h_2=>cases e
 split at e
 case h_2=>cases e
 rename_i hg;simp only[Option.some.injEq,Prod.mk.injEq]at e;obtain ⟨rfl,rfl⟩:=e;rw[Nat.eq_of_beq_eq_true hg]
theorem known88:Known Try.prog p88:=by
 exact Known.fn noNG mixed known48 (n:=60) (zs:=[0]) 88 (fun x:A88=>[(.agg ⟨[(.int .i64 x.a0),(.int .i64 x.a1)]⟩),(.agg ⟨[(.int .i64 x.a2),(.int .i64 x.a3)]⟩)]) (fun x=>rt88 x.a0 x.a1 x.a2 x.a3) en88 (fun x=>T88  x.a0 x.a1 x.a2 x.a3) (fun x=>rfl) dec88 alt88 hd88 ha88
structure R89 where
 (r0:Bool)
structure A89 where
 (a0 a1:Int)
 (a2 a3:Int)
 (a4 a5 a6:Int)
def rt89 (a0 a1:Int)(a2 a3:Int)(a4 a5 a6:Int):RT R89 :=let u0:=(IntKind.wrap .i64 ((0:Int)-a6));
 .br (F48_ok a0 a1 u0 a6) (.br (F48_0 a0 a1 u0 a6) (.br (F48_ok a2 a3 u0 a6) (.br (F48_0 a2 a3 u0 a6) (.br (F48_ok a4 a5 u0 a6) (.leaf ⟨(F48_0 a4 a5 u0 a6)⟩) (.no)) (.leaf ⟨false⟩)) (.no)) (.leaf ⟨false⟩)) (.no)
def en89 (r:R89):Value:=(.bool r.r0)
theorem T89  (a0 a1:Int) (a2 a3:Int) (a4 a5 a6:Int):evC Try.prog (Ans.c p48) 60 (.call 89 ⟨[(.agg ⟨[(.int .i64 a0),(.int .i64 a1),(.int .i64 a2),(.int .i64 a3),(.int .i64 a4),(.int .i64 a5)]⟩),(.int .i64 a6)]⟩ ⟨[],0,[]⟩) (frzK [0])=(rt89 a0 a1 a2 a3 a4 a5 a6).out (fun r=>.ret (en89 r) ⟨[],0,[]⟩):=by kernel_rfl
def F89 (a0 a1:Int)(a2 a3:Int)(a4 a5 a6:Int):Option R89:=(rt89 a0 a1 a2 a3 a4 a5 a6).val
section
variable (a0 a1:Int) (a2 a3:Int) (a4 a5 a6:Int)
def F89_ok:Bool:=(F89 a0 a1 a2 a3 a4 a5 a6).isSome
def F89_0:Bool:=match F89 a0 a1 a2 a3 a4 a5 a6 with | some r=>r.r0 | none=>false
end
def dec89:Task→Option (A89×Hp)
 | .call g ⟨[(.agg ⟨[(.int .i64 a0),(.int .i64 a1),(.int .i64 a2),(.int .i64 a3),(.int .i64 a4),(.int .i64 a5)]⟩),(.int .i64 a6)]⟩ h=>(match Nat.beq g 89 with | true=>some (⟨a0,a1,a2,a3,a4,a5,a6⟩,h) | false=>none)
 | _=>none
def alt89 (x:A89)(h:Hp):AT:=.br (F89_ok x.a0 x.a1 x.a2 x.a3 x.a4 x.a5 x.a6) (.leaf (.ret (.bool (F89_0 x.a0 x.a1 x.a2 x.a3 x.a4 x.a5 x.a6)) h)) .no
def p89:Ans:=fnAns dec89 alt89
theorem ha89:∀(x:A89) (h:Hp)(o:Out),(alt89 x h).out=some o→∃r,(rt89 x.a0 x.a1 x.a2 x.a3 x.a4 x.a5 x.a6).val=some r∧o=.ret (en89 r) h:=by
 intro x h o e;unfold alt89 at e;simp only[AT.out]at e;obtain ⟨g,e⟩:=cond_some e;unfold F89_ok at g;obtain ⟨r,hF⟩:=Option.isSome_iff_exists.1 g
 refine ⟨r,by delta F89 at hF;exact hF,?_⟩
 simp only[Option.some.injEq]at e;rw[← e]
 unfold F89_0;rw[hF]<;>rfl
theorem hd89:∀(t:Task) (x:A89)(h:Hp),dec89 t=some (x,h)→t=.call 89 ⟨[(.agg ⟨[(.int .i64 x.a0),(.int .i64 x.a1),(.int .i64 x.a2),(.int .i64 x.a3),(.int .i64 x.a4),(.int .i64 x.a5)]⟩),(.int .i64 x.a6)]⟩ h:=by
 intro t x h e;unfold dec89 at e
 split at e
 case h_2=>cases e
 split at e
 case h_2=>cases e
 rename_i hg;simp only[Option.some.injEq,Prod.mk.injEq]at e;obtain ⟨rfl,rfl⟩:=e;rw[Nat.eq_of_beq_eq_true hg]
theorem known89:Known Try.prog p89:=by
 exact Known.fn noNG mixed known48 (n:=60) (zs:=[0]) 89 (fun x:A89=>[(.agg ⟨[(.int .i64 x.a0),(.int .i64 x.a1),(.int .i64 x.a2),(.int .i64 x.a3),(.int .i64 x.a4),(.int .i64 x.a5)]⟩),(.int .i64 x.a6)]) (fun x=>rt89 x.a0 x.a1 x.a2 x.a3 x.a4 x.a5 x.a6) en89 (fun x=>T89  x.a0 x.a1 x.a2 x.a3 x.a4 x.a5 x.a6) (fun x=>rfl) dec89 alt89 hd89 ha89
structure R51 where
 (r0:Int)
structure A51 where
 (a0 a1:Int)
 (a2 a3:Int)
 (a4 a5:Int)
 (a6 a7:Int)
 (a8 a9:Int)
 (a10 a11 a12:Int)
def rt51 (a0 a1:Int)(a2 a3:Int)(a4 a5:Int)(a6 a7:Int)(a8 a9:Int)(a10 a11 a12:Int):RT R51 :=
 .br (F50_ok a0 (1:Int) (3000:Int)) (.br (not (F50_0 a0 (1:Int) (3000:Int))) (.leaf ⟨(7:Int)⟩) (.br (F48_ok a1 a2 (0:Int) (2000000:Int)) (.br (not (F48_0 a1 a2 (0:Int) (2000000:Int))) (.leaf ⟨(7:Int)⟩) (.br (F88_ok a3 a4 a5 a6) (.br (not (F88_0 a3 a4 a5 a6)) (.leaf ⟨(7:Int)⟩) (.br (F89_ok a7 a8 a9 a10 a11 a12 (2000:Int)) (.br (not (F89_0 a7 a8 a9 a10 a11 a12 (2000:Int))) (.leaf ⟨(7:Int)⟩) (.leaf ⟨(0:Int)⟩)) (.no))) (.no))) (.no))) (.no)
def en51 (r:R51):Value:=(.int .i64 r.r0)
theorem T51  (a0 a1:Int) (a2 a3:Int) (a4 a5:Int) (a6 a7:Int) (a8 a9:Int) (a10 a11 a12:Int):evC Try.prog (Ans.c (p48.or (p50.or (p88.or p89)))) 60 (.call 51 ⟨[(.agg ⟨[(.int .i64 a0),(.int .i64 a1),(.int .i64 a2),(.int .i64 a3),(.int .i64 a4),(.int .i64 a5),(.int .i64 a6),(.int .i64 a7),(.int .i64 a8),(.int .i64 a9),(.int .i64 a10),(.int .i64 a11),(.int .i64 a12)]⟩)]⟩ ⟨[],0,[]⟩) (frzK [0])=(rt51 a0 a1 a2 a3 a4 a5 a6 a7 a8 a9 a10 a11 a12).out (fun r=>.ret (en51 r) ⟨[],0,[]⟩):=by kernel_rfl
def F51 (a0 a1:Int)(a2 a3:Int)(a4 a5:Int)(a6 a7:Int)(a8 a9:Int)(a10 a11 a12:Int):Option R51:=(rt51 a0 a1 a2 a3 a4 a5 a6 a7 a8 a9 a10 a11 a12).val
section
variable (a0 a1:Int) (a2 a3:Int) (a4 a5:Int) (a6 a7:Int) (a8 a9:Int) (a10 a11 a12:Int)
def F51_ok:Bool:=(F51 a0 a1 a2 a3 a4 a5 a6 a7 a8 a9 a10 a11 a12).isSome
def F51_0:Int:=match F51 a0 a1 a2 a3 a4 a5 a6 a7 a8 a9 a10 a11 a12 with | some r=>r.r0 | none=>0
end
def dec51:Task→Option (A51×Hp)
 | .call g ⟨[(.agg ⟨[(.int .i64 a0),(.int .i64 a1),(.int .i64 a2),(.int .i64 a3),(.int .i64 a4),(.int .i64 a5),(.int .i64 a6),(.int .i64 a7),(.int .i64 a8),(.int .i64 a9),(.int .i64 a10),(.int .i64 a11),(.int .i64 a12)]⟩)]⟩ h=>(match Nat.beq g 51 with | true=>some (⟨a0,a1,a2,a3,a4,a5,a6,a7,a8,a9,a10,a11,a12⟩,h) | false=>none)
 | _=>none
def alt51 (x:A51)(h:Hp):AT:=.br (F51_ok x.a0 x.a1 x.a2 x.a3 x.a4 x.a5 x.a6 x.a7 x.a8 x.a9 x.a10 x.a11 x.a12) (.leaf (.ret (.int .i64 (F51_0 x.a0 x.a1 x.a2 x.a3 x.a4 x.a5 x.a6 x.a7 x.a8 x.a9 x.a10 x.a11 x.a12)) h)) .no
def p51:Ans:=fnAns dec51 alt51
theorem ha51:∀(x:A51) (h:Hp)(o:Out),(alt51 x h).out=some o→∃r,(rt51 x.a0 x.a1 x.a2 x.a3 x.a4 x.a5 x.a6 x.a7 x.a8 x.a9 x.a10 x.a11 x.a12).val=some r∧o=.ret (en51 r) h:=by
 intro x h o e;unfold alt51 at e;simp only[AT.out]at e;obtain ⟨g,e⟩:=cond_some e;unfold F51_ok at g;obtain ⟨r,hF⟩:=Option.isSome_iff_exists.1 g
 refine ⟨r,by delta F51 at hF;exact hF,?_⟩
 simp only[Option.some.injEq]at e;rw[← e]
 unfold F51_0;rw[hF]<;>rfl
theorem hd51:∀(t:Task) (x:A51)(h:Hp),dec51 t=some (x,h)→t=.call 51 ⟨[(.agg ⟨[(.int .i64 x.a0),(.int .i64 x.a1),(.int .i64 x.a2),(.int .i64 x.a3),(.int .i64 x.a4),(.int .i64 x.a5),(.int .i64 x.a6),(.int .i64 x.a7),(.int .i64 x.a8),(.int .i64 x.a9),(.int .i64 x.a10),(.int .i64 x.a11),(.int .i64 x.a12)]⟩)]⟩ h:=by
 intro t x h e;unfold dec51 at e
 split at e
 case h_2=>cases e
 split at e
 case h_2=>cases e
 rename_i hg;simp only[Option.some.injEq,Prod.mk.injEq]at e;obtain ⟨rfl,rfl⟩:=e;rw[Nat.eq_of_beq_eq_true hg]
theorem known51:Known Try.prog p51:=by
 exact Known.fn noNG mixed (Known.or known48 (Known.or known50 (Known.or known88 known89))) (n:=60) (zs:=[0]) 51 (fun x:A51=>[(.agg ⟨[(.int .i64 x.a0),(.int .i64 x.a1),(.int .i64 x.a2),(.int .i64 x.a3),(.int .i64 x.a4),(.int .i64 x.a5),(.int .i64 x.a6),(.int .i64 x.a7),(.int .i64 x.a8),(.int .i64 x.a9),(.int .i64 x.a10),(.int .i64 x.a11),(.int .i64 x.a12)]⟩)]) (fun x=>rt51 x.a0 x.a1 x.a2 x.a3 x.a4 x.a5 x.a6 x.a7 x.a8 x.a9 x.a10 x.a11 x.a12) en51 (fun x=>T51  x.a0 x.a1 x.a2 x.a3 x.a4 x.a5 x.a6 x.a7 x.a8 x.a9 x.a10 x.a11 x.a12) (fun x=>rfl) dec51 alt51 hd51 ha51
structure X52_0 where
 (v0 v1:Int)
 (v2:ByteArray)
 (v3 v4:Int)
 (v5:Array Value)
 (v6 v7:Nat)
 (v8:Array Value)
 (v9 v10:Nat)
 (v11:Array Value)
 (v12 v13:Nat)
 (v14:ByteArray)
 (v15 v16:Int)
 (v17 v18:Int)
 (v19 v20:Int)
 (v21 v22:Int)
 (v23 v24:Int)
 (v25 v26:Int)
inductive D52_0 where
 | k0 (d0:Int) (d1:ByteArray) (d2 d3:Int) (d4:Array Value) (d5 d6:Nat) (d7:Array Value) (d8 d9:Nat) (d10:Array Value) (d11 d12:Nat) (d13:ByteArray) (d14 d15:Int) (d16 d17:Int) (d18 d19:Int) (d20 d21:Int) (d22 d23:Int) (d24 d25:Int)
 | k1 (d0:ByteArray) (d1 d2:Int) (d3:Array Value) (d4 d5:Nat) (d6:Array Value) (d7 d8:Nat) (d9:Array Value) (d10 d11:Nat) (d12:ByteArray) (d13 d14:Int) (d15 d16:Int) (d17 d18:Int) (d19 d20:Int) (d21 d22:Int) (d23 d24:Int)
def Lp52_0:LoopOf X52_0 D52_0 where
 c:=(theLoop Try.prog 52 0)
 N:=54
 M:=2
 S:=[1,2,5,6]
 sl:=fun x=>[(.int .i64 x.v0),(Value.pointer (Option.some (Addr.mk 0 0 Option.none))),(Value.pointer (Option.some (Addr.mk 1 0 Option.none))),(.int .i64 x.v1)]
 hp:=fun x=>[.cells ⟨[(.string x.v2),(.int .i64 x.v3),(.int .i64 x.v4),(lstV x.v5 x.v6 x.v7 2),(lstV x.v8 x.v9 x.v10 13),(lstV x.v11 x.v12 x.v13 13)]⟩ false,.cells ⟨[(.string x.v14),(.int .i64 x.v15),(.int .i64 x.v16),(.int .i64 x.v17),(.int .i64 x.v18),(.int .i64 x.v19),(.int .i64 x.v20),(.int .i64 x.v21),(.int .i64 x.v22),(.int .i64 x.v23),(.int .i64 x.v24),(.int .i64 x.v25),(.int .i64 x.v26)]⟩ false]
 ex:=fun d=>match d with | .k0 ..=>.ret | .k1 ..=>.exit 0
 pick:=fun e=>match e with | .ret=>[4] | .exit 0=>[5] | _=>[]
 dv:=fun d=>match d with | .k0 d0 d1 d2 d3 d4 d5 d6 d7 d8 d9 d10 d11 d12 d13 d14 d15 d16 d17 d18 d19 d20 d21 d22 d23 d24 d25=>[(.int .i64 d0)] | .k1 d0 d1 d2 d3 d4 d5 d6 d7 d8 d9 d10 d11 d12 d13 d14 d15 d16 d17 d18 d19 d20 d21 d22 d23 d24=>[(Value.pointer (Option.some (Addr.mk 1 0 Option.none)))]
 dh:=fun d=>match d with | .k0 d0 d1 d2 d3 d4 d5 d6 d7 d8 d9 d10 d11 d12 d13 d14 d15 d16 d17 d18 d19 d20 d21 d22 d23 d24 d25=>[.cells ⟨[(.string d1),(.int .i64 d2),(.int .i64 d3),(lstV d4 d5 d6 2),(lstV d7 d8 d9 13),(lstV d10 d11 d12 13)]⟩ false,.cells ⟨[(.string d13),(.int .i64 d14),(.int .i64 d15),(.int .i64 d16),(.int .i64 d17),(.int .i64 d18),(.int .i64 d19),(.int .i64 d20),(.int .i64 d21),(.int .i64 d22),(.int .i64 d23),(.int .i64 d24),(.int .i64 d25)]⟩ false] | .k1 d0 d1 d2 d3 d4 d5 d6 d7 d8 d9 d10 d11 d12 d13 d14 d15 d16 d17 d18 d19 d20 d21 d22 d23 d24=>[.cells ⟨[(.string d0),(.int .i64 d1),(.int .i64 d2),(lstV d3 d4 d5 2),(lstV d6 d7 d8 13),(lstV d9 d10 d11 13)]⟩ false,.cells ⟨[(.string d12),(.int .i64 d13),(.int .i64 d14),(.int .i64 d15),(.int .i64 d16),(.int .i64 d17),(.int .i64 d18),(.int .i64 d19),(.int .i64 d20),(.int .i64 d21),(.int .i64 d22),(.int .i64 d23),(.int .i64 d24)]⟩ false]
theorem ok52_0:Lp52_0.Ok:=⟨fun x=>rfl,fun x=>rfl,fun x=>rfl,fun x=>rfl,fun d=>by cases d<;>rfl,fun d=>by cases d<;>rfl,fun d=>by cases d<;>rfl,fun d=>by cases d<;>(intro h;cases h),fun d=>by cases d<;>rfl,fun d=>by cases d<;>rfl⟩
def rd52_0 (x:X52_0):RT (Sum X52_0 D52_0):=match x with
 | ⟨v0,v1,v2,v3,v4,v5,v6,v7,v8,v9,v10,v11,v12,v13,v14,v15,v16,v17,v18,v19,v20,v21,v22,v23,v24,v25,v26⟩ =>
   .br (decide (v1<v0)) (.br (and (decide ((0:Int)≤v1)) (decide (v1<(Int.ofNat v13)))) (.br (isStr v11 ((v12+((Int.toNat v1)*13))+0)) (.br (strEq (getStr v11 ((v12+((Int.toNat v1)*13))+0)) v14) (.leaf (.inr (.k0 ((5:Int)) v2 v3 v4 v5 v6 v7 v8 v9 v10 v11 v12 v13 v14 v15 v16 v17 v18 v19 v20 v21 v22 v23 v24 v25 v26))) (.leaf (.inl ⟨v0,(IntKind.wrap .i64 (v1+(1:Int))),v2,v3,v4,v5,v6,v7,v8,v9,v10,v11,v12,v13,v14,v15,v16,v17,v18,v19,v20,v21,v22,v23,v24,v25,v26⟩))) (.no)) (.no)) (.leaf (.inr (.k1 v2 v3 v4 v5 v6 v7 v8 v9 v10 v11 v12 v13 v14 v15 v16 v17 v18 v19 v20 v21 v22 v23 v24 v25 v26)))
theorem T52_0  (y:List Value) (v0 v1:Int) (v2:ByteArray) (v3 v4:Int) (v5:Array Value) (v6 v7:Nat) (v8:Array Value) (v9 v10:Nat) (v11:Array Value) (v12 v13:Nat) (v14:ByteArray) (v15 v16:Int) (v17 v18:Int) (v19 v20:Int) (v21 v22:Int) (v23 v24:Int) (v25 v26:Int):evC Try.prog (Ans.c (p47.or (p50.or (p88.or p89)))) 60 (.code none (theLoop Try.prog 52 0) ⟨sets (junkF 54 y) [(1,(.int .i64 v0)),(2,(Value.pointer (some (Addr.mk 0 0 none)))),(5,(Value.pointer (some (Addr.mk 1 0 none)))),(6,(.int .i64 v1))],[],⟨[.cells ⟨[(.string v2),(.int .i64 v3),(.int .i64 v4),(lstV v5 v6 v7 2),(lstV v8 v9 v10 13),(lstV v11 v12 v13 13)]⟩ false,.cells ⟨[(.string v14),(.int .i64 v15),(.int .i64 v16),(.int .i64 v17),(.int .i64 v18),(.int .i64 v19),(.int .i64 v20),(.int .i64 v21),(.int .i64 v22),(.int .i64 v23),(.int .i64 v24),(.int .i64 v25),(.int .i64 v26)]⟩ false],0,[]⟩⟩) (sumK 2 54 Lp52_0.pk)=(rd52_0 ⟨v0,v1,v2,v3,v4,v5,v6,v7,v8,v9,v10,v11,v12,v13,v14,v15,v16,v17,v18,v19,v20,v21,v22,v23,v24,v25,v26⟩).out Lp52_0.enc:=by kernel_rfl
def L52_0 (x:X52_0):Option D52_0:=loopR rd52_0 x
section
variable (x:X52_0)
def L52_0_k0:Bool:=match L52_0 x with | some (.k0 ..)=>true | _=>false
def Qh0:Int:=match L52_0 x with | some (.k0 (d0:=d) ..)=>d | _=>0
def Qh1:ByteArray:=match L52_0 x with | some (.k0 (d1:=d) ..)=>d | _=>ByteArray.empty
def Qh2:Int:=match L52_0 x with | some (.k0 (d2:=d) ..)=>d | _=>0
def Qh3:Int:=match L52_0 x with | some (.k0 (d3:=d) ..)=>d | _=>0
def Qh4:Array Value:=match L52_0 x with | some (.k0 (d4:=d) ..)=>d | _=>#[]
def Qh5:Nat:=match L52_0 x with | some (.k0 (d5:=d) ..)=>d | _=>0
def Qh6:Nat:=match L52_0 x with | some (.k0 (d6:=d) ..)=>d | _=>0
def Qh7:Array Value:=match L52_0 x with | some (.k0 (d7:=d) ..)=>d | _=>#[]
def Qh8:Nat:=match L52_0 x with | some (.k0 (d8:=d) ..)=>d | _=>0
def Qh9:Nat:=match L52_0 x with | some (.k0 (d9:=d) ..)=>d | _=>0
def Qh10:Array Value:=match L52_0 x with | some (.k0 (d10:=d) ..)=>d | _=>#[]
def Qh11:Nat:=match L52_0 x with | some (.k0 (d11:=d) ..)=>d | _=>0
def Qh12:Nat:=match L52_0 x with | some (.k0 (d12:=d) ..)=>d | _=>0
def Qh13:ByteArray:=match L52_0 x with | some (.k0 (d13:=d) ..)=>d | _=>ByteArray.empty
def Qh14:Int:=match L52_0 x with | some (.k0 (d14:=d) ..)=>d | _=>0
def Qh15:Int:=match L52_0 x with | some (.k0 (d15:=d) ..)=>d | _=>0
def Qh16:Int:=match L52_0 x with | some (.k0 (d16:=d) ..)=>d | _=>0
def Qh17:Int:=match L52_0 x with | some (.k0 (d17:=d) ..)=>d | _=>0
def Qh18:Int:=match L52_0 x with | some (.k0 (d18:=d) ..)=>d | _=>0
def Qh19:Int:=match L52_0 x with | some (.k0 (d19:=d) ..)=>d | _=>0
def Qh20:Int:=match L52_0 x with | some (.k0 (d20:=d) ..)=>d | _=>0
def Qh21:Int:=match L52_0 x with | some (.k0 (d21:=d) ..)=>d | _=>0
def Qh22:Int:=match L52_0 x with | some (.k0 (d22:=d) ..)=>d | _=>0
def Qh23:Int:=match L52_0 x with | some (.k0 (d23:=d) ..)=>d | _=>0
def Qh24:Int:=match L52_0 x with | some (.k0 (d24:=d) ..)=>d | _=>0
def Qh25:Int:=match L52_0 x with | some (.k0 (d25:=d) ..)=>d | _=>0
def L52_0_k1:Bool:=match L52_0 x with | some (.k1 ..)=>true | _=>false
def Qi0:ByteArray:=match L52_0 x with | some (.k1 (d0:=d) ..)=>d | _=>ByteArray.empty
def Qi1:Int:=match L52_0 x with | some (.k1 (d1:=d) ..)=>d | _=>0
def Qi2:Int:=match L52_0 x with | some (.k1 (d2:=d) ..)=>d | _=>0
def Qi3:Array Value:=match L52_0 x with | some (.k1 (d3:=d) ..)=>d | _=>#[]
def Qi4:Nat:=match L52_0 x with | some (.k1 (d4:=d) ..)=>d | _=>0
def Qi5:Nat:=match L52_0 x with | some (.k1 (d5:=d) ..)=>d | _=>0
def Qi6:Array Value:=match L52_0 x with | some (.k1 (d6:=d) ..)=>d | _=>#[]
def Qi7:Nat:=match L52_0 x with | some (.k1 (d7:=d) ..)=>d | _=>0
def Qi8:Nat:=match L52_0 x with | some (.k1 (d8:=d) ..)=>d | _=>0
def Qi9:Array Value:=match L52_0 x with | some (.k1 (d9:=d) ..)=>d | _=>#[]
def Qi10:Nat:=match L52_0 x with | some (.k1 (d10:=d) ..)=>d | _=>0
def Qi11:Nat:=match L52_0 x with | some (.k1 (d11:=d) ..)=>d | _=>0
def Qi12:ByteArray:=match L52_0 x with | some (.k1 (d12:=d) ..)=>d | _=>ByteArray.empty
def Qi13:Int:=match L52_0 x with | some (.k1 (d13:=d) ..)=>d | _=>0
def Qi14:Int:=match L52_0 x with | some (.k1 (d14:=d) ..)=>d | _=>0
def Qi15:Int:=match L52_0 x with | some (.k1 (d15:=d) ..)=>d | _=>0
def Qi16:Int:=match L52_0 x with | some (.k1 (d16:=d) ..)=>d | _=>0
def Qi17:Int:=match L52_0 x with | some (.k1 (d17:=d) ..)=>d | _=>0
def Qi18:Int:=match L52_0 x with | some (.k1 (d18:=d) ..)=>d | _=>0
def Qi19:Int:=match L52_0 x with | some (.k1 (d19:=d) ..)=>d | _=>0
def Qi20:Int:=match L52_0 x with | some (.k1 (d20:=d) ..)=>d | _=>0
def Qi21:Int:=match L52_0 x with | some (.k1 (d21:=d) ..)=>d | _=>0
def Qi22:Int:=match L52_0 x with | some (.k1 (d22:=d) ..)=>d | _=>0
def Qi23:Int:=match L52_0 x with | some (.k1 (d23:=d) ..)=>d | _=>0
def Qi24:Int:=match L52_0 x with | some (.k1 (d24:=d) ..)=>d | _=>0
end
def dec52_0:Task→Option (Code×X52_0)
 | .code none (.loop code) ⟨t,[],⟨[.cells ⟨[(.string v2),(.int .i64 v3),(.int .i64 v4),(.func (.via 0 ⟨[]⟩ 0 true) v5 ⟨[.slice (some ⟨0,v6,none⟩) v7 2]⟩),(.func (.via 0 ⟨[]⟩ 0 true) v8 ⟨[.slice (some ⟨0,v9,none⟩) v10 13]⟩),(.func (.via 0 ⟨[]⟩ 0 true) v11 ⟨[.slice (some ⟨0,v12,none⟩) v13 13]⟩)]⟩ false,.cells ⟨[(.string v14),(.int .i64 v15),(.int .i64 v16),(.int .i64 v17),(.int .i64 v18),(.int .i64 v19),(.int .i64 v20),(.int .i64 v21),(.int .i64 v22),(.int .i64 v23),(.int .i64 v24),(.int .i64 v25),(.int .i64 v26)]⟩ false],0,[]⟩⟩ =>
  (match Nat.beq (firstReg code) 5,lenIs t 54,lget t 1,lget t 2,lget t 5,lget t 6 with
  | true,true,(.int .i64 v0),(Value.pointer (Option.some (Addr.mk 0 0 Option.none))),(Value.pointer (Option.some (Addr.mk 1 0 Option.none))),(.int .i64 v1)=>some (code,⟨v0,v1,v2,v3,v4,v5,v6,v7,v8,v9,v10,v11,v12,v13,v14,v15,v16,v17,v18,v19,v20,v21,v22,v23,v24,v25,v26⟩)
  | _,_,_,_,_,_=>none)
 | _=>none
def alt52_0 (x:X52_0)(j:List Value):AT:=.br (L52_0_k0 x) (loopEnd 54 (.ret) [(4,(.int .i64 (Qh0 x)))] ⟨[.cells ⟨[(.string (Qh1 x)),(.int .i64 (Qh2 x)),(.int .i64 (Qh3 x)),(lstV (Qh4 x) (Qh5 x) (Qh6 x) 2),(lstV (Qh7 x) (Qh8 x) (Qh9 x) 13),(lstV (Qh10 x) (Qh11 x) (Qh12 x) 13)]⟩ false,.cells ⟨[(.string (Qh13 x)),(.int .i64 (Qh14 x)),(.int .i64 (Qh15 x)),(.int .i64 (Qh16 x)),(.int .i64 (Qh17 x)),(.int .i64 (Qh18 x)),(.int .i64 (Qh19 x)),(.int .i64 (Qh20 x)),(.int .i64 (Qh21 x)),(.int .i64 (Qh22 x)),(.int .i64 (Qh23 x)),(.int .i64 (Qh24 x)),(.int .i64 (Qh25 x))]⟩ false],0,[]⟩ j) (.br (L52_0_k1 x) (loopEnd 54 (.exit 0) [(5,(Value.pointer (Option.some (Addr.mk 1 0 Option.none))))] ⟨[.cells ⟨[(.string (Qi0 x)),(.int .i64 (Qi1 x)),(.int .i64 (Qi2 x)),(lstV (Qi3 x) (Qi4 x) (Qi5 x) 2),(lstV (Qi6 x) (Qi7 x) (Qi8 x) 13),(lstV (Qi9 x) (Qi10 x) (Qi11 x) 13)]⟩ false,.cells ⟨[(.string (Qi12 x)),(.int .i64 (Qi13 x)),(.int .i64 (Qi14 x)),(.int .i64 (Qi15 x)),(.int .i64 (Qi16 x)),(.int .i64 (Qi17 x)),(.int .i64 (Qi18 x)),(.int .i64 (Qi19 x)),(.int .i64 (Qi20 x)),(.int .i64 (Qi21 x)),(.int .i64 (Qi22 x)),(.int .i64 (Qi23 x)),(.int .i64 (Qi24 x))]⟩ false],0,[]⟩ j) (.no))
def la52_0 (J:Task→List Value):Ans:=loopAns Lp52_0.c dec52_0 alt52_0 J
theorem ha52_0:∀(x:X52_0) (j:List Value)(o:Out),(alt52_0 x j).out=some o→∃d,loopR rd52_0 x=some d∧o=Lp52_0.tail d j:=by
 intro x j o h;unfold alt52_0 at h
 cases hL:L52_0 x with
 | none=>simp [L52_0_k0,Qh0,Qh1,Qh2,Qh3,Qh4,Qh5,Qh6,Qh7,Qh8,Qh9,Qh10,Qh11,Qh12,Qh13,Qh14,Qh15,Qh16,Qh17,Qh18,Qh19,Qh20,Qh21,Qh22,Qh23,Qh24,Qh25,L52_0_k1,Qi0,Qi1,Qi2,Qi3,Qi4,Qi5,Qi6,Qi7,Qi8,Qi9,Qi10,Qi11,Qi12,Qi13,Qi14,Qi15,Qi16,Qi17,Qi18,Qi19,Qi20,Qi21,Qi22,Qi23,Qi24,hL,AT.out]at h
 | some d =>
  refine ⟨d,hL,?_⟩
  cases d<;>(simp only[L52_0_k0,Qh0,Qh1,Qh2,Qh3,Qh4,Qh5,Qh6,Qh7,Qh8,Qh9,Qh10,Qh11,Qh12,Qh13,Qh14,Qh15,Qh16,Qh17,Qh18,Qh19,Qh20,Qh21,Qh22,Qh23,Qh24,Qh25,L52_0_k1,Qi0,Qi1,Qi2,Qi3,Qi4,Qi5,Qi6,Qi7,Qi8,Qi9,Qi10,Qi11,Qi12,Qi13,Qi14,Qi15,Qi16,Qi17,Qi18,Qi19,Qi20,Qi21,Qi22,Qi23,Qi24,hL,AT.out,loopEnd,cond_true,cond_false,Option.some.injEq]at h;rw[← h];rfl)
theorem hd52_0:∀(t:Task) (c:Code)(x:X52_0),dec52_0 t=some (c,x)→c=Lp52_0.c→∃T,t=.code none (.loop Lp52_0.c) ⟨T,[],⟨Lp52_0.hp x,0,[]⟩⟩∧T.length=Lp52_0.N∧∀kv∈Lp52_0.S.zip (Lp52_0.sl x),lget T kv.1=kv.2:=by
 intro t c x h hc;unfold dec52_0 at h
 split at h
 case h_2=>cases h
 split at h
 case h_2=>cases h
 simp only[Option.some.injEq,Prod.mk.injEq]at h;obtain ⟨rfl,rfl⟩:=h;subst hc
 refine ⟨_,rfl,lenIs_eq _ _ (by assumption),?_⟩
 intro kv hk;simp only[Lp52_0,List.zip_cons_cons,List.zip_nil_right,List.mem_cons,List.not_mem_nil,or_false]at hk
 rcases hk with rfl | rfl | rfl | rfl<;>assumption
theorem kl52_0:∃J,Known Try.prog (la52_0 J):=by
 exact LoopOf.known noNG mixed ok52_0 (by decide) (by decide) (Known.or known47 (Known.or known50 (Known.or known88 known89))) (n:=60) (rd:=rd52_0) (fun x j=>T52_0  j x.v0 x.v1 x.v2 x.v3 x.v4 x.v5 x.v6 x.v7 x.v8 x.v9 x.v10 x.v11 x.v12 x.v13 x.v14 x.v15 x.v16 x.v17 x.v18 x.v19 x.v20 x.v21 x.v22 x.v23 x.v24 x.v25 x.v26) dec52_0 alt52_0 hd52_0 ha52_0
structure R52 where
 (r0:Int)
structure A52 where
 (a0:ByteArray)
 (a1 a2:Int)
 (a3:Array Value)
 (a4 a5:Nat)
 (a6:Array Value)
 (a7 a8:Nat)
 (a9:Array Value)
 (a10 a11:Nat)
 (a12:Int)
def rt52 (a0:ByteArray)(a1 a2:Int)(a3:Array Value)(a4 a5:Nat)(a6:Array Value)(a7 a8:Nat)(a9:Array Value)(a10 a11:Nat)(a12:Int):RT R52 :=let u0:=(Int.toNat a12);let u1:=(getInt a9 (((((((((((((a10+(u0*13))+1)+1)+1)+1)+1)+1)+1)+1)+1)+1)+1)+1));let u2:=(getInt a9 ((((((((((((a10+(u0*13))+1)+1)+1)+1)+1)+1)+1)+1)+1)+1)+1));let u3:=(getInt a9 (((((((((((a10+(u0*13))+1)+1)+1)+1)+1)+1)+1)+1)+1)+1));let u4:=(getInt a9 ((((((((((a10+(u0*13))+1)+1)+1)+1)+1)+1)+1)+1)+1));let u5:=(getInt a9 (((((((((a10+(u0*13))+1)+1)+1)+1)+1)+1)+1)+1));let u6:=(getInt a9 ((((((((a10+(u0*13))+1)+1)+1)+1)+1)+1)+1));let u7:=(getInt a9 (((((((a10+(u0*13))+1)+1)+1)+1)+1)+1));let u8:=(getInt a9 ((((((a10+(u0*13))+1)+1)+1)+1)+1));let u9:=(getInt a9 (((((a10+(u0*13))+1)+1)+1)+1));let u10:=(getInt a9 ((((a10+(u0*13))+1)+1)+1));let u11:=(getInt a9 (((a10+(u0*13))+1)+1));let u12:=(getInt a9 ((a10+(u0*13))+1));let u13:=(getStr a9 (a10+(u0*13)));let u14:=(Leaf.int .i64);let u15:=(Qi13 (X52_0.mk a12 (0:Int) a0 a1 a2 a3 a4 a5 a6 a7 a8 a9 a10 a11 u13 u12 u11 u10 u9 u8 u7 u6 u5 u4 u3 u2 u1));let u16:=(Qi14 (X52_0.mk a12 (0:Int) a0 a1 a2 a3 a4 a5 a6 a7 a8 a9 a10 a11 u13 u12 u11 u10 u9 u8 u7 u6 u5 u4 u3 u2 u1));let u17:=(Qi15 (X52_0.mk a12 (0:Int) a0 a1 a2 a3 a4 a5 a6 a7 a8 a9 a10 a11 u13 u12 u11 u10 u9 u8 u7 u6 u5 u4 u3 u2 u1));let u18:=(Qi16 (X52_0.mk a12 (0:Int) a0 a1 a2 a3 a4 a5 a6 a7 a8 a9 a10 a11 u13 u12 u11 u10 u9 u8 u7 u6 u5 u4 u3 u2 u1));let u19:=(Qi17 (X52_0.mk a12 (0:Int) a0 a1 a2 a3 a4 a5 a6 a7 a8 a9 a10 a11 u13 u12 u11 u10 u9 u8 u7 u6 u5 u4 u3 u2 u1));let u20:=(Qi18 (X52_0.mk a12 (0:Int) a0 a1 a2 a3 a4 a5 a6 a7 a8 a9 a10 a11 u13 u12 u11 u10 u9 u8 u7 u6 u5 u4 u3 u2 u1));let u21:=(Qi19 (X52_0.mk a12 (0:Int) a0 a1 a2 a3 a4 a5 a6 a7 a8 a9 a10 a11 u13 u12 u11 u10 u9 u8 u7 u6 u5 u4 u3 u2 u1));let u22:=(Qi20 (X52_0.mk a12 (0:Int) a0 a1 a2 a3 a4 a5 a6 a7 a8 a9 a10 a11 u13 u12 u11 u10 u9 u8 u7 u6 u5 u4 u3 u2 u1));let u23:=(Qi21 (X52_0.mk a12 (0:Int) a0 a1 a2 a3 a4 a5 a6 a7 a8 a9 a10 a11 u13 u12 u11 u10 u9 u8 u7 u6 u5 u4 u3 u2 u1));let u24:=(Qi22 (X52_0.mk a12 (0:Int) a0 a1 a2 a3 a4 a5 a6 a7 a8 a9 a10 a11 u13 u12 u11 u10 u9 u8 u7 u6 u5 u4 u3 u2 u1));let u25:=(Qi23 (X52_0.mk a12 (0:Int) a0 a1 a2 a3 a4 a5 a6 a7 a8 a9 a10 a11 u13 u12 u11 u10 u9 u8 u7 u6 u5 u4 u3 u2 u1));let u26:=(Qi24 (X52_0.mk a12 (0:Int) a0 a1 a2 a3 a4 a5 a6 a7 a8 a9 a10 a11 u13 u12 u11 u10 u9 u8 u7 u6 u5 u4 u3 u2 u1));
 .br (and (decide ((0:Int)≤a12)) (decide (a12<(Int.ofNat a11)))) (.br (rdOk a9 [Leaf.str,u14,u14,u14,u14,u14,u14,u14,u14,u14,u14,u14,u14] (a10+(u0*13))) (.br (F47_ok u13) (.br (not (F47_0 u13)) (.leaf ⟨(6:Int)⟩)
   (.sw (eqCode (Lp52_0.c) (Lp52_0.c)) true (by simp only[eqCode_self,arrEq_self])
   (.br (L52_0_k0 (X52_0.mk a12 (0:Int) a0 a1 a2 a3 a4 a5 a6 a7 a8 a9 a10 a11 u13 u12 u11 u10 u9 u8 u7 u6 u5 u4 u3 u2 u1)) (.leaf ⟨(Qh0 (X52_0.mk a12 (0:Int) a0 a1 a2 a3 a4 a5 a6 a7 a8 a9 a10 a11 u13 u12 u11 u10 u9 u8 u7 u6 u5 u4 u3 u2 u1))⟩)
   (.br (L52_0_k1 (X52_0.mk a12 (0:Int) a0 a1 a2 a3 a4 a5 a6 a7 a8 a9 a10 a11 u13 u12 u11 u10 u9 u8 u7 u6 u5 u4 u3 u2 u1))
   (.br (F50_ok u15 (1:Int) (3000:Int))
   (.br (not (F50_0 u15 (1:Int) (3000:Int))) (.leaf ⟨(7:Int)⟩)
   (.br (F88_ok u16 u17 u18 u19)
   (.br (not (F88_0 u16 u17 u18 u19)) (.leaf ⟨(7:Int)⟩)
   (.br (F89_ok u20 u21 u22 u23 u24 u25 (1000000:Int))
   (.br (not (F89_0 u20 u21 u22 u23 u24 u25 (1000000:Int))) (.leaf ⟨(7:Int)⟩)
   (.br (F50_ok u26 (0:Int) (2000000000:Int))
   (.br (not (F50_0 u26 (0:Int) (2000000000:Int))) (.leaf ⟨(7:Int)⟩) (.leaf ⟨(0:Int)⟩)) (.no))) (.no))) (.no))) (.no)) (.no))) (.no))) (.no)) (.no)) (.no)
def en52 (r:R52):Value:=(.int .i64 r.r0)
theorem T52 (J0:Task→List Value)(a0:ByteArray)(a1 a2:Int)(a3:Array Value)(a4 a5:Nat)(a6:Array Value)(a7 a8:Nat)(a9:Array Value)(a10 a11:Nat)(a12:Int):evC Try.prog (Ans.c (p47.or (p50.or (p88.or (p89.or (la52_0 J0)))))) 60 (.call 52 ⟨[(.agg ⟨[(.string a0),(.int .i64 a1),(.int .i64 a2),(lstV a3 a4 a5 2),(lstV a6 a7 a8 13),(lstV a9 a10 a11 13)]⟩),(.int .i64 a12)]⟩ ⟨[],0,[]⟩) (frzK [0])=(rt52 a0 a1 a2 a3 a4 a5 a6 a7 a8 a9 a10 a11 a12).out (fun r=>.ret (en52 r) ⟨[],0,[]⟩):=by kernel_rfl
def F52 (a0:ByteArray)(a1 a2:Int)(a3:Array Value)(a4 a5:Nat)(a6:Array Value)(a7 a8:Nat)(a9:Array Value)(a10 a11:Nat)(a12:Int):Option R52:=(rt52 a0 a1 a2 a3 a4 a5 a6 a7 a8 a9 a10 a11 a12).val
section
variable (a0:ByteArray) (a1 a2:Int) (a3:Array Value) (a4 a5:Nat) (a6:Array Value) (a7 a8:Nat) (a9:Array Value) (a10 a11:Nat) (a12:Int)
def F52_ok:Bool:=(F52 a0 a1 a2 a3 a4 a5 a6 a7 a8 a9 a10 a11 a12).isSome
def F52_0:Int:=match F52 a0 a1 a2 a3 a4 a5 a6 a7 a8 a9 a10 a11 a12 with | some r=>r.r0 | none=>0
end
def dec52:Task→Option (A52×Hp)
 | .call g ⟨[(.agg ⟨[(.string a0),(.int .i64 a1),(.int .i64 a2),(.func (.via 0 ⟨[]⟩ 0 true) a3 ⟨[.slice (some ⟨0,a4,none⟩) a5 2]⟩),(.func (.via 0 ⟨[]⟩ 0 true) a6 ⟨[.slice (some ⟨0,a7,none⟩) a8 13]⟩),(.func (.via 0 ⟨[]⟩ 0 true) a9 ⟨[.slice (some ⟨0,a10,none⟩) a11 13]⟩)]⟩),(.int .i64 a12)]⟩ h=>(match Nat.beq g 52 with | true=>some (⟨a0,a1,a2,a3,a4,a5,a6,a7,a8,a9,a10,a11,a12⟩,h) | false=>none)
 | _=>none
def alt52 (x:A52)(h:Hp):AT:=.br (F52_ok x.a0 x.a1 x.a2 x.a3 x.a4 x.a5 x.a6 x.a7 x.a8 x.a9 x.a10 x.a11 x.a12) (.leaf (.ret (.int .i64 (F52_0 x.a0 x.a1 x.a2 x.a3 x.a4 x.a5 x.a6 x.a7 x.a8 x.a9 x.a10 x.a11 x.a12)) h)) .no
def p52:Ans:=fnAns dec52 alt52
theorem ha52:∀(x:A52) (h:Hp)(o:Out),(alt52 x h).out=some o→∃r,(rt52 x.a0 x.a1 x.a2 x.a3 x.a4 x.a5 x.a6 x.a7 x.a8 x.a9 x.a10 x.a11 x.a12).val=some r∧o=.ret (en52 r) h:=by
 intro x h o e;unfold alt52 at e;simp only[AT.out]at e;obtain ⟨g,e⟩:=cond_some e;unfold F52_ok at g;obtain ⟨r,hF⟩:=Option.isSome_iff_exists.1 g
 refine ⟨r,by delta F52 at hF;exact hF,?_⟩
 simp only[Option.some.injEq]at e;rw[← e]
 unfold F52_0;rw[hF]<;>rfl
theorem hd52:∀(t:Task) (x:A52)(h:Hp),dec52 t=some (x,h)→t=.call 52 ⟨[(.agg ⟨[(.string x.a0),(.int .i64 x.a1),(.int .i64 x.a2),(lstV x.a3 x.a4 x.a5 2),(lstV x.a6 x.a7 x.a8 13),(lstV x.a9 x.a10 x.a11 13)]⟩),(.int .i64 x.a12)]⟩ h:=by
 intro t x h e;unfold dec52 at e
 split at e
 case h_2=>cases e
 split at e
 case h_2=>cases e
 rename_i hg;simp only[Option.some.injEq,Prod.mk.injEq]at e;obtain ⟨rfl,rfl⟩:=e;rw[Nat.eq_of_beq_eq_true hg]
theorem known52:Known Try.prog p52:=by
 obtain ⟨J0,hJ0⟩:=kl52_0
 exact Known.fn noNG mixed (Known.or known47 (Known.or known50 (Known.or known88 (Known.or known89 hJ0)))) (n:=60) (zs:=[0]) 52 (fun x:A52=>[(.agg ⟨[(.string x.a0),(.int .i64 x.a1),(.int .i64 x.a2),(lstV x.a3 x.a4 x.a5 2),(lstV x.a6 x.a7 x.a8 13),(lstV x.a9 x.a10 x.a11 13)]⟩),(.int .i64 x.a12)]) (fun x=>rt52 x.a0 x.a1 x.a2 x.a3 x.a4 x.a5 x.a6 x.a7 x.a8 x.a9 x.a10 x.a11 x.a12) en52 (fun x=>T52 J0 x.a0 x.a1 x.a2 x.a3 x.a4 x.a5 x.a6 x.a7 x.a8 x.a9 x.a10 x.a11 x.a12) (fun x=>rfl) dec52 alt52 hd52 ha52
end
end Go.Proofs.Ytggaomgopenkfaa
