/- Part 10 of the texts below the claim. Conditions: none. -/
import Derived.Test.YtggaomgopenkfaaMg7
import Derived.Test.YtggaomgopenkfaaMg8
import Derived.Test.YtggaomgopenkfaaMg9
import Derived.Test.YtggaomgopenkfaaRows
set_option linter.unusedVariables false
set_option linter.unusedSimpArgs false
namespace Go.Proofs.Ytggaomgopenkfaa
open Go.Gi Go.RowKit Go.Proofs.Ytggaomgopenkfaa.Old
noncomputable section
set_option maxRecDepth 100000
set_option maxHeartbeats 4000000
structure X14_0 where
 (v0:Int)
 (v1:ByteArray)
 (v2 v3:Int)
 (v4:Array Value)
 (v5 v6:Nat)
 (v7:Array Value)
 (v8 v9:Nat)
 (v10:Array Value)
 (v11 v12:Nat)
inductive D14_0 where
 | k0 (d0 d1 d2:Int) (d3:ByteArray) (d4 d5:Int) (d6:Array Value) (d7 d8:Nat) (d9:Array Value) (d10 d11:Nat) (d12:Array Value) (d13 d14:Nat)
 | k1 (d0:ByteArray) (d1 d2:Int) (d3:Array Value) (d4 d5:Nat) (d6:Array Value) (d7 d8:Nat) (d9:Array Value) (d10 d11:Nat)
def Lp14_0:LoopOf X14_0 D14_0 where
 c:=(theLoop Try.prog 14 0)
 N:=77
 M:=1
 S:=[1,5]
 sl:=fun x=>[(Value.pointer (Option.some (Addr.mk 0 0 Option.none))),(.int .i64 x.v0)]
 hp:=fun x=>[.cells ⟨[(.string x.v1),(.int .i64 x.v2),(.int .i64 x.v3),(lstV x.v4 x.v5 x.v6 2),(lstV x.v7 x.v8 x.v9 13),(lstV x.v10 x.v11 x.v12 13)]⟩ false]
 ex:=fun d=>match d with | .k0 ..=>.ret | .k1 ..=>.exit 0
 pick:=fun e=>match e with | .ret=>[2,3,4] | .exit 0=>[1] | _=>[]
 dv:=fun d=>match d with | .k0 d0 d1 d2 d3 d4 d5 d6 d7 d8 d9 d10 d11 d12 d13 d14=>[(.int .i64 d0),(.int .i64 d1),(.int .i64 d2)] | .k1 d0 d1 d2 d3 d4 d5 d6 d7 d8 d9 d10 d11=>[(Value.pointer (Option.some (Addr.mk 0 0 Option.none)))]
 dh:=fun d=>match d with | .k0 d0 d1 d2 d3 d4 d5 d6 d7 d8 d9 d10 d11 d12 d13 d14=>[.cells ⟨[(.string d3),(.int .i64 d4),(.int .i64 d5),(lstV d6 d7 d8 2),(lstV d9 d10 d11 13),(lstV d12 d13 d14 13)]⟩ false] | .k1 d0 d1 d2 d3 d4 d5 d6 d7 d8 d9 d10 d11=>[.cells ⟨[(.string d0),(.int .i64 d1),(.int .i64 d2),(lstV d3 d4 d5 2),(lstV d6 d7 d8 13),(lstV d9 d10 d11 13)]⟩ false]
theorem ok14_0:Lp14_0.Ok:=⟨fun x=>rfl,fun x=>rfl,fun x=>rfl,fun x=>rfl,fun d=>by cases d<;>rfl,fun d=>by cases d<;>rfl,fun d=>by cases d<;>rfl,fun d=>by cases d<;>(intro h;cases h),fun d=>by cases d<;>rfl,fun d=>by cases d<;>rfl⟩
def rd14_0 (x:X14_0):RT (Sum X14_0 D14_0):=match x with
 | ⟨v0,v1,v2,v3,v4,v5,v6,v7,v8,v9,v10,v11,v12⟩ =>
   .br (decide (v0<(Int.ofNat v6))) (.br (F49_ok v1 v2 v3 v4 v5 v6 v7 v8 v9 v10 v11 v12 v0) (.br (not (decide ((F49_0 v1 v2 v3 v4 v5 v6 v7 v8 v9 v10 v11 v12 v0)=(0:Int)))) (.leaf (.inr (.k0 ((2:Int)) v0 ((F49_0 v1 v2 v3 v4 v5 v6 v7 v8 v9 v10 v11 v12 v0)) v1 v2 v3 v4 v5 v6 v7 v8 v9 v10 v11 v12))) (.leaf (.inl ⟨(IntKind.wrap .i64 (v0+(1:Int))),v1,v2,v3,v4,v5,v6,v7,v8,v9,v10,v11,v12⟩))) (.no)) (.leaf (.inr (.k1 v1 v2 v3 v4 v5 v6 v7 v8 v9 v10 v11 v12)))
theorem T14_0  (y:List Value) (v0:Int) (v1:ByteArray) (v2 v3:Int) (v4:Array Value) (v5 v6:Nat) (v7:Array Value) (v8 v9:Nat) (v10:Array Value) (v11 v12:Nat):evC Try.prog (Ans.c (p47.or (p48.or (p49.or (p50.or (p51.or p52)))))) 60 (.code none (theLoop Try.prog 14 0) ⟨sets (junkF 77 y) [(1,(Value.pointer (some (Addr.mk 0 0 none)))),(5,(.int .i64 v0))],[],⟨[.cells ⟨[(.string v1),(.int .i64 v2),(.int .i64 v3),(lstV v4 v5 v6 2),(lstV v7 v8 v9 13),(lstV v10 v11 v12 13)]⟩ false],0,[]⟩⟩) (sumK 1 77 Lp14_0.pk)=(rd14_0 ⟨v0,v1,v2,v3,v4,v5,v6,v7,v8,v9,v10,v11,v12⟩).out Lp14_0.enc:=by kernel_rfl
def L14_0 (x:X14_0):Option D14_0:=loopR rd14_0 x
section
variable (x:X14_0)
def L14_0_k0:Bool:=match L14_0 x with | some (.k0 ..)=>true | _=>false
def Qj0:Int:=match L14_0 x with | some (.k0 (d0:=d) ..)=>d | _=>0
def Qj1:Int:=match L14_0 x with | some (.k0 (d1:=d) ..)=>d | _=>0
def Qj2:Int:=match L14_0 x with | some (.k0 (d2:=d) ..)=>d | _=>0
def Qj3:ByteArray:=match L14_0 x with | some (.k0 (d3:=d) ..)=>d | _=>ByteArray.empty
def Qj4:Int:=match L14_0 x with | some (.k0 (d4:=d) ..)=>d | _=>0
def Qj5:Int:=match L14_0 x with | some (.k0 (d5:=d) ..)=>d | _=>0
def Qj6:Array Value:=match L14_0 x with | some (.k0 (d6:=d) ..)=>d | _=>#[]
def Qj7:Nat:=match L14_0 x with | some (.k0 (d7:=d) ..)=>d | _=>0
def Qj8:Nat:=match L14_0 x with | some (.k0 (d8:=d) ..)=>d | _=>0
def Qj9:Array Value:=match L14_0 x with | some (.k0 (d9:=d) ..)=>d | _=>#[]
def Qj10:Nat:=match L14_0 x with | some (.k0 (d10:=d) ..)=>d | _=>0
def Qj11:Nat:=match L14_0 x with | some (.k0 (d11:=d) ..)=>d | _=>0
def Qj12:Array Value:=match L14_0 x with | some (.k0 (d12:=d) ..)=>d | _=>#[]
def Qj13:Nat:=match L14_0 x with | some (.k0 (d13:=d) ..)=>d | _=>0
def Qj14:Nat:=match L14_0 x with | some (.k0 (d14:=d) ..)=>d | _=>0
def L14_0_k1:Bool:=match L14_0 x with | some (.k1 ..)=>true | _=>false
def Qk0:ByteArray:=match L14_0 x with | some (.k1 (d0:=d) ..)=>d | _=>ByteArray.empty
def Qk1:Int:=match L14_0 x with | some (.k1 (d1:=d) ..)=>d | _=>0
def Qk2:Int:=match L14_0 x with | some (.k1 (d2:=d) ..)=>d | _=>0
def Qk3:Array Value:=match L14_0 x with | some (.k1 (d3:=d) ..)=>d | _=>#[]
def Qk4:Nat:=match L14_0 x with | some (.k1 (d4:=d) ..)=>d | _=>0
def Qk5:Nat:=match L14_0 x with | some (.k1 (d5:=d) ..)=>d | _=>0
def Qk6:Array Value:=match L14_0 x with | some (.k1 (d6:=d) ..)=>d | _=>#[]
def Qk7:Nat:=match L14_0 x with | some (.k1 (d7:=d) ..)=>d | _=>0
def Qk8:Nat:=match L14_0 x with | some (.k1 (d8:=d) ..)=>d | _=>0
def Qk9:Array Value:=match L14_0 x with | some (.k1 (d9:=d) ..)=>d | _=>#[]
def Qk10:Nat:=match L14_0 x with | some (.k1 (d10:=d) ..)=>d | _=>0
def Qk11:Nat:=match L14_0 x with | some (.k1 (d11:=d) ..)=>d | _=>0
end
def dec14_0:Task→Option (Code×X14_0)
 | .code none (.loop code) ⟨t,[],⟨[.cells ⟨[(.string v1),(.int .i64 v2),(.int .i64 v3),(.func (.via 0 ⟨[]⟩ 0 true) v4 ⟨[.slice (some ⟨0,v5,none⟩) v6 2]⟩),(.func (.via 0 ⟨[]⟩ 0 true) v7 ⟨[.slice (some ⟨0,v8,none⟩) v9 13]⟩),(.func (.via 0 ⟨[]⟩ 0 true) v10 ⟨[.slice (some ⟨0,v11,none⟩) v12 13]⟩)]⟩ false],0,[]⟩⟩ =>
  (match Nat.beq (firstReg code) 8,lenIs t 77,lget t 1,lget t 5 with
  | true,true,(Value.pointer (Option.some (Addr.mk 0 0 Option.none))),(.int .i64 v0)=>some (code,⟨v0,v1,v2,v3,v4,v5,v6,v7,v8,v9,v10,v11,v12⟩)
  | _,_,_,_=>none)
 | _=>none
def alt14_0 (x:X14_0)(j:List Value):AT:=.br (L14_0_k0 x) (loopEnd 77 (.ret) [(2,(.int .i64 (Qj0 x))),(3,(.int .i64 (Qj1 x))),(4,(.int .i64 (Qj2 x)))] ⟨[.cells ⟨[(.string (Qj3 x)),(.int .i64 (Qj4 x)),(.int .i64 (Qj5 x)),(lstV (Qj6 x) (Qj7 x) (Qj8 x) 2),(lstV (Qj9 x) (Qj10 x) (Qj11 x) 13),(lstV (Qj12 x) (Qj13 x) (Qj14 x) 13)]⟩ false],0,[]⟩ j) (.br (L14_0_k1 x) (loopEnd 77 (.exit 0) [(1,(Value.pointer (Option.some (Addr.mk 0 0 Option.none))))] ⟨[.cells ⟨[(.string (Qk0 x)),(.int .i64 (Qk1 x)),(.int .i64 (Qk2 x)),(lstV (Qk3 x) (Qk4 x) (Qk5 x) 2),(lstV (Qk6 x) (Qk7 x) (Qk8 x) 13),(lstV (Qk9 x) (Qk10 x) (Qk11 x) 13)]⟩ false],0,[]⟩ j) (.no))
def la14_0 (J:Task→List Value):Ans:=loopAns Lp14_0.c dec14_0 alt14_0 J
theorem ha14_0:∀(x:X14_0) (j:List Value)(o:Out),(alt14_0 x j).out=some o→∃d,loopR rd14_0 x=some d∧o=Lp14_0.tail d j:=by
 intro x j o h;unfold alt14_0 at h
 cases hL:L14_0 x with
 | none=>simp [L14_0_k0,Qj0,Qj1,Qj2,Qj3,Qj4,Qj5,Qj6,Qj7,Qj8,Qj9,Qj10,Qj11,Qj12,Qj13,Qj14,L14_0_k1,Qk0,Qk1,Qk2,Qk3,Qk4,Qk5,Qk6,Qk7,Qk8,Qk9,Qk10,Qk11,hL,AT.out]at h
 | some d =>
  refine ⟨d,hL,?_⟩
  cases d<;>(simp only[L14_0_k0,Qj0,Qj1,Qj2,Qj3,Qj4,Qj5,Qj6,Qj7,Qj8,Qj9,Qj10,Qj11,Qj12,Qj13,Qj14,L14_0_k1,Qk0,Qk1,Qk2,Qk3,Qk4,Qk5,Qk6,Qk7,Qk8,Qk9,Qk10,Qk11,hL,AT.out,loopEnd,cond_true,cond_false,Option.some.injEq]at h;rw[← h];rfl)
theorem hd14_0:∀(t:Task) (c:Code)(x:X14_0),dec14_0 t=some (c,x)→c=Lp14_0.c→∃T,t=.code none (.loop Lp14_0.c) ⟨T,[],⟨Lp14_0.hp x,0,[]⟩⟩∧T.length=Lp14_0.N∧∀kv∈Lp14_0.S.zip (Lp14_0.sl x),lget T kv.1=kv.2:=by
 intro t c x h hc;unfold dec14_0 at h
 split at h
 case h_2=>cases h
 split at h
 case h_2=>cases h
 simp only[Option.some.injEq,Prod.mk.injEq]at h;obtain ⟨rfl,rfl⟩:=h;subst hc
 refine ⟨_,rfl,lenIs_eq _ _ (by assumption),?_⟩
 intro kv hk;simp only[Lp14_0,List.zip_cons_cons,List.zip_nil_right,List.mem_cons,List.not_mem_nil,or_false]at hk
 rcases hk with rfl | rfl<;>assumption
theorem kl14_0:∃J,Known Try.prog (la14_0 J):=by
 exact LoopOf.known noNG mixed ok14_0 (by decide) (by decide) (Known.or known47 (Known.or known48 (Known.or known49 (Known.or known50 (Known.or known51 known52))))) (n:=60) (rd:=rd14_0) (fun x j=>T14_0  j x.v0 x.v1 x.v2 x.v3 x.v4 x.v5 x.v6 x.v7 x.v8 x.v9 x.v10 x.v11 x.v12) dec14_0 alt14_0 hd14_0 ha14_0
structure X14_1 where
 (v0:Int)
 (v1:ByteArray)
 (v2 v3:Int)
 (v4:Array Value)
 (v5 v6:Nat)
 (v7:Array Value)
 (v8 v9:Nat)
 (v10:Array Value)
 (v11 v12:Nat)
inductive D14_1 where
 | k0 (d0 d1 d2:Int) (d3:ByteArray) (d4 d5:Int) (d6:Array Value) (d7 d8:Nat) (d9:Array Value) (d10 d11:Nat) (d12:Array Value) (d13 d14:Nat)
 | k1 (d0:ByteArray) (d1 d2:Int) (d3:Array Value) (d4 d5:Nat) (d6:Array Value) (d7 d8:Nat) (d9:Array Value) (d10 d11:Nat)
def Lp14_1:LoopOf X14_1 D14_1 where
 c:=(theLoop Try.prog 14 1)
 N:=77
 M:=1
 S:=[1,7]
 sl:=fun x=>[(Value.pointer (Option.some (Addr.mk 0 0 Option.none))),(.int .i64 x.v0)]
 hp:=fun x=>[.cells ⟨[(.string x.v1),(.int .i64 x.v2),(.int .i64 x.v3),(lstV x.v4 x.v5 x.v6 2),(lstV x.v7 x.v8 x.v9 13),(lstV x.v10 x.v11 x.v12 13)]⟩ false]
 ex:=fun d=>match d with | .k0 ..=>.ret | .k1 ..=>.exit 2
 pick:=fun e=>match e with | .ret=>[2,3,4] | .exit 2=>[1] | _=>[]
 dv:=fun d=>match d with | .k0 d0 d1 d2 d3 d4 d5 d6 d7 d8 d9 d10 d11 d12 d13 d14=>[(.int .i64 d0),(.int .i64 d1),(.int .i64 d2)] | .k1 d0 d1 d2 d3 d4 d5 d6 d7 d8 d9 d10 d11=>[(Value.pointer (Option.some (Addr.mk 0 0 Option.none)))]
 dh:=fun d=>match d with | .k0 d0 d1 d2 d3 d4 d5 d6 d7 d8 d9 d10 d11 d12 d13 d14=>[.cells ⟨[(.string d3),(.int .i64 d4),(.int .i64 d5),(lstV d6 d7 d8 2),(lstV d9 d10 d11 13),(lstV d12 d13 d14 13)]⟩ false] | .k1 d0 d1 d2 d3 d4 d5 d6 d7 d8 d9 d10 d11=>[.cells ⟨[(.string d0),(.int .i64 d1),(.int .i64 d2),(lstV d3 d4 d5 2),(lstV d6 d7 d8 13),(lstV d9 d10 d11 13)]⟩ false]
theorem ok14_1:Lp14_1.Ok:=⟨fun x=>rfl,fun x=>rfl,fun x=>rfl,fun x=>rfl,fun d=>by cases d<;>rfl,fun d=>by cases d<;>rfl,fun d=>by cases d<;>rfl,fun d=>by cases d<;>(intro h;cases h),fun d=>by cases d<;>rfl,fun d=>by cases d<;>rfl⟩
def rd14_1 (x:X14_1):RT (Sum X14_1 D14_1):=match x with
 | ⟨v0,v1,v2,v3,v4,v5,v6,v7,v8,v9,v10,v11,v12⟩ =>let u1:=(Leaf.int .i64);let u2:=(Int.toNat v0);let u0:=(F51_0 (getInt v7 (v8+(u2*13))) (getInt v7 ((v8+(u2*13))+1)) (getInt v7 (((v8+(u2*13))+1)+1)) (getInt v7 ((((v8+(u2*13))+1)+1)+1)) (getInt v7 (((((v8+(u2*13))+1)+1)+1)+1)) (getInt v7 ((((((v8+(u2*13))+1)+1)+1)+1)+1)) (getInt v7 (((((((v8+(u2*13))+1)+1)+1)+1)+1)+1)) (getInt v7 ((((((((v8+(u2*13))+1)+1)+1)+1)+1)+1)+1)) (getInt v7 (((((((((v8+(u2*13))+1)+1)+1)+1)+1)+1)+1)+1)) (getInt v7 ((((((((((v8+(u2*13))+1)+1)+1)+1)+1)+1)+1)+1)+1)) (getInt v7 (((((((((((v8+(u2*13))+1)+1)+1)+1)+1)+1)+1)+1)+1)+1)) (getInt v7 ((((((((((((v8+(u2*13))+1)+1)+1)+1)+1)+1)+1)+1)+1)+1)+1)) (getInt v7 (((((((((((((v8+(u2*13))+1)+1)+1)+1)+1)+1)+1)+1)+1)+1)+1)+1)));
   .br (decide (v0<(Int.ofNat v9))) (.br (and (decide ((0:Int)≤v0)) (decide (v0<(Int.ofNat v9)))) (.br (rdOk v7 [u1,u1,u1,u1,u1,u1,u1,u1,u1,u1,u1,u1,u1] (v8+(u2*13)))
   (.br (F51_ok (getInt v7 (v8+(u2*13))) (getInt v7 ((v8+(u2*13))+1)) (getInt v7 (((v8+(u2*13))+1)+1)) (getInt v7 ((((v8+(u2*13))+1)+1)+1)) (getInt v7 (((((v8+(u2*13))+1)+1)+1)+1)) (getInt v7 ((((((v8+(u2*13))+1)+1)+1)+1)+1)) (getInt v7 (((((((v8+(u2*13))+1)+1)+1)+1)+1)+1)) (getInt v7 ((((((((v8+(u2*13))+1)+1)+1)+1)+1)+1)+1)) (getInt v7 (((((((((v8+(u2*13))+1)+1)+1)+1)+1)+1)+1)+1)) (getInt v7 ((((((((((v8+(u2*13))+1)+1)+1)+1)+1)+1)+1)+1)+1)) (getInt v7 (((((((((((v8+(u2*13))+1)+1)+1)+1)+1)+1)+1)+1)+1)+1)) (getInt v7 ((((((((((((v8+(u2*13))+1)+1)+1)+1)+1)+1)+1)+1)+1)+1)+1)) (getInt v7 (((((((((((((v8+(u2*13))+1)+1)+1)+1)+1)+1)+1)+1)+1)+1)+1)+1)))
   (.br (not (decide (u0=(0:Int)))) (.leaf (.inr (.k0 ((3:Int)) v0 (u0) v1 v2 v3 v4 v5 v6 v7 v8 v9 v10 v11 v12))) (.leaf (.inl ⟨(IntKind.wrap .i64 (v0+(1:Int))),v1,v2,v3,v4,v5,v6,v7,v8,v9,v10,v11,v12⟩))) (.no)) (.no)) (.no)) (.leaf (.inr (.k1 v1 v2 v3 v4 v5 v6 v7 v8 v9 v10 v11 v12)))
theorem T14_1  (y:List Value) (v0:Int) (v1:ByteArray) (v2 v3:Int) (v4:Array Value) (v5 v6:Nat) (v7:Array Value) (v8 v9:Nat) (v10:Array Value) (v11 v12:Nat):evC Try.prog (Ans.c (p47.or (p48.or (p49.or (p50.or (p51.or p52)))))) 60 (.code none (theLoop Try.prog 14 1) ⟨sets (junkF 77 y) [(1,(Value.pointer (some (Addr.mk 0 0 none)))),(7,(.int .i64 v0))],[],⟨[.cells ⟨[(.string v1),(.int .i64 v2),(.int .i64 v3),(lstV v4 v5 v6 2),(lstV v7 v8 v9 13),(lstV v10 v11 v12 13)]⟩ false],0,[]⟩⟩) (sumK 1 77 Lp14_1.pk)=(rd14_1 ⟨v0,v1,v2,v3,v4,v5,v6,v7,v8,v9,v10,v11,v12⟩).out Lp14_1.enc:=by kernel_rfl
def L14_1 (x:X14_1):Option D14_1:=loopR rd14_1 x
section
variable (x:X14_1)
def L14_1_k0:Bool:=match L14_1 x with | some (.k0 ..)=>true | _=>false
def Ql0:Int:=match L14_1 x with | some (.k0 (d0:=d) ..)=>d | _=>0
def Ql1:Int:=match L14_1 x with | some (.k0 (d1:=d) ..)=>d | _=>0
def Ql2:Int:=match L14_1 x with | some (.k0 (d2:=d) ..)=>d | _=>0
def Ql3:ByteArray:=match L14_1 x with | some (.k0 (d3:=d) ..)=>d | _=>ByteArray.empty
def Ql4:Int:=match L14_1 x with | some (.k0 (d4:=d) ..)=>d | _=>0
def Ql5:Int:=match L14_1 x with | some (.k0 (d5:=d) ..)=>d | _=>0
def Ql6:Array Value:=match L14_1 x with | some (.k0 (d6:=d) ..)=>d | _=>#[]
def Ql7:Nat:=match L14_1 x with | some (.k0 (d7:=d) ..)=>d | _=>0
def Ql8:Nat:=match L14_1 x with | some (.k0 (d8:=d) ..)=>d | _=>0
def Ql9:Array Value:=match L14_1 x with | some (.k0 (d9:=d) ..)=>d | _=>#[]
def Ql10:Nat:=match L14_1 x with | some (.k0 (d10:=d) ..)=>d | _=>0
def Ql11:Nat:=match L14_1 x with | some (.k0 (d11:=d) ..)=>d | _=>0
def Ql12:Array Value:=match L14_1 x with | some (.k0 (d12:=d) ..)=>d | _=>#[]
def Ql13:Nat:=match L14_1 x with | some (.k0 (d13:=d) ..)=>d | _=>0
def Ql14:Nat:=match L14_1 x with | some (.k0 (d14:=d) ..)=>d | _=>0
def L14_1_k1:Bool:=match L14_1 x with | some (.k1 ..)=>true | _=>false
def Qm0:ByteArray:=match L14_1 x with | some (.k1 (d0:=d) ..)=>d | _=>ByteArray.empty
def Qm1:Int:=match L14_1 x with | some (.k1 (d1:=d) ..)=>d | _=>0
def Qm2:Int:=match L14_1 x with | some (.k1 (d2:=d) ..)=>d | _=>0
def Qm3:Array Value:=match L14_1 x with | some (.k1 (d3:=d) ..)=>d | _=>#[]
def Qm4:Nat:=match L14_1 x with | some (.k1 (d4:=d) ..)=>d | _=>0
def Qm5:Nat:=match L14_1 x with | some (.k1 (d5:=d) ..)=>d | _=>0
def Qm6:Array Value:=match L14_1 x with | some (.k1 (d6:=d) ..)=>d | _=>#[]
def Qm7:Nat:=match L14_1 x with | some (.k1 (d7:=d) ..)=>d | _=>0
def Qm8:Nat:=match L14_1 x with | some (.k1 (d8:=d) ..)=>d | _=>0
def Qm9:Array Value:=match L14_1 x with | some (.k1 (d9:=d) ..)=>d | _=>#[]
def Qm10:Nat:=match L14_1 x with | some (.k1 (d10:=d) ..)=>d | _=>0
def Qm11:Nat:=match L14_1 x with | some (.k1 (d11:=d) ..)=>d | _=>0
end
def dec14_1:Task→Option (Code×X14_1)
 | .code none (.loop code) ⟨t,[],⟨[.cells ⟨[(.string v1),(.int .i64 v2),(.int .i64 v3),(.func (.via 0 ⟨[]⟩ 0 true) v4 ⟨[.slice (some ⟨0,v5,none⟩) v6 2]⟩),(.func (.via 0 ⟨[]⟩ 0 true) v7 ⟨[.slice (some ⟨0,v8,none⟩) v9 13]⟩),(.func (.via 0 ⟨[]⟩ 0 true) v10 ⟨[.slice (some ⟨0,v11,none⟩) v12 13]⟩)]⟩ false],0,[]⟩⟩ =>
  (match Nat.beq (firstReg code) 16,lenIs t 77,lget t 1,lget t 7 with
  | true,true,(Value.pointer (Option.some (Addr.mk 0 0 Option.none))),(.int .i64 v0)=>some (code,⟨v0,v1,v2,v3,v4,v5,v6,v7,v8,v9,v10,v11,v12⟩)
  | _,_,_,_=>none)
 | _=>none
def alt14_1 (x:X14_1)(j:List Value):AT:=.br (L14_1_k0 x) (loopEnd 77 (.ret) [(2,(.int .i64 (Ql0 x))),(3,(.int .i64 (Ql1 x))),(4,(.int .i64 (Ql2 x)))] ⟨[.cells ⟨[(.string (Ql3 x)),(.int .i64 (Ql4 x)),(.int .i64 (Ql5 x)),(lstV (Ql6 x) (Ql7 x) (Ql8 x) 2),(lstV (Ql9 x) (Ql10 x) (Ql11 x) 13),(lstV (Ql12 x) (Ql13 x) (Ql14 x) 13)]⟩ false],0,[]⟩ j) (.br (L14_1_k1 x) (loopEnd 77 (.exit 2) [(1,(Value.pointer (Option.some (Addr.mk 0 0 Option.none))))] ⟨[.cells ⟨[(.string (Qm0 x)),(.int .i64 (Qm1 x)),(.int .i64 (Qm2 x)),(lstV (Qm3 x) (Qm4 x) (Qm5 x) 2),(lstV (Qm6 x) (Qm7 x) (Qm8 x) 13),(lstV (Qm9 x) (Qm10 x) (Qm11 x) 13)]⟩ false],0,[]⟩ j) (.no))
def la14_1 (J:Task→List Value):Ans:=loopAns Lp14_1.c dec14_1 alt14_1 J
theorem ha14_1:∀(x:X14_1) (j:List Value)(o:Out),(alt14_1 x j).out=some o→∃d,loopR rd14_1 x=some d∧o=Lp14_1.tail d j:=by
 intro x j o h;unfold alt14_1 at h
 cases hL:L14_1 x with
 | none=>simp [L14_1_k0,Ql0,Ql1,Ql2,Ql3,Ql4,Ql5,Ql6,Ql7,Ql8,Ql9,Ql10,Ql11,Ql12,Ql13,Ql14,L14_1_k1,Qm0,Qm1,Qm2,Qm3,Qm4,Qm5,Qm6,Qm7,Qm8,Qm9,Qm10,Qm11,hL,AT.out]at h
 | some d =>
  refine ⟨d,hL,?_⟩
  cases d<;>(simp only[L14_1_k0,Ql0,Ql1,Ql2,Ql3,Ql4,Ql5,Ql6,Ql7,Ql8,Ql9,Ql10,Ql11,Ql12,Ql13,Ql14,L14_1_k1,Qm0,Qm1,Qm2,Qm3,Qm4,Qm5,Qm6,Qm7,Qm8,Qm9,Qm10,Qm11,hL,AT.out,loopEnd,cond_true,cond_false,Option.some.injEq]at h;rw[← h];rfl)
theorem hd14_1:∀(t:Task) (c:Code)(x:X14_1),dec14_1 t=some (c,x)→c=Lp14_1.c→∃T,t=.code none (.loop Lp14_1.c) ⟨T,[],⟨Lp14_1.hp x,0,[]⟩⟩∧T.length=Lp14_1.N∧∀kv∈Lp14_1.S.zip (Lp14_1.sl x),lget T kv.1=kv.2:=by
 intro t c x h hc;unfold dec14_1 at h
 split at h
 case h_2=>cases h
 split at h
 case h_2=>cases h
 simp only[Option.some.injEq,Prod.mk.injEq]at h;obtain ⟨rfl,rfl⟩:=h;subst hc
 refine ⟨_,rfl,lenIs_eq _ _ (by assumption),?_⟩
 intro kv hk;simp only[Lp14_1,List.zip_cons_cons,List.zip_nil_right,List.mem_cons,List.not_mem_nil,or_false]at hk
 rcases hk with rfl | rfl<;>assumption
theorem kl14_1:∃J,Known Try.prog (la14_1 J):=by
 exact LoopOf.known noNG mixed ok14_1 (by decide) (by decide) (Known.or known47 (Known.or known48 (Known.or known49 (Known.or known50 (Known.or known51 known52))))) (n:=60) (rd:=rd14_1) (fun x j=>T14_1  j x.v0 x.v1 x.v2 x.v3 x.v4 x.v5 x.v6 x.v7 x.v8 x.v9 x.v10 x.v11 x.v12) dec14_1 alt14_1 hd14_1 ha14_1
structure X14_2 where
 (v0:Int)
 (v1:ByteArray)
 (v2 v3:Int)
 (v4:Array Value)
 (v5 v6:Nat)
 (v7:Array Value)
 (v8 v9:Nat)
 (v10:Array Value)
 (v11 v12:Nat)
inductive D14_2 where
 | k0 (d0 d1 d2:Int) (d3:ByteArray) (d4 d5:Int) (d6:Array Value) (d7 d8:Nat) (d9:Array Value) (d10 d11:Nat) (d12:Array Value) (d13 d14:Nat)
 | k1 (d0:ByteArray) (d1 d2:Int) (d3:Array Value) (d4 d5:Nat) (d6:Array Value) (d7 d8:Nat) (d9:Array Value) (d10 d11:Nat)
def Lp14_2:LoopOf X14_2 D14_2 where
 c:=(theLoop Try.prog 14 2)
 N:=77
 M:=1
 S:=[1,9]
 sl:=fun x=>[(Value.pointer (Option.some (Addr.mk 0 0 Option.none))),(.int .i64 x.v0)]
 hp:=fun x=>[.cells ⟨[(.string x.v1),(.int .i64 x.v2),(.int .i64 x.v3),(lstV x.v4 x.v5 x.v6 2),(lstV x.v7 x.v8 x.v9 13),(lstV x.v10 x.v11 x.v12 13)]⟩ false]
 ex:=fun d=>match d with | .k0 ..=>.ret | .k1 ..=>.exit 4
 pick:=fun e=>match e with | .ret=>[2,3,4] | .exit 4=>[] | _=>[]
 dv:=fun d=>match d with | .k0 d0 d1 d2 d3 d4 d5 d6 d7 d8 d9 d10 d11 d12 d13 d14=>[(.int .i64 d0),(.int .i64 d1),(.int .i64 d2)] | .k1 d0 d1 d2 d3 d4 d5 d6 d7 d8 d9 d10 d11=>[]
 dh:=fun d=>match d with | .k0 d0 d1 d2 d3 d4 d5 d6 d7 d8 d9 d10 d11 d12 d13 d14=>[.cells ⟨[(.string d3),(.int .i64 d4),(.int .i64 d5),(lstV d6 d7 d8 2),(lstV d9 d10 d11 13),(lstV d12 d13 d14 13)]⟩ false] | .k1 d0 d1 d2 d3 d4 d5 d6 d7 d8 d9 d10 d11=>[.cells ⟨[(.string d0),(.int .i64 d1),(.int .i64 d2),(lstV d3 d4 d5 2),(lstV d6 d7 d8 13),(lstV d9 d10 d11 13)]⟩ false]
theorem ok14_2:Lp14_2.Ok:=⟨fun x=>rfl,fun x=>rfl,fun x=>rfl,fun x=>rfl,fun d=>by cases d<;>rfl,fun d=>by cases d<;>rfl,fun d=>by cases d<;>rfl,fun d=>by cases d<;>(intro h;cases h),fun d=>by cases d<;>rfl,fun d=>by cases d<;>rfl⟩
def rd14_2 (x:X14_2):RT (Sum X14_2 D14_2):=match x with
 | ⟨v0,v1,v2,v3,v4,v5,v6,v7,v8,v9,v10,v11,v12⟩ =>
   .br (decide (v0<(Int.ofNat v12))) (.br (F52_ok v1 v2 v3 v4 v5 v6 v7 v8 v9 v10 v11 v12 v0) (.br (not (decide ((F52_0 v1 v2 v3 v4 v5 v6 v7 v8 v9 v10 v11 v12 v0)=(0:Int)))) (.leaf (.inr (.k0 ((4:Int)) v0 ((F52_0 v1 v2 v3 v4 v5 v6 v7 v8 v9 v10 v11 v12 v0)) v1 v2 v3 v4 v5 v6 v7 v8 v9 v10 v11 v12))) (.leaf (.inl ⟨(IntKind.wrap .i64 (v0+(1:Int))),v1,v2,v3,v4,v5,v6,v7,v8,v9,v10,v11,v12⟩))) (.no)) (.leaf (.inr (.k1 v1 v2 v3 v4 v5 v6 v7 v8 v9 v10 v11 v12)))
theorem T14_2  (y:List Value) (v0:Int) (v1:ByteArray) (v2 v3:Int) (v4:Array Value) (v5 v6:Nat) (v7:Array Value) (v8 v9:Nat) (v10:Array Value) (v11 v12:Nat):evC Try.prog (Ans.c (p47.or (p48.or (p49.or (p50.or (p51.or p52)))))) 60 (.code none (theLoop Try.prog 14 2) ⟨sets (junkF 77 y) [(1,(Value.pointer (some (Addr.mk 0 0 none)))),(9,(.int .i64 v0))],[],⟨[.cells ⟨[(.string v1),(.int .i64 v2),(.int .i64 v3),(lstV v4 v5 v6 2),(lstV v7 v8 v9 13),(lstV v10 v11 v12 13)]⟩ false],0,[]⟩⟩) (sumK 1 77 Lp14_2.pk)=(rd14_2 ⟨v0,v1,v2,v3,v4,v5,v6,v7,v8,v9,v10,v11,v12⟩).out Lp14_2.enc:=by kernel_rfl
def L14_2 (x:X14_2):Option D14_2:=loopR rd14_2 x
section
variable (x:X14_2)
def L14_2_k0:Bool:=match L14_2 x with | some (.k0 ..)=>true | _=>false
def Qn0:Int:=match L14_2 x with | some (.k0 (d0:=d) ..)=>d | _=>0
def Qn1:Int:=match L14_2 x with | some (.k0 (d1:=d) ..)=>d | _=>0
def Qn2:Int:=match L14_2 x with | some (.k0 (d2:=d) ..)=>d | _=>0
def Qn3:ByteArray:=match L14_2 x with | some (.k0 (d3:=d) ..)=>d | _=>ByteArray.empty
def Qn4:Int:=match L14_2 x with | some (.k0 (d4:=d) ..)=>d | _=>0
def Qn5:Int:=match L14_2 x with | some (.k0 (d5:=d) ..)=>d | _=>0
def Qn6:Array Value:=match L14_2 x with | some (.k0 (d6:=d) ..)=>d | _=>#[]
def Qn7:Nat:=match L14_2 x with | some (.k0 (d7:=d) ..)=>d | _=>0
def Qn8:Nat:=match L14_2 x with | some (.k0 (d8:=d) ..)=>d | _=>0
def Qn9:Array Value:=match L14_2 x with | some (.k0 (d9:=d) ..)=>d | _=>#[]
def Qn10:Nat:=match L14_2 x with | some (.k0 (d10:=d) ..)=>d | _=>0
def Qn11:Nat:=match L14_2 x with | some (.k0 (d11:=d) ..)=>d | _=>0
def Qn12:Array Value:=match L14_2 x with | some (.k0 (d12:=d) ..)=>d | _=>#[]
def Qn13:Nat:=match L14_2 x with | some (.k0 (d13:=d) ..)=>d | _=>0
def Qn14:Nat:=match L14_2 x with | some (.k0 (d14:=d) ..)=>d | _=>0
def L14_2_k1:Bool:=match L14_2 x with | some (.k1 ..)=>true | _=>false
def Qo0:ByteArray:=match L14_2 x with | some (.k1 (d0:=d) ..)=>d | _=>ByteArray.empty
def Qo1:Int:=match L14_2 x with | some (.k1 (d1:=d) ..)=>d | _=>0
def Qo2:Int:=match L14_2 x with | some (.k1 (d2:=d) ..)=>d | _=>0
def Qo3:Array Value:=match L14_2 x with | some (.k1 (d3:=d) ..)=>d | _=>#[]
def Qo4:Nat:=match L14_2 x with | some (.k1 (d4:=d) ..)=>d | _=>0
def Qo5:Nat:=match L14_2 x with | some (.k1 (d5:=d) ..)=>d | _=>0
def Qo6:Array Value:=match L14_2 x with | some (.k1 (d6:=d) ..)=>d | _=>#[]
def Qo7:Nat:=match L14_2 x with | some (.k1 (d7:=d) ..)=>d | _=>0
def Qo8:Nat:=match L14_2 x with | some (.k1 (d8:=d) ..)=>d | _=>0
def Qo9:Array Value:=match L14_2 x with | some (.k1 (d9:=d) ..)=>d | _=>#[]
def Qo10:Nat:=match L14_2 x with | some (.k1 (d10:=d) ..)=>d | _=>0
def Qo11:Nat:=match L14_2 x with | some (.k1 (d11:=d) ..)=>d | _=>0
end
def dec14_2:Task→Option (Code×X14_2)
 | .code none (.loop code) ⟨t,[],⟨[.cells ⟨[(.string v1),(.int .i64 v2),(.int .i64 v3),(.func (.via 0 ⟨[]⟩ 0 true) v4 ⟨[.slice (some ⟨0,v5,none⟩) v6 2]⟩),(.func (.via 0 ⟨[]⟩ 0 true) v7 ⟨[.slice (some ⟨0,v8,none⟩) v9 13]⟩),(.func (.via 0 ⟨[]⟩ 0 true) v10 ⟨[.slice (some ⟨0,v11,none⟩) v12 13]⟩)]⟩ false],0,[]⟩⟩ =>
  (match Nat.beq (firstReg code) 24,lenIs t 77,lget t 1,lget t 9 with
  | true,true,(Value.pointer (Option.some (Addr.mk 0 0 Option.none))),(.int .i64 v0)=>some (code,⟨v0,v1,v2,v3,v4,v5,v6,v7,v8,v9,v10,v11,v12⟩)
  | _,_,_,_=>none)
 | _=>none
def alt14_2 (x:X14_2)(j:List Value):AT:=.br (L14_2_k0 x) (loopEnd 77 (.ret) [(2,(.int .i64 (Qn0 x))),(3,(.int .i64 (Qn1 x))),(4,(.int .i64 (Qn2 x)))] ⟨[.cells ⟨[(.string (Qn3 x)),(.int .i64 (Qn4 x)),(.int .i64 (Qn5 x)),(lstV (Qn6 x) (Qn7 x) (Qn8 x) 2),(lstV (Qn9 x) (Qn10 x) (Qn11 x) 13),(lstV (Qn12 x) (Qn13 x) (Qn14 x) 13)]⟩ false],0,[]⟩ j) (.br (L14_2_k1 x) (loopEnd 77 (.exit 4) [] ⟨[.cells ⟨[(.string (Qo0 x)),(.int .i64 (Qo1 x)),(.int .i64 (Qo2 x)),(lstV (Qo3 x) (Qo4 x) (Qo5 x) 2),(lstV (Qo6 x) (Qo7 x) (Qo8 x) 13),(lstV (Qo9 x) (Qo10 x) (Qo11 x) 13)]⟩ false],0,[]⟩ j) (.no))
def la14_2 (J:Task→List Value):Ans:=loopAns Lp14_2.c dec14_2 alt14_2 J
theorem ha14_2:∀(x:X14_2) (j:List Value)(o:Out),(alt14_2 x j).out=some o→∃d,loopR rd14_2 x=some d∧o=Lp14_2.tail d j:=by
 intro x j o h;unfold alt14_2 at h
 cases hL:L14_2 x with
 | none=>simp [L14_2_k0,Qn0,Qn1,Qn2,Qn3,Qn4,Qn5,Qn6,Qn7,Qn8,Qn9,Qn10,Qn11,Qn12,Qn13,Qn14,L14_2_k1,Qo0,Qo1,Qo2,Qo3,Qo4,Qo5,Qo6,Qo7,Qo8,Qo9,Qo10,Qo11,hL,AT.out]at h
 | some d =>
  refine ⟨d,hL,?_⟩
  cases d<;>(simp only[L14_2_k0,Qn0,Qn1,Qn2,Qn3,Qn4,Qn5,Qn6,Qn7,Qn8,Qn9,Qn10,Qn11,Qn12,Qn13,Qn14,L14_2_k1,Qo0,Qo1,Qo2,Qo3,Qo4,Qo5,Qo6,Qo7,Qo8,Qo9,Qo10,Qo11,hL,AT.out,loopEnd,cond_true,cond_false,Option.some.injEq]at h;rw[← h];rfl)
theorem hd14_2:∀(t:Task) (c:Code)(x:X14_2),dec14_2 t=some (c,x)→c=Lp14_2.c→∃T,t=.code none (.loop Lp14_2.c) ⟨T,[],⟨Lp14_2.hp x,0,[]⟩⟩∧T.length=Lp14_2.N∧∀kv∈Lp14_2.S.zip (Lp14_2.sl x),lget T kv.1=kv.2:=by
 intro t c x h hc;unfold dec14_2 at h
 split at h
 case h_2=>cases h
 split at h
 case h_2=>cases h
 simp only[Option.some.injEq,Prod.mk.injEq]at h;obtain ⟨rfl,rfl⟩:=h;subst hc
 refine ⟨_,rfl,lenIs_eq _ _ (by assumption),?_⟩
 intro kv hk;simp only[Lp14_2,List.zip_cons_cons,List.zip_nil_right,List.mem_cons,List.not_mem_nil,or_false]at hk
 rcases hk with rfl | rfl<;>assumption
theorem kl14_2:∃J,Known Try.prog (la14_2 J):=by
 exact LoopOf.known noNG mixed ok14_2 (by decide) (by decide) (Known.or known47 (Known.or known48 (Known.or known49 (Known.or known50 (Known.or known51 known52))))) (n:=60) (rd:=rd14_2) (fun x j=>T14_2  j x.v0 x.v1 x.v2 x.v3 x.v4 x.v5 x.v6 x.v7 x.v8 x.v9 x.v10 x.v11 x.v12) dec14_2 alt14_2 hd14_2 ha14_2
structure R14 where
 (r0 r1 r2:Int)
structure A14 where
 (a0:ByteArray)
 (a1 a2:Int)
 (a3:Array Value)
 (a4 a5:Nat)
 (a6:Array Value)
 (a7 a8:Nat)
 (a9:Array Value)
 (a10 a11:Nat)
def Y14_0 (a0:ByteArray)(a1 a2:Int)(a3:Array Value)(a4 a5:Nat)(a6:Array Value)(a7 a8:Nat)(a9:Array Value)(a10 a11:Nat):X14_0:=(X14_0.mk (0:Int) a0 a1 a2 a3 a4 a5 a6 a7 a8 a9 a10 a11)
def Y14_1 (a0:ByteArray)(a1 a2:Int)(a3:Array Value)(a4 a5:Nat)(a6:Array Value)(a7 a8:Nat)(a9:Array Value)(a10 a11:Nat):X14_1:=(X14_1.mk (0:Int) (Qk0 (Y14_0 a0 a1 a2 a3 a4 a5 a6 a7 a8 a9 a10 a11)) (Qk1 (Y14_0 a0 a1 a2 a3 a4 a5 a6 a7 a8 a9 a10 a11)) (Qk2 (Y14_0 a0 a1 a2 a3 a4 a5 a6 a7 a8 a9 a10 a11)) (Qk3 (Y14_0 a0 a1 a2 a3 a4 a5 a6 a7 a8 a9 a10 a11)) (Qk4 (Y14_0 a0 a1 a2 a3 a4 a5 a6 a7 a8 a9 a10 a11)) (Qk5 (Y14_0 a0 a1 a2 a3 a4 a5 a6 a7 a8 a9 a10 a11)) (Qk6 (Y14_0 a0 a1 a2 a3 a4 a5 a6 a7 a8 a9 a10 a11)) (Qk7 (Y14_0 a0 a1 a2 a3 a4 a5 a6 a7 a8 a9 a10 a11)) (Qk8 (Y14_0 a0 a1 a2 a3 a4 a5 a6 a7 a8 a9 a10 a11)) (Qk9 (Y14_0 a0 a1 a2 a3 a4 a5 a6 a7 a8 a9 a10 a11)) (Qk10 (Y14_0 a0 a1 a2 a3 a4 a5 a6 a7 a8 a9 a10 a11)) (Qk11 (Y14_0 a0 a1 a2 a3 a4 a5 a6 a7 a8 a9 a10 a11)))
def Y14_2 (a0:ByteArray)(a1 a2:Int)(a3:Array Value)(a4 a5:Nat)(a6:Array Value)(a7 a8:Nat)(a9:Array Value)(a10 a11:Nat):X14_2:=(X14_2.mk (0:Int) (Qm0 (Y14_1 a0 a1 a2 a3 a4 a5 a6 a7 a8 a9 a10 a11)) (Qm1 (Y14_1 a0 a1 a2 a3 a4 a5 a6 a7 a8 a9 a10 a11)) (Qm2 (Y14_1 a0 a1 a2 a3 a4 a5 a6 a7 a8 a9 a10 a11)) (Qm3 (Y14_1 a0 a1 a2 a3 a4 a5 a6 a7 a8 a9 a10 a11)) (Qm4 (Y14_1 a0 a1 a2 a3 a4 a5 a6 a7 a8 a9 a10 a11)) (Qm5 (Y14_1 a0 a1 a2 a3 a4 a5 a6 a7 a8 a9 a10 a11)) (Qm6 (Y14_1 a0 a1 a2 a3 a4 a5 a6 a7 a8 a9 a10 a11)) (Qm7 (Y14_1 a0 a1 a2 a3 a4 a5 a6 a7 a8 a9 a10 a11)) (Qm8 (Y14_1 a0 a1 a2 a3 a4 a5 a6 a7 a8 a9 a10 a11)) (Qm9 (Y14_1 a0 a1 a2 a3 a4 a5 a6 a7 a8 a9 a10 a11)) (Qm10 (Y14_1 a0 a1 a2 a3 a4 a5 a6 a7 a8 a9 a10 a11)) (Qm11 (Y14_1 a0 a1 a2 a3 a4 a5 a6 a7 a8 a9 a10 a11)))
def rt14 (a0:ByteArray)(a1 a2:Int)(a3:Array Value)(a4 a5:Nat)(a6:Array Value)(a7 a8:Nat)(a9:Array Value)(a10 a11:Nat):RT R14 :=let u0:=(Y14_0 a0 a1 a2 a3 a4 a5 a6 a7 a8 a9 a10 a11);let u1:=(Y14_1 a0 a1 a2 a3 a4 a5 a6 a7 a8 a9 a10 a11);let u2:=(Y14_2 a0 a1 a2 a3 a4 a5 a6 a7 a8 a9 a10 a11);
 .br (F47_ok a0) (.br (not (F47_0 a0)) (.leaf ⟨(1:Int),(0:Int),(6:Int)⟩) (.br (F48_ok a1 a2 (0:Int) (200:Int)) (.br (not (F48_0 a1 a2 (0:Int) (200:Int))) (.leaf ⟨(1:Int),(0:Int),(7:Int)⟩) (.br (decide ((20:Int)<(Int.ofNat a5))) (.leaf ⟨(2:Int),(0:Int),(3:Int)⟩)
   (.sw (eqCode (Lp14_0.c) (Lp14_0.c)) true (by simp only[eqCode_self,arrEq_self]) (.br (L14_0_k0 u0) (.leaf ⟨(Qj0 u0),(Qj1 u0),(Qj2 u0)⟩) (.br (L14_0_k1 u0) (.br (F50_ok (Int.ofNat (Qk8 u0)) (1:Int) (12:Int)) (.br (not (F50_0 (Int.ofNat (Qk8 u0)) (1:Int) (12:Int))) (.leaf ⟨(3:Int),(0:Int),(3:Int)⟩)
      (.sw (eqCode (Lp14_1.c) (Lp14_1.c)) true (by simp only[eqCode_self,arrEq_self]) (.br (L14_1_k0 u1) (.leaf ⟨(Ql0 u1),(Ql1 u1),(Ql2 u1)⟩) (.br (L14_1_k1 u1) (.br (decide ((6:Int)<(Int.ofNat (Qm11 u1)))) (.leaf ⟨(4:Int),(0:Int),(3:Int)⟩)
         (.sw (eqCode (Lp14_2.c) (Lp14_2.c)) true (by simp only[eqCode_self,arrEq_self]) (.br (L14_2_k0 u2) (.leaf ⟨(Qn0 u2),(Qn1 u2),(Qn2 u2)⟩) (.br (L14_2_k1 u2) (.leaf ⟨(0:Int),(0:Int),(0:Int)⟩) (.no))) (.no))) (.no))) (.no))) (.no)) (.no))) (.no)))) (.no))) (.no)
def en14 (r:R14):Value:=(.tuple ⟨[(.int .i64 r.r0),(.int .i64 r.r1),(.int .i64 r.r2)]⟩)
theorem T14 (J0:Task→List Value)(J1:Task→List Value)(J2:Task→List Value)(a0:ByteArray)(a1 a2:Int)(a3:Array Value)(a4 a5:Nat)(a6:Array Value)(a7 a8:Nat)(a9:Array Value)(a10 a11:Nat):evC Try.prog (Ans.c (p47.or (p48.or (p49.or (p50.or (p51.or (p52.or ((la14_0 J0).or ((la14_1 J1).or (la14_2 J2)))))))))) 60 (.call 14 ⟨[(.agg ⟨[(.string a0),(.int .i64 a1),(.int .i64 a2),(lstV a3 a4 a5 2),(lstV a6 a7 a8 13),(lstV a9 a10 a11 13)]⟩)]⟩ ⟨[],0,[]⟩) (frzK [0,0,0])=(rt14 a0 a1 a2 a3 a4 a5 a6 a7 a8 a9 a10 a11).out (fun r=>.ret (en14 r) ⟨[],0,[]⟩):=by kernel_rfl
def F14 (a0:ByteArray)(a1 a2:Int)(a3:Array Value)(a4 a5:Nat)(a6:Array Value)(a7 a8:Nat)(a9:Array Value)(a10 a11:Nat):Option R14:=(rt14 a0 a1 a2 a3 a4 a5 a6 a7 a8 a9 a10 a11).val
section
variable (a0:ByteArray) (a1 a2:Int) (a3:Array Value) (a4 a5:Nat) (a6:Array Value) (a7 a8:Nat) (a9:Array Value) (a10 a11:Nat)
def F14_ok:Bool:=(F14 a0 a1 a2 a3 a4 a5 a6 a7 a8 a9 a10 a11).isSome
def F14_0:Int:=match F14 a0 a1 a2 a3 a4 a5 a6 a7 a8 a9 a10 a11 with | some r=>r.r0 | none=>0
def F14_1:Int:=match F14 a0 a1 a2 a3 a4 a5 a6 a7 a8 a9 a10 a11 with | some r=>r.r1 | none=>0
def F14_2:Int:=match F14 a0 a1 a2 a3 a4 a5 a6 a7 a8 a9 a10 a11 with | some r=>r.r2 | none=>0
end
def dec14:Task→Option (A14×Hp)
 | .call g ⟨[(.agg ⟨[(.string a0),(.int .i64 a1),(.int .i64 a2),(.func (.via 0 ⟨[]⟩ 0 true) a3 ⟨[.slice (some ⟨0,a4,none⟩) a5 2]⟩),(.func (.via 0 ⟨[]⟩ 0 true) a6 ⟨[.slice (some ⟨0,a7,none⟩) a8 13]⟩),(.func (.via 0 ⟨[]⟩ 0 true) a9 ⟨[.slice (some ⟨0,a10,none⟩) a11 13]⟩)]⟩)]⟩ h=>(match Nat.beq g 14 with | true=>some (⟨a0,a1,a2,a3,a4,a5,a6,a7,a8,a9,a10,a11⟩,h) | false=>none)
 | _=>none
def alt14 (x:A14)(h:Hp):AT:=.br (F14_ok x.a0 x.a1 x.a2 x.a3 x.a4 x.a5 x.a6 x.a7 x.a8 x.a9 x.a10 x.a11) (.leaf (.ret (.tuple ⟨[(.int .i64 (F14_0 x.a0 x.a1 x.a2 x.a3 x.a4 x.a5 x.a6 x.a7 x.a8 x.a9 x.a10 x.a11)),(.int .i64 (F14_1 x.a0 x.a1 x.a2 x.a3 x.a4 x.a5 x.a6 x.a7 x.a8 x.a9 x.a10 x.a11)),(.int .i64 (F14_2 x.a0 x.a1 x.a2 x.a3 x.a4 x.a5 x.a6 x.a7 x.a8 x.a9 x.a10 x.a11))]⟩) h)) .no
def p14:Ans:=fnAns dec14 alt14
theorem ha14:∀(x:A14) (h:Hp)(o:Out),(alt14 x h).out=some o→∃r,(rt14 x.a0 x.a1 x.a2 x.a3 x.a4 x.a5 x.a6 x.a7 x.a8 x.a9 x.a10 x.a11).val=some r∧o=.ret (en14 r) h:=by
 intro x h o e;unfold alt14 at e;simp only[AT.out]at e;obtain ⟨g,e⟩:=cond_some e;unfold F14_ok at g;obtain ⟨r,hF⟩:=Option.isSome_iff_exists.1 g
 refine ⟨r,by delta F14 at hF;exact hF,?_⟩
 simp only[Option.some.injEq]at e;rw[← e]
 unfold F14_0 F14_1 F14_2;rw[hF]<;>rfl
theorem hd14:∀(t:Task) (x:A14)(h:Hp),dec14 t=some (x,h)→t=.call 14 ⟨[(.agg ⟨[(.string x.a0),(.int .i64 x.a1),(.int .i64 x.a2),(lstV x.a3 x.a4 x.a5 2),(lstV x.a6 x.a7 x.a8 13),(lstV x.a9 x.a10 x.a11 13)]⟩)]⟩ h:=by
 intro t x h e;unfold dec14 at e
 split at e
 case h_2=>cases e
 split at e
 case h_2=>cases e
 rename_i hg;simp only[Option.some.injEq,Prod.mk.injEq]at e;obtain ⟨rfl,rfl⟩:=e;rw[Nat.eq_of_beq_eq_true hg]
theorem known14:Known Try.prog p14:=by
 obtain ⟨J0,hJ0⟩:=kl14_0;obtain ⟨J1,hJ1⟩:=kl14_1;obtain ⟨J2,hJ2⟩:=kl14_2
 exact Known.fn noNG mixed (Known.or known47 (Known.or known48 (Known.or known49 (Known.or known50 (Known.or known51 (Known.or known52 (Known.or hJ0 (Known.or hJ1 hJ2)))))))) (n:=60) (zs:=[0,0,0]) 14 (fun x:A14=>[(.agg ⟨[(.string x.a0),(.int .i64 x.a1),(.int .i64 x.a2),(lstV x.a3 x.a4 x.a5 2),(lstV x.a6 x.a7 x.a8 13),(lstV x.a9 x.a10 x.a11 13)]⟩)]) (fun x=>rt14 x.a0 x.a1 x.a2 x.a3 x.a4 x.a5 x.a6 x.a7 x.a8 x.a9 x.a10 x.a11) en14 (fun x=>T14 J0 J1 J2 x.a0 x.a1 x.a2 x.a3 x.a4 x.a5 x.a6 x.a7 x.a8 x.a9 x.a10 x.a11) (fun x=>rfl) dec14 alt14 hd14 ha14
end
end Go.Proofs.Ytggaomgopenkfaa
namespace Go.Proofs.Ytggaomgopenkfaa
open Go.Gi Go.RowKit
noncomputable section
set_option maxRecDepth 100000
set_option maxHeartbeats 1000000
def inB (n lo hi:Int):Bool:=decide (lo≤n)&&decide (n≤hi)
def spB (a b lo hi:Int):Bool:=decide (a≤b)&&(decide (lo≤a)&&decide (b≤hi))
def boB (a b c e:Int):Bool:=spB a b 1 100000&&spB c e 0 1000
def thB (a b c e f g far:Int):Bool:=spB a b (-far) far&&(spB c e (-far) far&&spB f g (-far) far)
theorem inB_alt (n lo hi:Int):inB n lo hi=(!decide (n<lo)&&!decide (hi<n)):=by
 unfold inB;rw[Bool.eq_iff_iff];simp only[Bool.and_eq_true,decide_eq_true_eq,Bool.not_eq_true',decide_eq_false_iff_not]
 omega
theorem F50_of (n lo hi:Int):F50_ok n lo hi=true∧F50_0 n lo hi=inB n lo hi:=by
 have q:F50 n lo hi=some ⟨inB n lo hi⟩:=by
  unfold F50 rt50 inB
  by_cases h:lo≤n<;>simp [RT.val,mq,h]
 exact ⟨by simp only[F50_ok,q];rfl,by simp only[F50_0,q]⟩
theorem F48_of (a b lo hi:Int):F48_ok a b lo hi=true∧F48_0 a b lo hi=spB a b lo hi:=by
 have q:F48 a b lo hi=some ⟨spB a b lo hi⟩:=by
  unfold F48 rt48 spB
  by_cases h:a≤b<;>by_cases h2:lo≤a<;>simp [RT.val,mq,h,h2]
 exact ⟨by simp only[F48_ok,q];rfl,by simp only[F48_0,q]⟩
theorem F83_of (a b lo hi:Int):F83_ok a b lo hi=true∧F83_0 a b lo hi=spB a b lo hi:=by
 have q:F83 a b lo hi=some ⟨spB a b lo hi⟩:=by
  unfold F83 rt83 spB
  by_cases h:a≤b<;>by_cases h2:lo≤a<;>simp [RT.val,mq,h,h2]
 exact ⟨by simp only[F83_ok,q];rfl,by simp only[F83_0,q]⟩
theorem F43_of (a b lo hi:Int):F43_ok a b lo hi=true∧F43_0 a b lo hi=spB a b lo hi:=by
 have q:F43 a b lo hi=some ⟨spB a b lo hi⟩:=by
  unfold F43 rt43;simp only[RT.val,mq,(F83_of _ _ _ _).1,(F83_of _ _ _ _).2,cond_true]
 exact ⟨by simp only[F43_ok,q];rfl,by simp only[F43_0,q]⟩
theorem wneg {f:Int}(hf:0≤f∧f≤1000000000):IntKind.wrap .i64 (0-f)=-f:=by rw[wrap64_id (by omega) (by omega)];omega
theorem F54_of {a b f:Int}(hf:0≤f∧f≤1000000000):F54_ok a b f=true∧F54_0 a b f=spB a b (-f) f:=by
 have q:F54 a b f=some ⟨spB a b (-f) f⟩:=by
  unfold F54 rt54;simp only[RT.val,mq,wneg hf,(F83_of _ _ _ _).1,(F83_of _ _ _ _).2,cond_true]
 exact ⟨by simp only[F54_ok,q];rfl,by simp only[F54_0,q]⟩
theorem F84_of (a b c e:Int):F84_ok a b c e=true∧F84_0 a b c e=boB a b c e:=by
 have q:F84 a b c e=some ⟨boB a b c e⟩:=by
  unfold F84 rt84 boB;simp only[RT.val,mq,(F43_of _ _ _ _).1,(F43_of _ _ _ _).2,cond_true]
  cases spB a b 1 100000<;>rfl
 exact ⟨by simp only[F84_ok,q];rfl,by simp only[F84_0,q]⟩
theorem F88_of (a b c e:Int):F88_ok a b c e=true∧F88_0 a b c e=boB a b c e:=by
 have q:F88 a b c e=some ⟨boB a b c e⟩:=by
  unfold F88 rt88 boB;simp only[RT.val,mq,(F48_of _ _ _ _).1,(F48_of _ _ _ _).2,cond_true]
  cases spB a b 1 100000<;>rfl
 exact ⟨by simp only[F88_ok,q];rfl,by simp only[F88_0,q]⟩
theorem F86_of {a b c e f g r:Int}(hr:0≤r∧r≤1000000000):F86_ok a b c e f g r=true∧F86_0 a b c e f g r=thB a b c e f g r:=by
 have q:F86 a b c e f g r=some ⟨thB a b c e f g r⟩:=by
  unfold F86 rt86 thB;simp only[RT.val,mq,(F54_of hr).1,(F54_of hr).2,cond_true]
  cases spB a b (-r) r<;>cases spB c e (-r) r<;>cases spB f g (-r) r<;>rfl
 exact ⟨by simp only[F86_ok,q];rfl,by simp only[F86_0,q]⟩
theorem F89_of {a b c e f g r:Int}(hr:0≤r∧r≤1000000000):F89_ok a b c e f g r=true∧F89_0 a b c e f g r=thB a b c e f g r:=by
 have q:F89 a b c e f g r=some ⟨thB a b c e f g r⟩:=by
  unfold F89 rt89 thB;simp only[RT.val,mq,wneg hr,(F48_of _ _ _ _).1,(F48_of _ _ _ _).2,cond_true]
  cases spB a b (-r) r<;>cases spB c e (-r) r<;>cases spB f g (-r) r<;>rfl
 exact ⟨by simp only[F89_ok,q];rfl,by simp only[F89_0,q]⟩
theorem F85_of (a b c e f g:Int):F85_ok a b c e f g=true∧F85_0 a b c e f g=a∧F85_1 a b c e f g=b∧F85_2 a b c e f g=c∧F85_3 a b c e f g=e∧F85_4 a b c e f g=f∧F85_5 a b c e f g=g:=by
 have q:F85 a b c e f g=some ⟨a,b,c,e,f,g⟩:=rfl
 exact ⟨by simp only[F85_ok,q];rfl,by simp only[F85_0,q],by simp only[F85_1,q],by simp only[F85_2,q],by simp only[F85_3,q],by simp only[F85_4,q],by simp only[F85_5,q]⟩
theorem F107_of (n:Int):F107_ok n=true∧F107_0 n=inB n 0 2000000000:=by
 have q:F107 n=some ⟨inB n 0 2000000000⟩:=by
  unfold F107 rt107 inB
  by_cases h:(0:Int)≤n<;>simp [RT.val,mq,h]
 exact ⟨by simp only[F107_ok,q];rfl,by simp only[F107_0,q]⟩
def arC (f dn fr:Int)(z:Bool):Int:=if (if z=true then decide (f=0) else decide (fr<f))=true then (if 2000000000<f then 7 else if inB dn 0 1000=true then 0 else 7) else 2
def arK (c:Array Value)(k:Nat):Int:=arC (getInt c (0+k*2)) (getInt c (0+k*2+1)) (getInt c (0+(k-1)*2+0)) (decide (k=0))
def phC (t a b c e f g h i j l m n:Int):Int:=if (inB t 1 3000&&(spB a b 0 2000000&&(boB c e f g&&thB h i j l m n 2000)))=true then 0 else 7
def phK (c:Array Value)(k:Nat):Int:=phC (getInt c (0+k*13)) (getInt c (0+k*13+1)) (getInt c (0+k*13+1+1)) (getInt c (0+k*13+1+1+1)) (getInt c (0+k*13+1+1+1+1)) (getInt c (0+k*13+1+1+1+1+1)) (getInt c (0+k*13+1+1+1+1+1+1)) (getInt c (0+k*13+1+1+1+1+1+1+1)) (getInt c (0+k*13+1+1+1+1+1+1+1+1)) (getInt c (0+k*13+1+1+1+1+1+1+1+1+1)) (getInt c (0+k*13+1+1+1+1+1+1+1+1+1+1)) (getInt c (0+k*13+1+1+1+1+1+1+1+1+1+1+1)) (getInt c (0+k*13+1+1+1+1+1+1+1+1+1+1+1+1))
def piC (s:ByteArray)(t a b c e f g h i j l m:Int)(tw:Bool):Int:=if nmB s=true then (if tw=true then 5 else if (inB t 1 3000&&(boB a b c e&&(thB f g h i j l 1000000&&inB m 0 2000000000)))=true then 0 else 7) else 6
def twE (c:Array Value)(s:ByteArray)(j:Nat):Int:=if strEq (getStr c (0+j*13)) s=true then 5 else 0
def twB (c:Array Value)(s:ByteArray)(k:Nat):Bool:=(fst1 (twE c s) k 0).isSome
def piK (c:Array Value)(k:Nat):Int:=piC (getStr c (0+k*13)) (getInt c (0+k*13+1)) (getInt c (0+k*13+1+1)) (getInt c (0+k*13+1+1+1)) (getInt c (0+k*13+1+1+1+1)) (getInt c (0+k*13+1+1+1+1+1)) (getInt c (0+k*13+1+1+1+1+1+1)) (getInt c (0+k*13+1+1+1+1+1+1+1)) (getInt c (0+k*13+1+1+1+1+1+1+1+1)) (getInt c (0+k*13+1+1+1+1+1+1+1+1+1)) (getInt c (0+k*13+1+1+1+1+1+1+1+1+1+1)) (getInt c (0+k*13+1+1+1+1+1+1+1+1+1+1+1)) (getInt c (0+k*13+1+1+1+1+1+1+1+1+1+1+1+1)) (twB c (getStr c (0+k*13)) k)
def I2:List Leaf:=[.int .i64,.int .i64]
def I13:List Leaf:=[(Leaf.int .i64),(Leaf.int .i64),(Leaf.int .i64),(Leaf.int .i64),(Leaf.int .i64),(Leaf.int .i64),(Leaf.int .i64),(Leaf.int .i64),(Leaf.int .i64),(Leaf.int .i64),(Leaf.int .i64),(Leaf.int .i64),(Leaf.int .i64)]
def S13:List Leaf:=[Leaf.str,(Leaf.int .i64),(Leaf.int .i64),(Leaf.int .i64),(Leaf.int .i64),(Leaf.int .i64),(Leaf.int .i64),(Leaf.int .i64),(Leaf.int .i64),(Leaf.int .i64),(Leaf.int .i64),(Leaf.int .i64),(Leaf.int .i64)]
theorem rd_and {c:Array Value}{l:Leaf}{L:List Leaf}{i:Nat}(h:rdOk c (l::L) i=true):(rdLeaf c l i).1=true∧rdOk c L (i+1)=true:=by
 simpa only [rdOk,Bool.and_eq_true] using h
theorem ar44 (f dn fr:Int)(k:Nat)(S:X44_0)(F:Int→D44_0):(cond (decide (f≤fr)) (some (Sum.inr (F 2))) (cond (decide (2000000000<f)) (some (Sum.inr (F 7))) (cond (decide (dn<0)) (some (Sum.inr (F 7))) (cond (decide (1000<dn)) (some (Sum.inr (F 7))) (some (Sum.inl S)))))) =
  some (if arC f dn fr false=0 then Sum.inl S else Sum.inr (F (arC f dn fr false))):=by
 unfold arC;rw[inB_alt]
 by_cases h1:f≤fr
 ·have:¬fr<f:=by omega
  simp [h1,this]
 ·have h1':fr<f:=by omega
  by_cases h2:2000000000<f<;>by_cases h3:dn<0<;>by_cases h4:1000<dn<;>simp [h1,h1',h2,h3,h4]
theorem ar44z (f dn fr:Int)(S:X44_0)(F:Int→D44_0):(cond (!decide (f=0)) (some (Sum.inr (F 2))) (cond (decide (2000000000<f)) (some (Sum.inr (F 7))) (cond (decide (dn<0)) (some (Sum.inr (F 7))) (cond (decide (1000<dn)) (some (Sum.inr (F 7))) (some (Sum.inl S)))))) =
  some (if arC f dn fr true=0 then Sum.inl S else Sum.inr (F (arC f dn fr true))):=by
 unfold arC;rw[inB_alt]
 by_cases h1:f=0<;>by_cases h2:2000000000<f<;>by_cases h3:dn<0<;>by_cases h4:1000<dn<;>simp [h1,h2,h3,h4]
theorem row2 {c:Array Value}{n k:Nat}(h:GL I2 2 c n) (hk:k<n):rdOk c [(Leaf.int .i64),(Leaf.int .i64)] (0+k*2)=true:=h.good.2 k hk
section
variable {c:Array Value}{n:Nat}
theorem step44 (g:GL I2 2 c n)(few:n≤1000)(k:Nat)(hk:k<n):(rd44_0 ⟨c,0,n,c,0,n,(n:Int),(k:Int)⟩).val=some (if arK c k=0 then .inl ⟨c,0,n,c,0,n,(n:Int),((k+1:Nat):Int)⟩ else .inr (.k0 (k:Int) (arK c k))):=by
 have hki:(k:Int)<(n:Int):=by omega
 have h0:(0:Int)≤(k:Int):=by omega
 have h3:IntKind.wrap .i64 ((k:Int)+1)=((k+1:Nat):Int):=by rw[wrap64_id (by omega) (by omega)];omega
 have hr:=row2 g hk;unfold arK
 by_cases hk0:k=0
 ·subst hk0
  have hz:((0:Nat):Int)=0:=rfl
  have hlt:¬((0:Int)<((0:Nat):Int)):=by decide
  have hki0:(0:Int)<(n:Int):=by omega
  have hle:(0:Int)≤0:=by decide
  have h30:IntKind.wrap .i64 ((0:Int)+1)=((0+1:Nat):Int):=by rw[wrap64_id (by omega) (by omega)];rfl
  simp only[rd44_0,RT.val,mq,hki0,hle,h30,hr,hz,Int.lt_irrefl,Int.toNat_natCast,Int.toNat_zero,Int.ofNat_eq_natCast,decide_true,decide_false,Bool.and_self,cond_true,cond_false]
  exact ar44z _ _ _ _ (fun r=>.k0 0 r)
 ·have hz:¬(k:Int)=0:=by omega
  have hlt:(0:Int)<(k:Int):=by omega
  have hw:IntKind.wrap .i64 ((k:Int)-1)=((k-1:Nat):Int):=by rw[wrap64_id (by omega) (by omega)];omega
  have h0':(0:Int)≤((k-1:Nat):Int):=by omega
  have hlt':((k-1:Nat):Int)<(n:Int):=by omega
  have hi:isInt .i64 c (0+(k-1)*2+0)=true:=(rd_and (row2 g (show k-1<n by omega))).1
  simp only[rd44_0,RT.val,mq,hki,h0,h3,hr,hz,hlt,hw,h0',hlt',hi,Int.toNat_natCast,Int.ofNat_eq_natCast,decide_true,decide_false,Bool.and_self,cond_true,cond_false]
  rw[show decide (k=0)=false from decide_eq_false hk0]
  exact ar44 _ _ _ k _ (fun r=>.k0 (k:Int) r)
def arS (c:Array Value)(n:Nat):Int×Int:=if 20<n then (0,3) else match fst1 (arK c) n 0 with | some (i,r)=>((i:Int),r) | none=>(0,0)
theorem F44_eq (g:GL I2 2 c n):F44 c 0 n=some ⟨(arS c n).1,(arS c n).2⟩:=by
 unfold F44 rt44 arS
 by_cases h:20<n
 ·have:(20:Int)<(n:Int):=by omega
  rw[if_pos h];simp only[RT.val,mq,this,Int.ofNat_eq_natCast,decide_true,cond_true]
 ·have i1:¬(20:Int)<(n:Int):=by omega
  have i2:¬(n:Int)<(n:Int):=by omega
  rw[if_neg h]
  have l:L44_0 (X44_0.mk c 0 n c 0 n (n:Int) 0)=some (match fst1 (arK c) n 0 with | some (i,r)=>.k0 (i:Int) r | none=>.k1) :=
   loop_fst (rd:=rd44_0) (S:=fun k=>⟨c,0,n,c,0,n,(n:Int),(k:Int)⟩) (E:=arK c) (n:=n) (err:=fun i r=>.k0 (i:Int) r) (fin:=.k1) (fun k hk=>step44 g (by omega) k hk)
    (by simp only[rd44_0,RT.val,mq,i2,decide_false,cond_false]) n 0 (by omega)
  cases hf:fst1 (arK c) n 0 with
  | none =>
   rw[hf]at l;simp only[RT.val,mq,i1,Int.ofNat_eq_natCast,L44_0_k0,L44_0_k1,l,decide_false,cond_true,cond_false]
  | some p =>
   obtain ⟨i,r⟩:=p;rw[hf]at l;simp only[RT.val,mq,i1,Int.ofNat_eq_natCast,L44_0_k0,Qc0,Qc1,l,decide_false,cond_true,cond_false]
end
end
end Go.Proofs.Ytggaomgopenkfaa
namespace Go.Proofs.Ytggaomgopenkfaa
open Go.ChangeShapes Go.WideShapes Go.ChangeAt Go.RowKit Go.Gi
set_option maxRecDepth 100000
theorem own:ownKnob Try.prog.godebug=none:=by kernel_rfl
theorem laidOut:laidOutB Try.prog=true:=by kernel_rfl
theorem flat146:flatT Try.prog 18 146=true:=by kernel_rfl
theorem leaves146:leaves Try.prog false 18 146=I2:=by kernel_rfl
theorem cells146:Try.prog.cellsOf 146=2:=by kernel_rfl
theorem flat81:flatT Try.prog 18 81=true:=by kernel_rfl
theorem leaves81:leaves Try.prog false 18 81=I13:=by kernel_rfl
theorem cells81:Try.prog.cellsOf 81=13:=by kernel_rfl
theorem flat78:flatT Try.prog 18 78=true:=by kernel_rfl
theorem leaves78:leaves Try.prog false 18 78=S13:=by kernel_rfl
theorem cells78:Try.prog.cellsOf 78=13:=by kernel_rfl
theorem tyB28:tyB Try.prog 20 28=true:=by kernel_rfl
theorem tyStr {P:Program}{d:Nat}{t:TypeId}{cs:List Value}(hu:P.underlying t=some .string) (h:Ty P (d+1) t cs):∃s,cs=[.string s]∧s.size≤maxLen:=by
 unfold Ty at h;rw[hu]at h;exact h
theorem tySpan {d:Nat}{cs:List Value}(h:Ty Try.prog (d+1+1) 23 cs):∃a b,cs=[.int .i64 a,.int .i64 b]:=by
 obtain ⟨p0,p1,rfl,h0,h1⟩:=tyS2 Try.underlying23 h;obtain ⟨a,rfl,_⟩:=tyI Try.underlying3 h0;obtain ⟨b,rfl,_⟩:=tyI Try.underlying3 h1;exact ⟨a,b,rfl⟩
def Veh (abs:List Value):Prop:=∃nm g1 g2 ca na cp np c n,abs=[.string nm,.int .i64 g1,.int .i64 g2,lstV ca 0 na 2,lstV cp 0 np 13,lstV c 0 n 13]∧GL I2 2 ca na∧GL I13 13 cp np∧GL S13 13 c n
theorem veh {abs:List Value}(h:Ty Try.prog 20 28 abs):Veh abs:=by
 obtain ⟨p0,p1,p2,p3,p4,rfl,h0,h1,h2,h3,h4⟩:=tyS5 Try.underlying28 h;obtain ⟨nm,rfl,_⟩:=tyStr Try.underlying9 h0;obtain ⟨g1,g2,rfl⟩:=tySpan h1
 obtain ⟨ca,na,rfl,q1⟩:=tyG Try.underlying24 flat146 cells146 leaves146 rfl (by decide) h2
 obtain ⟨cp,np,rfl,q2⟩:=tyG Try.underlying25 flat81 cells81 leaves81 rfl (by decide) h3
 obtain ⟨c,n,rfl,q3⟩:=tyG Try.underlying26 flat78 cells78 leaves78 rfl (by decide) h4
 exact ⟨nm,g1,g2,ca,na,cp,np,c,n,rfl,q1,q2,q3⟩
section
variable {H:Type}{enc:TypeId×Value→H}{w:World}{r:Reach}{b0:Nat}{v:Value}{dd:DataW H}{p:List MemPlace}
theorem vehArg (hval:Value.okWide Try.prog w r b0 28 v)(h:DataW.Trod enc Try.prog w 0 (fun _=>true) true 28 v dd p):∃abs,VR (zAll w) (.agg ⟨abs⟩) v∧Veh abs:=by
 obtain ⟨abs,h1,h2⟩:=argS Try.underlying28 tyB28 hval h;exact ⟨abs,h1,veh h2⟩
end
end Go.Proofs.Ytggaomgopenkfaa
namespace Go.Proofs.Ytggaomgopenkfaa
open Go.Gi Go.RowKit Go.Proofs.Ytggaomgopenkfaa.Old
noncomputable section
set_option maxRecDepth 100000
set_option maxHeartbeats 4000000
structure R122 where
 (r0:Bool)
structure A122 where
 (a0:Int)
def rt122 (a0:Int):RT R122 :=
 .br (decide ((-20000:Int)≤a0)) (.leaf ⟨(decide (a0≤(20000:Int)))⟩) (.leaf ⟨false⟩)
def en122 (r:R122):Value:=(.bool r.r0)
theorem T122  (a0:Int):evC Try.prog (Ans.c (fun _=>none:Ans)) 60 (.call 122 ⟨[(.int .i64 a0)]⟩ ⟨[],0,[]⟩) (frzK [0])=(rt122 a0).out (fun r=>.ret (en122 r) ⟨[],0,[]⟩):=by kernel_rfl
def F122 (a0:Int):Option R122:=(rt122 a0).val
section
variable (a0:Int)
def F122_ok:Bool:=(F122 a0).isSome
def F122_0:Bool:=match F122 a0 with | some r=>r.r0 | none=>false
end
def dec122:Task→Option (A122×Hp)
 | .call g ⟨[(.int .i64 a0)]⟩ h=>(match Nat.beq g 122 with | true=>some (⟨a0⟩,h) | false=>none)
 | _=>none
def alt122 (x:A122)(h:Hp):AT:=.br (F122_ok x.a0) (.leaf (.ret (.bool (F122_0 x.a0)) h)) .no
def p122:Ans:=fnAns dec122 alt122
theorem ha122:∀(x:A122) (h:Hp)(o:Out),(alt122 x h).out=some o→∃r,(rt122 x.a0).val=some r∧o=.ret (en122 r) h:=by
 intro x h o e;unfold alt122 at e;simp only[AT.out]at e;obtain ⟨g,e⟩:=cond_some e;unfold F122_ok at g;obtain ⟨r,hF⟩:=Option.isSome_iff_exists.1 g
 refine ⟨r,by delta F122 at hF;exact hF,?_⟩
 simp only[Option.some.injEq]at e;rw[← e]
 unfold F122_0;rw[hF]<;>rfl
theorem hd122:∀(t:Task) (x:A122)(h:Hp),dec122 t=some (x,h)→t=.call 122 ⟨[(.int .i64 x.a0)]⟩ h:=by
 intro t x h e;unfold dec122 at e
 split at e
 case h_2=>cases e
 split at e
 case h_2=>cases e
 rename_i hg;simp only[Option.some.injEq,Prod.mk.injEq]at e;obtain ⟨rfl,rfl⟩:=e;rw[Nat.eq_of_beq_eq_true hg]
theorem known122:Known Try.prog p122:=by
 exact Known.fn noNG mixed (Known.nothing Try.prog) (n:=60) (zs:=[0]) 122 (fun x:A122=>[(.int .i64 x.a0)]) (fun x=>rt122 x.a0) en122 (fun x=>T122  x.a0) (fun x=>rfl) dec122 alt122 hd122 ha122
structure R109 where
 (r0:Bool)
structure A109 where
 (a0 a1:Int)
def rt109 (a0 a1:Int):RT R109 :=
 .br (decide (a0≤a1)) (.br (F122_ok a0) (.br (F122_0 a0) (.br (F122_ok a1) (.leaf ⟨(F122_0 a1)⟩) (.no)) (.leaf ⟨false⟩)) (.no)) (.leaf ⟨false⟩)
def en109 (r:R109):Value:=(.bool r.r0)
theorem T109  (a0 a1:Int):evC Try.prog (Ans.c p122) 60 (.call 109 ⟨[(.agg ⟨[(.int .i64 a0),(.int .i64 a1)]⟩)]⟩ ⟨[],0,[]⟩) (frzK [0])=(rt109 a0 a1).out (fun r=>.ret (en109 r) ⟨[],0,[]⟩):=by kernel_rfl
def F109 (a0 a1:Int):Option R109:=(rt109 a0 a1).val
section
variable (a0 a1:Int)
def F109_ok:Bool:=(F109 a0 a1).isSome
def F109_0:Bool:=match F109 a0 a1 with | some r=>r.r0 | none=>false
end
def dec109:Task→Option (A109×Hp)
 | .call g ⟨[(.agg ⟨[(.int .i64 a0),(.int .i64 a1)]⟩)]⟩ h=>(match Nat.beq g 109 with | true=>some (⟨a0,a1⟩,h) | false=>none)
 | _=>none
def alt109 (x:A109)(h:Hp):AT:=.br (F109_ok x.a0 x.a1) (.leaf (.ret (.bool (F109_0 x.a0 x.a1)) h)) .no
def p109:Ans:=fnAns dec109 alt109
theorem ha109:∀(x:A109) (h:Hp)(o:Out),(alt109 x h).out=some o→∃r,(rt109 x.a0 x.a1).val=some r∧o=.ret (en109 r) h:=by
 intro x h o e;unfold alt109 at e;simp only[AT.out]at e;obtain ⟨g,e⟩:=cond_some e;unfold F109_ok at g;obtain ⟨r,hF⟩:=Option.isSome_iff_exists.1 g
 refine ⟨r,by delta F109 at hF;exact hF,?_⟩
 simp only[Option.some.injEq]at e;rw[← e]
 unfold F109_0;rw[hF]<;>rfl
theorem hd109:∀(t:Task) (x:A109)(h:Hp),dec109 t=some (x,h)→t=.call 109 ⟨[(.agg ⟨[(.int .i64 x.a0),(.int .i64 x.a1)]⟩)]⟩ h:=by
 intro t x h e;unfold dec109 at e
 split at e
 case h_2=>cases e
 split at e
 case h_2=>cases e
 rename_i hg;simp only[Option.some.injEq,Prod.mk.injEq]at e;obtain ⟨rfl,rfl⟩:=e;rw[Nat.eq_of_beq_eq_true hg]
theorem known109:Known Try.prog p109:=by
 exact Known.fn noNG mixed known122 (n:=60) (zs:=[0]) 109 (fun x:A109=>[(.agg ⟨[(.int .i64 x.a0),(.int .i64 x.a1)]⟩)]) (fun x=>rt109 x.a0 x.a1) en109 (fun x=>T109  x.a0 x.a1) (fun x=>rfl) dec109 alt109 hd109 ha109
structure R90 where
 (r0:Int)
structure A90 where
 (a0 a1:Int)
 (a2 a3:Int)
 (a4 a5 a6:Int)
def rt90 (a0 a1:Int)(a2 a3:Int)(a4 a5 a6:Int):RT R90 :=
 .br (not (decide (a0=a6))) (.leaf ⟨(2:Int)⟩) (.br (decide (a1≤a0)) (.leaf ⟨(7:Int)⟩) (.br (decide ((100000000:Int)<a1)) (.leaf ⟨(7:Int)⟩) (.br (F109_ok a2 a3) (.br (not (F109_0 a2 a3)) (.leaf ⟨(7:Int)⟩) (.br (F109_ok a4 a5) (.br (not (F109_0 a4 a5)) (.leaf ⟨(7:Int)⟩) (.leaf ⟨(0:Int)⟩)) (.no))) (.no))))
def en90 (r:R90):Value:=(.int .i64 r.r0)
theorem T90  (a0 a1:Int) (a2 a3:Int) (a4 a5 a6:Int):evC Try.prog (Ans.c p109) 60 (.call 90 ⟨[(.agg ⟨[(.int .i64 a0),(.int .i64 a1),(.int .i64 a2),(.int .i64 a3),(.int .i64 a4),(.int .i64 a5)]⟩),(.int .i64 a6)]⟩ ⟨[],0,[]⟩) (frzK [0])=(rt90 a0 a1 a2 a3 a4 a5 a6).out (fun r=>.ret (en90 r) ⟨[],0,[]⟩):=by kernel_rfl
def F90 (a0 a1:Int)(a2 a3:Int)(a4 a5 a6:Int):Option R90:=(rt90 a0 a1 a2 a3 a4 a5 a6).val
section
variable (a0 a1:Int) (a2 a3:Int) (a4 a5 a6:Int)
def F90_ok:Bool:=(F90 a0 a1 a2 a3 a4 a5 a6).isSome
def F90_0:Int:=match F90 a0 a1 a2 a3 a4 a5 a6 with | some r=>r.r0 | none=>0
end
def dec90:Task→Option (A90×Hp)
 | .call g ⟨[(.agg ⟨[(.int .i64 a0),(.int .i64 a1),(.int .i64 a2),(.int .i64 a3),(.int .i64 a4),(.int .i64 a5)]⟩),(.int .i64 a6)]⟩ h=>(match Nat.beq g 90 with | true=>some (⟨a0,a1,a2,a3,a4,a5,a6⟩,h) | false=>none)
 | _=>none
def alt90 (x:A90)(h:Hp):AT:=.br (F90_ok x.a0 x.a1 x.a2 x.a3 x.a4 x.a5 x.a6) (.leaf (.ret (.int .i64 (F90_0 x.a0 x.a1 x.a2 x.a3 x.a4 x.a5 x.a6)) h)) .no
def p90:Ans:=fnAns dec90 alt90
theorem ha90:∀(x:A90) (h:Hp)(o:Out),(alt90 x h).out=some o→∃r,(rt90 x.a0 x.a1 x.a2 x.a3 x.a4 x.a5 x.a6).val=some r∧o=.ret (en90 r) h:=by
 intro x h o e;unfold alt90 at e;simp only[AT.out]at e;obtain ⟨g,e⟩:=cond_some e;unfold F90_ok at g;obtain ⟨r,hF⟩:=Option.isSome_iff_exists.1 g
 refine ⟨r,by delta F90 at hF;exact hF,?_⟩
 simp only[Option.some.injEq]at e;rw[← e]
 unfold F90_0;rw[hF]<;>rfl
theorem hd90:∀(t:Task) (x:A90)(h:Hp),dec90 t=some (x,h)→t=.call 90 ⟨[(.agg ⟨[(.int .i64 x.a0),(.int .i64 x.a1),(.int .i64 x.a2),(.int .i64 x.a3),(.int .i64 x.a4),(.int .i64 x.a5)]⟩),(.int .i64 x.a6)]⟩ h:=by
 intro t x h e;unfold dec90 at e
 split at e
 case h_2=>cases e
 split at e
 case h_2=>cases e
 rename_i hg;simp only[Option.some.injEq,Prod.mk.injEq]at e;obtain ⟨rfl,rfl⟩:=e;rw[Nat.eq_of_beq_eq_true hg]
theorem known90:Known Try.prog p90:=by
 exact Known.fn noNG mixed known109 (n:=60) (zs:=[0]) 90 (fun x:A90=>[(.agg ⟨[(.int .i64 x.a0),(.int .i64 x.a1),(.int .i64 x.a2),(.int .i64 x.a3),(.int .i64 x.a4),(.int .i64 x.a5)]⟩),(.int .i64 x.a6)]) (fun x=>rt90 x.a0 x.a1 x.a2 x.a3 x.a4 x.a5 x.a6) en90 (fun x=>T90  x.a0 x.a1 x.a2 x.a3 x.a4 x.a5 x.a6) (fun x=>rfl) dec90 alt90 hd90 ha90
structure X53_0 where
 (v0:Int)
 (v1:Array Value)
 (v2 v3:Nat)
 (v4 v5:Int)
inductive D53_0 where
 | k0 (d0 d1:Int)
 | k1
def Lp53_0:LoopOf X53_0 D53_0 where
 c:=(theLoop Try.prog 53 0)
 N:=33
 M:=0
 S:=[4,16,17,18]
 sl:=fun x=>[(.int .i64 x.v0),(lstV x.v1 x.v2 x.v3 6),(.int .i64 x.v4),(.int .i64 x.v5)]
 hp:=fun x=>[]
 ex:=fun d=>match d with | .k0 ..=>.ret | .k1 ..=>.exit 0
 pick:=fun e=>match e with | .ret=>[2,3] | .exit 0=>[] | _=>[]
 dv:=fun d=>match d with | .k0 d0 d1=>[(.int .i64 d0),(.int .i64 d1)] | .k1 =>[]
 dh:=fun d=>match d with | .k0 d0 d1=>[] | .k1 =>[]
theorem ok53_0:Lp53_0.Ok:=⟨fun x=>rfl,fun x=>rfl,fun x=>rfl,fun x=>rfl,fun d=>by cases d<;>rfl,fun d=>by cases d<;>rfl,fun d=>by cases d<;>rfl,fun d=>by cases d<;>(intro h;cases h),fun d=>by cases d<;>rfl,fun d=>by cases d<;>rfl⟩
def rd53_0 (x:X53_0):RT (Sum X53_0 D53_0):=match x with
 | ⟨v0,v1,v2,v3,v4,v5⟩ =>let u1:=(Int.toNat v5);let u0:=(F90_0 (getInt v1 (v2+(u1*6))) (getInt v1 ((v2+(u1*6))+1)) (getInt v1 (((v2+(u1*6))+1)+1)) (getInt v1 ((((v2+(u1*6))+1)+1)+1)) (getInt v1 (((((v2+(u1*6))+1)+1)+1)+1)) (getInt v1 ((((((v2+(u1*6))+1)+1)+1)+1)+1)) v0);let u2:=(Leaf.int .i64);
   .br (decide (v5<v4)) (.br (and (decide ((0:Int)≤v5)) (decide (v5<(Int.ofNat v3)))) (.br (rdOk v1 [u2,u2,u2,u2,u2,u2] (v2+(u1*6))) (.br (F90_ok (getInt v1 (v2+(u1*6))) (getInt v1 ((v2+(u1*6))+1)) (getInt v1 (((v2+(u1*6))+1)+1)) (getInt v1 ((((v2+(u1*6))+1)+1)+1)) (getInt v1 (((((v2+(u1*6))+1)+1)+1)+1)) (getInt v1 ((((((v2+(u1*6))+1)+1)+1)+1)+1)) v0)
   (.br (not (decide (u0=(0:Int)))) (.leaf (.inr (.k0 v5 (u0)))) (.leaf (.inl ⟨(getInt v1 ((v2+(u1*6))+1)),v1,v2,v3,v4,(IntKind.wrap .i64 (v5+(1:Int)))⟩))) (.no)) (.no)) (.no)) (.leaf (.inr (.k1)))
theorem T53_0  (y:List Value) (v0:Int) (v1:Array Value) (v2 v3:Nat) (v4 v5:Int):evC Try.prog (Ans.c p90) 60 (.code none (theLoop Try.prog 53 0) ⟨sets (junkF 33 y) [(4,(.int .i64 v0)),(16,(lstV v1 v2 v3 6)),(17,(.int .i64 v4)),(18,(.int .i64 v5))],[],⟨[],0,[]⟩⟩) (sumK 0 33 Lp53_0.pk)=(rd53_0 ⟨v0,v1,v2,v3,v4,v5⟩).out Lp53_0.enc:=by kernel_rfl
def L53_0 (x:X53_0):Option D53_0:=loopR rd53_0 x
section
variable (x:X53_0)
def L53_0_k0:Bool:=match L53_0 x with | some (.k0 ..)=>true | _=>false
def Qp0:Int:=match L53_0 x with | some (.k0 d _)=>d | _=>0
def Qp1:Int:=match L53_0 x with | some (.k0 _ d)=>d | _=>0
def L53_0_k1:Bool:=match L53_0 x with | some (.k1 ..)=>true | _=>false
end
def dec53_0:Task→Option (Code×X53_0)
 | .code none (.loop code) ⟨t,[],⟨[],0,[]⟩⟩ =>
  (match Nat.beq (firstReg code) 5,lenIs t 33,lget t 4,lget t 16,lget t 17,lget t 18 with
  | true,true,(.int .i64 v0),(.func (.via 0 ⟨[]⟩ 0 true) v1 ⟨[.slice (some ⟨0,v2,none⟩) v3 6]⟩),(.int .i64 v4),(.int .i64 v5)=>some (code,⟨v0,v1,v2,v3,v4,v5⟩)
  | _,_,_,_,_,_=>none)
 | _=>none
def alt53_0 (x:X53_0)(j:List Value):AT:=.br (L53_0_k0 x) (loopEnd 33 (.ret) [(2,(.int .i64 (Qp0 x))),(3,(.int .i64 (Qp1 x)))] ⟨[],0,[]⟩ j) (.br (L53_0_k1 x) (loopEnd 33 (.exit 0) [] ⟨[],0,[]⟩ j) (.no))
def la53_0 (J:Task→List Value):Ans:=loopAns Lp53_0.c dec53_0 alt53_0 J
theorem ha53_0:∀(x:X53_0) (j:List Value)(o:Out),(alt53_0 x j).out=some o→∃d,loopR rd53_0 x=some d∧o=Lp53_0.tail d j:=by
 intro x j o h;unfold alt53_0 at h
 cases hL:L53_0 x with
 | none=>simp [L53_0_k0,Qp0,Qp1,L53_0_k1,hL,AT.out]at h
 | some d =>
  refine ⟨d,hL,?_⟩
  cases d<;>(simp only[L53_0_k0,Qp0,Qp1,L53_0_k1,hL,AT.out,loopEnd,cond_true,cond_false,Option.some.injEq]at h;rw[← h];rfl)
theorem hd53_0:∀(t:Task) (c:Code)(x:X53_0),dec53_0 t=some (c,x)→c=Lp53_0.c→∃T,t=.code none (.loop Lp53_0.c) ⟨T,[],⟨Lp53_0.hp x,0,[]⟩⟩∧T.length=Lp53_0.N∧∀kv∈Lp53_0.S.zip (Lp53_0.sl x),lget T kv.1=kv.2:=by
 intro t c x h hc;unfold dec53_0 at h
 split at h
 case h_2=>cases h
 split at h
 case h_2=>cases h
 simp only[Option.some.injEq,Prod.mk.injEq]at h;obtain ⟨rfl,rfl⟩:=h;subst hc
 refine ⟨_,rfl,lenIs_eq _ _ (by assumption),?_⟩
 intro kv hk;simp only[Lp53_0,List.zip_cons_cons,List.zip_nil_right,List.mem_cons,List.not_mem_nil,or_false]at hk
 rcases hk with rfl | rfl | rfl | rfl<;>assumption
theorem kl53_0:∃J,Known Try.prog (la53_0 J):=by
 exact LoopOf.known noNG mixed ok53_0 (by decide) (by decide) known90 (n:=60) (rd:=rd53_0) (fun x j=>T53_0  j x.v0 x.v1 x.v2 x.v3 x.v4 x.v5) dec53_0 alt53_0 hd53_0 ha53_0
structure R53 where
 (r0 r1:Int)
structure A53 where
 (a0:Array Value)
 (a1 a2:Nat)
def rt53 (a0:Array Value)(a1 a2:Nat):RT R53 :=
 .br (decide ((Int.ofNat a2)<(1:Int))) (.leaf ⟨(0:Int),(3:Int)⟩) (.br (decide ((20:Int)<(Int.ofNat a2))) (.leaf ⟨(0:Int),(3:Int)⟩)
  (.sw (eqCode (Lp53_0.c) (Lp53_0.c)) true (by simp only[eqCode_self,arrEq_self]) (.br (L53_0_k0 (X53_0.mk (0:Int) a0 a1 a2 (Int.ofNat a2) (0:Int))) (.leaf ⟨(Qp0 (X53_0.mk (0:Int) a0 a1 a2 (Int.ofNat a2) (0:Int))),(Qp1 (X53_0.mk (0:Int) a0 a1 a2 (Int.ofNat a2) (0:Int)))⟩) (.br (L53_0_k1 (X53_0.mk (0:Int) a0 a1 a2 (Int.ofNat a2) (0:Int))) (.leaf ⟨(0:Int),(0:Int)⟩) (.no))) (.no)))
def en53 (r:R53):Value:=(.tuple ⟨[(.int .i64 r.r0),(.int .i64 r.r1)]⟩)
theorem T53 (J0:Task→List Value)(a0:Array Value)(a1 a2:Nat):evC Try.prog (Ans.c (p90.or (la53_0 J0))) 60 (.call 53 ⟨[(lstV a0 a1 a2 6)]⟩ ⟨[],0,[]⟩) (frzK [0,0])=(rt53 a0 a1 a2).out (fun r=>.ret (en53 r) ⟨[],0,[]⟩):=by kernel_rfl
def F53 (a0:Array Value)(a1 a2:Nat):Option R53:=(rt53 a0 a1 a2).val
section
variable (a0:Array Value) (a1 a2:Nat)
def F53_ok:Bool:=(F53 a0 a1 a2).isSome
def F53_0:Int:=match F53 a0 a1 a2 with | some r=>r.r0 | none=>0
def F53_1:Int:=match F53 a0 a1 a2 with | some r=>r.r1 | none=>0
end
def dec53:Task→Option (A53×Hp)
 | .call g ⟨[(.func (.via 0 ⟨[]⟩ 0 true) a0 ⟨[.slice (some ⟨0,a1,none⟩) a2 6]⟩)]⟩ h=>(match Nat.beq g 53 with | true=>some (⟨a0,a1,a2⟩,h) | false=>none)
 | _=>none
def alt53 (x:A53)(h:Hp):AT:=.br (F53_ok x.a0 x.a1 x.a2) (.leaf (.ret (.tuple ⟨[(.int .i64 (F53_0 x.a0 x.a1 x.a2)),(.int .i64 (F53_1 x.a0 x.a1 x.a2))]⟩) h)) .no
def p53:Ans:=fnAns dec53 alt53
theorem ha53:∀(x:A53) (h:Hp)(o:Out),(alt53 x h).out=some o→∃r,(rt53 x.a0 x.a1 x.a2).val=some r∧o=.ret (en53 r) h:=by
 intro x h o e;unfold alt53 at e;simp only[AT.out]at e;obtain ⟨g,e⟩:=cond_some e;unfold F53_ok at g;obtain ⟨r,hF⟩:=Option.isSome_iff_exists.1 g
 refine ⟨r,by delta F53 at hF;exact hF,?_⟩
 simp only[Option.some.injEq]at e;rw[← e]
 unfold F53_0 F53_1;rw[hF]<;>rfl
theorem hd53:∀(t:Task) (x:A53)(h:Hp),dec53 t=some (x,h)→t=.call 53 ⟨[(lstV x.a0 x.a1 x.a2 6)]⟩ h:=by
 intro t x h e;unfold dec53 at e
 split at e
 case h_2=>cases e
 split at e
 case h_2=>cases e
 rename_i hg;simp only[Option.some.injEq,Prod.mk.injEq]at e;obtain ⟨rfl,rfl⟩:=e;rw[Nat.eq_of_beq_eq_true hg]
theorem known53:Known Try.prog p53:=by
 obtain ⟨J0,hJ0⟩:=kl53_0
 exact Known.fn noNG mixed (Known.or known90 hJ0) (n:=60) (zs:=[0,0]) 53 (fun x:A53=>[(lstV x.a0 x.a1 x.a2 6)]) (fun x=>rt53 x.a0 x.a1 x.a2) en53 (fun x=>T53 J0 x.a0 x.a1 x.a2) (fun x=>rfl) dec53 alt53 hd53 ha53
structure R92 where
 (r0:Bool)
structure A92 where
 (a0 a1 a2:Int)
def rt92 (a0 a1 a2:Int):RT R92 :=
 .br (decide (a1≤a0)) (.leaf ⟨(decide (a0≤a2))⟩) (.leaf ⟨false⟩)
def en92 (r:R92):Value:=(.bool r.r0)
theorem T92  (a0 a1 a2:Int):evC Try.prog (Ans.c (fun _=>none:Ans)) 60 (.call 92 ⟨[(.int .i64 a0),(.int .i64 a1),(.int .i64 a2)]⟩ ⟨[],0,[]⟩) (frzK [0])=(rt92 a0 a1 a2).out (fun r=>.ret (en92 r) ⟨[],0,[]⟩):=by kernel_rfl
def F92 (a0 a1 a2:Int):Option R92:=(rt92 a0 a1 a2).val
section
variable (a0 a1 a2:Int)
def F92_ok:Bool:=(F92 a0 a1 a2).isSome
def F92_0:Bool:=match F92 a0 a1 a2 with | some r=>r.r0 | none=>false
end
def dec92:Task→Option (A92×Hp)
 | .call g ⟨[(.int .i64 a0),(.int .i64 a1),(.int .i64 a2)]⟩ h=>(match Nat.beq g 92 with | true=>some (⟨a0,a1,a2⟩,h) | false=>none)
 | _=>none
def alt92 (x:A92)(h:Hp):AT:=.br (F92_ok x.a0 x.a1 x.a2) (.leaf (.ret (.bool (F92_0 x.a0 x.a1 x.a2)) h)) .no
def p92:Ans:=fnAns dec92 alt92
theorem ha92:∀(x:A92) (h:Hp)(o:Out),(alt92 x h).out=some o→∃r,(rt92 x.a0 x.a1 x.a2).val=some r∧o=.ret (en92 r) h:=by
 intro x h o e;unfold alt92 at e;simp only[AT.out]at e;obtain ⟨g,e⟩:=cond_some e;unfold F92_ok at g;obtain ⟨r,hF⟩:=Option.isSome_iff_exists.1 g
 refine ⟨r,by delta F92 at hF;exact hF,?_⟩
 simp only[Option.some.injEq]at e;rw[← e]
 unfold F92_0;rw[hF]<;>rfl
theorem hd92:∀(t:Task) (x:A92)(h:Hp),dec92 t=some (x,h)→t=.call 92 ⟨[(.int .i64 x.a0),(.int .i64 x.a1),(.int .i64 x.a2)]⟩ h:=by
 intro t x h e;unfold dec92 at e
 split at e
 case h_2=>cases e
 split at e
 case h_2=>cases e
 rename_i hg;simp only[Option.some.injEq,Prod.mk.injEq]at e;obtain ⟨rfl,rfl⟩:=e;rw[Nat.eq_of_beq_eq_true hg]
theorem known92:Known Try.prog p92:=by
 exact Known.fn noNG mixed (Known.nothing Try.prog) (n:=60) (zs:=[0]) 92 (fun x:A92=>[(.int .i64 x.a0),(.int .i64 x.a1),(.int .i64 x.a2)]) (fun x=>rt92 x.a0 x.a1 x.a2) en92 (fun x=>T92  x.a0 x.a1 x.a2) (fun x=>rfl) dec92 alt92 hd92 ha92
structure R110 where
 (r0:Bool)
structure A110 where
 (a0:Int)
def rt110 (a0:Int):RT R110 :=
 .br (decide ((-20000:Int)≤a0)) (.leaf ⟨(decide (a0≤(20000:Int)))⟩) (.leaf ⟨false⟩)
def en110 (r:R110):Value:=(.bool r.r0)
theorem T110  (a0:Int):evC Try.prog (Ans.c (fun _=>none:Ans)) 60 (.call 110 ⟨[(.int .i64 a0)]⟩ ⟨[],0,[]⟩) (frzK [0])=(rt110 a0).out (fun r=>.ret (en110 r) ⟨[],0,[]⟩):=by kernel_rfl
def F110 (a0:Int):Option R110:=(rt110 a0).val
section
variable (a0:Int)
def F110_ok:Bool:=(F110 a0).isSome
def F110_0:Bool:=match F110 a0 with | some r=>r.r0 | none=>false
end
def dec110:Task→Option (A110×Hp)
 | .call g ⟨[(.int .i64 a0)]⟩ h=>(match Nat.beq g 110 with | true=>some (⟨a0⟩,h) | false=>none)
 | _=>none
def alt110 (x:A110)(h:Hp):AT:=.br (F110_ok x.a0) (.leaf (.ret (.bool (F110_0 x.a0)) h)) .no
def p110:Ans:=fnAns dec110 alt110
theorem ha110:∀(x:A110) (h:Hp)(o:Out),(alt110 x h).out=some o→∃r,(rt110 x.a0).val=some r∧o=.ret (en110 r) h:=by
 intro x h o e;unfold alt110 at e;simp only[AT.out]at e;obtain ⟨g,e⟩:=cond_some e;unfold F110_ok at g;obtain ⟨r,hF⟩:=Option.isSome_iff_exists.1 g
 refine ⟨r,by delta F110 at hF;exact hF,?_⟩
 simp only[Option.some.injEq]at e;rw[← e]
 unfold F110_0;rw[hF]<;>rfl
theorem hd110:∀(t:Task) (x:A110)(h:Hp),dec110 t=some (x,h)→t=.call 110 ⟨[(.int .i64 x.a0)]⟩ h:=by
 intro t x h e;unfold dec110 at e
 split at e
 case h_2=>cases e
 split at e
 case h_2=>cases e
 rename_i hg;simp only[Option.some.injEq,Prod.mk.injEq]at e;obtain ⟨rfl,rfl⟩:=e;rw[Nat.eq_of_beq_eq_true hg]
theorem known110:Known Try.prog p110:=by
 exact Known.fn noNG mixed (Known.nothing Try.prog) (n:=60) (zs:=[0]) 110 (fun x:A110=>[(.int .i64 x.a0)]) (fun x=>rt110 x.a0) en110 (fun x=>T110  x.a0) (fun x=>rfl) dec110 alt110 hd110 ha110
structure R93 where
 (r0:Bool)
structure A93 where
 (a0 a1:Int)
def rt93 (a0 a1:Int):RT R93 :=
 .br (F110_ok a0) (.br (F110_0 a0) (.br (F110_ok a1) (.br (F110_0 a1) (.leaf ⟨(decide (a0≤a1))⟩) (.leaf ⟨false⟩)) (.no)) (.leaf ⟨false⟩)) (.no)
def en93 (r:R93):Value:=(.bool r.r0)
theorem T93  (a0 a1:Int):evC Try.prog (Ans.c p110) 60 (.call 93 ⟨[(.agg ⟨[(.int .i64 a0),(.int .i64 a1)]⟩)]⟩ ⟨[],0,[]⟩) (frzK [0])=(rt93 a0 a1).out (fun r=>.ret (en93 r) ⟨[],0,[]⟩):=by kernel_rfl
def F93 (a0 a1:Int):Option R93:=(rt93 a0 a1).val
section
variable (a0 a1:Int)
def F93_ok:Bool:=(F93 a0 a1).isSome
def F93_0:Bool:=match F93 a0 a1 with | some r=>r.r0 | none=>false
end
def dec93:Task→Option (A93×Hp)
 | .call g ⟨[(.agg ⟨[(.int .i64 a0),(.int .i64 a1)]⟩)]⟩ h=>(match Nat.beq g 93 with | true=>some (⟨a0,a1⟩,h) | false=>none)
 | _=>none
def alt93 (x:A93)(h:Hp):AT:=.br (F93_ok x.a0 x.a1) (.leaf (.ret (.bool (F93_0 x.a0 x.a1)) h)) .no
def p93:Ans:=fnAns dec93 alt93
theorem ha93:∀(x:A93) (h:Hp)(o:Out),(alt93 x h).out=some o→∃r,(rt93 x.a0 x.a1).val=some r∧o=.ret (en93 r) h:=by
 intro x h o e;unfold alt93 at e;simp only[AT.out]at e;obtain ⟨g,e⟩:=cond_some e;unfold F93_ok at g;obtain ⟨r,hF⟩:=Option.isSome_iff_exists.1 g
 refine ⟨r,by delta F93 at hF;exact hF,?_⟩
 simp only[Option.some.injEq]at e;rw[← e]
 unfold F93_0;rw[hF]<;>rfl
theorem hd93:∀(t:Task) (x:A93)(h:Hp),dec93 t=some (x,h)→t=.call 93 ⟨[(.agg ⟨[(.int .i64 x.a0),(.int .i64 x.a1)]⟩)]⟩ h:=by
 intro t x h e;unfold dec93 at e
 split at e
 case h_2=>cases e
 split at e
 case h_2=>cases e
 rename_i hg;simp only[Option.some.injEq,Prod.mk.injEq]at e;obtain ⟨rfl,rfl⟩:=e;rw[Nat.eq_of_beq_eq_true hg]
theorem known93:Known Try.prog p93:=by
 exact Known.fn noNG mixed known110 (n:=60) (zs:=[0]) 93 (fun x:A93=>[(.agg ⟨[(.int .i64 x.a0),(.int .i64 x.a1)]⟩)]) (fun x=>rt93 x.a0 x.a1) en93 (fun x=>T93  x.a0 x.a1) (fun x=>rfl) dec93 alt93 hd93 ha93
structure X59_0 where
 (v0:Array Value)
 (v1 v2:Nat)
 (v3:Int)
inductive D59_0 where
 | k0 (d0 d1:Int)
 | k1
def Lp59_0:LoopOf X59_0 D59_0 where
 c:=(theLoop Try.prog 59 0)
 N:=70
 M:=0
 S:=[0,4]
 sl:=fun x=>[(lstV x.v0 x.v1 x.v2 6),(.int .i64 x.v3)]
 hp:=fun x=>[]
 ex:=fun d=>match d with | .k0 ..=>.ret | .k1 ..=>.exit 0
 pick:=fun e=>match e with | .ret=>[2,3] | .exit 0=>[] | _=>[]
 dv:=fun d=>match d with | .k0 d0 d1=>[(.int .i64 d0),(.int .i64 d1)] | .k1 =>[]
 dh:=fun d=>match d with | .k0 d0 d1=>[] | .k1 =>[]
theorem ok59_0:Lp59_0.Ok:=⟨fun x=>rfl,fun x=>rfl,fun x=>rfl,fun x=>rfl,fun d=>by cases d<;>rfl,fun d=>by cases d<;>rfl,fun d=>by cases d<;>rfl,fun d=>by cases d<;>(intro h;cases h),fun d=>by cases d<;>rfl,fun d=>by cases d<;>rfl⟩
def rd59_0 (x:X59_0):RT (Sum X59_0 D59_0):=match x with
 | ⟨v0,v1,v2,v3⟩ =>let u0:=(Int.toNat v3);let u1:=(IntKind.wrap .i64 (v3-(1:Int)));let u2:=(Leaf.int .i64);let u3:=(getInt v0 (((v1+(u0*6))+2)+1));let u4:=(getInt v0 (((v1+(u0*6))+4)+1));let u5:=(getInt v0 ((v1+(u0*6))+0));let u6:=(getInt v0 ((v1+(u0*6))+1));let u7:=(getInt v0 ((v1+(u0*6))+2));let u8:=(getInt v0 ((v1+(u0*6))+4));
   .br (decide (v3<(Int.ofNat v2))) (.br (decide ((0:Int)<v3)) (.br (and (decide ((0:Int)≤u1)) (decide (u1<(Int.ofNat v2)))) (.br (isInt .i64 v0 ((v1+((Int.toNat u1)*6))+1)) (.br (and (decide ((0:Int)≤v3)) (decide (v3<(Int.ofNat v2)))) (.br (isInt .i64 v0 ((v1+(u0*6))+0)) (.br (not (decide (u5=(getInt v0 ((v1+((Int.toNat u1)*6))+1))))) (.leaf (.inr (.k0 v3 ((2:Int))))) (.br (and (decide ((0:Int)≤v3)) (decide (v3<(Int.ofNat v2)))) (.br (isInt .i64 v0 ((v1+(u0*6))+1)) (.br (and (decide ((0:Int)≤v3)) (decide (v3<(Int.ofNat v2)))) (.br (isInt .i64 v0 ((v1+(u0*6))+0)) (.br (decide (u6≤u5)) (.leaf (.inr (.k0 v3 ((7:Int))))) (.br (and (decide ((0:Int)≤v3)) (decide (v3<(Int.ofNat v2))))
   (.br (isInt .i64 v0 ((v1+(u0*6))+1)) (.br (decide ((100000000:Int)<u6)) (.leaf (.inr (.k0 v3 ((7:Int))))) (.br (and (decide ((0:Int)≤v3)) (decide (v3<(Int.ofNat v2)))) (.br (rdOk v0 [u2,u2] ((v1+(u0*6))+2)) (.br (F93_ok u7 u3) (.br (not (F93_0 u7 u3)) (.leaf (.inr (.k0 v3 ((7:Int))))) (.br (and (decide ((0:Int)≤v3)) (decide (v3<(Int.ofNat v2)))) (.br (rdOk v0 [u2,u2] ((v1+(u0*6))+4)) (.br (F93_ok u8 u4)
   (.br (not (F93_0 u8 u4)) (.leaf (.inr (.k0 v3 ((7:Int))))) (.leaf (.inl ⟨v0,v1,v2,(IntKind.wrap .i64 (v3+(1:Int)))⟩))) (.no)) (.no)) (.no))) (.no)) (.no)) (.no))) (.no)) (.no))) (.no)) (.no)) (.no)) (.no))) (.no)) (.no)) (.no)) (.no)) (.br (and (decide ((0:Int)≤v3)) (decide (v3<(Int.ofNat v2)))) (.br (isInt .i64 v0 ((v1+(u0*6))+0)) (.br (not (decide (u5=(0:Int)))) (.leaf (.inr (.k0 v3 ((2:Int))))) (.br (and (decide ((0:Int)≤v3)) (decide (v3<(Int.ofNat v2)))) (.br (isInt .i64 v0 ((v1+(u0*6))+1)) (.br (and (decide ((0:Int)≤v3)) (decide (v3<(Int.ofNat v2)))) (.br (isInt .i64 v0 ((v1+(u0*6))+0)) (.br (decide (u6≤u5)) (.leaf (.inr (.k0 v3 ((7:Int))))) (.br (and (decide ((0:Int)≤v3)) (decide (v3<(Int.ofNat v2)))) (.br (isInt .i64 v0 ((v1+(u0*6))+1))
   (.br (decide ((100000000:Int)<u6)) (.leaf (.inr (.k0 v3 ((7:Int))))) (.br (and (decide ((0:Int)≤v3)) (decide (v3<(Int.ofNat v2)))) (.br (rdOk v0 [u2,u2] ((v1+(u0*6))+2)) (.br (F93_ok u7 u3) (.br (not (F93_0 u7 u3)) (.leaf (.inr (.k0 v3 ((7:Int))))) (.br (and (decide ((0:Int)≤v3)) (decide (v3<(Int.ofNat v2)))) (.br (rdOk v0 [u2,u2] ((v1+(u0*6))+4)) (.br (F93_ok u8 u4)
   (.br (not (F93_0 u8 u4)) (.leaf (.inr (.k0 v3 ((7:Int))))) (.leaf (.inl ⟨v0,v1,v2,(IntKind.wrap .i64 (v3+(1:Int)))⟩))) (.no)) (.no)) (.no))) (.no)) (.no)) (.no))) (.no)) (.no))) (.no)) (.no)) (.no)) (.no))) (.no)) (.no))) (.leaf (.inr (.k1)))
theorem T59_0  (y:List Value) (v0:Array Value) (v1 v2:Nat) (v3:Int):evC Try.prog (Ans.c (p92.or p93)) 60 (.code none (theLoop Try.prog 59 0) ⟨sets (junkF 70 y) [(0,(lstV v0 v1 v2 6)),(4,(.int .i64 v3))],[],⟨[],0,[]⟩⟩) (sumK 0 70 Lp59_0.pk)=(rd59_0 ⟨v0,v1,v2,v3⟩).out Lp59_0.enc:=by kernel_rfl
def L59_0 (x:X59_0):Option D59_0:=loopR rd59_0 x
section
variable (x:X59_0)
def L59_0_k0:Bool:=match L59_0 x with | some (.k0 ..)=>true | _=>false
def Qq0:Int:=match L59_0 x with | some (.k0 d _)=>d | _=>0
def Qq1:Int:=match L59_0 x with | some (.k0 _ d)=>d | _=>0
def L59_0_k1:Bool:=match L59_0 x with | some (.k1 ..)=>true | _=>false
end
def dec59_0:Task→Option (Code×X59_0)
 | .code none (.loop code) ⟨t,[],⟨[],0,[]⟩⟩ =>
  (match Nat.beq (firstReg code) 4,lenIs t 70,lget t 0,lget t 4 with
  | true,true,(.func (.via 0 ⟨[]⟩ 0 true) v0 ⟨[.slice (some ⟨0,v1,none⟩) v2 6]⟩),(.int .i64 v3)=>some (code,⟨v0,v1,v2,v3⟩)
  | _,_,_,_=>none)
 | _=>none
def alt59_0 (x:X59_0)(j:List Value):AT:=.br (L59_0_k0 x) (loopEnd 70 (.ret) [(2,(.int .i64 (Qq0 x))),(3,(.int .i64 (Qq1 x)))] ⟨[],0,[]⟩ j) (.br (L59_0_k1 x) (loopEnd 70 (.exit 0) [] ⟨[],0,[]⟩ j) (.no))
def la59_0 (J:Task→List Value):Ans:=loopAns Lp59_0.c dec59_0 alt59_0 J
theorem ha59_0:∀(x:X59_0) (j:List Value)(o:Out),(alt59_0 x j).out=some o→∃d,loopR rd59_0 x=some d∧o=Lp59_0.tail d j:=by
 intro x j o h;unfold alt59_0 at h
 cases hL:L59_0 x with
 | none=>simp [L59_0_k0,Qq0,Qq1,L59_0_k1,hL,AT.out]at h
 | some d =>
  refine ⟨d,hL,?_⟩
  cases d<;>(simp only[L59_0_k0,Qq0,Qq1,L59_0_k1,hL,AT.out,loopEnd,cond_true,cond_false,Option.some.injEq]at h;rw[← h];rfl)
theorem hd59_0:∀(t:Task) (c:Code)(x:X59_0),dec59_0 t=some (c,x)→c=Lp59_0.c→∃T,t=.code none (.loop Lp59_0.c) ⟨T,[],⟨Lp59_0.hp x,0,[]⟩⟩∧T.length=Lp59_0.N∧∀kv∈Lp59_0.S.zip (Lp59_0.sl x),lget T kv.1=kv.2:=by
 intro t c x h hc;unfold dec59_0 at h
 split at h
 case h_2=>cases h
 split at h
 case h_2=>cases h
 simp only[Option.some.injEq,Prod.mk.injEq]at h;obtain ⟨rfl,rfl⟩:=h;subst hc
 refine ⟨_,rfl,lenIs_eq _ _ (by assumption),?_⟩
 intro kv hk;simp only[Lp59_0,List.zip_cons_cons,List.zip_nil_right,List.mem_cons,List.not_mem_nil,or_false]at hk
 rcases hk with rfl | rfl<;>assumption
theorem kl59_0:∃J,Known Try.prog (la59_0 J):=by
 exact LoopOf.known noNG mixed ok59_0 (by decide) (by decide) (Known.or known92 known93) (n:=60) (rd:=rd59_0) (fun x j=>T59_0  j x.v0 x.v1 x.v2 x.v3) dec59_0 alt59_0 hd59_0 ha59_0
structure R59 where
 (r0 r1:Int)
structure A59 where
 (a0:Array Value)
 (a1 a2:Nat)
def rt59 (a0:Array Value)(a1 a2:Nat):RT R59 :=
 .br (F92_ok (Int.ofNat a2) (1:Int) (20:Int)) (.br (not (F92_0 (Int.ofNat a2) (1:Int) (20:Int))) (.leaf ⟨(0:Int),(3:Int)⟩)
  (.sw (eqCode (Lp59_0.c) (Lp59_0.c)) true (by simp only[eqCode_self,arrEq_self]) (.br (L59_0_k0 (X59_0.mk a0 a1 a2 (0:Int))) (.leaf ⟨(Qq0 (X59_0.mk a0 a1 a2 (0:Int))),(Qq1 (X59_0.mk a0 a1 a2 (0:Int)))⟩) (.br (L59_0_k1 (X59_0.mk a0 a1 a2 (0:Int))) (.leaf ⟨(0:Int),(0:Int)⟩) (.no))) (.no))) (.no)
def en59 (r:R59):Value:=(.tuple ⟨[(.int .i64 r.r0),(.int .i64 r.r1)]⟩)
theorem T59 (J0:Task→List Value)(a0:Array Value)(a1 a2:Nat):evC Try.prog (Ans.c (p92.or (p93.or (la59_0 J0)))) 60 (.call 59 ⟨[(lstV a0 a1 a2 6)]⟩ ⟨[],0,[]⟩) (frzK [0,0])=(rt59 a0 a1 a2).out (fun r=>.ret (en59 r) ⟨[],0,[]⟩):=by kernel_rfl
def F59 (a0:Array Value)(a1 a2:Nat):Option R59:=(rt59 a0 a1 a2).val
section
variable (a0:Array Value) (a1 a2:Nat)
def F59_ok:Bool:=(F59 a0 a1 a2).isSome
def F59_0:Int:=match F59 a0 a1 a2 with | some r=>r.r0 | none=>0
def F59_1:Int:=match F59 a0 a1 a2 with | some r=>r.r1 | none=>0
end
def dec59:Task→Option (A59×Hp)
 | .call g ⟨[(.func (.via 0 ⟨[]⟩ 0 true) a0 ⟨[.slice (some ⟨0,a1,none⟩) a2 6]⟩)]⟩ h=>(match Nat.beq g 59 with | true=>some (⟨a0,a1,a2⟩,h) | false=>none)
 | _=>none
def alt59 (x:A59)(h:Hp):AT:=.br (F59_ok x.a0 x.a1 x.a2) (.leaf (.ret (.tuple ⟨[(.int .i64 (F59_0 x.a0 x.a1 x.a2)),(.int .i64 (F59_1 x.a0 x.a1 x.a2))]⟩) h)) .no
def p59:Ans:=fnAns dec59 alt59
theorem ha59:∀(x:A59) (h:Hp)(o:Out),(alt59 x h).out=some o→∃r,(rt59 x.a0 x.a1 x.a2).val=some r∧o=.ret (en59 r) h:=by
 intro x h o e;unfold alt59 at e;simp only[AT.out]at e;obtain ⟨g,e⟩:=cond_some e;unfold F59_ok at g;obtain ⟨r,hF⟩:=Option.isSome_iff_exists.1 g
 refine ⟨r,by delta F59 at hF;exact hF,?_⟩
 simp only[Option.some.injEq]at e;rw[← e]
 unfold F59_0 F59_1;rw[hF]<;>rfl
theorem hd59:∀(t:Task) (x:A59)(h:Hp),dec59 t=some (x,h)→t=.call 59 ⟨[(lstV x.a0 x.a1 x.a2 6)]⟩ h:=by
 intro t x h e;unfold dec59 at e
 split at e
 case h_2=>cases e
 split at e
 case h_2=>cases e
 rename_i hg;simp only[Option.some.injEq,Prod.mk.injEq]at e;obtain ⟨rfl,rfl⟩:=e;rw[Nat.eq_of_beq_eq_true hg]
theorem known59:Known Try.prog p59:=by
 obtain ⟨J0,hJ0⟩:=kl59_0
 exact Known.fn noNG mixed (Known.or known92 (Known.or known93 hJ0)) (n:=60) (zs:=[0,0]) 59 (fun x:A59=>[(lstV x.a0 x.a1 x.a2 6)]) (fun x=>rt59 x.a0 x.a1 x.a2) en59 (fun x=>T59 J0 x.a0 x.a1 x.a2) (fun x=>rfl) dec59 alt59 hd59 ha59
end
end Go.Proofs.Ytggaomgopenkfaa
namespace Go.Proofs.Ytggaomgopenkfaa
open Go.Gi Go.RowKit
noncomputable section
set_option maxRecDepth 100000
set_option maxHeartbeats 1000000
def I6:List Leaf:=[(Leaf.int .i64),(Leaf.int .i64),(Leaf.int .i64),(Leaf.int .i64),(Leaf.int .i64),(Leaf.int .i64)]
def spW (a b:Int):Bool:=decide (a≤b)&&(inB a (-20000) 20000&&inB b (-20000) 20000)
def bd (f t xl xh yl yh p:Int):Int:=if f=p then (if t≤f then 7 else if 100000000<t then 7 else if spW xl xh=true then (if spW yl yh=true then 0 else 7) else 7) else 2
def prv (c:Array Value):Nat→Int
 | 0=>0
 | k+1=>getInt c (k*6+1)
def bdE (c:Array Value)(k:Nat):Int:=bd (getInt c (k*6)) (getInt c (k*6+1)) (getInt c (k*6+2)) (getInt c (k*6+3)) (getInt c (k*6+4)) (getInt c (k*6+5)) (prv c k)
def bnF (c:Array Value)(n:Nat):Int×Int:=if n<1 then (0,3) else if 20<n then (0,3) else (match fst1 (bdE c) n 0 with | some (i,r)=>((i:Int),r) | none=>(0,0))
theorem F122_of (a:Int):F122_ok a=true∧F122_0 a=inB a (-20000) 20000:=by
 have q:F122 a=some ⟨inB a (-20000) 20000⟩:=by
  unfold F122 rt122 inB
  by_cases h:(-20000:Int)≤a<;>simp [RT.val,mq,h]
 exact ⟨by simp only[F122_ok,q];rfl,by simp only[F122_0,q]⟩
theorem F109_of (a b:Int):F109_ok a b=true∧F109_0 a b=spW a b:=by
 have q:F109 a b=some ⟨spW a b⟩:=by
  unfold F109 rt109 spW;simp only[RT.val,mq,(F122_of _).1,(F122_of _).2,cond_true]
  by_cases h:a≤b
  ·cases inB a (-20000) 20000<;>simp [h]
  ·simp [h]
 exact ⟨by simp only[F109_ok,q];rfl,by simp only[F109_0,q]⟩
theorem F90_of (f t xl xh yl yh p:Int):F90_ok f t xl xh yl yh p=true∧F90_0 f t xl xh yl yh p=bd f t xl xh yl yh p:=by
 have q:F90 f t xl xh yl yh p=some ⟨bd f t xl xh yl yh p⟩:=by
  unfold F90 rt90 bd;simp only[RT.val,mq,(F109_of _ _).1,(F109_of _ _).2,cond_true]
  by_cases h:f=p
  ·subst h
   by_cases h1:t≤f
   ·simp [h1]
   ·by_cases h2:(100000000:Int)<t
    ·simp [h1,h2]
    ·simp only[h1,h2,decide_true,decide_false,Bool.not_true,cond_false,if_true,if_false]
     cases spW xl xh<;>cases spW yl yh<;>rfl
  ·simp [h]
 exact ⟨by simp only[F90_ok,q];rfl,by simp only[F90_0,q]⟩
theorem F92_of (n lo hi:Int):F92_ok n lo hi=true∧F92_0 n lo hi=inB n lo hi:=by
 have q:F92 n lo hi=some ⟨inB n lo hi⟩:=by
  unfold F92 rt92 inB
  by_cases h:lo≤n<;>simp [RT.val,mq,h]
 exact ⟨by simp only[F92_ok,q];rfl,by simp only[F92_0,q]⟩
theorem F110_of (a:Int):F110_ok a=true∧F110_0 a=inB a (-20000) 20000:=by
 have q:F110 a=some ⟨inB a (-20000) 20000⟩:=by
  unfold F110 rt110 inB
  by_cases h:(-20000:Int)≤a<;>simp [RT.val,mq,h]
 exact ⟨by simp only[F110_ok,q];rfl,by simp only[F110_0,q]⟩
theorem F93_of (a b:Int):F93_ok a b=true∧F93_0 a b=spW a b:=by
 have q:F93 a b=some ⟨spW a b⟩:=by
  unfold F93 rt93 spW;simp only[RT.val,mq,(F110_of _).1,(F110_of _).2,cond_true]
  cases inB a (-20000) 20000<;>cases inB b (-20000) 20000<;>simp
 exact ⟨by simp only[F93_ok,q];rfl,by simp only[F93_0,q]⟩
theorem rows6 {c:Array Value}{n k:Nat}(g:GL I6 6 c n) (hk:k<n):isInt .i64 c (k*6)=true∧isInt .i64 c (k*6+1)=true∧rdOk c [(Leaf.int .i64),(Leaf.int .i64)] (k*6+2)=true∧rdOk c [(Leaf.int .i64),(Leaf.int .i64)] (k*6+4)=true:=by
 have hr:rdOk c I6 (0+k*6)=true:=g.good.2 k hk;rw[Nat.zero_add]at hr;have hr':(isInt .i64 c (k*6)&&(isInt .i64 c (k*6+1)&&(isInt .i64 c (k*6+2)&&(isInt .i64 c (k*6+3)&&(isInt .i64 c (k*6+4)&&(isInt .i64 c (k*6+5)&&true))))))=true:=hr;simp only[Bool.and_eq_true]at hr';obtain ⟨h0,h1,h2,h3,h4,h5,_⟩:=hr'
 refine ⟨h0,h1,?_,?_⟩
 ·show (isInt .i64 c (k*6+2)&&(isInt .i64 c (k*6+3)&&true))=true
  rw[h2,h3];rfl
 ·show (isInt .i64 c (k*6+4)&&(isInt .i64 c (k*6+5)&&true))=true
  rw[h4,h5];rfl
section
variable {c:Array Value}{n:Nat}
theorem step53 (g:GL I6 6 c n)(few:n≤1000)(k:Nat)(hk:k<n):(rd53_0 ⟨prv c k,c,0,n,(n:Int),(k:Int)⟩).val =
  some (if bdE c k=0 then .inl ⟨prv c (k+1),c,0,n,(n:Int),((k+1:Nat):Int)⟩ else .inr (.k0 (k:Int) (bdE c k))):=by
 have hki:(k:Int)<(n:Int):=by omega
 have h0:(0:Int)≤(k:Int):=by omega
 have h3:IntKind.wrap .i64 ((k:Int)+1)=((k+1:Nat):Int):=by rw[wrap64_id (by omega) (by omega)];omega
 have hr:rdOk c I6 (0+k*6)=true:=g.good.2 k hk;unfold I6 at hr;unfold bdE;simp only[rd53_0,RT.val,mq,hki,h0,h3,hr,(F90_of _ _ _ _ _ _ _).1,(F90_of _ _ _ _ _ _ _).2,Int.toNat_natCast,Int.ofNat_eq_natCast,decide_true,Bool.and_self,cond_true];simp only[Nat.zero_add,Nat.add_assoc,Nat.reduceAdd]
 cases hb:decide (bd (getInt c (k*6)) (getInt c (k*6+1)) (getInt c (k*6+2)) (getInt c (k*6+3)) (getInt c (k*6+4)) (getInt c (k*6+5)) (prv c k)=0) with
 | true=>rw[if_pos (of_decide_eq_true hb)];rfl
 | false=>rw[if_neg (of_decide_eq_false hb)];rfl
theorem F53_eq (g:GL I6 6 c n):F53 c 0 n=some ⟨(bnF c n).1,(bnF c n).2⟩:=by
 unfold F53 rt53 bnF
 by_cases h1:n<1
 ·have i1:(n:Int)<1:=by omega
  rw[if_pos h1];simp only[RT.val,mq,i1,Int.ofNat_eq_natCast,decide_true,cond_true]
 have i1:¬(n:Int)<1:=by omega
 rw[if_neg h1]
 by_cases h2:20<n
 ·have i2:(20:Int)<(n:Int):=by omega
  rw[if_pos h2];simp only[RT.val,mq,i1,i2,Int.ofNat_eq_natCast,decide_true,decide_false,cond_true,cond_false]
 have i2:¬(20:Int)<(n:Int):=by omega
 rw[if_neg h2]
 have z1:¬(n:Int)<(n:Int):=by omega
 have l:L53_0 (X53_0.mk 0 c 0 n (n:Int) 0)=some (match fst1 (bdE c) n 0 with | some (i,r)=>.k0 (i:Int) r | none=>.k1) :=
  loop_fst (rd:=rd53_0) (S:=fun k=>X53_0.mk (prv c k) c 0 n (n:Int) (k:Int)) (E:=bdE c) (n:=n) (err:=fun i r=>.k0 (i:Int) r) (fin:=.k1)
   (fun k hk=>step53 g (by omega) k hk) (by simp only[rd53_0,RT.val,mq,z1,decide_false,cond_false]) n 0 (by omega)
 simp only[RT.val,mq,i1,i2,Int.ofNat_eq_natCast,eqCode_self,decide_false,cond_true,cond_false]
 cases hf:fst1 (bdE c) n 0 with
 | some ir =>
  obtain ⟨i,r⟩:=ir;rw[hf]at l;simp only[L53_0_k0,Qp0,Qp1,l,cond_true]
 | none =>
  rw[hf]at l;simp only[L53_0_k0,L53_0_k1,l,cond_true,cond_false]
theorem step59 (g:GL I6 6 c n)(few:n≤1000)(k:Nat)(hk:k<n):(rd59_0 ⟨c,0,n,(k:Int)⟩).val =
  some (if bdE c k=0 then .inl ⟨c,0,n,((k+1:Nat):Int)⟩ else .inr (.k0 (k:Int) (bdE c k))):=by
 have hki:(k:Int)<(n:Int):=by omega
 have h0:(0:Int)≤(k:Int):=by omega
 have h3:IntKind.wrap .i64 ((k:Int)+1)=((k+1:Nat):Int):=by rw[wrap64_id (by omega) (by omega)];omega
 have hr:rdOk c I6 (0+k*6)=true:=g.good.2 k hk;unfold I6 at hr;obtain ⟨e0,e1,e2,e4⟩:=rows6 g hk;unfold bdE;simp only[rd59_0,RT.val,mq,hki,h0,h3,(F93_of _ _).1,(F93_of _ _).2,Int.toNat_natCast,Int.ofNat_eq_natCast,decide_true,Bool.and_self,cond_true,Nat.zero_add,Nat.add_zero,e0,e1,e2,e4];simp only[Nat.add_assoc,Nat.reduceAdd];obtain ⟨f,hf⟩:∃x,getInt c (k*6)=x:=⟨_,rfl⟩;obtain ⟨t,ht⟩:∃x,getInt c (k*6+1)=x:=⟨_,rfl⟩;simp only[hf,ht]
 have fin:∀(p:Int) (S:X59_0),cond (!decide (f=p)) (some (Sum.inr (D59_0.k0 (k:Int) 2))) (cond (decide (t≤f)) (some (Sum.inr (D59_0.k0 (k:Int) 7))) (cond (decide (100000000<t)) (some (Sum.inr (D59_0.k0 (k:Int) 7))) (cond (!spW (getInt c (k*6+2)) (getInt c (k*6+3))) (some (Sum.inr (D59_0.k0 (k:Int) 7))) (cond (!spW (getInt c (k*6+4)) (getInt c (k*6+5))) (some (Sum.inr (D59_0.k0 (k:Int) 7))) (some (Sum.inl S)))))) =
   some (if bd f t (getInt c (k*6+2)) (getInt c (k*6+3)) (getInt c (k*6+4)) (getInt c (k*6+5)) p=0 then .inl S else .inr (.k0 (k:Int) (bd f t (getInt c (k*6+2)) (getInt c (k*6+3)) (getInt c (k*6+4)) (getInt c (k*6+5)) p))):=by
  intro p S;unfold bd
  by_cases a1:f=p
  ·rw[if_pos a1]
   simp only[a1,decide_true,Bool.not_true,cond_false]
   by_cases a2:t≤p
   ·simp [a2]
   by_cases a3:(100000000:Int)<t
   ·simp [a2,a3]
   rw[if_neg a2,if_neg a3];simp only[a2,a3,decide_false,cond_false]
   cases spW (getInt c (k*6+2)) (getInt c (k*6+3))<;>cases spW (getInt c (k*6+4)) (getInt c (k*6+5))<;>rfl
  ·rw[if_neg a1]
   simp [a1]
 cases k with
 | zero=>exact fin _ _
 | succ k =>
  obtain ⟨_,p1,_,_⟩:=rows6 g (show k<n by omega)
  have w:IntKind.wrap .i64 (((k+1:Nat):Int)-1)=(k:Int):=by rw[wrap64_id (by omega) (by omega)];omega
  have z1:(0:Int)<((k+1:Nat):Int):=by omega
  have z2:(k:Int)<(n:Int):=by omega
  have z3:(0:Int)≤(k:Int):=by omega
  simp only[w,z1,z2,z3,p1,Int.toNat_natCast,decide_true,Bool.and_self,cond_true];exact fin _ _
theorem F59_eq (g:GL I6 6 c n):F59 c 0 n=some ⟨(bnF c n).1,(bnF c n).2⟩:=by
 unfold F59 rt59 bnF
 by_cases h1:n<1
 ·have i1:inB (n:Int) 1 20=false:=by simp [inB];omega
  rw[if_pos h1];simp only[RT.val,mq,(F92_of _ _ _).1,(F92_of _ _ _).2,i1,Int.ofNat_eq_natCast,Bool.not_false,cond_true]
 rw[if_neg h1]
 by_cases h2:20<n
 ·have i2:inB (n:Int) 1 20=false:=by simp [inB];omega
  rw[if_pos h2];simp only[RT.val,mq,(F92_of _ _ _).1,(F92_of _ _ _).2,i2,Int.ofNat_eq_natCast,Bool.not_false,cond_true]
 rw[if_neg h2]
 have i3:inB (n:Int) 1 20=true:=by simp [inB];omega
 have z1:¬(n:Int)<(n:Int):=by omega
 have l:L59_0 (X59_0.mk c 0 n 0)=some (match fst1 (bdE c) n 0 with | some (i,r)=>.k0 (i:Int) r | none=>.k1) :=
  loop_fst (rd:=rd59_0) (S:=fun k=>X59_0.mk c 0 n (k:Int)) (E:=bdE c) (n:=n) (err:=fun i r=>.k0 (i:Int) r) (fin:=.k1)
   (fun k hk=>step59 g (by omega) k hk) (by simp only[rd59_0,RT.val,mq,Int.ofNat_eq_natCast,z1,decide_false,cond_false]) n 0 (by omega)
 simp only[RT.val,mq,(F92_of _ _ _).1,(F92_of _ _ _).2,i3,Int.ofNat_eq_natCast,eqCode_self,Bool.not_true,cond_true,cond_false]
 cases hf:fst1 (bdE c) n 0 with
 | some ir =>
  obtain ⟨i,r⟩:=ir;rw[hf]at l;simp only[L59_0_k0,Qq0,Qq1,l,cond_true]
 | none =>
  rw[hf]at l;simp only[L59_0_k0,L59_0_k1,l,cond_true,cond_false]
end
end
end Go.Proofs.Ytggaomgopenkfaa
namespace Go.Proofs.Ytggaomgopenkfaa
open Go.ChangeShapes Go.WideShapes Go.ChangeAt Go.RowKit Go.Gi
set_option maxRecDepth 100000
theorem flat86:flatT Try.prog 19 86=true:=by kernel_rfl
theorem leaves86:leaves Try.prog false 19 86=I6:=by kernel_rfl
theorem cells86:Try.prog.cellsOf 86=6:=by kernel_rfl
theorem tyB37:tyB Try.prog 20 37=true:=by kernel_rfl
theorem tyB23:tyB Try.prog 20 23=true:=by kernel_rfl
section
variable {H:Type}{enc:TypeId×Value→H}{w:World}{r:Reach}{b0:Nat}{v:Value}{dd:DataW H}{p:List MemPlace}
theorem bandsArg (hval:Value.okWide Try.prog w r b0 37 v)(h:DataW.Trod enc Try.prog w 0 (fun _=>true) true 37 v dd p):∃c n,VR (zAll w) (lstV c 0 n 6) v∧GL I6 6 c n :=
 argRows Try.underlying37 flat86 cells86 leaves86 rfl (by decide) tyB37 hval h
theorem spanArg (hval:Value.okWide Try.prog w r b0 23 v)(h:DataW.Trod enc Try.prog w 0 (fun _=>true) true 23 v dd p):∃a b,VR (zAll w) (.agg ⟨[.int .i64 a,.int .i64 b]⟩) v:=by
 obtain ⟨abs,h1,h2⟩:=argS Try.underlying23 tyB23 hval h;obtain ⟨a,b,rfl⟩:=tySpan h2;exact ⟨a,b,h1⟩
theorem vehArg' (hval:Value.okWide Try.prog w r b0 28 v)(h:DataW.Trod enc Try.prog w 0 (fun _=>true) true 28 v dd p):∃nm g1 g2 ca na cp np c n,VR (zAll w) (.agg ⟨[.string nm,.int .i64 g1,.int .i64 g2,lstV ca 0 na 2,lstV cp 0 np 13,lstV c 0 n 13]⟩) v∧GL I2 2 ca na∧GL I13 13 cp np∧GL S13 13 c n:=by
 obtain ⟨abs,u0,nm,g1,g2,ca,na,cp,np,c,n,rfl,q1,q2,q3⟩:=vehArg hval h;exact ⟨nm,g1,g2,ca,na,cp,np,c,n,u0,q1,q2,q3⟩
end
end Go.Proofs.Ytggaomgopenkfaa
