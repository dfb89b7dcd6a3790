/- Part 9 of the texts below the claim. Conditions: none. -/
import Derived.Test.YtnmjibcolnlkjaaMg6
import Derived.Test.YtnmjibcolnlkjaaMg7
import Derived.Test.YtnmjibcolnlkjaaMg8
import Derived.Test.YtnmjibcolnlkjaaRows
import Derived.Test.YtnmjibcolnlkjaaMg5
set_option linter.unusedVariables false
set_option linter.unusedSimpArgs false
namespace Go.Proofs.Ytnmjibcolnlkjaa
open Go.Gi Go.RowKit Go.Proofs.Ytnmjibcolnlkjaa.Old
noncomputable section
set_option maxRecDepth 100000
set_option maxHeartbeats 4000000
structure X14_0 where
  v0:Int
  v1:ByteArray
  v2:Int
  v3:Int
  v4:Array Value
  v5:Nat
  v6:Nat
  v7:Array Value
  v8:Nat
  v9:Nat
  v10:Array Value
  v11:Nat
  v12:Nat
inductive D14_0 where
  | k0 (d0:Int) (d1:Int) (d2:Int) (d3:ByteArray) (d4:Int) (d5:Int) (d6:Array Value) (d7:Nat) (d8:Nat) (d9:Array Value) (d10:Nat) (d11:Nat) (d12:Array Value) (d13:Nat) (d14:Nat)
  | k1 (d0:ByteArray) (d1:Int) (d2:Int) (d3:Array Value) (d4:Nat) (d5:Nat) (d6:Array Value) (d7:Nat) (d8:Nat) (d9:Array Value) (d10:Nat) (d11:Nat)
def Lp14_0:LoopOf X14_0 D14_0 where
  c:=(theLoop Try.prog 14 0)
  N:=77
  M:=1
  S:=[1,5]
  sl:=fun x=>[(Value.pointer (Option.some (Addr.mk 0 0 Option.none))),(.int .i64 x.v0)]
  hp:=fun x=>[.cells ⟨[(.string x.v1),(.int .i64 x.v2),(.int .i64 x.v3),(lstV x.v4 x.v5 x.v6 2),(lstV x.v7 x.v8 x.v9 13),(lstV x.v10 x.v11 x.v12 13)]⟩ false]
  ex:=fun d=>match d with | .k0 ..=>.ret | .k1 ..=>.exit 0
  pick:=fun e=>match e with | .ret=>[2,3,4] | .exit 0=>[1] | _=>[]
  dv:=fun d=>match d with | .k0 d0 d1 d2 d3 d4 d5 d6 d7 d8 d9 d10 d11 d12 d13 d14=>[(.int .i64 d0),(.int .i64 d1),(.int .i64 d2)] | .k1 d0 d1 d2 d3 d4 d5 d6 d7 d8 d9 d10 d11=>[(Value.pointer (Option.some (Addr.mk 0 0 Option.none)))]
  dh:=fun d=>match d with | .k0 d0 d1 d2 d3 d4 d5 d6 d7 d8 d9 d10 d11 d12 d13 d14=>[.cells ⟨[(.string d3),(.int .i64 d4),(.int .i64 d5),(lstV d6 d7 d8 2),(lstV d9 d10 d11 13),(lstV d12 d13 d14 13)]⟩ false] | .k1 d0 d1 d2 d3 d4 d5 d6 d7 d8 d9 d10 d11=>[.cells ⟨[(.string d0),(.int .i64 d1),(.int .i64 d2),(lstV d3 d4 d5 2),(lstV d6 d7 d8 13),(lstV d9 d10 d11 13)]⟩ false]
theorem ok14_0:Lp14_0.Ok:=⟨fun x=>rfl,fun x=>rfl,fun x=>rfl,fun x=>rfl,fun d=>by cases d<;>rfl,fun d=>by cases d<;>rfl,fun d=>by cases d<;>rfl,fun d=>by cases d<;>(intro h;cases h),fun d=>by cases d<;>rfl,fun d=>by cases d<;>rfl⟩
def rd14_0 (x:X14_0):RT (Sum X14_0 D14_0):=match x with
  | ⟨v0,v1,v2,v3,v4,v5,v6,v7,v8,v9,v10,v11,v12⟩ =>
     .br (decide (v0<(Int.ofNat v6))) (.br (F49_ok v1 v2 v3 (v4) v5 v6 (v7) v8 v9 (v10) v11 v12 v0) (.br (not (decide ((F49_0 v1 v2 v3 (v4) v5 v6 (v7) v8 v9 (v10) v11 v12 v0)=(0:Int)))) (.leaf (.inr (.k0 ((2:Int)) (v0) ((F49_0 v1 v2 v3 (v4) v5 v6 (v7) v8 v9 (v10) v11 v12 v0)) (v1) (v2) (v3) (v4) (v5) (v6) (v7) (v8) (v9) (v10) (v11) (v12)))) (.leaf (.inl ⟨(IntKind.wrap .i64 (v0+(1:Int))),v1,v2,v3,v4,v5,v6,v7,v8,v9,v10,v11,v12⟩))) (.no)) (.leaf (.inr (.k1 (v1) (v2) (v3) (v4) (v5) (v6) (v7) (v8) (v9) (v10) (v11) (v12))))
theorem T14_0  (y:List Value) (v0:Int) (v1:ByteArray) (v2:Int) (v3:Int) (v4:Array Value) (v5:Nat) (v6:Nat) (v7:Array Value) (v8:Nat) (v9:Nat) (v10:Array Value) (v11:Nat) (v12:Nat):evC Try.prog (Ans.c (p47.or (p48.or (p49.or (p50.or (p51.or p52)))))) 60 (.code none (theLoop Try.prog 14 0) ⟨sets (junkF 77 y) [(1,(Value.pointer (Option.some (Addr.mk 0 0 Option.none)))),(5,(.int .i64 v0))],[],⟨[.cells ⟨[(.string v1),(.int .i64 v2),(.int .i64 v3),(lstV v4 v5 v6 2),(lstV v7 v8 v9 13),(lstV v10 v11 v12 13)]⟩ false],0,[]⟩⟩) (sumK 1 77 Lp14_0.pk)=(rd14_0 ⟨v0,v1,v2,v3,v4,v5,v6,v7,v8,v9,v10,v11,v12⟩).out Lp14_0.enc:=by kernel_rfl
def L14_0 (x:X14_0):Option D14_0:=loopR rd14_0 x
section
variable (x:X14_0)
def L14_0_k0:Bool:=match L14_0 x with | some (.k0 ..)=>true | _=>false
def Qj0:Int:=match L14_0 x with | some (.k0 d _ _ _ _ _ _ _ _ _ _ _ _ _ _)=>d | _=>0
def Qj1:Int:=match L14_0 x with | some (.k0 _ d _ _ _ _ _ _ _ _ _ _ _ _ _)=>d | _=>0
def Qj2:Int:=match L14_0 x with | some (.k0 _ _ d _ _ _ _ _ _ _ _ _ _ _ _)=>d | _=>0
def Qj3:ByteArray:=match L14_0 x with | some (.k0 _ _ _ d _ _ _ _ _ _ _ _ _ _ _)=>d | _=>ByteArray.empty
def Qj4:Int:=match L14_0 x with | some (.k0 _ _ _ _ d _ _ _ _ _ _ _ _ _ _)=>d | _=>0
def Qj5:Int:=match L14_0 x with | some (.k0 _ _ _ _ _ d _ _ _ _ _ _ _ _ _)=>d | _=>0
def Qj6:Array Value:=match L14_0 x with | some (.k0 _ _ _ _ _ _ d _ _ _ _ _ _ _ _)=>d | _=>#[]
def Qj7:Nat:=match L14_0 x with | some (.k0 _ _ _ _ _ _ _ d _ _ _ _ _ _ _)=>d | _=>0
def Qj8:Nat:=match L14_0 x with | some (.k0 _ _ _ _ _ _ _ _ d _ _ _ _ _ _)=>d | _=>0
def Qj9:Array Value:=match L14_0 x with | some (.k0 _ _ _ _ _ _ _ _ _ d _ _ _ _ _)=>d | _=>#[]
def Qj10:Nat:=match L14_0 x with | some (.k0 _ _ _ _ _ _ _ _ _ _ d _ _ _ _)=>d | _=>0
def Qj11:Nat:=match L14_0 x with | some (.k0 _ _ _ _ _ _ _ _ _ _ _ d _ _ _)=>d | _=>0
def Qj12:Array Value:=match L14_0 x with | some (.k0 _ _ _ _ _ _ _ _ _ _ _ _ d _ _)=>d | _=>#[]
def Qj13:Nat:=match L14_0 x with | some (.k0 _ _ _ _ _ _ _ _ _ _ _ _ _ d _)=>d | _=>0
def Qj14:Nat:=match L14_0 x with | some (.k0 _ _ _ _ _ _ _ _ _ _ _ _ _ _ d)=>d | _=>0
def L14_0_k1:Bool:=match L14_0 x with | some (.k1 ..)=>true | _=>false
def Qk0:ByteArray:=match L14_0 x with | some (.k1 d _ _ _ _ _ _ _ _ _ _ _)=>d | _=>ByteArray.empty
def Qk1:Int:=match L14_0 x with | some (.k1 _ d _ _ _ _ _ _ _ _ _ _)=>d | _=>0
def Qk2:Int:=match L14_0 x with | some (.k1 _ _ d _ _ _ _ _ _ _ _ _)=>d | _=>0
def Qk3:Array Value:=match L14_0 x with | some (.k1 _ _ _ d _ _ _ _ _ _ _ _)=>d | _=>#[]
def Qk4:Nat:=match L14_0 x with | some (.k1 _ _ _ _ d _ _ _ _ _ _ _)=>d | _=>0
def Qk5:Nat:=match L14_0 x with | some (.k1 _ _ _ _ _ d _ _ _ _ _ _)=>d | _=>0
def Qk6:Array Value:=match L14_0 x with | some (.k1 _ _ _ _ _ _ d _ _ _ _ _)=>d | _=>#[]
def Qk7:Nat:=match L14_0 x with | some (.k1 _ _ _ _ _ _ _ d _ _ _ _)=>d | _=>0
def Qk8:Nat:=match L14_0 x with | some (.k1 _ _ _ _ _ _ _ _ d _ _ _)=>d | _=>0
def Qk9:Array Value:=match L14_0 x with | some (.k1 _ _ _ _ _ _ _ _ _ d _ _)=>d | _=>#[]
def Qk10:Nat:=match L14_0 x with | some (.k1 _ _ _ _ _ _ _ _ _ _ d _)=>d | _=>0
def Qk11:Nat:=match L14_0 x with | some (.k1 _ _ _ _ _ _ _ _ _ _ _ d)=>d | _=>0
end
def dec14_0:Task→Option (Code×X14_0)
  | .code none (.loop code) ⟨t,[],⟨[.cells ⟨[(.string v1),(.int .i64 v2),(.int .i64 v3),(.func (.via 0 ⟨[]⟩ 0 true) v4 ⟨[.slice (some ⟨0,v5,none⟩) v6 2]⟩),(.func (.via 0 ⟨[]⟩ 0 true) v7 ⟨[.slice (some ⟨0,v8,none⟩) v9 13]⟩),(.func (.via 0 ⟨[]⟩ 0 true) v10 ⟨[.slice (some ⟨0,v11,none⟩) v12 13]⟩)]⟩ false],0,[]⟩⟩ =>
    (match Nat.beq (firstReg code) 8,lenIs t 77,lget t 1,lget t 5 with
    | true,true,(Value.pointer (Option.some (Addr.mk 0 0 Option.none))),(.int .i64 v0)=>some (code,⟨v0,v1,v2,v3,v4,v5,v6,v7,v8,v9,v10,v11,v12⟩)
    | _,_,_,_=>none)
  | _=>none
def alt14_0 (x:X14_0)(j:List Value):AT:=.br (L14_0_k0 x) (loopEnd 77 (.ret) [(2,(.int .i64 (Qj0 x))),(3,(.int .i64 (Qj1 x))),(4,(.int .i64 (Qj2 x)))] ⟨[.cells ⟨[(.string (Qj3 x)),(.int .i64 (Qj4 x)),(.int .i64 (Qj5 x)),(lstV (Qj6 x) (Qj7 x) (Qj8 x) 2),(lstV (Qj9 x) (Qj10 x) (Qj11 x) 13),(lstV (Qj12 x) (Qj13 x) (Qj14 x) 13)]⟩ false],0,[]⟩ j) (.br (L14_0_k1 x) (loopEnd 77 (.exit 0) [(1,(Value.pointer (Option.some (Addr.mk 0 0 Option.none))))] ⟨[.cells ⟨[(.string (Qk0 x)),(.int .i64 (Qk1 x)),(.int .i64 (Qk2 x)),(lstV (Qk3 x) (Qk4 x) (Qk5 x) 2),(lstV (Qk6 x) (Qk7 x) (Qk8 x) 13),(lstV (Qk9 x) (Qk10 x) (Qk11 x) 13)]⟩ false],0,[]⟩ j) (.no))
def la14_0 (J:Task→List Value):Ans:=loopAns Lp14_0.c dec14_0 alt14_0 J
theorem ha14_0:∀(x:X14_0) (j:List Value)(o:Out),(alt14_0 x j).out=some o→∃d,loopR rd14_0 x=some d∧o=Lp14_0.tail d j:=by
  intro x j o h
  unfold alt14_0 at h
  cases hL:L14_0 x with
  | none=>simp [L14_0_k0,Qj0,Qj1,Qj2,Qj3,Qj4,Qj5,Qj6,Qj7,Qj8,Qj9,Qj10,Qj11,Qj12,Qj13,Qj14,L14_0_k1,Qk0,Qk1,Qk2,Qk3,Qk4,Qk5,Qk6,Qk7,Qk8,Qk9,Qk10,Qk11,hL,AT.out]at h
  | some d =>
    refine ⟨d,hL,?_⟩
    cases d<;>(simp only [L14_0_k0,Qj0,Qj1,Qj2,Qj3,Qj4,Qj5,Qj6,Qj7,Qj8,Qj9,Qj10,Qj11,Qj12,Qj13,Qj14,L14_0_k1,Qk0,Qk1,Qk2,Qk3,Qk4,Qk5,Qk6,Qk7,Qk8,Qk9,Qk10,Qk11,hL,AT.out,loopEnd,cond_true,cond_false,Option.some.injEq]at h;rw [← h];rfl)
theorem hd14_0:∀(t:Task) (c:Code)(x:X14_0),dec14_0 t=some (c,x)→c=Lp14_0.c→∃T,t=.code none (.loop Lp14_0.c) ⟨T,[],⟨Lp14_0.hp x,0,[]⟩⟩∧T.length=Lp14_0.N∧∀kv∈Lp14_0.S.zip (Lp14_0.sl x),lget T kv.1=kv.2:=by
  intro t c x h hc
  unfold dec14_0 at h
  split at h
  case h_2=>cases h
  split at h
  case h_2=>cases h
  simp only [Option.some.injEq,Prod.mk.injEq]at h
  obtain ⟨rfl,rfl⟩:=h
  subst hc
  refine ⟨_,rfl,lenIs_eq _ _ (by assumption),?_⟩
  intro kv hk
  simp only [Lp14_0,List.zip_cons_cons,List.zip_nil_right,List.mem_cons,List.not_mem_nil,or_false]at hk
  rcases hk with rfl | rfl<;>assumption
theorem kl14_0:∃J,Known Try.prog (la14_0 J):=by
  exact LoopOf.known noNG mixed ok14_0 (by decide) (by decide) (Known.or known47 (Known.or known48 (Known.or known49 (Known.or known50 (Known.or known51 known52))))) (n:=60) (rd:=rd14_0) (fun x j=>T14_0  j x.v0 x.v1 x.v2 x.v3 x.v4 x.v5 x.v6 x.v7 x.v8 x.v9 x.v10 x.v11 x.v12) dec14_0 alt14_0 hd14_0 ha14_0
structure X14_1 where
  v0:Int
  v1:ByteArray
  v2:Int
  v3:Int
  v4:Array Value
  v5:Nat
  v6:Nat
  v7:Array Value
  v8:Nat
  v9:Nat
  v10:Array Value
  v11:Nat
  v12:Nat
inductive D14_1 where
  | k0 (d0:Int) (d1:Int) (d2:Int) (d3:ByteArray) (d4:Int) (d5:Int) (d6:Array Value) (d7:Nat) (d8:Nat) (d9:Array Value) (d10:Nat) (d11:Nat) (d12:Array Value) (d13:Nat) (d14:Nat)
  | k1 (d0:ByteArray) (d1:Int) (d2:Int) (d3:Array Value) (d4:Nat) (d5:Nat) (d6:Array Value) (d7:Nat) (d8:Nat) (d9:Array Value) (d10:Nat) (d11:Nat)
def Lp14_1:LoopOf X14_1 D14_1 where
  c:=(theLoop Try.prog 14 1)
  N:=77
  M:=1
  S:=[1,7]
  sl:=fun x=>[(Value.pointer (Option.some (Addr.mk 0 0 Option.none))),(.int .i64 x.v0)]
  hp:=fun x=>[.cells ⟨[(.string x.v1),(.int .i64 x.v2),(.int .i64 x.v3),(lstV x.v4 x.v5 x.v6 2),(lstV x.v7 x.v8 x.v9 13),(lstV x.v10 x.v11 x.v12 13)]⟩ false]
  ex:=fun d=>match d with | .k0 ..=>.ret | .k1 ..=>.exit 2
  pick:=fun e=>match e with | .ret=>[2,3,4] | .exit 2=>[1] | _=>[]
  dv:=fun d=>match d with | .k0 d0 d1 d2 d3 d4 d5 d6 d7 d8 d9 d10 d11 d12 d13 d14=>[(.int .i64 d0),(.int .i64 d1),(.int .i64 d2)] | .k1 d0 d1 d2 d3 d4 d5 d6 d7 d8 d9 d10 d11=>[(Value.pointer (Option.some (Addr.mk 0 0 Option.none)))]
  dh:=fun d=>match d with | .k0 d0 d1 d2 d3 d4 d5 d6 d7 d8 d9 d10 d11 d12 d13 d14=>[.cells ⟨[(.string d3),(.int .i64 d4),(.int .i64 d5),(lstV d6 d7 d8 2),(lstV d9 d10 d11 13),(lstV d12 d13 d14 13)]⟩ false] | .k1 d0 d1 d2 d3 d4 d5 d6 d7 d8 d9 d10 d11=>[.cells ⟨[(.string d0),(.int .i64 d1),(.int .i64 d2),(lstV d3 d4 d5 2),(lstV d6 d7 d8 13),(lstV d9 d10 d11 13)]⟩ false]
theorem ok14_1:Lp14_1.Ok:=⟨fun x=>rfl,fun x=>rfl,fun x=>rfl,fun x=>rfl,fun d=>by cases d<;>rfl,fun d=>by cases d<;>rfl,fun d=>by cases d<;>rfl,fun d=>by cases d<;>(intro h;cases h),fun d=>by cases d<;>rfl,fun d=>by cases d<;>rfl⟩
def rd14_1 (x:X14_1):RT (Sum X14_1 D14_1):=match x with
  | ⟨v0,v1,v2,v3,v4,v5,v6,v7,v8,v9,v10,v11,v12⟩ =>
     .br (decide (v0<(Int.ofNat v9))) (.br (and (decide ((0:Int)≤v0)) (decide (v0<(Int.ofNat v9)))) (.br (rdOk v7 [(Leaf.int .i64),(Leaf.int .i64),(Leaf.int .i64),(Leaf.int .i64),(Leaf.int .i64),(Leaf.int .i64),(Leaf.int .i64),(Leaf.int .i64),(Leaf.int .i64),(Leaf.int .i64),(Leaf.int .i64),(Leaf.int .i64),(Leaf.int .i64)] (v8+((Int.toNat v0)*13)))
     (.br (F51_ok (getInt v7 (v8+((Int.toNat v0)*13))) (getInt v7 ((v8+((Int.toNat v0)*13))+1)) (getInt v7 (((v8+((Int.toNat v0)*13))+1)+1)) (getInt v7 ((((v8+((Int.toNat v0)*13))+1)+1)+1)) (getInt v7 (((((v8+((Int.toNat v0)*13))+1)+1)+1)+1)) (getInt v7 ((((((v8+((Int.toNat v0)*13))+1)+1)+1)+1)+1)) (getInt v7 (((((((v8+((Int.toNat v0)*13))+1)+1)+1)+1)+1)+1)) (getInt v7 ((((((((v8+((Int.toNat v0)*13))+1)+1)+1)+1)+1)+1)+1)) (getInt v7 (((((((((v8+((Int.toNat v0)*13))+1)+1)+1)+1)+1)+1)+1)+1)) (getInt v7 ((((((((((v8+((Int.toNat v0)*13))+1)+1)+1)+1)+1)+1)+1)+1)+1)) (getInt v7 (((((((((((v8+((Int.toNat v0)*13))+1)+1)+1)+1)+1)+1)+1)+1)+1)+1)) (getInt v7 ((((((((((((v8+((Int.toNat v0)*13))+1)+1)+1)+1)+1)+1)+1)+1)+1)+1)+1)) (getInt v7 (((((((((((((v8+((Int.toNat v0)*13))+1)+1)+1)+1)+1)+1)+1)+1)+1)+1)+1)+1)))
     (.br (not (decide ((F51_0 (getInt v7 (v8+((Int.toNat v0)*13))) (getInt v7 ((v8+((Int.toNat v0)*13))+1)) (getInt v7 (((v8+((Int.toNat v0)*13))+1)+1)) (getInt v7 ((((v8+((Int.toNat v0)*13))+1)+1)+1)) (getInt v7 (((((v8+((Int.toNat v0)*13))+1)+1)+1)+1)) (getInt v7 ((((((v8+((Int.toNat v0)*13))+1)+1)+1)+1)+1)) (getInt v7 (((((((v8+((Int.toNat v0)*13))+1)+1)+1)+1)+1)+1)) (getInt v7 ((((((((v8+((Int.toNat v0)*13))+1)+1)+1)+1)+1)+1)+1)) (getInt v7 (((((((((v8+((Int.toNat v0)*13))+1)+1)+1)+1)+1)+1)+1)+1)) (getInt v7 ((((((((((v8+((Int.toNat v0)*13))+1)+1)+1)+1)+1)+1)+1)+1)+1)) (getInt v7 (((((((((((v8+((Int.toNat v0)*13))+1)+1)+1)+1)+1)+1)+1)+1)+1)+1)) (getInt v7 ((((((((((((v8+((Int.toNat v0)*13))+1)+1)+1)+1)+1)+1)+1)+1)+1)+1)+1)) (getInt v7 (((((((((((((v8+((Int.toNat v0)*13))+1)+1)+1)+1)+1)+1)+1)+1)+1)+1)+1)+1)))=(0:Int)))) (.leaf (.inr (.k0 ((3:Int)) (v0) ((F51_0 (getInt v7 (v8+((Int.toNat v0)*13))) (getInt v7 ((v8+((Int.toNat v0)*13))+1)) (getInt v7 (((v8+((Int.toNat v0)*13))+1)+1)) (getInt v7 ((((v8+((Int.toNat v0)*13))+1)+1)+1)) (getInt v7 (((((v8+((Int.toNat v0)*13))+1)+1)+1)+1)) (getInt v7 ((((((v8+((Int.toNat v0)*13))+1)+1)+1)+1)+1)) (getInt v7 (((((((v8+((Int.toNat v0)*13))+1)+1)+1)+1)+1)+1)) (getInt v7 ((((((((v8+((Int.toNat v0)*13))+1)+1)+1)+1)+1)+1)+1)) (getInt v7 (((((((((v8+((Int.toNat v0)*13))+1)+1)+1)+1)+1)+1)+1)+1)) (getInt v7 ((((((((((v8+((Int.toNat v0)*13))+1)+1)+1)+1)+1)+1)+1)+1)+1)) (getInt v7 (((((((((((v8+((Int.toNat v0)*13))+1)+1)+1)+1)+1)+1)+1)+1)+1)+1)) (getInt v7 ((((((((((((v8+((Int.toNat v0)*13))+1)+1)+1)+1)+1)+1)+1)+1)+1)+1)+1)) (getInt v7 (((((((((((((v8+((Int.toNat v0)*13))+1)+1)+1)+1)+1)+1)+1)+1)+1)+1)+1)+1)))) (v1) (v2) (v3) (v4) (v5) (v6) (v7) (v8) (v9) (v10) (v11) (v12)))) (.leaf (.inl ⟨(IntKind.wrap .i64 (v0+(1:Int))),v1,v2,v3,v4,v5,v6,v7,v8,v9,v10,v11,v12⟩))) (.no)) (.no)) (.no)) (.leaf (.inr (.k1 (v1) (v2) (v3) (v4) (v5) (v6) (v7) (v8) (v9) (v10) (v11) (v12))))
theorem T14_1  (y:List Value) (v0:Int) (v1:ByteArray) (v2:Int) (v3:Int) (v4:Array Value) (v5:Nat) (v6:Nat) (v7:Array Value) (v8:Nat) (v9:Nat) (v10:Array Value) (v11:Nat) (v12:Nat):evC Try.prog (Ans.c (p47.or (p48.or (p49.or (p50.or (p51.or p52)))))) 60 (.code none (theLoop Try.prog 14 1) ⟨sets (junkF 77 y) [(1,(Value.pointer (Option.some (Addr.mk 0 0 Option.none)))),(7,(.int .i64 v0))],[],⟨[.cells ⟨[(.string v1),(.int .i64 v2),(.int .i64 v3),(lstV v4 v5 v6 2),(lstV v7 v8 v9 13),(lstV v10 v11 v12 13)]⟩ false],0,[]⟩⟩) (sumK 1 77 Lp14_1.pk)=(rd14_1 ⟨v0,v1,v2,v3,v4,v5,v6,v7,v8,v9,v10,v11,v12⟩).out Lp14_1.enc:=by kernel_rfl
def L14_1 (x:X14_1):Option D14_1:=loopR rd14_1 x
section
variable (x:X14_1)
def L14_1_k0:Bool:=match L14_1 x with | some (.k0 ..)=>true | _=>false
def Ql0:Int:=match L14_1 x with | some (.k0 d _ _ _ _ _ _ _ _ _ _ _ _ _ _)=>d | _=>0
def Ql1:Int:=match L14_1 x with | some (.k0 _ d _ _ _ _ _ _ _ _ _ _ _ _ _)=>d | _=>0
def Ql2:Int:=match L14_1 x with | some (.k0 _ _ d _ _ _ _ _ _ _ _ _ _ _ _)=>d | _=>0
def Ql3:ByteArray:=match L14_1 x with | some (.k0 _ _ _ d _ _ _ _ _ _ _ _ _ _ _)=>d | _=>ByteArray.empty
def Ql4:Int:=match L14_1 x with | some (.k0 _ _ _ _ d _ _ _ _ _ _ _ _ _ _)=>d | _=>0
def Ql5:Int:=match L14_1 x with | some (.k0 _ _ _ _ _ d _ _ _ _ _ _ _ _ _)=>d | _=>0
def Ql6:Array Value:=match L14_1 x with | some (.k0 _ _ _ _ _ _ d _ _ _ _ _ _ _ _)=>d | _=>#[]
def Ql7:Nat:=match L14_1 x with | some (.k0 _ _ _ _ _ _ _ d _ _ _ _ _ _ _)=>d | _=>0
def Ql8:Nat:=match L14_1 x with | some (.k0 _ _ _ _ _ _ _ _ d _ _ _ _ _ _)=>d | _=>0
def Ql9:Array Value:=match L14_1 x with | some (.k0 _ _ _ _ _ _ _ _ _ d _ _ _ _ _)=>d | _=>#[]
def Ql10:Nat:=match L14_1 x with | some (.k0 _ _ _ _ _ _ _ _ _ _ d _ _ _ _)=>d | _=>0
def Ql11:Nat:=match L14_1 x with | some (.k0 _ _ _ _ _ _ _ _ _ _ _ d _ _ _)=>d | _=>0
def Ql12:Array Value:=match L14_1 x with | some (.k0 _ _ _ _ _ _ _ _ _ _ _ _ d _ _)=>d | _=>#[]
def Ql13:Nat:=match L14_1 x with | some (.k0 _ _ _ _ _ _ _ _ _ _ _ _ _ d _)=>d | _=>0
def Ql14:Nat:=match L14_1 x with | some (.k0 _ _ _ _ _ _ _ _ _ _ _ _ _ _ d)=>d | _=>0
def L14_1_k1:Bool:=match L14_1 x with | some (.k1 ..)=>true | _=>false
def Qm0:ByteArray:=match L14_1 x with | some (.k1 d _ _ _ _ _ _ _ _ _ _ _)=>d | _=>ByteArray.empty
def Qm1:Int:=match L14_1 x with | some (.k1 _ d _ _ _ _ _ _ _ _ _ _)=>d | _=>0
def Qm2:Int:=match L14_1 x with | some (.k1 _ _ d _ _ _ _ _ _ _ _ _)=>d | _=>0
def Qm3:Array Value:=match L14_1 x with | some (.k1 _ _ _ d _ _ _ _ _ _ _ _)=>d | _=>#[]
def Qm4:Nat:=match L14_1 x with | some (.k1 _ _ _ _ d _ _ _ _ _ _ _)=>d | _=>0
def Qm5:Nat:=match L14_1 x with | some (.k1 _ _ _ _ _ d _ _ _ _ _ _)=>d | _=>0
def Qm6:Array Value:=match L14_1 x with | some (.k1 _ _ _ _ _ _ d _ _ _ _ _)=>d | _=>#[]
def Qm7:Nat:=match L14_1 x with | some (.k1 _ _ _ _ _ _ _ d _ _ _ _)=>d | _=>0
def Qm8:Nat:=match L14_1 x with | some (.k1 _ _ _ _ _ _ _ _ d _ _ _)=>d | _=>0
def Qm9:Array Value:=match L14_1 x with | some (.k1 _ _ _ _ _ _ _ _ _ d _ _)=>d | _=>#[]
def Qm10:Nat:=match L14_1 x with | some (.k1 _ _ _ _ _ _ _ _ _ _ d _)=>d | _=>0
def Qm11:Nat:=match L14_1 x with | some (.k1 _ _ _ _ _ _ _ _ _ _ _ d)=>d | _=>0
end
def dec14_1:Task→Option (Code×X14_1)
  | .code none (.loop code) ⟨t,[],⟨[.cells ⟨[(.string v1),(.int .i64 v2),(.int .i64 v3),(.func (.via 0 ⟨[]⟩ 0 true) v4 ⟨[.slice (some ⟨0,v5,none⟩) v6 2]⟩),(.func (.via 0 ⟨[]⟩ 0 true) v7 ⟨[.slice (some ⟨0,v8,none⟩) v9 13]⟩),(.func (.via 0 ⟨[]⟩ 0 true) v10 ⟨[.slice (some ⟨0,v11,none⟩) v12 13]⟩)]⟩ false],0,[]⟩⟩ =>
    (match Nat.beq (firstReg code) 16,lenIs t 77,lget t 1,lget t 7 with
    | true,true,(Value.pointer (Option.some (Addr.mk 0 0 Option.none))),(.int .i64 v0)=>some (code,⟨v0,v1,v2,v3,v4,v5,v6,v7,v8,v9,v10,v11,v12⟩)
    | _,_,_,_=>none)
  | _=>none
def alt14_1 (x:X14_1)(j:List Value):AT:=.br (L14_1_k0 x) (loopEnd 77 (.ret) [(2,(.int .i64 (Ql0 x))),(3,(.int .i64 (Ql1 x))),(4,(.int .i64 (Ql2 x)))] ⟨[.cells ⟨[(.string (Ql3 x)),(.int .i64 (Ql4 x)),(.int .i64 (Ql5 x)),(lstV (Ql6 x) (Ql7 x) (Ql8 x) 2),(lstV (Ql9 x) (Ql10 x) (Ql11 x) 13),(lstV (Ql12 x) (Ql13 x) (Ql14 x) 13)]⟩ false],0,[]⟩ j) (.br (L14_1_k1 x) (loopEnd 77 (.exit 2) [(1,(Value.pointer (Option.some (Addr.mk 0 0 Option.none))))] ⟨[.cells ⟨[(.string (Qm0 x)),(.int .i64 (Qm1 x)),(.int .i64 (Qm2 x)),(lstV (Qm3 x) (Qm4 x) (Qm5 x) 2),(lstV (Qm6 x) (Qm7 x) (Qm8 x) 13),(lstV (Qm9 x) (Qm10 x) (Qm11 x) 13)]⟩ false],0,[]⟩ j) (.no))
def la14_1 (J:Task→List Value):Ans:=loopAns Lp14_1.c dec14_1 alt14_1 J
theorem ha14_1:∀(x:X14_1) (j:List Value)(o:Out),(alt14_1 x j).out=some o→∃d,loopR rd14_1 x=some d∧o=Lp14_1.tail d j:=by
  intro x j o h
  unfold alt14_1 at h
  cases hL:L14_1 x with
  | none=>simp [L14_1_k0,Ql0,Ql1,Ql2,Ql3,Ql4,Ql5,Ql6,Ql7,Ql8,Ql9,Ql10,Ql11,Ql12,Ql13,Ql14,L14_1_k1,Qm0,Qm1,Qm2,Qm3,Qm4,Qm5,Qm6,Qm7,Qm8,Qm9,Qm10,Qm11,hL,AT.out]at h
  | some d =>
    refine ⟨d,hL,?_⟩
    cases d<;>(simp only [L14_1_k0,Ql0,Ql1,Ql2,Ql3,Ql4,Ql5,Ql6,Ql7,Ql8,Ql9,Ql10,Ql11,Ql12,Ql13,Ql14,L14_1_k1,Qm0,Qm1,Qm2,Qm3,Qm4,Qm5,Qm6,Qm7,Qm8,Qm9,Qm10,Qm11,hL,AT.out,loopEnd,cond_true,cond_false,Option.some.injEq]at h;rw [← h];rfl)
theorem hd14_1:∀(t:Task) (c:Code)(x:X14_1),dec14_1 t=some (c,x)→c=Lp14_1.c→∃T,t=.code none (.loop Lp14_1.c) ⟨T,[],⟨Lp14_1.hp x,0,[]⟩⟩∧T.length=Lp14_1.N∧∀kv∈Lp14_1.S.zip (Lp14_1.sl x),lget T kv.1=kv.2:=by
  intro t c x h hc
  unfold dec14_1 at h
  split at h
  case h_2=>cases h
  split at h
  case h_2=>cases h
  simp only [Option.some.injEq,Prod.mk.injEq]at h
  obtain ⟨rfl,rfl⟩:=h
  subst hc
  refine ⟨_,rfl,lenIs_eq _ _ (by assumption),?_⟩
  intro kv hk
  simp only [Lp14_1,List.zip_cons_cons,List.zip_nil_right,List.mem_cons,List.not_mem_nil,or_false]at hk
  rcases hk with rfl | rfl<;>assumption
theorem kl14_1:∃J,Known Try.prog (la14_1 J):=by
  exact LoopOf.known noNG mixed ok14_1 (by decide) (by decide) (Known.or known47 (Known.or known48 (Known.or known49 (Known.or known50 (Known.or known51 known52))))) (n:=60) (rd:=rd14_1) (fun x j=>T14_1  j x.v0 x.v1 x.v2 x.v3 x.v4 x.v5 x.v6 x.v7 x.v8 x.v9 x.v10 x.v11 x.v12) dec14_1 alt14_1 hd14_1 ha14_1
structure X14_2 where
  v0:Int
  v1:ByteArray
  v2:Int
  v3:Int
  v4:Array Value
  v5:Nat
  v6:Nat
  v7:Array Value
  v8:Nat
  v9:Nat
  v10:Array Value
  v11:Nat
  v12:Nat
inductive D14_2 where
  | k0 (d0:Int) (d1:Int) (d2:Int) (d3:ByteArray) (d4:Int) (d5:Int) (d6:Array Value) (d7:Nat) (d8:Nat) (d9:Array Value) (d10:Nat) (d11:Nat) (d12:Array Value) (d13:Nat) (d14:Nat)
  | k1 (d0:ByteArray) (d1:Int) (d2:Int) (d3:Array Value) (d4:Nat) (d5:Nat) (d6:Array Value) (d7:Nat) (d8:Nat) (d9:Array Value) (d10:Nat) (d11:Nat)
def Lp14_2:LoopOf X14_2 D14_2 where
  c:=(theLoop Try.prog 14 2)
  N:=77
  M:=1
  S:=[1,9]
  sl:=fun x=>[(Value.pointer (Option.some (Addr.mk 0 0 Option.none))),(.int .i64 x.v0)]
  hp:=fun x=>[.cells ⟨[(.string x.v1),(.int .i64 x.v2),(.int .i64 x.v3),(lstV x.v4 x.v5 x.v6 2),(lstV x.v7 x.v8 x.v9 13),(lstV x.v10 x.v11 x.v12 13)]⟩ false]
  ex:=fun d=>match d with | .k0 ..=>.ret | .k1 ..=>.exit 4
  pick:=fun e=>match e with | .ret=>[2,3,4] | .exit 4=>[] | _=>[]
  dv:=fun d=>match d with | .k0 d0 d1 d2 d3 d4 d5 d6 d7 d8 d9 d10 d11 d12 d13 d14=>[(.int .i64 d0),(.int .i64 d1),(.int .i64 d2)] | .k1 d0 d1 d2 d3 d4 d5 d6 d7 d8 d9 d10 d11=>[]
  dh:=fun d=>match d with | .k0 d0 d1 d2 d3 d4 d5 d6 d7 d8 d9 d10 d11 d12 d13 d14=>[.cells ⟨[(.string d3),(.int .i64 d4),(.int .i64 d5),(lstV d6 d7 d8 2),(lstV d9 d10 d11 13),(lstV d12 d13 d14 13)]⟩ false] | .k1 d0 d1 d2 d3 d4 d5 d6 d7 d8 d9 d10 d11=>[.cells ⟨[(.string d0),(.int .i64 d1),(.int .i64 d2),(lstV d3 d4 d5 2),(lstV d6 d7 d8 13),(lstV d9 d10 d11 13)]⟩ false]
theorem ok14_2:Lp14_2.Ok:=⟨fun x=>rfl,fun x=>rfl,fun x=>rfl,fun x=>rfl,fun d=>by cases d<;>rfl,fun d=>by cases d<;>rfl,fun d=>by cases d<;>rfl,fun d=>by cases d<;>(intro h;cases h),fun d=>by cases d<;>rfl,fun d=>by cases d<;>rfl⟩
def rd14_2 (x:X14_2):RT (Sum X14_2 D14_2):=match x with
  | ⟨v0,v1,v2,v3,v4,v5,v6,v7,v8,v9,v10,v11,v12⟩ =>
     .br (decide (v0<(Int.ofNat v12))) (.br (F52_ok v1 v2 v3 (v4) v5 v6 (v7) v8 v9 (v10) v11 v12 v0) (.br (not (decide ((F52_0 v1 v2 v3 (v4) v5 v6 (v7) v8 v9 (v10) v11 v12 v0)=(0:Int)))) (.leaf (.inr (.k0 ((4:Int)) (v0) ((F52_0 v1 v2 v3 (v4) v5 v6 (v7) v8 v9 (v10) v11 v12 v0)) (v1) (v2) (v3) (v4) (v5) (v6) (v7) (v8) (v9) (v10) (v11) (v12)))) (.leaf (.inl ⟨(IntKind.wrap .i64 (v0+(1:Int))),v1,v2,v3,v4,v5,v6,v7,v8,v9,v10,v11,v12⟩))) (.no)) (.leaf (.inr (.k1 (v1) (v2) (v3) (v4) (v5) (v6) (v7) (v8) (v9) (v10) (v11) (v12))))
theorem T14_2  (y:List Value) (v0:Int) (v1:ByteArray) (v2:Int) (v3:Int) (v4:Array Value) (v5:Nat) (v6:Nat) (v7:Array Value) (v8:Nat) (v9:Nat) (v10:Array Value) (v11:Nat) (v12:Nat):evC Try.prog (Ans.c (p47.or (p48.or (p49.or (p50.or (p51.or p52)))))) 60 (.code none (theLoop Try.prog 14 2) ⟨sets (junkF 77 y) [(1,(Value.pointer (Option.some (Addr.mk 0 0 Option.none)))),(9,(.int .i64 v0))],[],⟨[.cells ⟨[(.string v1),(.int .i64 v2),(.int .i64 v3),(lstV v4 v5 v6 2),(lstV v7 v8 v9 13),(lstV v10 v11 v12 13)]⟩ false],0,[]⟩⟩) (sumK 1 77 Lp14_2.pk)=(rd14_2 ⟨v0,v1,v2,v3,v4,v5,v6,v7,v8,v9,v10,v11,v12⟩).out Lp14_2.enc:=by kernel_rfl
def L14_2 (x:X14_2):Option D14_2:=loopR rd14_2 x
section
variable (x:X14_2)
def L14_2_k0:Bool:=match L14_2 x with | some (.k0 ..)=>true | _=>false
def Qn0:Int:=match L14_2 x with | some (.k0 d _ _ _ _ _ _ _ _ _ _ _ _ _ _)=>d | _=>0
def Qn1:Int:=match L14_2 x with | some (.k0 _ d _ _ _ _ _ _ _ _ _ _ _ _ _)=>d | _=>0
def Qn2:Int:=match L14_2 x with | some (.k0 _ _ d _ _ _ _ _ _ _ _ _ _ _ _)=>d | _=>0
def Qn3:ByteArray:=match L14_2 x with | some (.k0 _ _ _ d _ _ _ _ _ _ _ _ _ _ _)=>d | _=>ByteArray.empty
def Qn4:Int:=match L14_2 x with | some (.k0 _ _ _ _ d _ _ _ _ _ _ _ _ _ _)=>d | _=>0
def Qn5:Int:=match L14_2 x with | some (.k0 _ _ _ _ _ d _ _ _ _ _ _ _ _ _)=>d | _=>0
def Qn6:Array Value:=match L14_2 x with | some (.k0 _ _ _ _ _ _ d _ _ _ _ _ _ _ _)=>d | _=>#[]
def Qn7:Nat:=match L14_2 x with | some (.k0 _ _ _ _ _ _ _ d _ _ _ _ _ _ _)=>d | _=>0
def Qn8:Nat:=match L14_2 x with | some (.k0 _ _ _ _ _ _ _ _ d _ _ _ _ _ _)=>d | _=>0
def Qn9:Array Value:=match L14_2 x with | some (.k0 _ _ _ _ _ _ _ _ _ d _ _ _ _ _)=>d | _=>#[]
def Qn10:Nat:=match L14_2 x with | some (.k0 _ _ _ _ _ _ _ _ _ _ d _ _ _ _)=>d | _=>0
def Qn11:Nat:=match L14_2 x with | some (.k0 _ _ _ _ _ _ _ _ _ _ _ d _ _ _)=>d | _=>0
def Qn12:Array Value:=match L14_2 x with | some (.k0 _ _ _ _ _ _ _ _ _ _ _ _ d _ _)=>d | _=>#[]
def Qn13:Nat:=match L14_2 x with | some (.k0 _ _ _ _ _ _ _ _ _ _ _ _ _ d _)=>d | _=>0
def Qn14:Nat:=match L14_2 x with | some (.k0 _ _ _ _ _ _ _ _ _ _ _ _ _ _ d)=>d | _=>0
def L14_2_k1:Bool:=match L14_2 x with | some (.k1 ..)=>true | _=>false
def Qo0:ByteArray:=match L14_2 x with | some (.k1 d _ _ _ _ _ _ _ _ _ _ _)=>d | _=>ByteArray.empty
def Qo1:Int:=match L14_2 x with | some (.k1 _ d _ _ _ _ _ _ _ _ _ _)=>d | _=>0
def Qo2:Int:=match L14_2 x with | some (.k1 _ _ d _ _ _ _ _ _ _ _ _)=>d | _=>0
def Qo3:Array Value:=match L14_2 x with | some (.k1 _ _ _ d _ _ _ _ _ _ _ _)=>d | _=>#[]
def Qo4:Nat:=match L14_2 x with | some (.k1 _ _ _ _ d _ _ _ _ _ _ _)=>d | _=>0
def Qo5:Nat:=match L14_2 x with | some (.k1 _ _ _ _ _ d _ _ _ _ _ _)=>d | _=>0
def Qo6:Array Value:=match L14_2 x with | some (.k1 _ _ _ _ _ _ d _ _ _ _ _)=>d | _=>#[]
def Qo7:Nat:=match L14_2 x with | some (.k1 _ _ _ _ _ _ _ d _ _ _ _)=>d | _=>0
def Qo8:Nat:=match L14_2 x with | some (.k1 _ _ _ _ _ _ _ _ d _ _ _)=>d | _=>0
def Qo9:Array Value:=match L14_2 x with | some (.k1 _ _ _ _ _ _ _ _ _ d _ _)=>d | _=>#[]
def Qo10:Nat:=match L14_2 x with | some (.k1 _ _ _ _ _ _ _ _ _ _ d _)=>d | _=>0
def Qo11:Nat:=match L14_2 x with | some (.k1 _ _ _ _ _ _ _ _ _ _ _ d)=>d | _=>0
end
def dec14_2:Task→Option (Code×X14_2)
  | .code none (.loop code) ⟨t,[],⟨[.cells ⟨[(.string v1),(.int .i64 v2),(.int .i64 v3),(.func (.via 0 ⟨[]⟩ 0 true) v4 ⟨[.slice (some ⟨0,v5,none⟩) v6 2]⟩),(.func (.via 0 ⟨[]⟩ 0 true) v7 ⟨[.slice (some ⟨0,v8,none⟩) v9 13]⟩),(.func (.via 0 ⟨[]⟩ 0 true) v10 ⟨[.slice (some ⟨0,v11,none⟩) v12 13]⟩)]⟩ false],0,[]⟩⟩ =>
    (match Nat.beq (firstReg code) 24,lenIs t 77,lget t 1,lget t 9 with
    | true,true,(Value.pointer (Option.some (Addr.mk 0 0 Option.none))),(.int .i64 v0)=>some (code,⟨v0,v1,v2,v3,v4,v5,v6,v7,v8,v9,v10,v11,v12⟩)
    | _,_,_,_=>none)
  | _=>none
def alt14_2 (x:X14_2)(j:List Value):AT:=.br (L14_2_k0 x) (loopEnd 77 (.ret) [(2,(.int .i64 (Qn0 x))),(3,(.int .i64 (Qn1 x))),(4,(.int .i64 (Qn2 x)))] ⟨[.cells ⟨[(.string (Qn3 x)),(.int .i64 (Qn4 x)),(.int .i64 (Qn5 x)),(lstV (Qn6 x) (Qn7 x) (Qn8 x) 2),(lstV (Qn9 x) (Qn10 x) (Qn11 x) 13),(lstV (Qn12 x) (Qn13 x) (Qn14 x) 13)]⟩ false],0,[]⟩ j) (.br (L14_2_k1 x) (loopEnd 77 (.exit 4) [] ⟨[.cells ⟨[(.string (Qo0 x)),(.int .i64 (Qo1 x)),(.int .i64 (Qo2 x)),(lstV (Qo3 x) (Qo4 x) (Qo5 x) 2),(lstV (Qo6 x) (Qo7 x) (Qo8 x) 13),(lstV (Qo9 x) (Qo10 x) (Qo11 x) 13)]⟩ false],0,[]⟩ j) (.no))
def la14_2 (J:Task→List Value):Ans:=loopAns Lp14_2.c dec14_2 alt14_2 J
theorem ha14_2:∀(x:X14_2) (j:List Value)(o:Out),(alt14_2 x j).out=some o→∃d,loopR rd14_2 x=some d∧o=Lp14_2.tail d j:=by
  intro x j o h
  unfold alt14_2 at h
  cases hL:L14_2 x with
  | none=>simp [L14_2_k0,Qn0,Qn1,Qn2,Qn3,Qn4,Qn5,Qn6,Qn7,Qn8,Qn9,Qn10,Qn11,Qn12,Qn13,Qn14,L14_2_k1,Qo0,Qo1,Qo2,Qo3,Qo4,Qo5,Qo6,Qo7,Qo8,Qo9,Qo10,Qo11,hL,AT.out]at h
  | some d =>
    refine ⟨d,hL,?_⟩
    cases d<;>(simp only [L14_2_k0,Qn0,Qn1,Qn2,Qn3,Qn4,Qn5,Qn6,Qn7,Qn8,Qn9,Qn10,Qn11,Qn12,Qn13,Qn14,L14_2_k1,Qo0,Qo1,Qo2,Qo3,Qo4,Qo5,Qo6,Qo7,Qo8,Qo9,Qo10,Qo11,hL,AT.out,loopEnd,cond_true,cond_false,Option.some.injEq]at h;rw [← h];rfl)
theorem hd14_2:∀(t:Task) (c:Code)(x:X14_2),dec14_2 t=some (c,x)→c=Lp14_2.c→∃T,t=.code none (.loop Lp14_2.c) ⟨T,[],⟨Lp14_2.hp x,0,[]⟩⟩∧T.length=Lp14_2.N∧∀kv∈Lp14_2.S.zip (Lp14_2.sl x),lget T kv.1=kv.2:=by
  intro t c x h hc
  unfold dec14_2 at h
  split at h
  case h_2=>cases h
  split at h
  case h_2=>cases h
  simp only [Option.some.injEq,Prod.mk.injEq]at h
  obtain ⟨rfl,rfl⟩:=h
  subst hc
  refine ⟨_,rfl,lenIs_eq _ _ (by assumption),?_⟩
  intro kv hk
  simp only [Lp14_2,List.zip_cons_cons,List.zip_nil_right,List.mem_cons,List.not_mem_nil,or_false]at hk
  rcases hk with rfl | rfl<;>assumption
theorem kl14_2:∃J,Known Try.prog (la14_2 J):=by
  exact LoopOf.known noNG mixed ok14_2 (by decide) (by decide) (Known.or known47 (Known.or known48 (Known.or known49 (Known.or known50 (Known.or known51 known52))))) (n:=60) (rd:=rd14_2) (fun x j=>T14_2  j x.v0 x.v1 x.v2 x.v3 x.v4 x.v5 x.v6 x.v7 x.v8 x.v9 x.v10 x.v11 x.v12) dec14_2 alt14_2 hd14_2 ha14_2
structure R14 where
  r0:Int
  r1:Int
  r2:Int
structure A14 where
  a0:ByteArray
  a1:Int
  a2:Int
  a3:Array Value
  a4:Nat
  a5:Nat
  a6:Array Value
  a7:Nat
  a8:Nat
  a9:Array Value
  a10:Nat
  a11:Nat
def Y14_0 (a0:ByteArray)(a1:Int)(a2:Int)(a3:Array Value)(a4:Nat)(a5:Nat)(a6:Array Value)(a7:Nat)(a8:Nat)(a9:Array Value)(a10:Nat)(a11:Nat):X14_0:=(X14_0.mk (0:Int) a0 a1 a2 a3 a4 a5 a6 a7 a8 a9 a10 a11)
def Y14_1 (a0:ByteArray)(a1:Int)(a2:Int)(a3:Array Value)(a4:Nat)(a5:Nat)(a6:Array Value)(a7:Nat)(a8:Nat)(a9:Array Value)(a10:Nat)(a11:Nat):X14_1:=(X14_1.mk (0:Int) (Qk0 (Y14_0 a0 a1 a2 a3 a4 a5 a6 a7 a8 a9 a10 a11)) (Qk1 (Y14_0 a0 a1 a2 a3 a4 a5 a6 a7 a8 a9 a10 a11)) (Qk2 (Y14_0 a0 a1 a2 a3 a4 a5 a6 a7 a8 a9 a10 a11)) (Qk3 (Y14_0 a0 a1 a2 a3 a4 a5 a6 a7 a8 a9 a10 a11)) (Qk4 (Y14_0 a0 a1 a2 a3 a4 a5 a6 a7 a8 a9 a10 a11)) (Qk5 (Y14_0 a0 a1 a2 a3 a4 a5 a6 a7 a8 a9 a10 a11)) (Qk6 (Y14_0 a0 a1 a2 a3 a4 a5 a6 a7 a8 a9 a10 a11)) (Qk7 (Y14_0 a0 a1 a2 a3 a4 a5 a6 a7 a8 a9 a10 a11)) (Qk8 (Y14_0 a0 a1 a2 a3 a4 a5 a6 a7 a8 a9 a10 a11)) (Qk9 (Y14_0 a0 a1 a2 a3 a4 a5 a6 a7 a8 a9 a10 a11)) (Qk10 (Y14_0 a0 a1 a2 a3 a4 a5 a6 a7 a8 a9 a10 a11)) (Qk11 (Y14_0 a0 a1 a2 a3 a4 a5 a6 a7 a8 a9 a10 a11)))
def Y14_2 (a0:ByteArray)(a1:Int)(a2:Int)(a3:Array Value)(a4:Nat)(a5:Nat)(a6:Array Value)(a7:Nat)(a8:Nat)(a9:Array Value)(a10:Nat)(a11:Nat):X14_2:=(X14_2.mk (0:Int) (Qm0 (Y14_1 a0 a1 a2 a3 a4 a5 a6 a7 a8 a9 a10 a11)) (Qm1 (Y14_1 a0 a1 a2 a3 a4 a5 a6 a7 a8 a9 a10 a11)) (Qm2 (Y14_1 a0 a1 a2 a3 a4 a5 a6 a7 a8 a9 a10 a11)) (Qm3 (Y14_1 a0 a1 a2 a3 a4 a5 a6 a7 a8 a9 a10 a11)) (Qm4 (Y14_1 a0 a1 a2 a3 a4 a5 a6 a7 a8 a9 a10 a11)) (Qm5 (Y14_1 a0 a1 a2 a3 a4 a5 a6 a7 a8 a9 a10 a11)) (Qm6 (Y14_1 a0 a1 a2 a3 a4 a5 a6 a7 a8 a9 a10 a11)) (Qm7 (Y14_1 a0 a1 a2 a3 a4 a5 a6 a7 a8 a9 a10 a11)) (Qm8 (Y14_1 a0 a1 a2 a3 a4 a5 a6 a7 a8 a9 a10 a11)) (Qm9 (Y14_1 a0 a1 a2 a3 a4 a5 a6 a7 a8 a9 a10 a11)) (Qm10 (Y14_1 a0 a1 a2 a3 a4 a5 a6 a7 a8 a9 a10 a11)) (Qm11 (Y14_1 a0 a1 a2 a3 a4 a5 a6 a7 a8 a9 a10 a11)))
def rt14 (a0:ByteArray)(a1:Int)(a2:Int)(a3:Array Value)(a4:Nat)(a5:Nat)(a6:Array Value)(a7:Nat)(a8:Nat)(a9:Array Value)(a10:Nat)(a11:Nat):RT R14 :=
  .br (F47_ok a0) (.br (not (F47_0 a0)) (.leaf ⟨(1:Int),(0:Int),(6:Int)⟩) (.br (F48_ok a1 a2 (0:Int) (200:Int)) (.br (not (F48_0 a1 a2 (0:Int) (200:Int))) (.leaf ⟨(1:Int),(0:Int),(7:Int)⟩) (.br (decide ((20:Int)<(Int.ofNat a5))) (.leaf ⟨(2:Int),(0:Int),(3:Int)⟩)
      (.sw (eqCode (Lp14_0.c) (Lp14_0.c)) true (by simp only [eqCode_self,arrEq_self]) (.br (L14_0_k0 (Y14_0 a0 a1 a2 a3 a4 a5 a6 a7 a8 a9 a10 a11)) (.leaf ⟨(Qj0 (Y14_0 a0 a1 a2 a3 a4 a5 a6 a7 a8 a9 a10 a11)),(Qj1 (Y14_0 a0 a1 a2 a3 a4 a5 a6 a7 a8 a9 a10 a11)),(Qj2 (Y14_0 a0 a1 a2 a3 a4 a5 a6 a7 a8 a9 a10 a11))⟩) (.br (L14_0_k1 (Y14_0 a0 a1 a2 a3 a4 a5 a6 a7 a8 a9 a10 a11)) (.br (F50_ok (Int.ofNat (Qk8 (Y14_0 a0 a1 a2 a3 a4 a5 a6 a7 a8 a9 a10 a11))) (1:Int) (12:Int)) (.br (not (F50_0 (Int.ofNat (Qk8 (Y14_0 a0 a1 a2 a3 a4 a5 a6 a7 a8 a9 a10 a11))) (1:Int) (12:Int))) (.leaf ⟨(3:Int),(0:Int),(3:Int)⟩)
           (.sw (eqCode (Lp14_1.c) (Lp14_1.c)) true (by simp only [eqCode_self,arrEq_self]) (.br (L14_1_k0 (Y14_1 a0 a1 a2 a3 a4 a5 a6 a7 a8 a9 a10 a11)) (.leaf ⟨(Ql0 (Y14_1 a0 a1 a2 a3 a4 a5 a6 a7 a8 a9 a10 a11)),(Ql1 (Y14_1 a0 a1 a2 a3 a4 a5 a6 a7 a8 a9 a10 a11)),(Ql2 (Y14_1 a0 a1 a2 a3 a4 a5 a6 a7 a8 a9 a10 a11))⟩) (.br (L14_1_k1 (Y14_1 a0 a1 a2 a3 a4 a5 a6 a7 a8 a9 a10 a11)) (.br (decide ((6:Int)<(Int.ofNat (Qm11 (Y14_1 a0 a1 a2 a3 a4 a5 a6 a7 a8 a9 a10 a11))))) (.leaf ⟨(4:Int),(0:Int),(3:Int)⟩)
               (.sw (eqCode (Lp14_2.c) (Lp14_2.c)) true (by simp only [eqCode_self,arrEq_self]) (.br (L14_2_k0 (Y14_2 a0 a1 a2 a3 a4 a5 a6 a7 a8 a9 a10 a11)) (.leaf ⟨(Qn0 (Y14_2 a0 a1 a2 a3 a4 a5 a6 a7 a8 a9 a10 a11)),(Qn1 (Y14_2 a0 a1 a2 a3 a4 a5 a6 a7 a8 a9 a10 a11)),(Qn2 (Y14_2 a0 a1 a2 a3 a4 a5 a6 a7 a8 a9 a10 a11))⟩) (.br (L14_2_k1 (Y14_2 a0 a1 a2 a3 a4 a5 a6 a7 a8 a9 a10 a11)) (.leaf ⟨(0:Int),(0:Int),(0:Int)⟩) (.no))) (.no))) (.no))) (.no))) (.no)) (.no))) (.no)))) (.no))) (.no)
def en14 (r:R14):Value:=(.tuple ⟨[(.int .i64 r.r0),(.int .i64 r.r1),(.int .i64 r.r2)]⟩)
theorem T14 (J0:Task→List Value)(J1:Task→List Value)(J2:Task→List Value)(a0:ByteArray)(a1:Int)(a2:Int)(a3:Array Value)(a4:Nat)(a5:Nat)(a6:Array Value)(a7:Nat)(a8:Nat)(a9:Array Value)(a10:Nat)(a11:Nat):evC Try.prog (Ans.c (p47.or (p48.or (p49.or (p50.or (p51.or (p52.or ((la14_0 J0).or ((la14_1 J1).or (la14_2 J2)))))))))) 60 (.call 14 ⟨[(.agg ⟨[(.string a0),(.int .i64 a1),(.int .i64 a2),(lstV a3 a4 a5 2),(lstV a6 a7 a8 13),(lstV a9 a10 a11 13)]⟩)]⟩ ⟨[],0,[]⟩) (frzK [0,0,0])=(rt14 a0 a1 a2 a3 a4 a5 a6 a7 a8 a9 a10 a11).out (fun r=>.ret (en14 r) ⟨[],0,[]⟩):=by kernel_rfl
def F14 (a0:ByteArray)(a1:Int)(a2:Int)(a3:Array Value)(a4:Nat)(a5:Nat)(a6:Array Value)(a7:Nat)(a8:Nat)(a9:Array Value)(a10:Nat)(a11:Nat):Option R14:=(rt14 a0 a1 a2 a3 a4 a5 a6 a7 a8 a9 a10 a11).val
section
variable (a0:ByteArray) (a1:Int) (a2:Int) (a3:Array Value) (a4:Nat) (a5:Nat) (a6:Array Value) (a7:Nat) (a8:Nat) (a9:Array Value) (a10:Nat) (a11:Nat)
def F14_ok:Bool:=(F14 a0 a1 a2 a3 a4 a5 a6 a7 a8 a9 a10 a11).isSome
def F14_0:Int:=match F14 a0 a1 a2 a3 a4 a5 a6 a7 a8 a9 a10 a11 with | some r=>r.r0 | none=>0
def F14_1:Int:=match F14 a0 a1 a2 a3 a4 a5 a6 a7 a8 a9 a10 a11 with | some r=>r.r1 | none=>0
def F14_2:Int:=match F14 a0 a1 a2 a3 a4 a5 a6 a7 a8 a9 a10 a11 with | some r=>r.r2 | none=>0
end
def dec14:Task→Option (A14×Hp)
  | .call g ⟨[(.agg ⟨[(.string a0),(.int .i64 a1),(.int .i64 a2),(.func (.via 0 ⟨[]⟩ 0 true) a3 ⟨[.slice (some ⟨0,a4,none⟩) a5 2]⟩),(.func (.via 0 ⟨[]⟩ 0 true) a6 ⟨[.slice (some ⟨0,a7,none⟩) a8 13]⟩),(.func (.via 0 ⟨[]⟩ 0 true) a9 ⟨[.slice (some ⟨0,a10,none⟩) a11 13]⟩)]⟩)]⟩ h=>(match Nat.beq g 14 with | true=>some (⟨a0,a1,a2,a3,a4,a5,a6,a7,a8,a9,a10,a11⟩,h) | false=>none)
  | _=>none
def alt14 (x:A14)(h:Hp):AT:=.br (F14_ok x.a0 x.a1 x.a2 x.a3 x.a4 x.a5 x.a6 x.a7 x.a8 x.a9 x.a10 x.a11) (.leaf (.ret (.tuple ⟨[(.int .i64 (F14_0 x.a0 x.a1 x.a2 x.a3 x.a4 x.a5 x.a6 x.a7 x.a8 x.a9 x.a10 x.a11)),(.int .i64 (F14_1 x.a0 x.a1 x.a2 x.a3 x.a4 x.a5 x.a6 x.a7 x.a8 x.a9 x.a10 x.a11)),(.int .i64 (F14_2 x.a0 x.a1 x.a2 x.a3 x.a4 x.a5 x.a6 x.a7 x.a8 x.a9 x.a10 x.a11))]⟩) h)) .no
def p14:Ans:=fnAns dec14 alt14
theorem ha14:∀(x:A14) (h:Hp)(o:Out),(alt14 x h).out=some o→∃r,(rt14 x.a0 x.a1 x.a2 x.a3 x.a4 x.a5 x.a6 x.a7 x.a8 x.a9 x.a10 x.a11).val=some r∧o=.ret (en14 r) h:=by
  intro x h o e
  unfold alt14 at e
  simp only [AT.out]at e
  obtain ⟨g,e⟩:=cond_some e
  unfold F14_ok at g
  obtain ⟨r,hF⟩:=Option.isSome_iff_exists.1 g
  have hv:F14 x.a0 x.a1 x.a2 x.a3 x.a4 x.a5 x.a6 x.a7 x.a8 x.a9 x.a10 x.a11=(rt14 x.a0 x.a1 x.a2 x.a3 x.a4 x.a5 x.a6 x.a7 x.a8 x.a9 x.a10 x.a11).val:=by delta F14;exact rfl
  refine ⟨r,hv.symm.trans hF,?_⟩
  simp only [Option.some.injEq]at e
  rw [← e]
  have k0:F14_0 x.a0 x.a1 x.a2 x.a3 x.a4 x.a5 x.a6 x.a7 x.a8 x.a9 x.a10 x.a11=r.r0:=by
    show (match F14 x.a0 x.a1 x.a2 x.a3 x.a4 x.a5 x.a6 x.a7 x.a8 x.a9 x.a10 x.a11 with | some r=>r.r0 | none=>0)=r.r0
    rw [hF]
  have k1:F14_1 x.a0 x.a1 x.a2 x.a3 x.a4 x.a5 x.a6 x.a7 x.a8 x.a9 x.a10 x.a11=r.r1:=by
    show (match F14 x.a0 x.a1 x.a2 x.a3 x.a4 x.a5 x.a6 x.a7 x.a8 x.a9 x.a10 x.a11 with | some r=>r.r1 | none=>0)=r.r1
    rw [hF]
  have k2:F14_2 x.a0 x.a1 x.a2 x.a3 x.a4 x.a5 x.a6 x.a7 x.a8 x.a9 x.a10 x.a11=r.r2:=by
    show (match F14 x.a0 x.a1 x.a2 x.a3 x.a4 x.a5 x.a6 x.a7 x.a8 x.a9 x.a10 x.a11 with | some r=>r.r2 | none=>0)=r.r2
    rw [hF]
  rw [k0,k1,k2]<;>rfl
theorem hd14:∀(t:Task) (x:A14)(h:Hp),dec14 t=some (x,h)→t=.call 14 ⟨[(.agg ⟨[(.string x.a0),(.int .i64 x.a1),(.int .i64 x.a2),(lstV x.a3 x.a4 x.a5 2),(lstV x.a6 x.a7 x.a8 13),(lstV x.a9 x.a10 x.a11 13)]⟩)]⟩ h:=by
  intro t x h e
  unfold dec14 at e
  split at e
  case h_2=>cases e
  split at e
  case h_2=>cases e
  rename_i hg
  simp only [Option.some.injEq,Prod.mk.injEq]at e
  obtain ⟨rfl,rfl⟩:=e
  rw [Nat.eq_of_beq_eq_true hg]
theorem known14:Known Try.prog p14:=by
  obtain ⟨J0,hJ0⟩:=kl14_0
  obtain ⟨J1,hJ1⟩:=kl14_1
  obtain ⟨J2,hJ2⟩:=kl14_2
  exact Known.fn noNG mixed (Known.or known47 (Known.or known48 (Known.or known49 (Known.or known50 (Known.or known51 (Known.or known52 (Known.or hJ0 (Known.or hJ1 hJ2)))))))) (n:=60) (zs:=[0,0,0]) 14 (fun x:A14=>[(.agg ⟨[(.string x.a0),(.int .i64 x.a1),(.int .i64 x.a2),(lstV x.a3 x.a4 x.a5 2),(lstV x.a6 x.a7 x.a8 13),(lstV x.a9 x.a10 x.a11 13)]⟩)]) (fun x=>rt14 x.a0 x.a1 x.a2 x.a3 x.a4 x.a5 x.a6 x.a7 x.a8 x.a9 x.a10 x.a11) en14 (fun x=>T14 J0 J1 J2 x.a0 x.a1 x.a2 x.a3 x.a4 x.a5 x.a6 x.a7 x.a8 x.a9 x.a10 x.a11) (fun x=>rfl) dec14 alt14 hd14 ha14
structure R15 where
  r0:Int
structure A15 where
  a0:Int
  a1:Int
  a2:Int
def rt15 (a0:Int)(a1:Int)(a2:Int):RT R15 :=
  .br (decide (a0<(-10000:Int))) (.leaf ⟨(7:Int)⟩) (.br (decide ((10000:Int)<a0)) (.leaf ⟨(7:Int)⟩) (.br (decide (a1<(-10000:Int))) (.leaf ⟨(7:Int)⟩) (.br (decide ((10000:Int)<a1)) (.leaf ⟨(7:Int)⟩) (.br (decide (a2<(1:Int))) (.leaf ⟨(7:Int)⟩) (.br (decide ((10000:Int)<a2)) (.leaf ⟨(7:Int)⟩) (.br (decide ((IntKind.wrap .i64 ((IntKind.wrap .i64 ((IntKind.wrap .i64 (a0*a0))+(IntKind.wrap .i64 (a1*a1))))+(IntKind.wrap .i64 (a2*a2))))<(99800100:Int))) (.leaf ⟨(2:Int)⟩) (.br (decide ((100200100:Int)<(IntKind.wrap .i64 ((IntKind.wrap .i64 ((IntKind.wrap .i64 (a0*a0))+(IntKind.wrap .i64 (a1*a1))))+(IntKind.wrap .i64 (a2*a2)))))) (.leaf ⟨(2:Int)⟩) (.leaf ⟨(0:Int)⟩))))))))
def en15 (r:R15):Value:=(.int .i64 r.r0)
theorem T15  (a0:Int) (a1:Int) (a2:Int):evC Try.prog (Ans.c (fun _=>none:Ans)) 60 (.call 15 ⟨[(.agg ⟨[(.int .i64 a0),(.int .i64 a1),(.int .i64 a2)]⟩)]⟩ ⟨[],0,[]⟩) (frzK [0])=(rt15 a0 a1 a2).out (fun r=>.ret (en15 r) ⟨[],0,[]⟩):=by kernel_rfl
def F15 (a0:Int)(a1:Int)(a2:Int):Option R15:=(rt15 a0 a1 a2).val
section
variable (a0:Int) (a1:Int) (a2:Int)
def F15_ok:Bool:=(F15 a0 a1 a2).isSome
def F15_0:Int:=match F15 a0 a1 a2 with | some r=>r.r0 | none=>0
end
def dec15:Task→Option (A15×Hp)
  | .call g ⟨[(.agg ⟨[(.int .i64 a0),(.int .i64 a1),(.int .i64 a2)]⟩)]⟩ h=>(match Nat.beq g 15 with | true=>some (⟨a0,a1,a2⟩,h) | false=>none)
  | _=>none
def alt15 (x:A15)(h:Hp):AT:=.br (F15_ok x.a0 x.a1 x.a2) (.leaf (.ret (.int .i64 (F15_0 x.a0 x.a1 x.a2)) h)) .no
def p15:Ans:=fnAns dec15 alt15
theorem ha15:∀(x:A15) (h:Hp)(o:Out),(alt15 x h).out=some o→∃r,(rt15 x.a0 x.a1 x.a2).val=some r∧o=.ret (en15 r) h:=by
  intro x h o e
  unfold alt15 at e
  simp only [AT.out]at e
  obtain ⟨g,e⟩:=cond_some e
  unfold F15_ok at g
  obtain ⟨r,hF⟩:=Option.isSome_iff_exists.1 g
  have hv:F15 x.a0 x.a1 x.a2=(rt15 x.a0 x.a1 x.a2).val:=by delta F15;exact rfl
  refine ⟨r,hv.symm.trans hF,?_⟩
  simp only [Option.some.injEq]at e
  rw [← e]
  have k0:F15_0 x.a0 x.a1 x.a2=r.r0:=by
    show (match F15 x.a0 x.a1 x.a2 with | some r=>r.r0 | none=>0)=r.r0
    rw [hF]
  rw [k0]<;>rfl
theorem hd15:∀(t:Task) (x:A15)(h:Hp),dec15 t=some (x,h)→t=.call 15 ⟨[(.agg ⟨[(.int .i64 x.a0),(.int .i64 x.a1),(.int .i64 x.a2)]⟩)]⟩ h:=by
  intro t x h e
  unfold dec15 at e
  split at e
  case h_2=>cases e
  split at e
  case h_2=>cases e
  rename_i hg
  simp only [Option.some.injEq,Prod.mk.injEq]at e
  obtain ⟨rfl,rfl⟩:=e
  rw [Nat.eq_of_beq_eq_true hg]
theorem known15:Known Try.prog p15:=by
  exact Known.fn noNG mixed (Known.nothing Try.prog) (n:=60) (zs:=[0]) 15 (fun x:A15=>[(.agg ⟨[(.int .i64 x.a0),(.int .i64 x.a1),(.int .i64 x.a2)]⟩)]) (fun x=>rt15 x.a0 x.a1 x.a2) en15 (fun x=>T15  x.a0 x.a1 x.a2) (fun x=>rfl) dec15 alt15 hd15 ha15
structure R16 where
  r0:Int
structure A16 where
  a0:Int
  a1:Int
  a2:Int
def rt16 (a0:Int)(a1:Int)(a2:Int):RT R16 :=
  .br (F50_ok a0 (-10000:Int) (10000:Int)) (.br (not (F50_0 a0 (-10000:Int) (10000:Int))) (.leaf ⟨(7:Int)⟩) (.br (F50_ok a1 (-10000:Int) (10000:Int)) (.br (not (F50_0 a1 (-10000:Int) (10000:Int))) (.leaf ⟨(7:Int)⟩) (.br (F50_ok a2 (1:Int) (10000:Int)) (.br (not (F50_0 a2 (1:Int) (10000:Int))) (.leaf ⟨(7:Int)⟩) (.br (F50_ok (IntKind.wrap .i64 ((IntKind.wrap .i64 ((IntKind.wrap .i64 (a0*a0))+(IntKind.wrap .i64 (a1*a1))))+(IntKind.wrap .i64 (a2*a2)))) (99800100:Int) (100200100:Int)) (.br (not (F50_0 (IntKind.wrap .i64 ((IntKind.wrap .i64 ((IntKind.wrap .i64 (a0*a0))+(IntKind.wrap .i64 (a1*a1))))+(IntKind.wrap .i64 (a2*a2)))) (99800100:Int) (100200100:Int))) (.leaf ⟨(2:Int)⟩) (.leaf ⟨(0:Int)⟩)) (.no))) (.no))) (.no))) (.no)
def en16 (r:R16):Value:=(.int .i64 r.r0)
theorem T16  (a0:Int) (a1:Int) (a2:Int):evC Try.prog (Ans.c p50) 60 (.call 16 ⟨[(.agg ⟨[(.int .i64 a0),(.int .i64 a1),(.int .i64 a2)]⟩)]⟩ ⟨[],0,[]⟩) (frzK [0])=(rt16 a0 a1 a2).out (fun r=>.ret (en16 r) ⟨[],0,[]⟩):=by kernel_rfl
def F16 (a0:Int)(a1:Int)(a2:Int):Option R16:=(rt16 a0 a1 a2).val
section
variable (a0:Int) (a1:Int) (a2:Int)
def F16_ok:Bool:=(F16 a0 a1 a2).isSome
def F16_0:Int:=match F16 a0 a1 a2 with | some r=>r.r0 | none=>0
end
def dec16:Task→Option (A16×Hp)
  | .call g ⟨[(.agg ⟨[(.int .i64 a0),(.int .i64 a1),(.int .i64 a2)]⟩)]⟩ h=>(match Nat.beq g 16 with | true=>some (⟨a0,a1,a2⟩,h) | false=>none)
  | _=>none
def alt16 (x:A16)(h:Hp):AT:=.br (F16_ok x.a0 x.a1 x.a2) (.leaf (.ret (.int .i64 (F16_0 x.a0 x.a1 x.a2)) h)) .no
def p16:Ans:=fnAns dec16 alt16
theorem ha16:∀(x:A16) (h:Hp)(o:Out),(alt16 x h).out=some o→∃r,(rt16 x.a0 x.a1 x.a2).val=some r∧o=.ret (en16 r) h:=by
  intro x h o e
  unfold alt16 at e
  simp only [AT.out]at e
  obtain ⟨g,e⟩:=cond_some e
  unfold F16_ok at g
  obtain ⟨r,hF⟩:=Option.isSome_iff_exists.1 g
  have hv:F16 x.a0 x.a1 x.a2=(rt16 x.a0 x.a1 x.a2).val:=by delta F16;exact rfl
  refine ⟨r,hv.symm.trans hF,?_⟩
  simp only [Option.some.injEq]at e
  rw [← e]
  have k0:F16_0 x.a0 x.a1 x.a2=r.r0:=by
    show (match F16 x.a0 x.a1 x.a2 with | some r=>r.r0 | none=>0)=r.r0
    rw [hF]
  rw [k0]<;>rfl
theorem hd16:∀(t:Task) (x:A16)(h:Hp),dec16 t=some (x,h)→t=.call 16 ⟨[(.agg ⟨[(.int .i64 x.a0),(.int .i64 x.a1),(.int .i64 x.a2)]⟩)]⟩ h:=by
  intro t x h e
  unfold dec16 at e
  split at e
  case h_2=>cases e
  split at e
  case h_2=>cases e
  rename_i hg
  simp only [Option.some.injEq,Prod.mk.injEq]at e
  obtain ⟨rfl,rfl⟩:=e
  rw [Nat.eq_of_beq_eq_true hg]
theorem known16:Known Try.prog p16:=by
  exact Known.fn noNG mixed known50 (n:=60) (zs:=[0]) 16 (fun x:A16=>[(.agg ⟨[(.int .i64 x.a0),(.int .i64 x.a1),(.int .i64 x.a2)]⟩)]) (fun x=>rt16 x.a0 x.a1 x.a2) en16 (fun x=>T16  x.a0 x.a1 x.a2) (fun x=>rfl) dec16 alt16 hd16 ha16
end
end Go.Proofs.Ytnmjibcolnlkjaa
namespace Go.Proofs.Ytnmjibcolnlkjaa
open Go.Gi Go.RowKit
noncomputable section
set_option maxRecDepth 100000
set_option maxHeartbeats 1000000
def inB (n lo hi:Int):Bool:=decide (lo≤n)&&decide (n≤hi)
def spB (a b lo hi:Int):Bool:=decide (a≤b)&&(decide (lo≤a)&&decide (b≤hi))
def boB (a b c e:Int):Bool:=spB a b 1 100000&&spB c e 0 1000
def thB (a b c e f g far:Int):Bool:=spB a b (-far) far&&(spB c e (-far) far&&spB f g (-far) far)
theorem inB_alt (n lo hi:Int):inB n lo hi=(!decide (n<lo)&&!decide (hi<n)):=by
  unfold inB
  rw [Bool.eq_iff_iff]
  simp only [Bool.and_eq_true,decide_eq_true_eq,Bool.not_eq_true',decide_eq_false_iff_not]
  omega
theorem F50_of (n lo hi:Int):F50_ok n lo hi=true∧F50_0 n lo hi=inB n lo hi:=by
  have q:F50 n lo hi=some ⟨inB n lo hi⟩:=by
    unfold F50 rt50 inB
    by_cases h:lo≤n<;>simp [RT.val,h]
  exact ⟨by simp only [F50_ok,q];rfl,by simp only [F50_0,q]⟩
theorem F48_of (a b lo hi:Int):F48_ok a b lo hi=true∧F48_0 a b lo hi=spB a b lo hi:=by
  have q:F48 a b lo hi=some ⟨spB a b lo hi⟩:=by
    unfold F48 rt48 spB
    by_cases h:a≤b<;>by_cases h2:lo≤a<;>simp [RT.val,h,h2]
  exact ⟨by simp only [F48_ok,q];rfl,by simp only [F48_0,q]⟩
theorem F83_of (a b lo hi:Int):F83_ok a b lo hi=true∧F83_0 a b lo hi=spB a b lo hi:=by
  have q:F83 a b lo hi=some ⟨spB a b lo hi⟩:=by
    unfold F83 rt83 spB
    by_cases h:a≤b<;>by_cases h2:lo≤a<;>simp [RT.val,h,h2]
  exact ⟨by simp only [F83_ok,q];rfl,by simp only [F83_0,q]⟩
theorem F43_of (a b lo hi:Int):F43_ok a b lo hi=true∧F43_0 a b lo hi=spB a b lo hi:=by
  have q:F43 a b lo hi=some ⟨spB a b lo hi⟩:=by
    unfold F43 rt43
    simp only [RT.val,(F83_of _ _ _ _).1,(F83_of _ _ _ _).2,cond_true]
  exact ⟨by simp only [F43_ok,q];rfl,by simp only [F43_0,q]⟩
theorem wneg {f:Int}(hf:0≤f∧f≤1000000000):IntKind.wrap .i64 (0-f)=-f:=by rw [wrap64_id (by omega) (by omega)];omega
theorem F54_of {a b f:Int}(hf:0≤f∧f≤1000000000):F54_ok a b f=true∧F54_0 a b f=spB a b (-f) f:=by
  have q:F54 a b f=some ⟨spB a b (-f) f⟩:=by
    unfold F54 rt54
    simp only [RT.val,wneg hf,(F83_of _ _ _ _).1,(F83_of _ _ _ _).2,cond_true]
  exact ⟨by simp only [F54_ok,q];rfl,by simp only [F54_0,q]⟩
theorem F84_of (a b c e:Int):F84_ok a b c e=true∧F84_0 a b c e=boB a b c e:=by
  have q:F84 a b c e=some ⟨boB a b c e⟩:=by
    unfold F84 rt84 boB
    simp only [RT.val,(F43_of _ _ _ _).1,(F43_of _ _ _ _).2,cond_true]
    cases spB a b 1 100000<;>rfl
  exact ⟨by simp only [F84_ok,q];rfl,by simp only [F84_0,q]⟩
theorem F88_of (a b c e:Int):F88_ok a b c e=true∧F88_0 a b c e=boB a b c e:=by
  have q:F88 a b c e=some ⟨boB a b c e⟩:=by
    unfold F88 rt88 boB
    simp only [RT.val,(F48_of _ _ _ _).1,(F48_of _ _ _ _).2,cond_true]
    cases spB a b 1 100000<;>rfl
  exact ⟨by simp only [F88_ok,q];rfl,by simp only [F88_0,q]⟩
theorem F86_of {a b c e f g r:Int}(hr:0≤r∧r≤1000000000):F86_ok a b c e f g r=true∧F86_0 a b c e f g r=thB a b c e f g r:=by
  have q:F86 a b c e f g r=some ⟨thB a b c e f g r⟩:=by
    unfold F86 rt86 thB
    simp only [RT.val,(F54_of hr).1,(F54_of hr).2,cond_true]
    cases spB a b (-r) r<;>cases spB c e (-r) r<;>cases spB f g (-r) r<;>rfl
  exact ⟨by simp only [F86_ok,q];rfl,by simp only [F86_0,q]⟩
theorem F89_of {a b c e f g r:Int}(hr:0≤r∧r≤1000000000):F89_ok a b c e f g r=true∧F89_0 a b c e f g r=thB a b c e f g r:=by
  have q:F89 a b c e f g r=some ⟨thB a b c e f g r⟩:=by
    unfold F89 rt89 thB
    simp only [RT.val,wneg hr,(F48_of _ _ _ _).1,(F48_of _ _ _ _).2,cond_true]
    cases spB a b (-r) r<;>cases spB c e (-r) r<;>cases spB f g (-r) r<;>rfl
  exact ⟨by simp only [F89_ok,q];rfl,by simp only [F89_0,q]⟩
theorem F85_of (a b c e f g:Int):F85_ok a b c e f g=true∧F85_0 a b c e f g=a∧F85_1 a b c e f g=b∧F85_2 a b c e f g=c∧F85_3 a b c e f g=e∧F85_4 a b c e f g=f∧F85_5 a b c e f g=g:=by
  have q:F85 a b c e f g=some ⟨a,b,c,e,f,g⟩:=rfl
  exact ⟨by simp only [F85_ok,q];rfl,by simp only [F85_0,q],by simp only [F85_1,q],by simp only [F85_2,q],by simp only [F85_3,q],by simp only [F85_4,q],by simp only [F85_5,q]⟩
theorem F107_of (n:Int):F107_ok n=true∧F107_0 n=inB n 0 2000000000:=by
  have q:F107 n=some ⟨inB n 0 2000000000⟩:=by
    unfold F107 rt107 inB
    by_cases h:(0:Int)≤n<;>simp [RT.val,h]
  exact ⟨by simp only [F107_ok,q];rfl,by simp only [F107_0,q]⟩
def diE (a b c:Int):Int:=if (inB a (-10000) 10000&&(inB b (-10000) 10000&&inB c 1 10000))=true then (if inB (IntKind.wrap .i64 (IntKind.wrap .i64 (IntKind.wrap .i64 (a*a)+IntKind.wrap .i64 (b*b))+IntKind.wrap .i64 (c*c))) 99800100 100200100=true then 0 else 2) else 7
theorem F16_of (a b c:Int):F16_ok a b c=true∧F16_0 a b c=diE a b c:=by
  have q:F16 a b c=some ⟨diE a b c⟩:=by
    unfold F16 rt16 diE
    simp only [RT.val,(F50_of _ _ _).1,(F50_of _ _ _).2,cond_true]
    cases inB a (-10000) 10000<;>cases inB b (-10000) 10000<;>cases inB c 1 10000<;>cases inB (IntKind.wrap .i64 (IntKind.wrap .i64 (IntKind.wrap .i64 (a*a)+IntKind.wrap .i64 (b*b))+IntKind.wrap .i64 (c*c))) 99800100 100200100<;>rfl
  exact ⟨by simp only [F16_ok,q];rfl,by simp only [F16_0,q]⟩
theorem F15_of (a b c:Int):F15_ok a b c=true∧F15_0 a b c=diE a b c:=by
  have q:F15 a b c=some ⟨diE a b c⟩:=by
    unfold F15 rt15 diE
    simp only [RT.val,inB_alt]
    by_cases h1:a < -10000<;>by_cases h2:10000<a<;>by_cases h3:b < -10000<;>by_cases h4:10000<b<;>by_cases h5:c<1<;>by_cases h6:10000<c<;>simp only [h1,h2,h3,h4,h5,h6,decide_true,decide_false,cond_true,cond_false,Bool.not_true,Bool.not_false,Bool.and_true,Bool.and_false,Bool.true_and,Bool.false_and,Bool.false_eq_true,if_true,if_false]
    generalize IntKind.wrap .i64 (IntKind.wrap .i64 (IntKind.wrap .i64 (a*a)+IntKind.wrap .i64 (b*b))+IntKind.wrap .i64 (c*c))=z
    by_cases h7:z<99800100<;>by_cases h8:100200100<z<;>simp [h7,h8]
  exact ⟨by simp only [F15_ok,q];rfl,by simp only [F15_0,q]⟩
def arC (f dn fr:Int)(z:Bool):Int:=if (if z=true then decide (f=0) else decide (fr<f))=true then (if 2000000000<f then 7 else if inB dn 0 1000=true then 0 else 7) else 2
def arK (c:Array Value)(k:Nat):Int:=arC (getInt c (0+k*2)) (getInt c (0+k*2+1)) (getInt c (0+(k-1)*2+0)) (decide (k=0))
def phC (t a b c e f g h i j l m n:Int):Int:=if (inB t 1 3000&&(spB a b 0 2000000&&(boB c e f g&&thB h i j l m n 2000)))=true then 0 else 7
def phK (c:Array Value)(k:Nat):Int:=phC (getInt c (0+k*13)) (getInt c (0+k*13+1)) (getInt c (0+k*13+1+1)) (getInt c (0+k*13+1+1+1)) (getInt c (0+k*13+1+1+1+1)) (getInt c (0+k*13+1+1+1+1+1)) (getInt c (0+k*13+1+1+1+1+1+1)) (getInt c (0+k*13+1+1+1+1+1+1+1)) (getInt c (0+k*13+1+1+1+1+1+1+1+1)) (getInt c (0+k*13+1+1+1+1+1+1+1+1+1)) (getInt c (0+k*13+1+1+1+1+1+1+1+1+1+1)) (getInt c (0+k*13+1+1+1+1+1+1+1+1+1+1+1)) (getInt c (0+k*13+1+1+1+1+1+1+1+1+1+1+1+1))
def piC (s:ByteArray)(t a b c e f g h i j l m:Int)(tw:Bool):Int:=if nmB s=true then (if tw=true then 5 else if (inB t 1 3000&&(boB a b c e&&(thB f g h i j l 1000000&&inB m 0 2000000000)))=true then 0 else 7) else 6
def twE (c:Array Value)(s:ByteArray)(j:Nat):Int:=if strEq (getStr c (0+j*13)) s=true then 5 else 0
def twB (c:Array Value)(s:ByteArray)(k:Nat):Bool:=(fst1 (twE c s) k 0).isSome
def piK (c:Array Value)(k:Nat):Int:=piC (getStr c (0+k*13)) (getInt c (0+k*13+1)) (getInt c (0+k*13+1+1)) (getInt c (0+k*13+1+1+1)) (getInt c (0+k*13+1+1+1+1)) (getInt c (0+k*13+1+1+1+1+1)) (getInt c (0+k*13+1+1+1+1+1+1)) (getInt c (0+k*13+1+1+1+1+1+1+1)) (getInt c (0+k*13+1+1+1+1+1+1+1+1)) (getInt c (0+k*13+1+1+1+1+1+1+1+1+1)) (getInt c (0+k*13+1+1+1+1+1+1+1+1+1+1)) (getInt c (0+k*13+1+1+1+1+1+1+1+1+1+1+1)) (getInt c (0+k*13+1+1+1+1+1+1+1+1+1+1+1+1)) (twB c (getStr c (0+k*13)) k)
def I2:List Leaf:=[.int .i64,.int .i64]
def I13:List Leaf:=[(Leaf.int .i64),(Leaf.int .i64),(Leaf.int .i64),(Leaf.int .i64),(Leaf.int .i64),(Leaf.int .i64),(Leaf.int .i64),(Leaf.int .i64),(Leaf.int .i64),(Leaf.int .i64),(Leaf.int .i64),(Leaf.int .i64),(Leaf.int .i64)]
def S13:List Leaf:=[Leaf.str,(Leaf.int .i64),(Leaf.int .i64),(Leaf.int .i64),(Leaf.int .i64),(Leaf.int .i64),(Leaf.int .i64),(Leaf.int .i64),(Leaf.int .i64),(Leaf.int .i64),(Leaf.int .i64),(Leaf.int .i64),(Leaf.int .i64)]
theorem rd_and {c:Array Value}{l:Leaf}{L:List Leaf}{i:Nat}(h:rdOk c (l::L) i=true):(rdLeaf c l i).1=true∧rdOk c L (i+1)=true:=by
  simpa only [rdOk,Bool.and_eq_true] using h
theorem ar44 (f dn fr:Int)(k:Nat)(S:X44_0)(F:Int→D44_0):(cond (decide (f≤fr)) (some (Sum.inr (F 2))) (cond (decide (2000000000<f)) (some (Sum.inr (F 7))) (cond (decide (dn<0)) (some (Sum.inr (F 7))) (cond (decide (1000<dn)) (some (Sum.inr (F 7))) (some (Sum.inl S)))))) =
    some (if arC f dn fr false=0 then Sum.inl S else Sum.inr (F (arC f dn fr false))):=by
  unfold arC
  rw [inB_alt]
  by_cases h1:f≤fr
  · have:¬fr<f:=by omega
    simp [h1,this]
  · have h1':fr<f:=by omega
    by_cases h2:2000000000<f<;>by_cases h3:dn<0<;>by_cases h4:1000<dn<;>simp [h1,h1',h2,h3,h4]
theorem ar44z (f dn fr:Int)(S:X44_0)(F:Int→D44_0):(cond (!decide (f=0)) (some (Sum.inr (F 2))) (cond (decide (2000000000<f)) (some (Sum.inr (F 7))) (cond (decide (dn<0)) (some (Sum.inr (F 7))) (cond (decide (1000<dn)) (some (Sum.inr (F 7))) (some (Sum.inl S)))))) =
    some (if arC f dn fr true=0 then Sum.inl S else Sum.inr (F (arC f dn fr true))):=by
  unfold arC
  rw [inB_alt]
  by_cases h1:f=0<;>by_cases h2:2000000000<f<;>by_cases h3:dn<0<;>by_cases h4:1000<dn<;>simp [h1,h2,h3,h4]
theorem row2 {c:Array Value}{n k:Nat}(h:GL I2 2 c n) (hk:k<n):rdOk c [(Leaf.int .i64),(Leaf.int .i64)] (0+k*2)=true:=h.good.2 k hk
section
variable {c:Array Value}{n:Nat}
theorem step44 (g:GL I2 2 c n)(few:n≤1000)(k:Nat)(hk:k<n):(rd44_0 ⟨c,0,n,c,0,n,(n:Int),(k:Int)⟩).val=some (if arK c k=0 then .inl ⟨c,0,n,c,0,n,(n:Int),((k+1:Nat):Int)⟩ else .inr (.k0 (k:Int) (arK c k))):=by
  have hki:(k:Int)<(n:Int):=by omega
  have h0:(0:Int)≤(k:Int):=by omega
  have h3:IntKind.wrap .i64 ((k:Int)+1)=((k+1:Nat):Int):=by rw [wrap64_id (by omega) (by omega)];omega
  have hr:=row2 g hk
  unfold arK
  by_cases hk0:k=0
  · subst hk0
    have hz:((0:Nat):Int)=0:=rfl
    have hlt:¬((0:Int)<((0:Nat):Int)):=by decide
    have hki0:(0:Int)<(n:Int):=by omega
    have hle:(0:Int)≤0:=by decide
    have h30:IntKind.wrap .i64 ((0:Int)+1)=((0+1:Nat):Int):=by rw [wrap64_id (by omega) (by omega)];rfl
    simp only [rd44_0,RT.val,hki0,hle,h30,hr,hz,Int.lt_irrefl,Int.toNat_natCast,Int.toNat_zero,Int.ofNat_eq_natCast,decide_true,decide_false,Bool.and_self,cond_true,cond_false]
    exact ar44z _ _ _ _ (fun r=>.k0 0 r)
  · have hz:¬(k:Int)=0:=by omega
    have hlt:(0:Int)<(k:Int):=by omega
    have hw:IntKind.wrap .i64 ((k:Int)-1)=((k-1:Nat):Int):=by rw [wrap64_id (by omega) (by omega)];omega
    have h0':(0:Int)≤((k-1:Nat):Int):=by omega
    have hlt':((k-1:Nat):Int)<(n:Int):=by omega
    have hi:isInt .i64 c (0+(k-1)*2+0)=true:=(rd_and (row2 g (show k-1<n by omega))).1
    simp only [rd44_0,RT.val,hki,h0,h3,hr,hz,hlt,hw,h0',hlt',hi,Int.toNat_natCast,Int.ofNat_eq_natCast,decide_true,decide_false,Bool.and_self,cond_true,cond_false]
    rw [show decide (k=0)=false from decide_eq_false hk0]
    exact ar44 _ _ _ k _ (fun r=>.k0 (k:Int) r)
def arS (c:Array Value)(n:Nat):Int×Int:=if 20<n then (0,3) else match fst1 (arK c) n 0 with | some (i,r)=>((i:Int),r) | none=>(0,0)
theorem F44_eq (g:GL I2 2 c n):F44 c 0 n=some ⟨(arS c n).1,(arS c n).2⟩:=by
  unfold F44 rt44 arS
  by_cases h:20<n
  · have:(20:Int)<(n:Int):=by omega
    rw [if_pos h]
    simp only [RT.val,this,Int.ofNat_eq_natCast,decide_true,cond_true]
  · have i1:¬(20:Int)<(n:Int):=by omega
    have i2:¬(n:Int)<(n:Int):=by omega
    rw [if_neg h]
    have l:L44_0 (X44_0.mk c 0 n c 0 n (n:Int) 0)=some (match fst1 (arK c) n 0 with | some (i,r)=>.k0 (i:Int) r | none=>.k1) :=
      loop_fst (rd:=rd44_0) (S:=fun k=>⟨c,0,n,c,0,n,(n:Int),(k:Int)⟩) (E:=arK c) (n:=n) (err:=fun i r=>.k0 (i:Int) r) (fin:=.k1) (fun k hk=>step44 g (by omega) k hk)
        (by simp only [rd44_0,RT.val,i2,decide_false,cond_false]) n 0 (by omega)
    cases hf:fst1 (arK c) n 0 with
    | none =>
      rw [hf]at l
      simp only [RT.val,i1,Int.ofNat_eq_natCast,L44_0_k0,L44_0_k1,l,decide_false,cond_true,cond_false]
    | some p =>
      obtain ⟨i,r⟩:=p
      rw [hf]at l
      simp only [RT.val,i1,Int.ofNat_eq_natCast,L44_0_k0,Qc0,Qc1,l,decide_false,cond_true,cond_false]
end
end
end Go.Proofs.Ytnmjibcolnlkjaa
namespace Go.Proofs.Ytnmjibcolnlkjaa
open Go.ChangeShapes Go.WideShapes Go.ChangeAt Go.RowKit Go.Gi
set_option maxRecDepth 100000
theorem own:ownKnob Try.prog.godebug=none:=by kernel_rfl
theorem laidOut:laidOutB Try.prog=true:=by kernel_rfl
theorem flat146:flatT Try.prog 18 146=true:=by kernel_rfl
theorem leaves146:leaves Try.prog false 18 146=I2:=by kernel_rfl
theorem cells146:Try.prog.cellsOf 146=2:=by kernel_rfl
theorem flat81:flatT Try.prog 18 81=true:=by kernel_rfl
theorem leaves81:leaves Try.prog false 18 81=I13:=by kernel_rfl
theorem cells81:Try.prog.cellsOf 81=13:=by kernel_rfl
theorem flat78:flatT Try.prog 18 78=true:=by kernel_rfl
theorem leaves78:leaves Try.prog false 18 78=S13:=by kernel_rfl
theorem cells78:Try.prog.cellsOf 78=13:=by kernel_rfl
theorem tyB28:tyB Try.prog 20 28=true:=by kernel_rfl
theorem tyB30:tyB Try.prog 20 30=true:=by kernel_rfl
theorem tyStr {P:Program}{d:Nat}{t:TypeId}{cs:List Value}(hu:P.underlying t=some .string) (h:Ty P (d+1) t cs):∃s,cs=[.string s]∧s.size≤maxLen:=by
  unfold Ty at h
  rw [hu]at h
  exact h
theorem tySpan {d:Nat}{cs:List Value}(h:Ty Try.prog (d+1+1) 23 cs):∃a b,cs=[.int .i64 a,.int .i64 b]:=by
  obtain ⟨p0,p1,rfl,h0,h1⟩:=tyS2 Try.underlying23 h
  obtain ⟨a,rfl,_⟩:=tyI Try.underlying3 h0
  obtain ⟨b,rfl,_⟩:=tyI Try.underlying3 h1
  exact ⟨a,b,rfl⟩
def Veh (abs:List Value):Prop:=∃nm g1 g2 ca na cp np c n,abs=[.string nm,.int .i64 g1,.int .i64 g2,lstV ca 0 na 2,lstV cp 0 np 13,lstV c 0 n 13]∧GL I2 2 ca na∧GL I13 13 cp np∧GL S13 13 c n
theorem veh {abs:List Value}(h:Ty Try.prog 20 28 abs):Veh abs:=by
  obtain ⟨p0,p1,p2,p3,p4,rfl,h0,h1,h2,h3,h4⟩:=tyS5 Try.underlying28 h
  obtain ⟨nm,rfl,_⟩:=tyStr Try.underlying9 h0
  obtain ⟨g1,g2,rfl⟩:=tySpan h1
  obtain ⟨ca,na,rfl,q1⟩:=tyG Try.underlying24 flat146 cells146 leaves146 rfl (by decide) h2
  obtain ⟨cp,np,rfl,q2⟩:=tyG Try.underlying25 flat81 cells81 leaves81 rfl (by decide) h3
  obtain ⟨c,n,rfl,q3⟩:=tyG Try.underlying26 flat78 cells78 leaves78 rfl (by decide) h4
  exact ⟨nm,g1,g2,ca,na,cp,np,c,n,rfl,q1,q2,q3⟩
section
variable {H:Type}{enc:TypeId×Value→H}{w:World}{r:Reach}{b0:Nat}{v:Value}{dd:DataW H}{p:List MemPlace}
theorem vehArg (hval:Value.okWide Try.prog w r b0 28 v)(h:DataW.Trod enc Try.prog w 0 (fun _=>true) true 28 v dd p):∃abs,VR (zAll w) (.agg ⟨abs⟩) v∧Veh abs:=by
  obtain ⟨abs,h1,h2⟩:=argS Try.underlying28 tyB28 hval h
  exact ⟨abs,h1,veh h2⟩
theorem dirArg (hval:Value.okWide Try.prog w r b0 30 v)(h:DataW.Trod enc Try.prog w 0 (fun _=>true) true 30 v dd p):∃x y z,VR (zAll w) (.agg ⟨[.int .i64 x,.int .i64 y,.int .i64 z]⟩) v:=by
  obtain ⟨abs,h1,h2⟩:=argS Try.underlying30 tyB30 hval h
  obtain ⟨p0,p1,p2,rfl,h0,h3,h4⟩:=tyS3 Try.underlying30 h2
  obtain ⟨x,rfl,_⟩:=tyI Try.underlying3 h0
  obtain ⟨y,rfl,_⟩:=tyI Try.underlying3 h3
  obtain ⟨z,rfl,_⟩:=tyI Try.underlying3 h4
  exact ⟨x,y,z,h1⟩
end
end Go.Proofs.Ytnmjibcolnlkjaa
namespace Go.Gi
open Go.RowKit
noncomputable section
def AnyOk (P:Program)(os:Array Oper) (s s':St):Prop :=
  s.h.base≤s.h.bl.length→Pres s.h s'.h∧∀(K:Nat→Prop) (w0:World) (φ:Phi) (w:World) (a:Act) (F:Fence) (n:Nat) (rd:Option Nat) (Q:Exit→Act→World→Prop),
    Inv K w0 φ s.h.bl w→VRs φ s.t.toArray a.tmps→DRs φ s.d a.defers→FenceOk φ rd F→(∀x a w',CodeR K w0 φ .normal s' x a w'→Q x a w')→wpAnyIn F n P .any os Q os.size (Array.replicate os.size false) a { w with drawn:=w.drawn+1 }
theorem drawn_any {P:Program}{self:Self}(hN:NoNG P) (hs:SelfOk P self) {rd:Option Nat}{id:Nat}{os:Array Oper}{s:St}{o:Out}(h:drawn P self rd id os s=some o):∃s',o=.ex .normal s'∧AnyOk P os s s':=by
  unfold drawn at h
  split at h
  case isFalse=>cases h
  rename_i hp
  split at h
  case h_2=>cases h
  rename_i recs T h1 hr
  split at h
  case isFalse=>cases h
  rename_i hc
  simp only [Option.some.injEq]at h
  subst h
  have p:=plan_of hp hr hc
  refine ⟨_,rfl,fun hb=>⟨(p.tr.pres hs hb).1,?_⟩⟩
  intro K w0 φ w a F n rd Q hI ht hd hF hQ
  have h0:∀j,(Array.replicate os.size false).getD j false=false:=fun j=>by
    simp only [Array.getD_eq_getD_getElem?,Array.getElem?_replicate]
    split<;>rfl
  refine p.run hN hs hb os.size _ (List.range os.size) φ a _ (by simp) ?_ ?_ (by simp) ?_ ?_ hd hF hQ
  · intro j k hj;simp only [h0]at hj;cases hj
  · intro i hi _;exact List.mem_range.2 hi
  · rw [HD_none _ fun r _ _=>h0 r.i];exact hI.drew
  · rw [TD_none _ fun r _=>h0 r.i];exact ht
theorem drawnF_any {P:Program}{self:Self}(hN:NoNG P) (hs:SelfOk P self) {rd:Option Nat}{id:Nat}{os:Array Oper}{s:St}{o:Out}(h:drawnF P self rd id os s=some o):∃s',o=.ex .normal s'∧AnyOk P os s s':=by
  unfold drawnF at h
  split at h
  case isFalse=>cases h
  rename_i hp
  split at h
  case h_2=>cases h
  rename_i recs T h1 hr
  split at h
  case isFalse=>cases h
  rename_i hc
  simp only [Option.some.injEq]at h
  subst h
  simp only [Bool.and_eq_true]at hc
  have p:=planF_of hp hr hc.1 hc.2.1
  have hdl:∀r∈recs,r.loud=true→isAl r.o=true→∀t,r.o.dst=some t→t<s.t.length:=by
    intro r hr hl ha t ht
    have:=hc.2.2
    rw [List.all_eq_true]at this
    have:=this r hr
    rw [hl,ha,ht]at this
    simpa using this
  refine ⟨_,rfl,fun hb=>⟨(p.tr.pres hs hb).1,?_⟩⟩
  intro K w0 φ w a F n rd Q hI ht hd hF hQ
  have h0:∀j,(Array.replicate os.size false).getD j false=false:=fun j=>by
    simp only [Array.getD_eq_getD_getElem?,Array.getElem?_replicate]
    split<;>rfl
  have hnf:∀r,¬IsFl recs (fun j=>(Array.replicate os.size false).getD j false) (fun _=>false) r:=fun r hr=>by have:=hr.2.2.2.1;simp only [h0]at this;cases this
  have hI':=hI.drew
  refine p.run hN hs hb hdl os.size _ (List.range os.size) (fun _=>false) (fun _=>0) φ s.t a _ (by simp) ?_ (by simp) ?_ hd hF hQ
  · intro i hi _;exact List.mem_range.2 hi
  · refine ⟨fun i hi=>by (cases hi),fun r _ hD=>by (simp only [h0]at hD;cases hD),pw_all fun _ _ _ _ _ _ h=>by (cases h),fun j k hj=>by (simp only [h0]at hj;cases hj),rfl,fun t _=>?_,ht,?_,?_,fun r hr=>(hnf r hr).elim,fun r _ hr=>(hnf r hr).elim,fun r hr=>(hnf r hr).elim⟩
    · rw [TD_none _ fun r _=>rfl]
    · rw [HD_none _ fun r _ _=>rfl]
      refine hI'.rebase.weaken ?_
      rintro k (hk | ⟨r,hr,_⟩)
      · exact hk
      · exact (hnf r hr).elim
    · exact ⟨hI'.keep,hI'.klt,hI'.size,hI'.os,hI'.tape,hI'.output⟩
theorem drawnX_any {P:Program}{self:Self}(hN:NoNG P) (hs:SelfOk P self) {rd:Option Nat}{id:Nat}{os:Array Oper}{s:St}{o:Out}(h:drawnX P self rd id os s=some o):∃s',o=.ex .normal s'∧AnyOk P os s s':=by
  unfold drawnX at h
  split at h
  · exact drawnF_any hN hs h
  · exact drawn_any hN hs h
theorem blt_lt {a b:Nat}(h:Nat.blt a b=true):a<b:=by rwa [Nat.blt_eq]at h
def depsAt (os:Array Oper)(i:Nat):List Nat:=((os[i]?).map depsOf).getD []
def depsAsc (os:Array Oper):Bool:=(List.range os.size).all fun i=>(depsAt os i).all fun d=>Nat.blt d i
def guardsIn (os:Array Oper)(m:Nat):Bool:=(List.range m).all fun i=>match (os[i]?).bind (·.guard) with
  | none=>true
  | some (j,_)=>Nat.blt j m
def ancs (os:Array Oper):Nat→List Nat→List Nat
  | 0,s=>s
  | f+1,s=>ancs os f (s++((s.flatMap (depsAt os)).filter fun d=>!s.contains d).eraseDups)
def waits (os:Array Oper)(m:Nat):Bool:=depsAsc os&&(guardsIn os m&&(List.range m).all fun j=>(ancs os m (depsAt os m)).contains j)
theorem dep_mem {os:Array Oper}{i:Nat}{o:Oper}(ho:os[i]?=some o) {d:Nat}:d∈depsAt os i↔∃e∈o.after,Region.binds .any e=true∧e.on=d:=by
  unfold depsAt depsOf
  rw [ho]
  simp only [Option.map_some,Option.getD_some,List.mem_map,List.mem_filter,Array.mem_toList_iff,and_assoc]
def ShutL (os:Array Oper)(D:Nat→Prop):Prop:=∀i,D i→∀d∈depsAt os i,D d
theorem ancs_ok {os:Array Oper}{D:Nat→Prop}(hs:ShutL os D):∀(f:Nat) (s:List Nat),(∀i∈s,D i)→∀i∈ancs os f s,D i
  | 0,s,h=>h
  | f+1,s,h=>by
    refine ancs_ok hs f _ fun i hi=>?_
    rcases List.mem_append.1 hi with hi | hi
    · exact h i hi
    · rw [List.mem_eraseDups]at hi
      obtain ⟨hi,_⟩:=List.mem_filter.1 hi
      obtain ⟨j,hj,hij⟩:=List.mem_flatMap.1 hi
      exact hs j (h j hj) i hij
section
variable {P:Program}{F:Fence}{n:Nat}{Q:Exit→Act→World→Prop}
theorem upon_q {o:Oper}{a:Act}{K:Act→World→Prop} {Q':Exit→Act→World→Prop}(hq:∀c a w,Q' (.panic c) a w→Q (.panic c) a w) (hl:LetsOut Q'→LetsOut Q) {r:Result Next}(h:o.uponIn F n P a K Q' r):o.uponIn F n P a K Q r:=by
  cases r with
  | ok x w' =>
    cases x<;>simp only [Oper.uponIn]at h ⊢ <;>
      first
        | exact h
        | exact ⟨h.1,CallsIn.mono h.2 (fun e w'' he=>by cases e<;>first | exact he | exact hq _ _ _ he | exact hl he)⟩
        | exact ⟨h.1,RowsIn.mono h.2 (fun _ _ he=>he)⟩
        | exact ⟨h.1,RoundIn.mono h.2 (fun e w'' he=>by cases e<;>first | exact he | exact hq _ _ _ he | exact hl he)⟩
  | halt x w'=>cases x<;>simp only [Oper.uponIn]at h ⊢<;>first | exact h | exact hq _ _ _ h
theorem any_full {os:Array Oper}{a:Act}{w:World}:∀(fuel:Nat) (listed:Array Bool),(∀j,j<os.size→listed.getD j true=true)→Q .normal a w→wpAnyIn F n P .any os Q fuel listed a w:=by
  intro fuel listed hl hq
  have hr:Region.ready .any os listed=[]:=by
    rw [List.eq_nil_iff_forall_not_mem]
    intro i hi
    rw [mem_ready]at hi
    obtain ⟨h1,o,h2,_⟩:=hi
    rw [hl i (Array.getElem?_eq_some_iff.1 h2).1]at h1;cases h1
  cases fuel with
  | zero=>exact ⟨hr,hq⟩
  | succ fuel=>exact ⟨fun _=>hq,fun i hi=>by rw [hr]at hi;cases hi⟩
theorem getD_tf {l:Array Bool}{j:Nat}(h:j<l.size):l.getD j true=l.getD j false:=by
  simp only [Array.getD_eq_getD_getElem?,Array.getElem?_eq_getElem h,Option.getD_some]
def behind (F:Fence)(n:Nat)(P:Program)(os:Array Oper)(m:Nat)(Q:Exit→Act→World→Prop):Exit→Act→World→Prop
  | .normal,a,w=>wpOpsIn F n P os Q [m] a w
  | e,a,w=>Q e a w
theorem any_last {os:Array Oper}{m:Nat}(hsz:os.size=m+1) (hw:waits os m=true):∀(fuel:Nat) (listed:Array Bool) (a:Act) (w:World),listed.size=m+1→listed.getD m false=false →
    ShutL os (fun j=>listed.getD j false=true)→wpAnyIn F n P .any os.pop (behind F n P os m Q) fuel listed.pop a w→wpAnyIn F n P .any os Q (fuel+1) listed a w:=by
  simp only [waits,Bool.and_eq_true]at hw
  obtain ⟨hasc,hgu,hanc⟩:=hw
  have hpop:∀j,j<m→os.pop[j]?=os[j]?:=fun j hj=>by
    rw [Array.getElem?_pop]
    rw [if_pos (by omega)]
  have hlp:∀(l:Array Bool),l.size=m+1→∀j d,j<m→l.pop.getD j d=l.getD j d:=fun l hl j d hj=>by
    simp only [Array.getD_eq_getD_getElem?,Array.getElem?_pop]
    rw [if_pos (by omega)]
  have hdep:∀i,i<m+1→∀d∈depsAt os i,d<i:=fun i hi d hd=>by
    simp only [depsAsc,List.all_eq_true,List.mem_range,hsz]at hasc
    exact blt_lt (hasc i hi d hd)
  have hready:∀(listed:Array Bool),listed.size=m+1→∀i,i<m→(i∈Region.ready .any os.pop listed.pop↔i∈Region.ready .any os listed):=by
    intro listed hl i hi
    rw [mem_ready,mem_ready,hpop i hi,hlp listed hl i true hi]
    constructor
    · rintro ⟨h1,o,h2,h3⟩
      refine ⟨h1,o,h2,fun e he hb=>?_⟩
      have:=h3 e he hb
      rwa [hlp listed hl e.on false (by have:=hdep i (by omega) e.on ((dep_mem h2).2 ⟨e,he,hb,rfl⟩);omega)]at this
    · rintro ⟨h1,o,h2,h3⟩
      refine ⟨h1,o,h2,fun e he hb=>?_⟩
      rw [hlp listed hl e.on false (by have:=hdep i (by omega) e.on ((dep_mem h2).2 ⟨e,he,hb,rfl⟩);omega)]
      exact h3 e he hb
  have hlast:∀(listed:Array Bool),listed.size=m+1→ShutL os (fun j=>listed.getD j false=true)→m∈Region.ready .any os listed→∀j,j<m→listed.getD j false=true:=by
    intro listed hl hs hm j hj
    rw [mem_ready]at hm
    obtain ⟨_,o,ho,h3⟩:=hm
    simp only [List.all_eq_true,List.mem_range]at hanc
    have:=hanc j hj
    rw [List.contains_iff_mem]at this
    refine ancs_ok hs m _ (fun d hd=>?_) j this
    obtain ⟨e,he,hb,rfl⟩:=(dep_mem ho).1 hd
    exact h3 e he hb
  have hnone:∀(listed:Array Bool),listed.size=m+1→Region.ready .any os.pop listed.pop=[]→∀j,j<m→listed.getD j false=true:=by
    intro listed hl hr j
    induction j using Nat.strongRecOn with
    | _ j ih =>
      intro hj
      cases hc:listed.getD j false with
      | true=>rfl
      | false =>
        exfalso
        have hlt:j<os.size:=by omega
        have ho:os[j]?=some os[j]:=Array.getElem?_eq_getElem hlt
        have:j∈Region.ready .any os.pop listed.pop:=by
          rw [hready listed hl j hj,mem_ready]
          refine ⟨by rw [getD_tf (by omega)];exact hc,_,ho,fun e he hb=>?_⟩
          have hd:=hdep j (by omega) e.on ((dep_mem ho).2 ⟨e,he,hb,rfl⟩)
          exact ih e.on hd (by omega)
        rw [hr]at this;cases this
  have hall:∀(listed:Array Bool),listed.size=m+1→(∀j,j<m→listed.getD j false=true)→∀j,j<os.size→(listed.setIfInBounds m true).getD j true=true:=by
    intro listed hl h j hj
    by_cases hjm:j=m
    · subst hjm;simp [Array.getD_eq_getD_getElem?,hl]
    · rw [getD_set_ne true (Ne.symm hjm),getD_tf (by omega)]
      exact h j (by omega)
  have hend:∀(fuel:Nat) (listed:Array Bool) (a:Act) (w:World),listed.size=m+1→listed.getD m false=false→ShutL os (fun j=>listed.getD j false=true)→(∀j,j<m→listed.getD j false=true)→wpOpsIn F n P os Q [m] a w→wpAnyIn F n P .any os Q (fuel+1) listed a w:=by
    intro fuel listed a w hl hlm hs h hq
    have hms:m<os.size:=by omega
    have ho:os[m]?=some os[m]:=Array.getElem?_eq_getElem hms
    have hmr:m∈Region.ready .any os listed:=by
      rw [mem_ready]
      refine ⟨by rw [getD_tf (by omega)];exact hlm,_,ho,fun e he hb=>?_⟩
      exact h e.on (hdep m (by omega) e.on ((dep_mem ho).2 ⟨e,he,hb,rfl⟩))
    refine ⟨fun hr=>(by rw [hr]at hmr;cases hmr),fun i hi=>?_⟩
    have him:i=m:=by
      rw [mem_ready]at hi
      obtain ⟨h1,o,h2,_⟩:=hi
      have hi2:i<os.size:=(Array.getElem?_eq_some_iff.1 h2).1
      by_cases hlt:i<m
      · rw [getD_tf (by omega),h i hlt]at h1;cases h1
      · omega
    subst him
    rw [wpOpsIn_cons]at hq
    refine wpOpIn_mono (fun a w hk=>?_) hq
    exact any_full _ _ (hall listed hl h) hk
  intro fuel
  induction fuel with
  | zero =>
    intro listed a w hl hlm hs hh
    have hr:=hh.1
    have hq:=hh.2
    exact hend 0 listed a w hl hlm hs (hnone listed hl hr) hq
  | succ fuel ih =>
    intro listed a w hl hlm hs hh
    obtain ⟨hq,hi'⟩:=hh
    cases hr:Region.ready .any os.pop listed.pop with
    | nil=>exact hend (fuel+1) listed a w hl hlm hs (hnone listed hl hr) (hq hr)
    | cons x xs =>
      have hxm:∀i,i∈Region.ready .any os.pop listed.pop→i<m:=fun i hi=>by
        rw [mem_ready]at hi
        obtain ⟨_,o,h2,_⟩:=hi
        have:=(Array.getElem?_eq_some_iff.1 h2).1
        simp at this;omega
      have hx:x∈Region.ready .any os.pop listed.pop:=by rw [hr];simp
      have hxl:=(hready listed hl x (hxm x hx)).1 hx
      refine ⟨fun h=>(by rw [h]at hxl;cases hxl),fun i hi=>?_⟩
      by_cases him:i=m
      · subst him
        have:=hlast listed hl hs hi x (hxm x hx)
        rw [mem_ready]at hxl
        rw [getD_tf (by have:=hxm x hx;omega),this]at hxl
        cases hxl.1
      · have hilt:i<m:=by
          rw [mem_ready]at hi
          obtain ⟨_,o,h2,_⟩:=hi
          have:=(Array.getElem?_eq_some_iff.1 h2).1
          omega
        have h1:=hi' i ((hready listed hl i hilt).2 hi)
        have hlo:(listed.setIfInBounds i true).pop=listed.pop.setIfInBounds i true:=by
          apply Array.ext_getElem?
          intro j
          simp only [Array.getElem?_pop,Array.getElem?_setIfInBounds,Array.size_setIfInBounds,Array.size_pop]
          by_cases hj:j<listed.size-1
          · simp only [if_pos hj]
            by_cases hij:i=j
            · subst hij;simp [hj];omega
            · simp [hij]
          · simp only [if_neg hj]
            by_cases hij:i=j
            · subst hij;omega
            · simp [hij]
        have hrec:∀(a:Act) (w:World),wpAnyIn F n P .any os.pop (behind F n P os m Q) fuel (listed.pop.setIfInBounds i true) a w→wpAnyIn F n P .any os Q (fuel+1) (listed.setIfInBounds i true) a w:=by
          intro a w hk
          refine ih _ a w (by simp [hl]) ?_ ?_ (by rw [hlo];exact hk)
          · rw [getD_set_ne false him];exact hlm
          · intro j hj d hd
            have hi2:=hi
            rw [mem_ready]at hi2
            obtain ⟨_,o,h2,h3⟩:=hi2
            by_cases hji:j=i
            · subst hji
              obtain ⟨e,he,hb,rfl⟩:=(dep_mem h2).1 hd
              exact getD_set_true (h3 e he hb)
            · rw [getD_set_ne false (Ne.symm hji)]at hj
              exact getD_set_true (hs j hj d hd)
        have ho:=hpop i hilt
        unfold wpOpIn at h1 ⊢
        rw [ho]at h1
        split at h1
        · rename_i he;exact hrec a w h1
        · rename_i o he
          have hwant:Region.wanted o (yielded os.pop a.tmps)=Region.wanted o (yielded os a.tmps):=by
            unfold Region.wanted
            split
            · rfl
            · rename_i j want hg
              have:j<m:=by
                simp only [guardsIn,List.all_eq_true,List.mem_range]at hgu
                have:=hgu i hilt
                rw [he]at this
                simp only [Option.bind_some,hg]at this
                exact blt_lt this
              unfold yielded
              rw [hpop j this]
          rw [hwant]at h1
          split at h1
          · rename_i hwt
            rw [if_pos hwt]
            refine Oper.wpIn_mono (fun a w hk=>hrec a w hk) ⟨h1.1,upon_q (fun _ _ _ h=>h) (fun h=>h) h1.2⟩
          · rename_i hwt
            rw [if_neg hwt]
            exact ⟨h1.1,hrec _ _ h1.2⟩
end
def drawnW (P:Program)(self:Self)(rd:Option Nat)(id:Nat)(os:Array Oper)(s:St):Option Out :=
  match waits os (os.size-1)&&Nat.blt 0 os.size with
  | true=>(match drawnX P self rd id os.pop s with
    | some (.ex .normal s')=>runOps P self rd os [os.size-1] s'
    | _=>none)
  | false=>drawnX P self rd id os s
theorem drawnW_ok {P:Program}(hN:NoNG P) (hm:P.follows .mixedOrders=true):DrawnOk P drawnW:=by
  intro self hs rd id os s o h
  unfold drawnW at h
  split at h
  · rename_i hw
    rw [Bool.and_eq_true]at hw
    obtain ⟨hw,hz⟩:=hw
    have hz:0<os.size:=blt_lt hz
    obtain ⟨m,hm1⟩:∃m,os.size=m+1:=⟨os.size-1,by omega⟩
    rw [hm1,Nat.add_sub_cancel]at h hw
    split at h
    case h_2=>cases h
    rename_i s' hd1
    obtain ⟨s2,he,hA⟩:=drawnX_any hN hs hd1
    cases he
    by_cases hb:s.h.base≤s.h.bl.length
    · obtain ⟨hp,hA⟩:=hA hb
      have hb':s'.h.base≤s'.h.bl.length:=by rw [hp.base];exact Nat.le_trans hb hp.len
      obtain ⟨e,s3,rfl,hp2,hh⟩:=runOps_sound hN hs _ s' o h hb'
      refine fun _=>⟨hp.trans hp2,?_⟩
      intro K w0 φ w a F n hI ht hd hF
      refine wpIn_region_any hm ?_
      rw [hm1]
      have hrep:∀j,(Array.replicate (m+1) false).getD j false=false:=fun j=>by
        simp only [Array.getD_eq_getD_getElem?,Array.getElem?_replicate]
        split<;>rfl
      refine any_last hm1 hw m _ a _ (by simp) (hrep m) (fun i hi=>by have hi:(Array.replicate (m+1) false).getD i false=true:=hi;rw [hrep]at hi;cases hi) ?_
      have:=hA K w0 φ w a F n rd (behind F n P os m (CodeR K w0 φ e s3)) hI ht hd hF (fun x a w' hc=>?_)
      · have e1:(Array.replicate (m+1) false).pop=Array.replicate os.pop.size false:=by
          apply Array.ext_getElem?
          intro j
          simp only [Array.getElem?_pop,Array.getElem?_replicate,Array.size_replicate,Array.size_pop,hm1]
          by_cases hj:j<m
          · simp [hj];omega
          · simp [hj]
        have e2:os.pop.size=m:=by simp [hm1]
        rw [e1]
        rw [e2]at this ⊢
        exact this
      · obtain ⟨φ',hle,hx,hT,hD,hI'⟩:=hc
        cases hx
        exact hh K w0 φ' w' a F n _ hI' hT hD (hF.mono hle) (fun x a w' hq=>hq.mono hle)
    · obtain ⟨e,s3,rfl⟩:=step_ok.runOps_ex _ _ _ h
      exact fun h=>absurd h hb
  · exact drawnX_ok hN hm self hs rd id os s o h
end
end Go.Gi
