/- Part 9 of the texts below the claim. Conditions: none. -/
import Derived.Test.YtoojllndfjamgaaMg7
import Derived.Test.YtoojllndfjamgaaMg8
set_option linter.unusedVariables false
set_option linter.unusedSimpArgs false
namespace Go.Proofs.Ytoojllndfjamgaa
open Go.Gi Go.RowKit Go.Proofs.Ytoojllndfjamgaa.Old
noncomputable section
set_option maxRecDepth 100000
set_option maxHeartbeats 4000000
structure X46_0 where
  v0:Int
  v1:Int
  v2:ByteArray
  v3:Int
  v4:Int
  v5:Array Value
  v6:Nat
  v7:Nat
  v8:ByteArray
  v9:Int
  v10:Int
  v11:Int
inductive D46_0 where
  | k0 (d0:Int) (d1:ByteArray) (d2:Int) (d3:Int) (d4:Array Value) (d5:Nat) (d6:Nat) (d7:ByteArray) (d8:Int) (d9:Int) (d10:Int)
  | k1 (d0:Int) (d1:ByteArray) (d2:Int) (d3:Int) (d4:Array Value) (d5:Nat) (d6:Nat) (d7:ByteArray) (d8:Int) (d9:Int) (d10:Int)
def Lp46_0:LoopOf X46_0 D46_0 where
  c:=(theLoop Try.prog 46 0)
  N:=99
  M:=2
  S:=[1,2,5,6]
  sl:=fun x=>[(.int .i64 x.v0),(Value.pointer (Option.some (Addr.mk 0 0 Option.none))),(Value.pointer (Option.some (Addr.mk 1 0 Option.none))),(.int .i64 x.v1)]
  hp:=fun x=>[.cells ⟨[(.string x.v2),(.int .i64 x.v3),(.int .i64 x.v4),(lstV x.v5 x.v6 x.v7 4)]⟩ false,.cells ⟨[(.string x.v8),(.int .i64 x.v9),(.int .i64 x.v10),(.int .i64 x.v11)]⟩ false]
  ex:=fun d=>match d with | .k0 ..=>.ret | .k1 ..=>.exit 0
  pick:=fun e=>match e with | .ret=>[4] | .exit 0=>[1,2,5] | _=>[]
  dv:=fun d=>match d with | .k0 d0 d1 d2 d3 d4 d5 d6 d7 d8 d9 d10=>[(.int .i64 d0)] | .k1 d0 d1 d2 d3 d4 d5 d6 d7 d8 d9 d10=>[(.int .i64 d0),(Value.pointer (Option.some (Addr.mk 0 0 Option.none))),(Value.pointer (Option.some (Addr.mk 1 0 Option.none)))]
  dh:=fun d=>match d with | .k0 d0 d1 d2 d3 d4 d5 d6 d7 d8 d9 d10=>[.cells ⟨[(.string d1),(.int .i64 d2),(.int .i64 d3),(lstV d4 d5 d6 4)]⟩ false,.cells ⟨[(.string d7),(.int .i64 d8),(.int .i64 d9),(.int .i64 d10)]⟩ false] | .k1 d0 d1 d2 d3 d4 d5 d6 d7 d8 d9 d10=>[.cells ⟨[(.string d1),(.int .i64 d2),(.int .i64 d3),(lstV d4 d5 d6 4)]⟩ false,.cells ⟨[(.string d7),(.int .i64 d8),(.int .i64 d9),(.int .i64 d10)]⟩ false]
theorem ok46_0:Lp46_0.Ok:=⟨fun x=>rfl,fun x=>rfl,fun x=>rfl,fun x=>rfl,fun d=>by cases d<;>rfl,fun d=>by cases d<;>rfl,fun d=>by cases d<;>rfl,fun d=>by cases d<;>(intro h;cases h),fun d=>by cases d<;>rfl,fun d=>by cases d<;>rfl⟩
def rd46_0 (x:X46_0):RT (Sum X46_0 D46_0):=match x with
  | ⟨v0,v1,v2,v3,v4,v5,v6,v7,v8,v9,v10,v11⟩ =>
     .br (decide (v1<v0)) (.br (and (decide ((0:Int)≤v1)) (decide (v1<(Int.ofNat v7)))) (.br (isStr v5 ((v6+((Int.toNat v1)*4))+0)) (.br (strEq (getStr v5 ((v6+((Int.toNat v1)*4))+0)) v8) (.leaf (.inr (.k0 ((5:Int)) (v2) (v3) (v4) (v5) (v6) (v7) (v8) (v9) (v10) (v11)))) (.leaf (.inl ⟨v0,(IntKind.wrap .i64 (v1+(1:Int))),v2,v3,v4,v5,v6,v7,v8,v9,v10,v11⟩))) (.no)) (.no)) (.leaf (.inr (.k1 (v0) (v2) (v3) (v4) (v5) (v6) (v7) (v8) (v9) (v10) (v11))))
theorem T46_0  (y:List Value) (v0:Int) (v1:Int) (v2:ByteArray) (v3:Int) (v4:Int) (v5:Array Value) (v6:Nat) (v7:Nat) (v8:ByteArray) (v9:Int) (v10:Int) (v11:Int):evC Try.prog (Ans.c (p45.or p85)) 60 (.code none (theLoop Try.prog 46 0) ⟨sets (junkF 99 y) [(1,(.int .i64 v0)),(2,(Value.pointer (Option.some (Addr.mk 0 0 Option.none)))),(5,(Value.pointer (Option.some (Addr.mk 1 0 Option.none)))),(6,(.int .i64 v1))],[],⟨[.cells ⟨[(.string v2),(.int .i64 v3),(.int .i64 v4),(lstV v5 v6 v7 4)]⟩ false,.cells ⟨[(.string v8),(.int .i64 v9),(.int .i64 v10),(.int .i64 v11)]⟩ false],0,[]⟩⟩) (sumK 2 99 Lp46_0.pk)=(rd46_0 ⟨v0,v1,v2,v3,v4,v5,v6,v7,v8,v9,v10,v11⟩).out Lp46_0.enc:=by kernel_rfl
def L46_0 (x:X46_0):Option D46_0:=loopR rd46_0 x
section
variable (x:X46_0)
def L46_0_k0:Bool:=match L46_0 x with | some (.k0 ..)=>true | _=>false
def Qf0:Int:=match L46_0 x with | some (.k0 d _ _ _ _ _ _ _ _ _ _)=>d | _=>0
def Qf1:ByteArray:=match L46_0 x with | some (.k0 _ d _ _ _ _ _ _ _ _ _)=>d | _=>ByteArray.empty
def Qf2:Int:=match L46_0 x with | some (.k0 _ _ d _ _ _ _ _ _ _ _)=>d | _=>0
def Qf3:Int:=match L46_0 x with | some (.k0 _ _ _ d _ _ _ _ _ _ _)=>d | _=>0
def Qf4:Array Value:=match L46_0 x with | some (.k0 _ _ _ _ d _ _ _ _ _ _)=>d | _=>#[]
def Qf5:Nat:=match L46_0 x with | some (.k0 _ _ _ _ _ d _ _ _ _ _)=>d | _=>0
def Qf6:Nat:=match L46_0 x with | some (.k0 _ _ _ _ _ _ d _ _ _ _)=>d | _=>0
def Qf7:ByteArray:=match L46_0 x with | some (.k0 _ _ _ _ _ _ _ d _ _ _)=>d | _=>ByteArray.empty
def Qf8:Int:=match L46_0 x with | some (.k0 _ _ _ _ _ _ _ _ d _ _)=>d | _=>0
def Qf9:Int:=match L46_0 x with | some (.k0 _ _ _ _ _ _ _ _ _ d _)=>d | _=>0
def Qf10:Int:=match L46_0 x with | some (.k0 _ _ _ _ _ _ _ _ _ _ d)=>d | _=>0
def L46_0_k1:Bool:=match L46_0 x with | some (.k1 ..)=>true | _=>false
def Qg0:Int:=match L46_0 x with | some (.k1 d _ _ _ _ _ _ _ _ _ _)=>d | _=>0
def Qg1:ByteArray:=match L46_0 x with | some (.k1 _ d _ _ _ _ _ _ _ _ _)=>d | _=>ByteArray.empty
def Qg2:Int:=match L46_0 x with | some (.k1 _ _ d _ _ _ _ _ _ _ _)=>d | _=>0
def Qg3:Int:=match L46_0 x with | some (.k1 _ _ _ d _ _ _ _ _ _ _)=>d | _=>0
def Qg4:Array Value:=match L46_0 x with | some (.k1 _ _ _ _ d _ _ _ _ _ _)=>d | _=>#[]
def Qg5:Nat:=match L46_0 x with | some (.k1 _ _ _ _ _ d _ _ _ _ _)=>d | _=>0
def Qg6:Nat:=match L46_0 x with | some (.k1 _ _ _ _ _ _ d _ _ _ _)=>d | _=>0
def Qg7:ByteArray:=match L46_0 x with | some (.k1 _ _ _ _ _ _ _ d _ _ _)=>d | _=>ByteArray.empty
def Qg8:Int:=match L46_0 x with | some (.k1 _ _ _ _ _ _ _ _ d _ _)=>d | _=>0
def Qg9:Int:=match L46_0 x with | some (.k1 _ _ _ _ _ _ _ _ _ d _)=>d | _=>0
def Qg10:Int:=match L46_0 x with | some (.k1 _ _ _ _ _ _ _ _ _ _ d)=>d | _=>0
end
def dec46_0:Task→Option (Code×X46_0)
  | .code none (.loop code) ⟨t,[],⟨[.cells ⟨[(.string v2),(.int .i64 v3),(.int .i64 v4),(.func (.via 0 ⟨[]⟩ 0 true) v5 ⟨[.slice (some ⟨0,v6,none⟩) v7 4]⟩)]⟩ false,.cells ⟨[(.string v8),(.int .i64 v9),(.int .i64 v10),(.int .i64 v11)]⟩ false],0,[]⟩⟩ =>
    (match Nat.beq (firstReg code) 5,lenIs t 99,lget t 1,lget t 2,lget t 5,lget t 6 with
    | true,true,(.int .i64 v0),(Value.pointer (Option.some (Addr.mk 0 0 Option.none))),(Value.pointer (Option.some (Addr.mk 1 0 Option.none))),(.int .i64 v1)=>some (code,⟨v0,v1,v2,v3,v4,v5,v6,v7,v8,v9,v10,v11⟩)
    | _,_,_,_,_,_=>none)
  | _=>none
def alt46_0 (x:X46_0)(j:List Value):AT:=.br (L46_0_k0 x) (loopEnd 99 (.ret) [(4,(.int .i64 (Qf0 x)))] ⟨[.cells ⟨[(.string (Qf1 x)),(.int .i64 (Qf2 x)),(.int .i64 (Qf3 x)),(lstV (Qf4 x) (Qf5 x) (Qf6 x) 4)]⟩ false,.cells ⟨[(.string (Qf7 x)),(.int .i64 (Qf8 x)),(.int .i64 (Qf9 x)),(.int .i64 (Qf10 x))]⟩ false],0,[]⟩ j) (.br (L46_0_k1 x) (loopEnd 99 (.exit 0) [(1,(.int .i64 (Qg0 x))),(2,(Value.pointer (Option.some (Addr.mk 0 0 Option.none)))),(5,(Value.pointer (Option.some (Addr.mk 1 0 Option.none))))] ⟨[.cells ⟨[(.string (Qg1 x)),(.int .i64 (Qg2 x)),(.int .i64 (Qg3 x)),(lstV (Qg4 x) (Qg5 x) (Qg6 x) 4)]⟩ false,.cells ⟨[(.string (Qg7 x)),(.int .i64 (Qg8 x)),(.int .i64 (Qg9 x)),(.int .i64 (Qg10 x))]⟩ false],0,[]⟩ j) (.no))
def la46_0 (J:Task→List Value):Ans:=loopAns Lp46_0.c dec46_0 alt46_0 J
theorem ha46_0:∀(x:X46_0) (j:List Value)(o:Out),(alt46_0 x j).out=some o→∃d,loopR rd46_0 x=some d∧o=Lp46_0.tail d j:=by
  intro x j o h
  unfold alt46_0 at h
  cases hL:L46_0 x with
  | none=>simp [L46_0_k0,Qf0,Qf1,Qf2,Qf3,Qf4,Qf5,Qf6,Qf7,Qf8,Qf9,Qf10,L46_0_k1,Qg0,Qg1,Qg2,Qg3,Qg4,Qg5,Qg6,Qg7,Qg8,Qg9,Qg10,hL,AT.out]at h
  | some d =>
    refine ⟨d,hL,?_⟩
    cases d<;>(simp only [L46_0_k0,Qf0,Qf1,Qf2,Qf3,Qf4,Qf5,Qf6,Qf7,Qf8,Qf9,Qf10,L46_0_k1,Qg0,Qg1,Qg2,Qg3,Qg4,Qg5,Qg6,Qg7,Qg8,Qg9,Qg10,hL,AT.out,loopEnd,cond_true,cond_false,Option.some.injEq]at h;rw [← h];rfl)
theorem hd46_0:∀(t:Task) (c:Code)(x:X46_0),dec46_0 t=some (c,x)→c=Lp46_0.c→∃T,t=.code none (.loop Lp46_0.c) ⟨T,[],⟨Lp46_0.hp x,0,[]⟩⟩∧T.length=Lp46_0.N∧∀kv∈Lp46_0.S.zip (Lp46_0.sl x),lget T kv.1=kv.2:=by
  intro t c x h hc
  unfold dec46_0 at h
  split at h
  case h_2=>cases h
  split at h
  case h_2=>cases h
  simp only [Option.some.injEq,Prod.mk.injEq]at h
  obtain ⟨rfl,rfl⟩:=h
  subst hc
  refine ⟨_,rfl,lenIs_eq _ _ (by assumption),?_⟩
  intro kv hk
  simp only [Lp46_0,List.zip_cons_cons,List.zip_nil_right,List.mem_cons,List.not_mem_nil,or_false]at hk
  rcases hk with rfl | rfl | rfl | rfl<;>assumption
theorem kl46_0:∃J,Known Try.prog (la46_0 J):=by
  exact LoopOf.known noNG mixed ok46_0 (by decide) (by decide) (Known.or known45 known85) (n:=60) (rd:=rd46_0) (fun x j=>T46_0  j x.v0 x.v1 x.v2 x.v3 x.v4 x.v5 x.v6 x.v7 x.v8 x.v9 x.v10 x.v11) dec46_0 alt46_0 hd46_0 ha46_0
structure X46_2 where
  v0:Int
  v1:Int
  v2:Int
  v3:ByteArray
  v4:Int
  v5:Int
  v6:Array Value
  v7:Nat
  v8:Nat
  v9:ByteArray
  v10:Int
  v11:Int
  v12:Int
  v13:ByteArray
  v14:Int
  v15:Int
  v16:Int
inductive D46_2 where
  | k0 (d0:Int) (d1:ByteArray) (d2:Int) (d3:Int) (d4:Array Value) (d5:Nat) (d6:Nat) (d7:ByteArray) (d8:Int) (d9:Int) (d10:Int) (d11:ByteArray) (d12:Int) (d13:Int) (d14:Int)
  | k1 (d0:Int) (d1:Int) (d2:ByteArray) (d3:Int) (d4:Int) (d5:Array Value) (d6:Nat) (d7:Nat) (d8:ByteArray) (d9:Int) (d10:Int) (d11:Int) (d12:ByteArray) (d13:Int) (d14:Int) (d15:Int)
def Lp46_2:LoopOf X46_2 D46_2 where
  c:=(theLoop Try.prog 46 2)
  N:=99
  M:=3
  S:=[1,2,5,7,8,9]
  sl:=fun x=>[(.int .i64 x.v0),(Value.pointer (Option.some (Addr.mk 0 0 Option.none))),(Value.pointer (Option.some (Addr.mk 1 0 Option.none))),(.int .i64 x.v1),(Value.pointer (Option.some (Addr.mk 2 0 Option.none))),(.int .i64 x.v2)]
  hp:=fun x=>[.cells ⟨[(.string x.v3),(.int .i64 x.v4),(.int .i64 x.v5),(lstV x.v6 x.v7 x.v8 4)]⟩ false,.cells ⟨[(.string x.v9),(.int .i64 x.v10),(.int .i64 x.v11),(.int .i64 x.v12)]⟩ false,.cells ⟨[(.string x.v13),(.int .i64 x.v14),(.int .i64 x.v15),(.int .i64 x.v16)]⟩ false]
  ex:=fun d=>match d with | .k0 ..=>.ret | .k1 ..=>.exit 4
  pick:=fun e=>match e with | .ret=>[4] | .exit 4=>[1,2,5,7] | _=>[]
  dv:=fun d=>match d with | .k0 d0 d1 d2 d3 d4 d5 d6 d7 d8 d9 d10 d11 d12 d13 d14=>[(.int .i64 d0)] | .k1 d0 d1 d2 d3 d4 d5 d6 d7 d8 d9 d10 d11 d12 d13 d14 d15=>[(.int .i64 d0),(Value.pointer (Option.some (Addr.mk 0 0 Option.none))),(Value.pointer (Option.some (Addr.mk 1 0 Option.none))),(.int .i64 d1)]
  dh:=fun d=>match d with | .k0 d0 d1 d2 d3 d4 d5 d6 d7 d8 d9 d10 d11 d12 d13 d14=>[.cells ⟨[(.string d1),(.int .i64 d2),(.int .i64 d3),(lstV d4 d5 d6 4)]⟩ false,.cells ⟨[(.string d7),(.int .i64 d8),(.int .i64 d9),(.int .i64 d10)]⟩ false,.cells ⟨[(.string d11),(.int .i64 d12),(.int .i64 d13),(.int .i64 d14)]⟩ false] | .k1 d0 d1 d2 d3 d4 d5 d6 d7 d8 d9 d10 d11 d12 d13 d14 d15=>[.cells ⟨[(.string d2),(.int .i64 d3),(.int .i64 d4),(lstV d5 d6 d7 4)]⟩ false,.cells ⟨[(.string d8),(.int .i64 d9),(.int .i64 d10),(.int .i64 d11)]⟩ false,.cells ⟨[(.string d12),(.int .i64 d13),(.int .i64 d14),(.int .i64 d15)]⟩ false]
theorem ok46_2:Lp46_2.Ok:=⟨fun x=>rfl,fun x=>rfl,fun x=>rfl,fun x=>rfl,fun d=>by cases d<;>rfl,fun d=>by cases d<;>rfl,fun d=>by cases d<;>rfl,fun d=>by cases d<;>(intro h;cases h),fun d=>by cases d<;>rfl,fun d=>by cases d<;>rfl⟩
def rd46_2 (x:X46_2):RT (Sum X46_2 D46_2):=match x with
  | ⟨v0,v1,v2,v3,v4,v5,v6,v7,v8,v9,v10,v11,v12,v13,v14,v15,v16⟩ =>
     .br (decide (v2<(16:Int))) (.br (decide (v14=v10)) (.br (not (decide (v15=(0:Int)))) (.br (decide ((Int.tmod v2 v15)=v16)) (.br (not (decide (v11=(0:Int)))) (.br (decide ((Int.tmod v2 v11)=v12)) (.leaf (.inr (.k0 ((2:Int)) (v3) (v4) (v5) (v6) (v7) (v8) (v9) (v10) (v11) (v12) (v13) (v14) (v15) (v16)))) (.leaf (.inl ⟨v0,v1,(IntKind.wrap .i64 (v2+(1:Int))),v3,v4,v5,v6,v7,v8,v9,v10,v11,v12,v13,v14,v15,v16⟩))) (.no)) (.leaf (.inl ⟨v0,v1,(IntKind.wrap .i64 (v2+(1:Int))),v3,v4,v5,v6,v7,v8,v9,v10,v11,v12,v13,v14,v15,v16⟩))) (.no)) (.leaf (.inl ⟨v0,v1,(IntKind.wrap .i64 (v2+(1:Int))),v3,v4,v5,v6,v7,v8,v9,v10,v11,v12,v13,v14,v15,v16⟩))) (.leaf (.inr (.k1 (v0) (v1) (v3) (v4) (v5) (v6) (v7) (v8) (v9) (v10) (v11) (v12) (v13) (v14) (v15) (v16))))
theorem T46_2  (y:List Value) (v0:Int) (v1:Int) (v2:Int) (v3:ByteArray) (v4:Int) (v5:Int) (v6:Array Value) (v7:Nat) (v8:Nat) (v9:ByteArray) (v10:Int) (v11:Int) (v12:Int) (v13:ByteArray) (v14:Int) (v15:Int) (v16:Int):evC Try.prog (Ans.c (p45.or p85)) 60 (.code none (theLoop Try.prog 46 2) ⟨sets (junkF 99 y) [(1,(.int .i64 v0)),(2,(Value.pointer (Option.some (Addr.mk 0 0 Option.none)))),(5,(Value.pointer (Option.some (Addr.mk 1 0 Option.none)))),(7,(.int .i64 v1)),(8,(Value.pointer (Option.some (Addr.mk 2 0 Option.none)))),(9,(.int .i64 v2))],[],⟨[.cells ⟨[(.string v3),(.int .i64 v4),(.int .i64 v5),(lstV v6 v7 v8 4)]⟩ false,.cells ⟨[(.string v9),(.int .i64 v10),(.int .i64 v11),(.int .i64 v12)]⟩ false,.cells ⟨[(.string v13),(.int .i64 v14),(.int .i64 v15),(.int .i64 v16)]⟩ false],0,[]⟩⟩) (sumK 3 99 Lp46_2.pk)=(rd46_2 ⟨v0,v1,v2,v3,v4,v5,v6,v7,v8,v9,v10,v11,v12,v13,v14,v15,v16⟩).out Lp46_2.enc:=by kernel_rfl
def L46_2 (x:X46_2):Option D46_2:=loopR rd46_2 x
section
variable (x:X46_2)
def L46_2_k0:Bool:=match L46_2 x with | some (.k0 ..)=>true | _=>false
def Qh0:Int:=match L46_2 x with | some (.k0 d _ _ _ _ _ _ _ _ _ _ _ _ _ _)=>d | _=>0
def Qh1:ByteArray:=match L46_2 x with | some (.k0 _ d _ _ _ _ _ _ _ _ _ _ _ _ _)=>d | _=>ByteArray.empty
def Qh2:Int:=match L46_2 x with | some (.k0 _ _ d _ _ _ _ _ _ _ _ _ _ _ _)=>d | _=>0
def Qh3:Int:=match L46_2 x with | some (.k0 _ _ _ d _ _ _ _ _ _ _ _ _ _ _)=>d | _=>0
def Qh4:Array Value:=match L46_2 x with | some (.k0 _ _ _ _ d _ _ _ _ _ _ _ _ _ _)=>d | _=>#[]
def Qh5:Nat:=match L46_2 x with | some (.k0 _ _ _ _ _ d _ _ _ _ _ _ _ _ _)=>d | _=>0
def Qh6:Nat:=match L46_2 x with | some (.k0 _ _ _ _ _ _ d _ _ _ _ _ _ _ _)=>d | _=>0
def Qh7:ByteArray:=match L46_2 x with | some (.k0 _ _ _ _ _ _ _ d _ _ _ _ _ _ _)=>d | _=>ByteArray.empty
def Qh8:Int:=match L46_2 x with | some (.k0 _ _ _ _ _ _ _ _ d _ _ _ _ _ _)=>d | _=>0
def Qh9:Int:=match L46_2 x with | some (.k0 _ _ _ _ _ _ _ _ _ d _ _ _ _ _)=>d | _=>0
def Qh10:Int:=match L46_2 x with | some (.k0 _ _ _ _ _ _ _ _ _ _ d _ _ _ _)=>d | _=>0
def Qh11:ByteArray:=match L46_2 x with | some (.k0 _ _ _ _ _ _ _ _ _ _ _ d _ _ _)=>d | _=>ByteArray.empty
def Qh12:Int:=match L46_2 x with | some (.k0 _ _ _ _ _ _ _ _ _ _ _ _ d _ _)=>d | _=>0
def Qh13:Int:=match L46_2 x with | some (.k0 _ _ _ _ _ _ _ _ _ _ _ _ _ d _)=>d | _=>0
def Qh14:Int:=match L46_2 x with | some (.k0 _ _ _ _ _ _ _ _ _ _ _ _ _ _ d)=>d | _=>0
def L46_2_k1:Bool:=match L46_2 x with | some (.k1 ..)=>true | _=>false
def Qi0:Int:=match L46_2 x with | some (.k1 d _ _ _ _ _ _ _ _ _ _ _ _ _ _ _)=>d | _=>0
def Qi1:Int:=match L46_2 x with | some (.k1 _ d _ _ _ _ _ _ _ _ _ _ _ _ _ _)=>d | _=>0
def Qi2:ByteArray:=match L46_2 x with | some (.k1 _ _ d _ _ _ _ _ _ _ _ _ _ _ _ _)=>d | _=>ByteArray.empty
def Qi3:Int:=match L46_2 x with | some (.k1 _ _ _ d _ _ _ _ _ _ _ _ _ _ _ _)=>d | _=>0
def Qi4:Int:=match L46_2 x with | some (.k1 _ _ _ _ d _ _ _ _ _ _ _ _ _ _ _)=>d | _=>0
def Qi5:Array Value:=match L46_2 x with | some (.k1 _ _ _ _ _ d _ _ _ _ _ _ _ _ _ _)=>d | _=>#[]
def Qi6:Nat:=match L46_2 x with | some (.k1 _ _ _ _ _ _ d _ _ _ _ _ _ _ _ _)=>d | _=>0
def Qi7:Nat:=match L46_2 x with | some (.k1 _ _ _ _ _ _ _ d _ _ _ _ _ _ _ _)=>d | _=>0
def Qi8:ByteArray:=match L46_2 x with | some (.k1 _ _ _ _ _ _ _ _ d _ _ _ _ _ _ _)=>d | _=>ByteArray.empty
def Qi9:Int:=match L46_2 x with | some (.k1 _ _ _ _ _ _ _ _ _ d _ _ _ _ _ _)=>d | _=>0
def Qi10:Int:=match L46_2 x with | some (.k1 _ _ _ _ _ _ _ _ _ _ d _ _ _ _ _)=>d | _=>0
def Qi11:Int:=match L46_2 x with | some (.k1 _ _ _ _ _ _ _ _ _ _ _ d _ _ _ _)=>d | _=>0
def Qi12:ByteArray:=match L46_2 x with | some (.k1 _ _ _ _ _ _ _ _ _ _ _ _ d _ _ _)=>d | _=>ByteArray.empty
def Qi13:Int:=match L46_2 x with | some (.k1 _ _ _ _ _ _ _ _ _ _ _ _ _ d _ _)=>d | _=>0
def Qi14:Int:=match L46_2 x with | some (.k1 _ _ _ _ _ _ _ _ _ _ _ _ _ _ d _)=>d | _=>0
def Qi15:Int:=match L46_2 x with | some (.k1 _ _ _ _ _ _ _ _ _ _ _ _ _ _ _ d)=>d | _=>0
end
def dec46_2:Task→Option (Code×X46_2)
  | .code none (.loop code) ⟨t,[],⟨[.cells ⟨[(.string v3),(.int .i64 v4),(.int .i64 v5),(.func (.via 0 ⟨[]⟩ 0 true) v6 ⟨[.slice (some ⟨0,v7,none⟩) v8 4]⟩)]⟩ false,.cells ⟨[(.string v9),(.int .i64 v10),(.int .i64 v11),(.int .i64 v12)]⟩ false,.cells ⟨[(.string v13),(.int .i64 v14),(.int .i64 v15),(.int .i64 v16)]⟩ false],0,[]⟩⟩ =>
    (match Nat.beq (firstReg code) 16,lenIs t 99,lget t 1,lget t 2,lget t 5,lget t 7,lget t 8,lget t 9 with
    | true,true,(.int .i64 v0),(Value.pointer (Option.some (Addr.mk 0 0 Option.none))),(Value.pointer (Option.some (Addr.mk 1 0 Option.none))),(.int .i64 v1),(Value.pointer (Option.some (Addr.mk 2 0 Option.none))),(.int .i64 v2)=>some (code,⟨v0,v1,v2,v3,v4,v5,v6,v7,v8,v9,v10,v11,v12,v13,v14,v15,v16⟩)
    | _,_,_,_,_,_,_,_=>none)
  | _=>none
def alt46_2 (x:X46_2)(j:List Value):AT:=.br (L46_2_k0 x) (loopEnd 99 (.ret) [(4,(.int .i64 (Qh0 x)))] ⟨[.cells ⟨[(.string (Qh1 x)),(.int .i64 (Qh2 x)),(.int .i64 (Qh3 x)),(lstV (Qh4 x) (Qh5 x) (Qh6 x) 4)]⟩ false,.cells ⟨[(.string (Qh7 x)),(.int .i64 (Qh8 x)),(.int .i64 (Qh9 x)),(.int .i64 (Qh10 x))]⟩ false,.cells ⟨[(.string (Qh11 x)),(.int .i64 (Qh12 x)),(.int .i64 (Qh13 x)),(.int .i64 (Qh14 x))]⟩ false],0,[]⟩ j) (.br (L46_2_k1 x) (loopEnd 99 (.exit 4) [(1,(.int .i64 (Qi0 x))),(2,(Value.pointer (Option.some (Addr.mk 0 0 Option.none)))),(5,(Value.pointer (Option.some (Addr.mk 1 0 Option.none)))),(7,(.int .i64 (Qi1 x)))] ⟨[.cells ⟨[(.string (Qi2 x)),(.int .i64 (Qi3 x)),(.int .i64 (Qi4 x)),(lstV (Qi5 x) (Qi6 x) (Qi7 x) 4)]⟩ false,.cells ⟨[(.string (Qi8 x)),(.int .i64 (Qi9 x)),(.int .i64 (Qi10 x)),(.int .i64 (Qi11 x))]⟩ false,.cells ⟨[(.string (Qi12 x)),(.int .i64 (Qi13 x)),(.int .i64 (Qi14 x)),(.int .i64 (Qi15 x))]⟩ false],0,[]⟩ j) (.no))
def la46_2 (J:Task→List Value):Ans:=loopAns Lp46_2.c dec46_2 alt46_2 J
theorem ha46_2:∀(x:X46_2) (j:List Value)(o:Out),(alt46_2 x j).out=some o→∃d,loopR rd46_2 x=some d∧o=Lp46_2.tail d j:=by
  intro x j o h
  unfold alt46_2 at h
  cases hL:L46_2 x with
  | none=>simp [L46_2_k0,Qh0,Qh1,Qh2,Qh3,Qh4,Qh5,Qh6,Qh7,Qh8,Qh9,Qh10,Qh11,Qh12,Qh13,Qh14,L46_2_k1,Qi0,Qi1,Qi2,Qi3,Qi4,Qi5,Qi6,Qi7,Qi8,Qi9,Qi10,Qi11,Qi12,Qi13,Qi14,Qi15,hL,AT.out]at h
  | some d =>
    refine ⟨d,hL,?_⟩
    cases d<;>(simp only [L46_2_k0,Qh0,Qh1,Qh2,Qh3,Qh4,Qh5,Qh6,Qh7,Qh8,Qh9,Qh10,Qh11,Qh12,Qh13,Qh14,L46_2_k1,Qi0,Qi1,Qi2,Qi3,Qi4,Qi5,Qi6,Qi7,Qi8,Qi9,Qi10,Qi11,Qi12,Qi13,Qi14,Qi15,hL,AT.out,loopEnd,cond_true,cond_false,Option.some.injEq]at h;rw [← h];rfl)
theorem hd46_2:∀(t:Task) (c:Code)(x:X46_2),dec46_2 t=some (c,x)→c=Lp46_2.c→∃T,t=.code none (.loop Lp46_2.c) ⟨T,[],⟨Lp46_2.hp x,0,[]⟩⟩∧T.length=Lp46_2.N∧∀kv∈Lp46_2.S.zip (Lp46_2.sl x),lget T kv.1=kv.2:=by
  intro t c x h hc
  unfold dec46_2 at h
  split at h
  case h_2=>cases h
  split at h
  case h_2=>cases h
  simp only [Option.some.injEq,Prod.mk.injEq]at h
  obtain ⟨rfl,rfl⟩:=h
  subst hc
  refine ⟨_,rfl,lenIs_eq _ _ (by assumption),?_⟩
  intro kv hk
  simp only [Lp46_2,List.zip_cons_cons,List.zip_nil_right,List.mem_cons,List.not_mem_nil,or_false]at hk
  rcases hk with rfl | rfl | rfl | rfl | rfl | rfl<;>assumption
theorem kl46_2:∃J,Known Try.prog (la46_2 J):=by
  exact LoopOf.known noNG mixed ok46_2 (by decide) (by decide) (Known.or known45 known85) (n:=60) (rd:=rd46_2) (fun x j=>T46_2  j x.v0 x.v1 x.v2 x.v3 x.v4 x.v5 x.v6 x.v7 x.v8 x.v9 x.v10 x.v11 x.v12 x.v13 x.v14 x.v15 x.v16) dec46_2 alt46_2 hd46_2 ha46_2
structure X46_1 where
  v0:Int
  v1:Int
  v2:ByteArray
  v3:Int
  v4:Int
  v5:Array Value
  v6:Nat
  v7:Nat
  v8:ByteArray
  v9:Int
  v10:Int
  v11:Int
inductive D46_1 where
  | k0 (d0:Int) (d1:ByteArray) (d2:Int) (d3:Int) (d4:Array Value) (d5:Nat) (d6:Nat) (d7:ByteArray) (d8:Int) (d9:Int) (d10:Int)
  | k1 (d0:ByteArray) (d1:Int) (d2:Int) (d3:Array Value) (d4:Nat) (d5:Nat) (d6:ByteArray) (d7:Int) (d8:Int) (d9:Int)
def Lp46_1:LoopOf X46_1 D46_1 where
  c:=(theLoop Try.prog 46 1)
  N:=99
  M:=2
  S:=[1,2,5,7]
  sl:=fun x=>[(.int .i64 x.v0),(Value.pointer (Option.some (Addr.mk 0 0 Option.none))),(Value.pointer (Option.some (Addr.mk 1 0 Option.none))),(.int .i64 x.v1)]
  hp:=fun x=>[.cells ⟨[(.string x.v2),(.int .i64 x.v3),(.int .i64 x.v4),(lstV x.v5 x.v6 x.v7 4)]⟩ false,.cells ⟨[(.string x.v8),(.int .i64 x.v9),(.int .i64 x.v10),(.int .i64 x.v11)]⟩ false]
  ex:=fun d=>match d with | .k0 ..=>.ret | .k1 ..=>.exit 2
  pick:=fun e=>match e with | .ret=>[4] | .exit 2=>[] | _=>[]
  dv:=fun d=>match d with | .k0 d0 d1 d2 d3 d4 d5 d6 d7 d8 d9 d10=>[(.int .i64 d0)] | .k1 d0 d1 d2 d3 d4 d5 d6 d7 d8 d9=>[]
  dh:=fun d=>match d with | .k0 d0 d1 d2 d3 d4 d5 d6 d7 d8 d9 d10=>[.cells ⟨[(.string d1),(.int .i64 d2),(.int .i64 d3),(lstV d4 d5 d6 4)]⟩ false,.cells ⟨[(.string d7),(.int .i64 d8),(.int .i64 d9),(.int .i64 d10)]⟩ false] | .k1 d0 d1 d2 d3 d4 d5 d6 d7 d8 d9=>[.cells ⟨[(.string d0),(.int .i64 d1),(.int .i64 d2),(lstV d3 d4 d5 4)]⟩ false,.cells ⟨[(.string d6),(.int .i64 d7),(.int .i64 d8),(.int .i64 d9)]⟩ false]
theorem ok46_1:Lp46_1.Ok:=⟨fun x=>rfl,fun x=>rfl,fun x=>rfl,fun x=>rfl,fun d=>by cases d<;>rfl,fun d=>by cases d<;>rfl,fun d=>by cases d<;>rfl,fun d=>by cases d<;>(intro h;cases h),fun d=>by cases d<;>rfl,fun d=>by cases d<;>rfl⟩
def rd46_1 (x:X46_1):RT (Sum X46_1 D46_1):=match x with
  | ⟨v0,v1,v2,v3,v4,v5,v6,v7,v8,v9,v10,v11⟩ =>
     .br (decide (v1<v0)) (.br (and (decide ((0:Int)≤v1)) (decide (v1<(Int.ofNat v7)))) (.br (rdOk v5 [Leaf.str,(Leaf.int .i64),(Leaf.int .i64),(Leaf.int .i64)] (v6+((Int.toNat v1)*4)))
       (.sw (eqCode (Lp46_2.c) (Lp46_2.c)) true (by simp only [eqCode_self,arrEq_self])
     (.br (L46_2_k0 (X46_2.mk v0 v1 (0:Int) v2 v3 v4 v5 v6 v7 v8 v9 v10 v11 (getStr v5 (v6+((Int.toNat v1)*4))) (getInt v5 ((v6+((Int.toNat v1)*4))+1)) (getInt v5 (((v6+((Int.toNat v1)*4))+1)+1)) (getInt v5 ((((v6+((Int.toNat v1)*4))+1)+1)+1)))) (.leaf (.inr (.k0 ((Qh0 (X46_2.mk v0 v1 (0:Int) v2 v3 v4 v5 v6 v7 v8 v9 v10 v11 (getStr v5 (v6+((Int.toNat v1)*4))) (getInt v5 ((v6+((Int.toNat v1)*4))+1)) (getInt v5 (((v6+((Int.toNat v1)*4))+1)+1)) (getInt v5 ((((v6+((Int.toNat v1)*4))+1)+1)+1))))) ((Qh1 (X46_2.mk v0 v1 (0:Int) v2 v3 v4 v5 v6 v7 v8 v9 v10 v11 (getStr v5 (v6+((Int.toNat v1)*4))) (getInt v5 ((v6+((Int.toNat v1)*4))+1)) (getInt v5 (((v6+((Int.toNat v1)*4))+1)+1)) (getInt v5 ((((v6+((Int.toNat v1)*4))+1)+1)+1))))) ((Qh2 (X46_2.mk v0 v1 (0:Int) v2 v3 v4 v5 v6 v7 v8 v9 v10 v11 (getStr v5 (v6+((Int.toNat v1)*4))) (getInt v5 ((v6+((Int.toNat v1)*4))+1)) (getInt v5 (((v6+((Int.toNat v1)*4))+1)+1)) (getInt v5 ((((v6+((Int.toNat v1)*4))+1)+1)+1))))) ((Qh3 (X46_2.mk v0 v1 (0:Int) v2 v3 v4 v5 v6 v7 v8 v9 v10 v11 (getStr v5 (v6+((Int.toNat v1)*4))) (getInt v5 ((v6+((Int.toNat v1)*4))+1)) (getInt v5 (((v6+((Int.toNat v1)*4))+1)+1)) (getInt v5 ((((v6+((Int.toNat v1)*4))+1)+1)+1))))) ((Qh4 (X46_2.mk v0 v1 (0:Int) v2 v3 v4 v5 v6 v7 v8 v9 v10 v11 (getStr v5 (v6+((Int.toNat v1)*4))) (getInt v5 ((v6+((Int.toNat v1)*4))+1)) (getInt v5 (((v6+((Int.toNat v1)*4))+1)+1)) (getInt v5 ((((v6+((Int.toNat v1)*4))+1)+1)+1))))) ((Qh5 (X46_2.mk v0 v1 (0:Int) v2 v3 v4 v5 v6 v7 v8 v9 v10 v11 (getStr v5 (v6+((Int.toNat v1)*4))) (getInt v5 ((v6+((Int.toNat v1)*4))+1)) (getInt v5 (((v6+((Int.toNat v1)*4))+1)+1)) (getInt v5 ((((v6+((Int.toNat v1)*4))+1)+1)+1))))) ((Qh6 (X46_2.mk v0 v1 (0:Int) v2 v3 v4 v5 v6 v7 v8 v9 v10 v11 (getStr v5 (v6+((Int.toNat v1)*4))) (getInt v5 ((v6+((Int.toNat v1)*4))+1)) (getInt v5 (((v6+((Int.toNat v1)*4))+1)+1)) (getInt v5 ((((v6+((Int.toNat v1)*4))+1)+1)+1))))) ((Qh7 (X46_2.mk v0 v1 (0:Int) v2 v3 v4 v5 v6 v7 v8 v9 v10 v11 (getStr v5 (v6+((Int.toNat v1)*4))) (getInt v5 ((v6+((Int.toNat v1)*4))+1)) (getInt v5 (((v6+((Int.toNat v1)*4))+1)+1)) (getInt v5 ((((v6+((Int.toNat v1)*4))+1)+1)+1))))) ((Qh8 (X46_2.mk v0 v1 (0:Int) v2 v3 v4 v5 v6 v7 v8 v9 v10 v11 (getStr v5 (v6+((Int.toNat v1)*4))) (getInt v5 ((v6+((Int.toNat v1)*4))+1)) (getInt v5 (((v6+((Int.toNat v1)*4))+1)+1)) (getInt v5 ((((v6+((Int.toNat v1)*4))+1)+1)+1))))) ((Qh9 (X46_2.mk v0 v1 (0:Int) v2 v3 v4 v5 v6 v7 v8 v9 v10 v11 (getStr v5 (v6+((Int.toNat v1)*4))) (getInt v5 ((v6+((Int.toNat v1)*4))+1)) (getInt v5 (((v6+((Int.toNat v1)*4))+1)+1)) (getInt v5 ((((v6+((Int.toNat v1)*4))+1)+1)+1))))) ((Qh10 (X46_2.mk v0 v1 (0:Int) v2 v3 v4 v5 v6 v7 v8 v9 v10 v11 (getStr v5 (v6+((Int.toNat v1)*4))) (getInt v5 ((v6+((Int.toNat v1)*4))+1)) (getInt v5 (((v6+((Int.toNat v1)*4))+1)+1)) (getInt v5 ((((v6+((Int.toNat v1)*4))+1)+1)+1))))))))
     (.br (L46_2_k1 (X46_2.mk v0 v1 (0:Int) v2 v3 v4 v5 v6 v7 v8 v9 v10 v11 (getStr v5 (v6+((Int.toNat v1)*4))) (getInt v5 ((v6+((Int.toNat v1)*4))+1)) (getInt v5 (((v6+((Int.toNat v1)*4))+1)+1)) (getInt v5 ((((v6+((Int.toNat v1)*4))+1)+1)+1)))) (.leaf (.inl ⟨(Qi0 (X46_2.mk v0 v1 (0:Int) v2 v3 v4 v5 v6 v7 v8 v9 v10 v11 (getStr v5 (v6+((Int.toNat v1)*4))) (getInt v5 ((v6+((Int.toNat v1)*4))+1)) (getInt v5 (((v6+((Int.toNat v1)*4))+1)+1)) (getInt v5 ((((v6+((Int.toNat v1)*4))+1)+1)+1)))),(IntKind.wrap .i64 ((Qi1 (X46_2.mk v0 v1 (0:Int) v2 v3 v4 v5 v6 v7 v8 v9 v10 v11 (getStr v5 (v6+((Int.toNat v1)*4))) (getInt v5 ((v6+((Int.toNat v1)*4))+1)) (getInt v5 (((v6+((Int.toNat v1)*4))+1)+1)) (getInt v5 ((((v6+((Int.toNat v1)*4))+1)+1)+1))))+(1:Int))),(Qi2 (X46_2.mk v0 v1 (0:Int) v2 v3 v4 v5 v6 v7 v8 v9 v10 v11 (getStr v5 (v6+((Int.toNat v1)*4))) (getInt v5 ((v6+((Int.toNat v1)*4))+1)) (getInt v5 (((v6+((Int.toNat v1)*4))+1)+1)) (getInt v5 ((((v6+((Int.toNat v1)*4))+1)+1)+1)))),(Qi3 (X46_2.mk v0 v1 (0:Int) v2 v3 v4 v5 v6 v7 v8 v9 v10 v11 (getStr v5 (v6+((Int.toNat v1)*4))) (getInt v5 ((v6+((Int.toNat v1)*4))+1)) (getInt v5 (((v6+((Int.toNat v1)*4))+1)+1)) (getInt v5 ((((v6+((Int.toNat v1)*4))+1)+1)+1)))),(Qi4 (X46_2.mk v0 v1 (0:Int) v2 v3 v4 v5 v6 v7 v8 v9 v10 v11 (getStr v5 (v6+((Int.toNat v1)*4))) (getInt v5 ((v6+((Int.toNat v1)*4))+1)) (getInt v5 (((v6+((Int.toNat v1)*4))+1)+1)) (getInt v5 ((((v6+((Int.toNat v1)*4))+1)+1)+1)))),(Qi5 (X46_2.mk v0 v1 (0:Int) v2 v3 v4 v5 v6 v7 v8 v9 v10 v11 (getStr v5 (v6+((Int.toNat v1)*4))) (getInt v5 ((v6+((Int.toNat v1)*4))+1)) (getInt v5 (((v6+((Int.toNat v1)*4))+1)+1)) (getInt v5 ((((v6+((Int.toNat v1)*4))+1)+1)+1)))),(Qi6 (X46_2.mk v0 v1 (0:Int) v2 v3 v4 v5 v6 v7 v8 v9 v10 v11 (getStr v5 (v6+((Int.toNat v1)*4))) (getInt v5 ((v6+((Int.toNat v1)*4))+1)) (getInt v5 (((v6+((Int.toNat v1)*4))+1)+1)) (getInt v5 ((((v6+((Int.toNat v1)*4))+1)+1)+1)))),(Qi7 (X46_2.mk v0 v1 (0:Int) v2 v3 v4 v5 v6 v7 v8 v9 v10 v11 (getStr v5 (v6+((Int.toNat v1)*4))) (getInt v5 ((v6+((Int.toNat v1)*4))+1)) (getInt v5 (((v6+((Int.toNat v1)*4))+1)+1)) (getInt v5 ((((v6+((Int.toNat v1)*4))+1)+1)+1)))),(Qi8 (X46_2.mk v0 v1 (0:Int) v2 v3 v4 v5 v6 v7 v8 v9 v10 v11 (getStr v5 (v6+((Int.toNat v1)*4))) (getInt v5 ((v6+((Int.toNat v1)*4))+1)) (getInt v5 (((v6+((Int.toNat v1)*4))+1)+1)) (getInt v5 ((((v6+((Int.toNat v1)*4))+1)+1)+1)))),(Qi9 (X46_2.mk v0 v1 (0:Int) v2 v3 v4 v5 v6 v7 v8 v9 v10 v11 (getStr v5 (v6+((Int.toNat v1)*4))) (getInt v5 ((v6+((Int.toNat v1)*4))+1)) (getInt v5 (((v6+((Int.toNat v1)*4))+1)+1)) (getInt v5 ((((v6+((Int.toNat v1)*4))+1)+1)+1)))),(Qi10 (X46_2.mk v0 v1 (0:Int) v2 v3 v4 v5 v6 v7 v8 v9 v10 v11 (getStr v5 (v6+((Int.toNat v1)*4))) (getInt v5 ((v6+((Int.toNat v1)*4))+1)) (getInt v5 (((v6+((Int.toNat v1)*4))+1)+1)) (getInt v5 ((((v6+((Int.toNat v1)*4))+1)+1)+1)))),(Qi11 (X46_2.mk v0 v1 (0:Int) v2 v3 v4 v5 v6 v7 v8 v9 v10 v11 (getStr v5 (v6+((Int.toNat v1)*4))) (getInt v5 ((v6+((Int.toNat v1)*4))+1)) (getInt v5 (((v6+((Int.toNat v1)*4))+1)+1)) (getInt v5 ((((v6+((Int.toNat v1)*4))+1)+1)+1))))⟩)) (.no))) (.no)) (.no)) (.no)) (.leaf (.inr (.k1 (v2) (v3) (v4) (v5) (v6) (v7) (v8) (v9) (v10) (v11))))
theorem T46_1 (J2:Task→List Value)(y:List Value)(v0:Int)(v1:Int)(v2:ByteArray)(v3:Int)(v4:Int)(v5:Array Value)(v6:Nat)(v7:Nat)(v8:ByteArray)(v9:Int)(v10:Int)(v11:Int):evC Try.prog (Ans.c (p45.or (p85.or (la46_2 J2)))) 60 (.code none (theLoop Try.prog 46 1) ⟨sets (junkF 99 y) [(1,(.int .i64 v0)),(2,(Value.pointer (Option.some (Addr.mk 0 0 Option.none)))),(5,(Value.pointer (Option.some (Addr.mk 1 0 Option.none)))),(7,(.int .i64 v1))],[],⟨[.cells ⟨[(.string v2),(.int .i64 v3),(.int .i64 v4),(lstV v5 v6 v7 4)]⟩ false,.cells ⟨[(.string v8),(.int .i64 v9),(.int .i64 v10),(.int .i64 v11)]⟩ false],0,[]⟩⟩) (sumK 2 99 Lp46_1.pk)=(rd46_1 ⟨v0,v1,v2,v3,v4,v5,v6,v7,v8,v9,v10,v11⟩).out Lp46_1.enc:=by kernel_rfl
def L46_1 (x:X46_1):Option D46_1:=loopR rd46_1 x
section
variable (x:X46_1)
def L46_1_k0:Bool:=match L46_1 x with | some (.k0 ..)=>true | _=>false
def Qj0:Int:=match L46_1 x with | some (.k0 d _ _ _ _ _ _ _ _ _ _)=>d | _=>0
def Qj1:ByteArray:=match L46_1 x with | some (.k0 _ d _ _ _ _ _ _ _ _ _)=>d | _=>ByteArray.empty
def Qj2:Int:=match L46_1 x with | some (.k0 _ _ d _ _ _ _ _ _ _ _)=>d | _=>0
def Qj3:Int:=match L46_1 x with | some (.k0 _ _ _ d _ _ _ _ _ _ _)=>d | _=>0
def Qj4:Array Value:=match L46_1 x with | some (.k0 _ _ _ _ d _ _ _ _ _ _)=>d | _=>#[]
def Qj5:Nat:=match L46_1 x with | some (.k0 _ _ _ _ _ d _ _ _ _ _)=>d | _=>0
def Qj6:Nat:=match L46_1 x with | some (.k0 _ _ _ _ _ _ d _ _ _ _)=>d | _=>0
def Qj7:ByteArray:=match L46_1 x with | some (.k0 _ _ _ _ _ _ _ d _ _ _)=>d | _=>ByteArray.empty
def Qj8:Int:=match L46_1 x with | some (.k0 _ _ _ _ _ _ _ _ d _ _)=>d | _=>0
def Qj9:Int:=match L46_1 x with | some (.k0 _ _ _ _ _ _ _ _ _ d _)=>d | _=>0
def Qj10:Int:=match L46_1 x with | some (.k0 _ _ _ _ _ _ _ _ _ _ d)=>d | _=>0
def L46_1_k1:Bool:=match L46_1 x with | some (.k1 ..)=>true | _=>false
def Qk0:ByteArray:=match L46_1 x with | some (.k1 d _ _ _ _ _ _ _ _ _)=>d | _=>ByteArray.empty
def Qk1:Int:=match L46_1 x with | some (.k1 _ d _ _ _ _ _ _ _ _)=>d | _=>0
def Qk2:Int:=match L46_1 x with | some (.k1 _ _ d _ _ _ _ _ _ _)=>d | _=>0
def Qk3:Array Value:=match L46_1 x with | some (.k1 _ _ _ d _ _ _ _ _ _)=>d | _=>#[]
def Qk4:Nat:=match L46_1 x with | some (.k1 _ _ _ _ d _ _ _ _ _)=>d | _=>0
def Qk5:Nat:=match L46_1 x with | some (.k1 _ _ _ _ _ d _ _ _ _)=>d | _=>0
def Qk6:ByteArray:=match L46_1 x with | some (.k1 _ _ _ _ _ _ d _ _ _)=>d | _=>ByteArray.empty
def Qk7:Int:=match L46_1 x with | some (.k1 _ _ _ _ _ _ _ d _ _)=>d | _=>0
def Qk8:Int:=match L46_1 x with | some (.k1 _ _ _ _ _ _ _ _ d _)=>d | _=>0
def Qk9:Int:=match L46_1 x with | some (.k1 _ _ _ _ _ _ _ _ _ d)=>d | _=>0
end
def dec46_1:Task→Option (Code×X46_1)
  | .code none (.loop code) ⟨t,[],⟨[.cells ⟨[(.string v2),(.int .i64 v3),(.int .i64 v4),(.func (.via 0 ⟨[]⟩ 0 true) v5 ⟨[.slice (some ⟨0,v6,none⟩) v7 4]⟩)]⟩ false,.cells ⟨[(.string v8),(.int .i64 v9),(.int .i64 v10),(.int .i64 v11)]⟩ false],0,[]⟩⟩ =>
    (match Nat.beq (firstReg code) 12,lenIs t 99,lget t 1,lget t 2,lget t 5,lget t 7 with
    | true,true,(.int .i64 v0),(Value.pointer (Option.some (Addr.mk 0 0 Option.none))),(Value.pointer (Option.some (Addr.mk 1 0 Option.none))),(.int .i64 v1)=>some (code,⟨v0,v1,v2,v3,v4,v5,v6,v7,v8,v9,v10,v11⟩)
    | _,_,_,_,_,_=>none)
  | _=>none
def alt46_1 (x:X46_1)(j:List Value):AT:=.br (L46_1_k0 x) (loopEnd 99 (.ret) [(4,(.int .i64 (Qj0 x)))] ⟨[.cells ⟨[(.string (Qj1 x)),(.int .i64 (Qj2 x)),(.int .i64 (Qj3 x)),(lstV (Qj4 x) (Qj5 x) (Qj6 x) 4)]⟩ false,.cells ⟨[(.string (Qj7 x)),(.int .i64 (Qj8 x)),(.int .i64 (Qj9 x)),(.int .i64 (Qj10 x))]⟩ false],0,[]⟩ j) (.br (L46_1_k1 x) (loopEnd 99 (.exit 2) [] ⟨[.cells ⟨[(.string (Qk0 x)),(.int .i64 (Qk1 x)),(.int .i64 (Qk2 x)),(lstV (Qk3 x) (Qk4 x) (Qk5 x) 4)]⟩ false,.cells ⟨[(.string (Qk6 x)),(.int .i64 (Qk7 x)),(.int .i64 (Qk8 x)),(.int .i64 (Qk9 x))]⟩ false],0,[]⟩ j) (.no))
def la46_1 (J:Task→List Value):Ans:=loopAns Lp46_1.c dec46_1 alt46_1 J
theorem ha46_1:∀(x:X46_1) (j:List Value)(o:Out),(alt46_1 x j).out=some o→∃d,loopR rd46_1 x=some d∧o=Lp46_1.tail d j:=by
  intro x j o h
  unfold alt46_1 at h
  cases hL:L46_1 x with
  | none=>simp [L46_1_k0,Qj0,Qj1,Qj2,Qj3,Qj4,Qj5,Qj6,Qj7,Qj8,Qj9,Qj10,L46_1_k1,Qk0,Qk1,Qk2,Qk3,Qk4,Qk5,Qk6,Qk7,Qk8,Qk9,hL,AT.out]at h
  | some d =>
    refine ⟨d,hL,?_⟩
    cases d<;>(simp only [L46_1_k0,Qj0,Qj1,Qj2,Qj3,Qj4,Qj5,Qj6,Qj7,Qj8,Qj9,Qj10,L46_1_k1,Qk0,Qk1,Qk2,Qk3,Qk4,Qk5,Qk6,Qk7,Qk8,Qk9,hL,AT.out,loopEnd,cond_true,cond_false,Option.some.injEq]at h;rw [← h];rfl)
theorem hd46_1:∀(t:Task) (c:Code)(x:X46_1),dec46_1 t=some (c,x)→c=Lp46_1.c→∃T,t=.code none (.loop Lp46_1.c) ⟨T,[],⟨Lp46_1.hp x,0,[]⟩⟩∧T.length=Lp46_1.N∧∀kv∈Lp46_1.S.zip (Lp46_1.sl x),lget T kv.1=kv.2:=by
  intro t c x h hc
  unfold dec46_1 at h
  split at h
  case h_2=>cases h
  split at h
  case h_2=>cases h
  simp only [Option.some.injEq,Prod.mk.injEq]at h
  obtain ⟨rfl,rfl⟩:=h
  subst hc
  refine ⟨_,rfl,lenIs_eq _ _ (by assumption),?_⟩
  intro kv hk
  simp only [Lp46_1,List.zip_cons_cons,List.zip_nil_right,List.mem_cons,List.not_mem_nil,or_false]at hk
  rcases hk with rfl | rfl | rfl | rfl<;>assumption
theorem kl46_1:∃J,Known Try.prog (la46_1 J):=by
  obtain ⟨J2,hJ2⟩:=kl46_2
  exact LoopOf.known noNG mixed ok46_1 (by decide) (by decide) (Known.or known45 (Known.or known85 hJ2)) (n:=60) (rd:=rd46_1) (fun x j=>T46_1 J2 j x.v0 x.v1 x.v2 x.v3 x.v4 x.v5 x.v6 x.v7 x.v8 x.v9 x.v10 x.v11) dec46_1 alt46_1 hd46_1 ha46_1
structure R46 where
  r0:Int
structure A46 where
  a0:ByteArray
  a1:Int
  a2:Int
  a3:Array Value
  a4:Nat
  a5:Nat
  a6:Int
def rt46 (a0:ByteArray)(a1:Int)(a2:Int)(a3:Array Value)(a4:Nat)(a5:Nat)(a6:Int):RT R46 :=
  .br (and (decide ((0:Int)≤a6)) (decide (a6<(Int.ofNat a5)))) (.br (rdOk a3 [Leaf.str,(Leaf.int .i64),(Leaf.int .i64),(Leaf.int .i64)] (a4+((Int.toNat a6)*4))) (.br (F85_ok (getStr a3 (a4+((Int.toNat a6)*4)))) (.br (not (F85_0 (getStr a3 (a4+((Int.toNat a6)*4))))) (.leaf ⟨(6:Int)⟩)
     (.sw (eqCode (Lp46_0.c) (Lp46_0.c)) true (by simp only [eqCode_self,arrEq_self]) (.br (L46_0_k0 (X46_0.mk a6 (0:Int) a0 a1 a2 a3 a4 a5 (getStr a3 (a4+((Int.toNat a6)*4))) (getInt a3 ((a4+((Int.toNat a6)*4))+1)) (getInt a3 (((a4+((Int.toNat a6)*4))+1)+1)) (getInt a3 ((((a4+((Int.toNat a6)*4))+1)+1)+1)))) (.leaf ⟨(Qf0 (X46_0.mk a6 (0:Int) a0 a1 a2 a3 a4 a5 (getStr a3 (a4+((Int.toNat a6)*4))) (getInt a3 ((a4+((Int.toNat a6)*4))+1)) (getInt a3 (((a4+((Int.toNat a6)*4))+1)+1)) (getInt a3 ((((a4+((Int.toNat a6)*4))+1)+1)+1))))⟩) (.br (L46_0_k1 (X46_0.mk a6 (0:Int) a0 a1 a2 a3 a4 a5 (getStr a3 (a4+((Int.toNat a6)*4))) (getInt a3 ((a4+((Int.toNat a6)*4))+1)) (getInt a3 (((a4+((Int.toNat a6)*4))+1)+1)) (getInt a3 ((((a4+((Int.toNat a6)*4))+1)+1)+1))))
     (.br (F45_ok (Qg8 (X46_0.mk a6 (0:Int) a0 a1 a2 a3 a4 a5 (getStr a3 (a4+((Int.toNat a6)*4))) (getInt a3 ((a4+((Int.toNat a6)*4))+1)) (getInt a3 (((a4+((Int.toNat a6)*4))+1)+1)) (getInt a3 ((((a4+((Int.toNat a6)*4))+1)+1)+1)))) (0:Int) (IntKind.wrap .i64 ((Qg2 (X46_0.mk a6 (0:Int) a0 a1 a2 a3 a4 a5 (getStr a3 (a4+((Int.toNat a6)*4))) (getInt a3 ((a4+((Int.toNat a6)*4))+1)) (getInt a3 (((a4+((Int.toNat a6)*4))+1)+1)) (getInt a3 ((((a4+((Int.toNat a6)*4))+1)+1)+1))))-(1:Int)))) (.br (not (F45_0 (Qg8 (X46_0.mk a6 (0:Int) a0 a1 a2 a3 a4 a5 (getStr a3 (a4+((Int.toNat a6)*4))) (getInt a3 ((a4+((Int.toNat a6)*4))+1)) (getInt a3 (((a4+((Int.toNat a6)*4))+1)+1)) (getInt a3 ((((a4+((Int.toNat a6)*4))+1)+1)+1)))) (0:Int) (IntKind.wrap .i64 ((Qg2 (X46_0.mk a6 (0:Int) a0 a1 a2 a3 a4 a5 (getStr a3 (a4+((Int.toNat a6)*4))) (getInt a3 ((a4+((Int.toNat a6)*4))+1)) (getInt a3 (((a4+((Int.toNat a6)*4))+1)+1)) (getInt a3 ((((a4+((Int.toNat a6)*4))+1)+1)+1))))-(1:Int))))) (.leaf ⟨(7:Int)⟩)
     (.br (decide ((Qg9 (X46_0.mk a6 (0:Int) a0 a1 a2 a3 a4 a5 (getStr a3 (a4+((Int.toNat a6)*4))) (getInt a3 ((a4+((Int.toNat a6)*4))+1)) (getInt a3 (((a4+((Int.toNat a6)*4))+1)+1)) (getInt a3 ((((a4+((Int.toNat a6)*4))+1)+1)+1))))<(1:Int))) (.leaf ⟨(7:Int)⟩) (.br (not (decide ((Qg9 (X46_0.mk a6 (0:Int) a0 a1 a2 a3 a4 a5 (getStr a3 (a4+((Int.toNat a6)*4))) (getInt a3 ((a4+((Int.toNat a6)*4))+1)) (getInt a3 (((a4+((Int.toNat a6)*4))+1)+1)) (getInt a3 ((((a4+((Int.toNat a6)*4))+1)+1)+1))))=(0:Int)))) (.br (not (decide ((Int.tmod (Qg3 (X46_0.mk a6 (0:Int) a0 a1 a2 a3 a4 a5 (getStr a3 (a4+((Int.toNat a6)*4))) (getInt a3 ((a4+((Int.toNat a6)*4))+1)) (getInt a3 (((a4+((Int.toNat a6)*4))+1)+1)) (getInt a3 ((((a4+((Int.toNat a6)*4))+1)+1)+1)))) (Qg9 (X46_0.mk a6 (0:Int) a0 a1 a2 a3 a4 a5 (getStr a3 (a4+((Int.toNat a6)*4))) (getInt a3 ((a4+((Int.toNat a6)*4))+1)) (getInt a3 (((a4+((Int.toNat a6)*4))+1)+1)) (getInt a3 ((((a4+((Int.toNat a6)*4))+1)+1)+1)))))=(0:Int)))) (.leaf ⟨(7:Int)⟩)
     (.br (F45_ok (Qg10 (X46_0.mk a6 (0:Int) a0 a1 a2 a3 a4 a5 (getStr a3 (a4+((Int.toNat a6)*4))) (getInt a3 ((a4+((Int.toNat a6)*4))+1)) (getInt a3 (((a4+((Int.toNat a6)*4))+1)+1)) (getInt a3 ((((a4+((Int.toNat a6)*4))+1)+1)+1)))) (0:Int) (IntKind.wrap .i64 ((Qg9 (X46_0.mk a6 (0:Int) a0 a1 a2 a3 a4 a5 (getStr a3 (a4+((Int.toNat a6)*4))) (getInt a3 ((a4+((Int.toNat a6)*4))+1)) (getInt a3 (((a4+((Int.toNat a6)*4))+1)+1)) (getInt a3 ((((a4+((Int.toNat a6)*4))+1)+1)+1))))-(1:Int)))) (.br (not (F45_0 (Qg10 (X46_0.mk a6 (0:Int) a0 a1 a2 a3 a4 a5 (getStr a3 (a4+((Int.toNat a6)*4))) (getInt a3 ((a4+((Int.toNat a6)*4))+1)) (getInt a3 (((a4+((Int.toNat a6)*4))+1)+1)) (getInt a3 ((((a4+((Int.toNat a6)*4))+1)+1)+1)))) (0:Int) (IntKind.wrap .i64 ((Qg9 (X46_0.mk a6 (0:Int) a0 a1 a2 a3 a4 a5 (getStr a3 (a4+((Int.toNat a6)*4))) (getInt a3 ((a4+((Int.toNat a6)*4))+1)) (getInt a3 (((a4+((Int.toNat a6)*4))+1)+1)) (getInt a3 ((((a4+((Int.toNat a6)*4))+1)+1)+1))))-(1:Int))))) (.leaf ⟨(7:Int)⟩)
               (.sw (eqCode (Lp46_1.c) (Lp46_1.c)) true (by simp only [eqCode_self,arrEq_self])
     (.br (L46_1_k0 (X46_1.mk (Qg0 (X46_0.mk a6 (0:Int) a0 a1 a2 a3 a4 a5 (getStr a3 (a4+((Int.toNat a6)*4))) (getInt a3 ((a4+((Int.toNat a6)*4))+1)) (getInt a3 (((a4+((Int.toNat a6)*4))+1)+1)) (getInt a3 ((((a4+((Int.toNat a6)*4))+1)+1)+1)))) (0:Int) (Qg1 (X46_0.mk a6 (0:Int) a0 a1 a2 a3 a4 a5 (getStr a3 (a4+((Int.toNat a6)*4))) (getInt a3 ((a4+((Int.toNat a6)*4))+1)) (getInt a3 (((a4+((Int.toNat a6)*4))+1)+1)) (getInt a3 ((((a4+((Int.toNat a6)*4))+1)+1)+1)))) (Qg2 (X46_0.mk a6 (0:Int) a0 a1 a2 a3 a4 a5 (getStr a3 (a4+((Int.toNat a6)*4))) (getInt a3 ((a4+((Int.toNat a6)*4))+1)) (getInt a3 (((a4+((Int.toNat a6)*4))+1)+1)) (getInt a3 ((((a4+((Int.toNat a6)*4))+1)+1)+1)))) (Qg3 (X46_0.mk a6 (0:Int) a0 a1 a2 a3 a4 a5 (getStr a3 (a4+((Int.toNat a6)*4))) (getInt a3 ((a4+((Int.toNat a6)*4))+1)) (getInt a3 (((a4+((Int.toNat a6)*4))+1)+1)) (getInt a3 ((((a4+((Int.toNat a6)*4))+1)+1)+1)))) (Qg4 (X46_0.mk a6 (0:Int) a0 a1 a2 a3 a4 a5 (getStr a3 (a4+((Int.toNat a6)*4))) (getInt a3 ((a4+((Int.toNat a6)*4))+1)) (getInt a3 (((a4+((Int.toNat a6)*4))+1)+1)) (getInt a3 ((((a4+((Int.toNat a6)*4))+1)+1)+1)))) (Qg5 (X46_0.mk a6 (0:Int) a0 a1 a2 a3 a4 a5 (getStr a3 (a4+((Int.toNat a6)*4))) (getInt a3 ((a4+((Int.toNat a6)*4))+1)) (getInt a3 (((a4+((Int.toNat a6)*4))+1)+1)) (getInt a3 ((((a4+((Int.toNat a6)*4))+1)+1)+1)))) (Qg6 (X46_0.mk a6 (0:Int) a0 a1 a2 a3 a4 a5 (getStr a3 (a4+((Int.toNat a6)*4))) (getInt a3 ((a4+((Int.toNat a6)*4))+1)) (getInt a3 (((a4+((Int.toNat a6)*4))+1)+1)) (getInt a3 ((((a4+((Int.toNat a6)*4))+1)+1)+1)))) (Qg7 (X46_0.mk a6 (0:Int) a0 a1 a2 a3 a4 a5 (getStr a3 (a4+((Int.toNat a6)*4))) (getInt a3 ((a4+((Int.toNat a6)*4))+1)) (getInt a3 (((a4+((Int.toNat a6)*4))+1)+1)) (getInt a3 ((((a4+((Int.toNat a6)*4))+1)+1)+1)))) (Qg8 (X46_0.mk a6 (0:Int) a0 a1 a2 a3 a4 a5 (getStr a3 (a4+((Int.toNat a6)*4))) (getInt a3 ((a4+((Int.toNat a6)*4))+1)) (getInt a3 (((a4+((Int.toNat a6)*4))+1)+1)) (getInt a3 ((((a4+((Int.toNat a6)*4))+1)+1)+1)))) (Qg9 (X46_0.mk a6 (0:Int) a0 a1 a2 a3 a4 a5 (getStr a3 (a4+((Int.toNat a6)*4))) (getInt a3 ((a4+((Int.toNat a6)*4))+1)) (getInt a3 (((a4+((Int.toNat a6)*4))+1)+1)) (getInt a3 ((((a4+((Int.toNat a6)*4))+1)+1)+1)))) (Qg10 (X46_0.mk a6 (0:Int) a0 a1 a2 a3 a4 a5 (getStr a3 (a4+((Int.toNat a6)*4))) (getInt a3 ((a4+((Int.toNat a6)*4))+1)) (getInt a3 (((a4+((Int.toNat a6)*4))+1)+1)) (getInt a3 ((((a4+((Int.toNat a6)*4))+1)+1)+1)))))) (.leaf ⟨(Qj0 (X46_1.mk (Qg0 (X46_0.mk a6 (0:Int) a0 a1 a2 a3 a4 a5 (getStr a3 (a4+((Int.toNat a6)*4))) (getInt a3 ((a4+((Int.toNat a6)*4))+1)) (getInt a3 (((a4+((Int.toNat a6)*4))+1)+1)) (getInt a3 ((((a4+((Int.toNat a6)*4))+1)+1)+1)))) (0:Int) (Qg1 (X46_0.mk a6 (0:Int) a0 a1 a2 a3 a4 a5 (getStr a3 (a4+((Int.toNat a6)*4))) (getInt a3 ((a4+((Int.toNat a6)*4))+1)) (getInt a3 (((a4+((Int.toNat a6)*4))+1)+1)) (getInt a3 ((((a4+((Int.toNat a6)*4))+1)+1)+1)))) (Qg2 (X46_0.mk a6 (0:Int) a0 a1 a2 a3 a4 a5 (getStr a3 (a4+((Int.toNat a6)*4))) (getInt a3 ((a4+((Int.toNat a6)*4))+1)) (getInt a3 (((a4+((Int.toNat a6)*4))+1)+1)) (getInt a3 ((((a4+((Int.toNat a6)*4))+1)+1)+1)))) (Qg3 (X46_0.mk a6 (0:Int) a0 a1 a2 a3 a4 a5 (getStr a3 (a4+((Int.toNat a6)*4))) (getInt a3 ((a4+((Int.toNat a6)*4))+1)) (getInt a3 (((a4+((Int.toNat a6)*4))+1)+1)) (getInt a3 ((((a4+((Int.toNat a6)*4))+1)+1)+1)))) (Qg4 (X46_0.mk a6 (0:Int) a0 a1 a2 a3 a4 a5 (getStr a3 (a4+((Int.toNat a6)*4))) (getInt a3 ((a4+((Int.toNat a6)*4))+1)) (getInt a3 (((a4+((Int.toNat a6)*4))+1)+1)) (getInt a3 ((((a4+((Int.toNat a6)*4))+1)+1)+1)))) (Qg5 (X46_0.mk a6 (0:Int) a0 a1 a2 a3 a4 a5 (getStr a3 (a4+((Int.toNat a6)*4))) (getInt a3 ((a4+((Int.toNat a6)*4))+1)) (getInt a3 (((a4+((Int.toNat a6)*4))+1)+1)) (getInt a3 ((((a4+((Int.toNat a6)*4))+1)+1)+1)))) (Qg6 (X46_0.mk a6 (0:Int) a0 a1 a2 a3 a4 a5 (getStr a3 (a4+((Int.toNat a6)*4))) (getInt a3 ((a4+((Int.toNat a6)*4))+1)) (getInt a3 (((a4+((Int.toNat a6)*4))+1)+1)) (getInt a3 ((((a4+((Int.toNat a6)*4))+1)+1)+1)))) (Qg7 (X46_0.mk a6 (0:Int) a0 a1 a2 a3 a4 a5 (getStr a3 (a4+((Int.toNat a6)*4))) (getInt a3 ((a4+((Int.toNat a6)*4))+1)) (getInt a3 (((a4+((Int.toNat a6)*4))+1)+1)) (getInt a3 ((((a4+((Int.toNat a6)*4))+1)+1)+1)))) (Qg8 (X46_0.mk a6 (0:Int) a0 a1 a2 a3 a4 a5 (getStr a3 (a4+((Int.toNat a6)*4))) (getInt a3 ((a4+((Int.toNat a6)*4))+1)) (getInt a3 (((a4+((Int.toNat a6)*4))+1)+1)) (getInt a3 ((((a4+((Int.toNat a6)*4))+1)+1)+1)))) (Qg9 (X46_0.mk a6 (0:Int) a0 a1 a2 a3 a4 a5 (getStr a3 (a4+((Int.toNat a6)*4))) (getInt a3 ((a4+((Int.toNat a6)*4))+1)) (getInt a3 (((a4+((Int.toNat a6)*4))+1)+1)) (getInt a3 ((((a4+((Int.toNat a6)*4))+1)+1)+1)))) (Qg10 (X46_0.mk a6 (0:Int) a0 a1 a2 a3 a4 a5 (getStr a3 (a4+((Int.toNat a6)*4))) (getInt a3 ((a4+((Int.toNat a6)*4))+1)) (getInt a3 (((a4+((Int.toNat a6)*4))+1)+1)) (getInt a3 ((((a4+((Int.toNat a6)*4))+1)+1)+1))))))⟩)
     (.br (L46_1_k1 (X46_1.mk (Qg0 (X46_0.mk a6 (0:Int) a0 a1 a2 a3 a4 a5 (getStr a3 (a4+((Int.toNat a6)*4))) (getInt a3 ((a4+((Int.toNat a6)*4))+1)) (getInt a3 (((a4+((Int.toNat a6)*4))+1)+1)) (getInt a3 ((((a4+((Int.toNat a6)*4))+1)+1)+1)))) (0:Int) (Qg1 (X46_0.mk a6 (0:Int) a0 a1 a2 a3 a4 a5 (getStr a3 (a4+((Int.toNat a6)*4))) (getInt a3 ((a4+((Int.toNat a6)*4))+1)) (getInt a3 (((a4+((Int.toNat a6)*4))+1)+1)) (getInt a3 ((((a4+((Int.toNat a6)*4))+1)+1)+1)))) (Qg2 (X46_0.mk a6 (0:Int) a0 a1 a2 a3 a4 a5 (getStr a3 (a4+((Int.toNat a6)*4))) (getInt a3 ((a4+((Int.toNat a6)*4))+1)) (getInt a3 (((a4+((Int.toNat a6)*4))+1)+1)) (getInt a3 ((((a4+((Int.toNat a6)*4))+1)+1)+1)))) (Qg3 (X46_0.mk a6 (0:Int) a0 a1 a2 a3 a4 a5 (getStr a3 (a4+((Int.toNat a6)*4))) (getInt a3 ((a4+((Int.toNat a6)*4))+1)) (getInt a3 (((a4+((Int.toNat a6)*4))+1)+1)) (getInt a3 ((((a4+((Int.toNat a6)*4))+1)+1)+1)))) (Qg4 (X46_0.mk a6 (0:Int) a0 a1 a2 a3 a4 a5 (getStr a3 (a4+((Int.toNat a6)*4))) (getInt a3 ((a4+((Int.toNat a6)*4))+1)) (getInt a3 (((a4+((Int.toNat a6)*4))+1)+1)) (getInt a3 ((((a4+((Int.toNat a6)*4))+1)+1)+1)))) (Qg5 (X46_0.mk a6 (0:Int) a0 a1 a2 a3 a4 a5 (getStr a3 (a4+((Int.toNat a6)*4))) (getInt a3 ((a4+((Int.toNat a6)*4))+1)) (getInt a3 (((a4+((Int.toNat a6)*4))+1)+1)) (getInt a3 ((((a4+((Int.toNat a6)*4))+1)+1)+1)))) (Qg6 (X46_0.mk a6 (0:Int) a0 a1 a2 a3 a4 a5 (getStr a3 (a4+((Int.toNat a6)*4))) (getInt a3 ((a4+((Int.toNat a6)*4))+1)) (getInt a3 (((a4+((Int.toNat a6)*4))+1)+1)) (getInt a3 ((((a4+((Int.toNat a6)*4))+1)+1)+1)))) (Qg7 (X46_0.mk a6 (0:Int) a0 a1 a2 a3 a4 a5 (getStr a3 (a4+((Int.toNat a6)*4))) (getInt a3 ((a4+((Int.toNat a6)*4))+1)) (getInt a3 (((a4+((Int.toNat a6)*4))+1)+1)) (getInt a3 ((((a4+((Int.toNat a6)*4))+1)+1)+1)))) (Qg8 (X46_0.mk a6 (0:Int) a0 a1 a2 a3 a4 a5 (getStr a3 (a4+((Int.toNat a6)*4))) (getInt a3 ((a4+((Int.toNat a6)*4))+1)) (getInt a3 (((a4+((Int.toNat a6)*4))+1)+1)) (getInt a3 ((((a4+((Int.toNat a6)*4))+1)+1)+1)))) (Qg9 (X46_0.mk a6 (0:Int) a0 a1 a2 a3 a4 a5 (getStr a3 (a4+((Int.toNat a6)*4))) (getInt a3 ((a4+((Int.toNat a6)*4))+1)) (getInt a3 (((a4+((Int.toNat a6)*4))+1)+1)) (getInt a3 ((((a4+((Int.toNat a6)*4))+1)+1)+1)))) (Qg10 (X46_0.mk a6 (0:Int) a0 a1 a2 a3 a4 a5 (getStr a3 (a4+((Int.toNat a6)*4))) (getInt a3 ((a4+((Int.toNat a6)*4))+1)) (getInt a3 (((a4+((Int.toNat a6)*4))+1)+1)) (getInt a3 ((((a4+((Int.toNat a6)*4))+1)+1)+1)))))) (.leaf ⟨(0:Int)⟩) (.no))) (.no))) (.no))) (.no)))) (.no)) (.no))) (.no))) (.no)) (.no)) (.no)
def en46 (r:R46):Value:=(.int .i64 r.r0)
theorem T46 (J0:Task→List Value)(J1:Task→List Value)(a0:ByteArray)(a1:Int)(a2:Int)(a3:Array Value)(a4:Nat)(a5:Nat)(a6:Int):evC Try.prog (Ans.c (p45.or (p85.or ((la46_0 J0).or (la46_1 J1))))) 60 (.call 46 ⟨[(.agg ⟨[(.string a0),(.int .i64 a1),(.int .i64 a2),(lstV a3 a4 a5 4)]⟩),(.int .i64 a6)]⟩ ⟨[],0,[]⟩) (frzK [0])=(rt46 a0 a1 a2 a3 a4 a5 a6).out (fun r=>.ret (en46 r) ⟨[],0,[]⟩):=by kernel_rfl
def F46 (a0:ByteArray)(a1:Int)(a2:Int)(a3:Array Value)(a4:Nat)(a5:Nat)(a6:Int):Option R46:=(rt46 a0 a1 a2 a3 a4 a5 a6).val
section
variable (a0:ByteArray) (a1:Int) (a2:Int) (a3:Array Value) (a4:Nat) (a5:Nat) (a6:Int)
def F46_ok:Bool:=(F46 a0 a1 a2 a3 a4 a5 a6).isSome
def F46_0:Int:=match F46 a0 a1 a2 a3 a4 a5 a6 with | some r=>r.r0 | none=>0
end
def dec46:Task→Option (A46×Hp)
  | .call g ⟨[(.agg ⟨[(.string a0),(.int .i64 a1),(.int .i64 a2),(.func (.via 0 ⟨[]⟩ 0 true) a3 ⟨[.slice (some ⟨0,a4,none⟩) a5 4]⟩)]⟩),(.int .i64 a6)]⟩ h=>(match Nat.beq g 46 with | true=>some (⟨a0,a1,a2,a3,a4,a5,a6⟩,h) | false=>none)
  | _=>none
def alt46 (x:A46)(h:Hp):AT:=.br (F46_ok x.a0 x.a1 x.a2 x.a3 x.a4 x.a5 x.a6) (.leaf (.ret (.int .i64 (F46_0 x.a0 x.a1 x.a2 x.a3 x.a4 x.a5 x.a6)) h)) .no
def p46:Ans:=fnAns dec46 alt46
theorem ha46:∀(x:A46) (h:Hp)(o:Out),(alt46 x h).out=some o→∃r,(rt46 x.a0 x.a1 x.a2 x.a3 x.a4 x.a5 x.a6).val=some r∧o=.ret (en46 r) h:=by
  intro x h o e
  unfold alt46 at e
  simp only [AT.out]at e
  obtain ⟨g,e⟩:=cond_some e
  unfold F46_ok at g
  obtain ⟨r,hF⟩:=Option.isSome_iff_exists.1 g
  have hv:F46 x.a0 x.a1 x.a2 x.a3 x.a4 x.a5 x.a6=(rt46 x.a0 x.a1 x.a2 x.a3 x.a4 x.a5 x.a6).val:=by delta F46;exact rfl
  refine ⟨r,hv.symm.trans hF,?_⟩
  simp only [Option.some.injEq]at e
  rw [← e]
  have k0:F46_0 x.a0 x.a1 x.a2 x.a3 x.a4 x.a5 x.a6=r.r0:=by
    show (match F46 x.a0 x.a1 x.a2 x.a3 x.a4 x.a5 x.a6 with | some r=>r.r0 | none=>0)=r.r0
    rw [hF]
  rw [k0]<;>rfl
theorem hd46:∀(t:Task) (x:A46)(h:Hp),dec46 t=some (x,h)→t=.call 46 ⟨[(.agg ⟨[(.string x.a0),(.int .i64 x.a1),(.int .i64 x.a2),(lstV x.a3 x.a4 x.a5 4)]⟩),(.int .i64 x.a6)]⟩ h:=by
  intro t x h e
  unfold dec46 at e
  split at e
  case h_2=>cases e
  split at e
  case h_2=>cases e
  rename_i hg
  simp only [Option.some.injEq,Prod.mk.injEq]at e
  obtain ⟨rfl,rfl⟩:=e
  rw [Nat.eq_of_beq_eq_true hg]
theorem known46:Known Try.prog p46:=by
  obtain ⟨J0,hJ0⟩:=kl46_0
  obtain ⟨J1,hJ1⟩:=kl46_1
  exact Known.fn noNG mixed (Known.or known45 (Known.or known85 (Known.or hJ0 hJ1))) (n:=60) (zs:=[0]) 46 (fun x:A46=>[(.agg ⟨[(.string x.a0),(.int .i64 x.a1),(.int .i64 x.a2),(lstV x.a3 x.a4 x.a5 4)]⟩),(.int .i64 x.a6)]) (fun x=>rt46 x.a0 x.a1 x.a2 x.a3 x.a4 x.a5 x.a6) en46 (fun x=>T46 J0 J1 x.a0 x.a1 x.a2 x.a3 x.a4 x.a5 x.a6) (fun x=>rfl) dec46 alt46 hd46 ha46
structure X16_0 where
  v0:Int
  v1:ByteArray
  v2:Int
  v3:Int
  v4:Array Value
  v5:Nat
  v6:Nat
inductive D16_0 where
  | k0 (d0:Int) (d1:Int) (d2:Int) (d3:ByteArray) (d4:Int) (d5:Int) (d6:Array Value) (d7:Nat) (d8:Nat)
  | k1 (d0:ByteArray) (d1:Int) (d2:Int) (d3:Array Value) (d4:Nat) (d5:Nat)
def Lp16_0:LoopOf X16_0 D16_0 where
  c:=(theLoop Try.prog 16 0)
  N:=64
  M:=1
  S:=[1,6]
  sl:=fun x=>[(Value.pointer (Option.some (Addr.mk 0 0 Option.none))),(.int .i64 x.v0)]
  hp:=fun x=>[.cells ⟨[(.string x.v1),(.int .i64 x.v2),(.int .i64 x.v3),(lstV x.v4 x.v5 x.v6 4)]⟩ false]
  ex:=fun d=>match d with | .k0 ..=>.ret | .k1 ..=>.exit 0
  pick:=fun e=>match e with | .ret=>[2,3,4] | .exit 0=>[] | _=>[]
  dv:=fun d=>match d with | .k0 d0 d1 d2 d3 d4 d5 d6 d7 d8=>[(.int .i64 d0),(.int .i64 d1),(.int .i64 d2)] | .k1 d0 d1 d2 d3 d4 d5=>[]
  dh:=fun d=>match d with | .k0 d0 d1 d2 d3 d4 d5 d6 d7 d8=>[.cells ⟨[(.string d3),(.int .i64 d4),(.int .i64 d5),(lstV d6 d7 d8 4)]⟩ false] | .k1 d0 d1 d2 d3 d4 d5=>[.cells ⟨[(.string d0),(.int .i64 d1),(.int .i64 d2),(lstV d3 d4 d5 4)]⟩ false]
theorem ok16_0:Lp16_0.Ok:=⟨fun x=>rfl,fun x=>rfl,fun x=>rfl,fun x=>rfl,fun d=>by cases d<;>rfl,fun d=>by cases d<;>rfl,fun d=>by cases d<;>rfl,fun d=>by cases d<;>(intro h;cases h),fun d=>by cases d<;>rfl,fun d=>by cases d<;>rfl⟩
def rd16_0 (x:X16_0):RT (Sum X16_0 D16_0):=match x with
  | ⟨v0,v1,v2,v3,v4,v5,v6⟩ =>
     .br (decide (v0<(Int.ofNat v6))) (.br (F46_ok v1 v2 v3 (v4) v5 v6 v0) (.br (not (decide ((F46_0 v1 v2 v3 (v4) v5 v6 v0)=(0:Int)))) (.leaf (.inr (.k0 ((2:Int)) (v0) ((F46_0 v1 v2 v3 (v4) v5 v6 v0)) (v1) (v2) (v3) (v4) (v5) (v6)))) (.leaf (.inl ⟨(IntKind.wrap .i64 (v0+(1:Int))),v1,v2,v3,v4,v5,v6⟩))) (.no)) (.leaf (.inr (.k1 (v1) (v2) (v3) (v4) (v5) (v6))))
theorem T16_0  (y:List Value) (v0:Int) (v1:ByteArray) (v2:Int) (v3:Int) (v4:Array Value) (v5:Nat) (v6:Nat):evC Try.prog (Ans.c (p45.or p46)) 60 (.code none (theLoop Try.prog 16 0) ⟨sets (junkF 64 y) [(1,(Value.pointer (Option.some (Addr.mk 0 0 Option.none)))),(6,(.int .i64 v0))],[],⟨[.cells ⟨[(.string v1),(.int .i64 v2),(.int .i64 v3),(lstV v4 v5 v6 4)]⟩ false],0,[]⟩⟩) (sumK 1 64 Lp16_0.pk)=(rd16_0 ⟨v0,v1,v2,v3,v4,v5,v6⟩).out Lp16_0.enc:=by kernel_rfl
def L16_0 (x:X16_0):Option D16_0:=loopR rd16_0 x
section
variable (x:X16_0)
def L16_0_k0:Bool:=match L16_0 x with | some (.k0 ..)=>true | _=>false
def Ql0:Int:=match L16_0 x with | some (.k0 d _ _ _ _ _ _ _ _)=>d | _=>0
def Ql1:Int:=match L16_0 x with | some (.k0 _ d _ _ _ _ _ _ _)=>d | _=>0
def Ql2:Int:=match L16_0 x with | some (.k0 _ _ d _ _ _ _ _ _)=>d | _=>0
def Ql3:ByteArray:=match L16_0 x with | some (.k0 _ _ _ d _ _ _ _ _)=>d | _=>ByteArray.empty
def Ql4:Int:=match L16_0 x with | some (.k0 _ _ _ _ d _ _ _ _)=>d | _=>0
def Ql5:Int:=match L16_0 x with | some (.k0 _ _ _ _ _ d _ _ _)=>d | _=>0
def Ql6:Array Value:=match L16_0 x with | some (.k0 _ _ _ _ _ _ d _ _)=>d | _=>#[]
def Ql7:Nat:=match L16_0 x with | some (.k0 _ _ _ _ _ _ _ d _)=>d | _=>0
def Ql8:Nat:=match L16_0 x with | some (.k0 _ _ _ _ _ _ _ _ d)=>d | _=>0
def L16_0_k1:Bool:=match L16_0 x with | some (.k1 ..)=>true | _=>false
def Qm0:ByteArray:=match L16_0 x with | some (.k1 d _ _ _ _ _)=>d | _=>ByteArray.empty
def Qm1:Int:=match L16_0 x with | some (.k1 _ d _ _ _ _)=>d | _=>0
def Qm2:Int:=match L16_0 x with | some (.k1 _ _ d _ _ _)=>d | _=>0
def Qm3:Array Value:=match L16_0 x with | some (.k1 _ _ _ d _ _)=>d | _=>#[]
def Qm4:Nat:=match L16_0 x with | some (.k1 _ _ _ _ d _)=>d | _=>0
def Qm5:Nat:=match L16_0 x with | some (.k1 _ _ _ _ _ d)=>d | _=>0
end
def dec16_0:Task→Option (Code×X16_0)
  | .code none (.loop code) ⟨t,[],⟨[.cells ⟨[(.string v1),(.int .i64 v2),(.int .i64 v3),(.func (.via 0 ⟨[]⟩ 0 true) v4 ⟨[.slice (some ⟨0,v5,none⟩) v6 4]⟩)]⟩ false],0,[]⟩⟩ =>
    (match Nat.beq (firstReg code) 7,lenIs t 64,lget t 1,lget t 6 with
    | true,true,(Value.pointer (Option.some (Addr.mk 0 0 Option.none))),(.int .i64 v0)=>some (code,⟨v0,v1,v2,v3,v4,v5,v6⟩)
    | _,_,_,_=>none)
  | _=>none
def alt16_0 (x:X16_0)(j:List Value):AT:=.br (L16_0_k0 x) (loopEnd 64 (.ret) [(2,(.int .i64 (Ql0 x))),(3,(.int .i64 (Ql1 x))),(4,(.int .i64 (Ql2 x)))] ⟨[.cells ⟨[(.string (Ql3 x)),(.int .i64 (Ql4 x)),(.int .i64 (Ql5 x)),(lstV (Ql6 x) (Ql7 x) (Ql8 x) 4)]⟩ false],0,[]⟩ j) (.br (L16_0_k1 x) (loopEnd 64 (.exit 0) [] ⟨[.cells ⟨[(.string (Qm0 x)),(.int .i64 (Qm1 x)),(.int .i64 (Qm2 x)),(lstV (Qm3 x) (Qm4 x) (Qm5 x) 4)]⟩ false],0,[]⟩ j) (.no))
def la16_0 (J:Task→List Value):Ans:=loopAns Lp16_0.c dec16_0 alt16_0 J
theorem ha16_0:∀(x:X16_0) (j:List Value)(o:Out),(alt16_0 x j).out=some o→∃d,loopR rd16_0 x=some d∧o=Lp16_0.tail d j:=by
  intro x j o h
  unfold alt16_0 at h
  cases hL:L16_0 x with
  | none=>simp [L16_0_k0,Ql0,Ql1,Ql2,Ql3,Ql4,Ql5,Ql6,Ql7,Ql8,L16_0_k1,Qm0,Qm1,Qm2,Qm3,Qm4,Qm5,hL,AT.out]at h
  | some d =>
    refine ⟨d,hL,?_⟩
    cases d<;>(simp only [L16_0_k0,Ql0,Ql1,Ql2,Ql3,Ql4,Ql5,Ql6,Ql7,Ql8,L16_0_k1,Qm0,Qm1,Qm2,Qm3,Qm4,Qm5,hL,AT.out,loopEnd,cond_true,cond_false,Option.some.injEq]at h;rw [← h];rfl)
theorem hd16_0:∀(t:Task) (c:Code)(x:X16_0),dec16_0 t=some (c,x)→c=Lp16_0.c→∃T,t=.code none (.loop Lp16_0.c) ⟨T,[],⟨Lp16_0.hp x,0,[]⟩⟩∧T.length=Lp16_0.N∧∀kv∈Lp16_0.S.zip (Lp16_0.sl x),lget T kv.1=kv.2:=by
  intro t c x h hc
  unfold dec16_0 at h
  split at h
  case h_2=>cases h
  split at h
  case h_2=>cases h
  simp only [Option.some.injEq,Prod.mk.injEq]at h
  obtain ⟨rfl,rfl⟩:=h
  subst hc
  refine ⟨_,rfl,lenIs_eq _ _ (by assumption),?_⟩
  intro kv hk
  simp only [Lp16_0,List.zip_cons_cons,List.zip_nil_right,List.mem_cons,List.not_mem_nil,or_false]at hk
  rcases hk with rfl | rfl<;>assumption
theorem kl16_0:∃J,Known Try.prog (la16_0 J):=by
  exact LoopOf.known noNG mixed ok16_0 (by decide) (by decide) (Known.or known45 known46) (n:=60) (rd:=rd16_0) (fun x j=>T16_0  j x.v0 x.v1 x.v2 x.v3 x.v4 x.v5 x.v6) dec16_0 alt16_0 hd16_0 ha16_0
structure R16 where
  r0:Int
  r1:Int
  r2:Int
structure A16 where
  a0:ByteArray
  a1:Int
  a2:Int
  a3:Array Value
  a4:Nat
  a5:Nat
def rt16 (a0:ByteArray)(a1:Int)(a2:Int)(a3:Array Value)(a4:Nat)(a5:Nat):RT R16 :=
  .br (F45_ok (Int.ofNat (ByteArray.size a0)) (1:Int) (4:Int)) (.br (not (F45_0 (Int.ofNat (ByteArray.size a0)) (1:Int) (4:Int))) (.leaf ⟨(1:Int),(0:Int),(3:Int)⟩) (.br (decide ((12:Int)<(Int.ofNat a5))) (.leaf ⟨(1:Int),(0:Int),(3:Int)⟩) (.br (decide (a2=(1:Int))) (.br (F45_ok a1 (1:Int) (32:Int)) (.br (not (F45_0 a1 (1:Int) (32:Int))) (.leaf ⟨(1:Int),(0:Int),(7:Int)⟩)
       (.sw (eqCode (Lp16_0.c) (Lp16_0.c)) true (by simp only [eqCode_self,arrEq_self]) (.br (L16_0_k0 (X16_0.mk (0:Int) a0 a1 a2 a3 a4 a5)) (.leaf ⟨(Ql0 (X16_0.mk (0:Int) a0 a1 a2 a3 a4 a5)),(Ql1 (X16_0.mk (0:Int) a0 a1 a2 a3 a4 a5)),(Ql2 (X16_0.mk (0:Int) a0 a1 a2 a3 a4 a5))⟩) (.br (L16_0_k1 (X16_0.mk (0:Int) a0 a1 a2 a3 a4 a5)) (.leaf ⟨(0:Int),(0:Int),(0:Int)⟩) (.no))) (.no))) (.no)) (.br (decide (a2=(2:Int))) (.br (F45_ok a1 (1:Int) (32:Int)) (.br (not (F45_0 a1 (1:Int) (32:Int))) (.leaf ⟨(1:Int),(0:Int),(7:Int)⟩)
        (.sw (eqCode (Lp16_0.c) (Lp16_0.c)) true (by simp only [eqCode_self,arrEq_self]) (.br (L16_0_k0 (X16_0.mk (0:Int) a0 a1 a2 a3 a4 a5)) (.leaf ⟨(Ql0 (X16_0.mk (0:Int) a0 a1 a2 a3 a4 a5)),(Ql1 (X16_0.mk (0:Int) a0 a1 a2 a3 a4 a5)),(Ql2 (X16_0.mk (0:Int) a0 a1 a2 a3 a4 a5))⟩) (.br (L16_0_k1 (X16_0.mk (0:Int) a0 a1 a2 a3 a4 a5)) (.leaf ⟨(0:Int),(0:Int),(0:Int)⟩) (.no))) (.no))) (.no)) (.br (decide (a2=(4:Int))) (.br (F45_ok a1 (1:Int) (32:Int)) (.br (not (F45_0 a1 (1:Int) (32:Int))) (.leaf ⟨(1:Int),(0:Int),(7:Int)⟩)
         (.sw (eqCode (Lp16_0.c) (Lp16_0.c)) true (by simp only [eqCode_self,arrEq_self]) (.br (L16_0_k0 (X16_0.mk (0:Int) a0 a1 a2 a3 a4 a5)) (.leaf ⟨(Ql0 (X16_0.mk (0:Int) a0 a1 a2 a3 a4 a5)),(Ql1 (X16_0.mk (0:Int) a0 a1 a2 a3 a4 a5)),(Ql2 (X16_0.mk (0:Int) a0 a1 a2 a3 a4 a5))⟩) (.br (L16_0_k1 (X16_0.mk (0:Int) a0 a1 a2 a3 a4 a5)) (.leaf ⟨(0:Int),(0:Int),(0:Int)⟩) (.no))) (.no))) (.no)) (.br (decide (a2=(8:Int))) (.br (F45_ok a1 (1:Int) (32:Int)) (.br (not (F45_0 a1 (1:Int) (32:Int))) (.leaf ⟨(1:Int),(0:Int),(7:Int)⟩)
          (.sw (eqCode (Lp16_0.c) (Lp16_0.c)) true (by simp only [eqCode_self,arrEq_self]) (.br (L16_0_k0 (X16_0.mk (0:Int) a0 a1 a2 a3 a4 a5)) (.leaf ⟨(Ql0 (X16_0.mk (0:Int) a0 a1 a2 a3 a4 a5)),(Ql1 (X16_0.mk (0:Int) a0 a1 a2 a3 a4 a5)),(Ql2 (X16_0.mk (0:Int) a0 a1 a2 a3 a4 a5))⟩) (.br (L16_0_k1 (X16_0.mk (0:Int) a0 a1 a2 a3 a4 a5)) (.leaf ⟨(0:Int),(0:Int),(0:Int)⟩) (.no))) (.no))) (.no)) (.br (F45_ok a1 (1:Int) (32:Int)) (.br (not (F45_0 a1 (1:Int) (32:Int))) (.leaf ⟨(1:Int),(0:Int),(7:Int)⟩) (.br (not (decide (a2=(16:Int)))) (.leaf ⟨(1:Int),(0:Int),(7:Int)⟩)
           (.sw (eqCode (Lp16_0.c) (Lp16_0.c)) true (by simp only [eqCode_self,arrEq_self]) (.br (L16_0_k0 (X16_0.mk (0:Int) a0 a1 a2 a3 a4 a5)) (.leaf ⟨(Ql0 (X16_0.mk (0:Int) a0 a1 a2 a3 a4 a5)),(Ql1 (X16_0.mk (0:Int) a0 a1 a2 a3 a4 a5)),(Ql2 (X16_0.mk (0:Int) a0 a1 a2 a3 a4 a5))⟩) (.br (L16_0_k1 (X16_0.mk (0:Int) a0 a1 a2 a3 a4 a5)) (.leaf ⟨(0:Int),(0:Int),(0:Int)⟩) (.no))) (.no)))) (.no)))))))) (.no)
def en16 (r:R16):Value:=(.tuple ⟨[(.int .i64 r.r0),(.int .i64 r.r1),(.int .i64 r.r2)]⟩)
theorem T16 (J0:Task→List Value)(a0:ByteArray)(a1:Int)(a2:Int)(a3:Array Value)(a4:Nat)(a5:Nat):evC Try.prog (Ans.c (p45.or (p46.or (la16_0 J0)))) 60 (.call 16 ⟨[(.agg ⟨[(.string a0),(.int .i64 a1),(.int .i64 a2),(lstV a3 a4 a5 4)]⟩)]⟩ ⟨[],0,[]⟩) (frzK [0,0,0])=(rt16 a0 a1 a2 a3 a4 a5).out (fun r=>.ret (en16 r) ⟨[],0,[]⟩):=by kernel_rfl
def F16 (a0:ByteArray)(a1:Int)(a2:Int)(a3:Array Value)(a4:Nat)(a5:Nat):Option R16:=(rt16 a0 a1 a2 a3 a4 a5).val
section
variable (a0:ByteArray) (a1:Int) (a2:Int) (a3:Array Value) (a4:Nat) (a5:Nat)
def F16_ok:Bool:=(F16 a0 a1 a2 a3 a4 a5).isSome
def F16_0:Int:=match F16 a0 a1 a2 a3 a4 a5 with | some r=>r.r0 | none=>0
def F16_1:Int:=match F16 a0 a1 a2 a3 a4 a5 with | some r=>r.r1 | none=>0
def F16_2:Int:=match F16 a0 a1 a2 a3 a4 a5 with | some r=>r.r2 | none=>0
end
def dec16:Task→Option (A16×Hp)
  | .call g ⟨[(.agg ⟨[(.string a0),(.int .i64 a1),(.int .i64 a2),(.func (.via 0 ⟨[]⟩ 0 true) a3 ⟨[.slice (some ⟨0,a4,none⟩) a5 4]⟩)]⟩)]⟩ h=>(match Nat.beq g 16 with | true=>some (⟨a0,a1,a2,a3,a4,a5⟩,h) | false=>none)
  | _=>none
def alt16 (x:A16)(h:Hp):AT:=.br (F16_ok x.a0 x.a1 x.a2 x.a3 x.a4 x.a5) (.leaf (.ret (.tuple ⟨[(.int .i64 (F16_0 x.a0 x.a1 x.a2 x.a3 x.a4 x.a5)),(.int .i64 (F16_1 x.a0 x.a1 x.a2 x.a3 x.a4 x.a5)),(.int .i64 (F16_2 x.a0 x.a1 x.a2 x.a3 x.a4 x.a5))]⟩) h)) .no
def p16:Ans:=fnAns dec16 alt16
theorem ha16:∀(x:A16) (h:Hp)(o:Out),(alt16 x h).out=some o→∃r,(rt16 x.a0 x.a1 x.a2 x.a3 x.a4 x.a5).val=some r∧o=.ret (en16 r) h:=by
  intro x h o e
  unfold alt16 at e
  simp only [AT.out]at e
  obtain ⟨g,e⟩:=cond_some e
  unfold F16_ok at g
  obtain ⟨r,hF⟩:=Option.isSome_iff_exists.1 g
  have hv:F16 x.a0 x.a1 x.a2 x.a3 x.a4 x.a5=(rt16 x.a0 x.a1 x.a2 x.a3 x.a4 x.a5).val:=by delta F16;exact rfl
  refine ⟨r,hv.symm.trans hF,?_⟩
  simp only [Option.some.injEq]at e
  rw [← e]
  have k0:F16_0 x.a0 x.a1 x.a2 x.a3 x.a4 x.a5=r.r0:=by
    show (match F16 x.a0 x.a1 x.a2 x.a3 x.a4 x.a5 with | some r=>r.r0 | none=>0)=r.r0
    rw [hF]
  have k1:F16_1 x.a0 x.a1 x.a2 x.a3 x.a4 x.a5=r.r1:=by
    show (match F16 x.a0 x.a1 x.a2 x.a3 x.a4 x.a5 with | some r=>r.r1 | none=>0)=r.r1
    rw [hF]
  have k2:F16_2 x.a0 x.a1 x.a2 x.a3 x.a4 x.a5=r.r2:=by
    show (match F16 x.a0 x.a1 x.a2 x.a3 x.a4 x.a5 with | some r=>r.r2 | none=>0)=r.r2
    rw [hF]
  rw [k0,k1,k2]<;>rfl
theorem hd16:∀(t:Task) (x:A16)(h:Hp),dec16 t=some (x,h)→t=.call 16 ⟨[(.agg ⟨[(.string x.a0),(.int .i64 x.a1),(.int .i64 x.a2),(lstV x.a3 x.a4 x.a5 4)]⟩)]⟩ h:=by
  intro t x h e
  unfold dec16 at e
  split at e
  case h_2=>cases e
  split at e
  case h_2=>cases e
  rename_i hg
  simp only [Option.some.injEq,Prod.mk.injEq]at e
  obtain ⟨rfl,rfl⟩:=e
  rw [Nat.eq_of_beq_eq_true hg]
theorem known16:Known Try.prog p16:=by
  obtain ⟨J0,hJ0⟩:=kl16_0
  exact Known.fn noNG mixed (Known.or known45 (Known.or known46 hJ0)) (n:=60) (zs:=[0,0,0]) 16 (fun x:A16=>[(.agg ⟨[(.string x.a0),(.int .i64 x.a1),(.int .i64 x.a2),(lstV x.a3 x.a4 x.a5 4)]⟩)]) (fun x=>rt16 x.a0 x.a1 x.a2 x.a3 x.a4 x.a5) en16 (fun x=>T16 J0 x.a0 x.a1 x.a2 x.a3 x.a4 x.a5) (fun x=>rfl) dec16 alt16 hd16 ha16
structure R47 where
  r0:Bool
structure A47 where
  a0:Int
  a1:Int
def rt47 (a0:Int)(a1:Int):RT R47 :=
  .br (F42_ok a0 (IntKind.wrap .i64 ((0:Int)-a1)) a1) (.leaf ⟨(F42_0 a0 (IntKind.wrap .i64 ((0:Int)-a1)) a1)⟩) (.no)
def en47 (r:R47):Value:=(.bool r.r0)
theorem T47  (a0:Int) (a1:Int):evC Try.prog (Ans.c p42) 60 (.call 47 ⟨[(.int .i64 a0),(.int .i64 a1)]⟩ ⟨[],0,[]⟩) (frzK [0])=(rt47 a0 a1).out (fun r=>.ret (en47 r) ⟨[],0,[]⟩):=by kernel_rfl
def F47 (a0:Int)(a1:Int):Option R47:=(rt47 a0 a1).val
section
variable (a0:Int) (a1:Int)
def F47_ok:Bool:=(F47 a0 a1).isSome
def F47_0:Bool:=match F47 a0 a1 with | some r=>r.r0 | none=>false
end
def dec47:Task→Option (A47×Hp)
  | .call g ⟨[(.int .i64 a0),(.int .i64 a1)]⟩ h=>(match Nat.beq g 47 with | true=>some (⟨a0,a1⟩,h) | false=>none)
  | _=>none
def alt47 (x:A47)(h:Hp):AT:=.br (F47_ok x.a0 x.a1) (.leaf (.ret (.bool (F47_0 x.a0 x.a1)) h)) .no
def p47:Ans:=fnAns dec47 alt47
theorem ha47:∀(x:A47) (h:Hp)(o:Out),(alt47 x h).out=some o→∃r,(rt47 x.a0 x.a1).val=some r∧o=.ret (en47 r) h:=by
  intro x h o e
  unfold alt47 at e
  simp only [AT.out]at e
  obtain ⟨g,e⟩:=cond_some e
  unfold F47_ok at g
  obtain ⟨r,hF⟩:=Option.isSome_iff_exists.1 g
  have hv:F47 x.a0 x.a1=(rt47 x.a0 x.a1).val:=by delta F47;exact rfl
  refine ⟨r,hv.symm.trans hF,?_⟩
  simp only [Option.some.injEq]at e
  rw [← e]
  have k0:F47_0 x.a0 x.a1=r.r0:=by
    show (match F47 x.a0 x.a1 with | some r=>r.r0 | none=>false)=r.r0
    rw [hF]
  rw [k0]<;>rfl
theorem hd47:∀(t:Task) (x:A47)(h:Hp),dec47 t=some (x,h)→t=.call 47 ⟨[(.int .i64 x.a0),(.int .i64 x.a1)]⟩ h:=by
  intro t x h e
  unfold dec47 at e
  split at e
  case h_2=>cases e
  split at e
  case h_2=>cases e
  rename_i hg
  simp only [Option.some.injEq,Prod.mk.injEq]at e
  obtain ⟨rfl,rfl⟩:=e
  rw [Nat.eq_of_beq_eq_true hg]
theorem known47:Known Try.prog p47:=by
  exact Known.fn noNG mixed known42 (n:=60) (zs:=[0]) 47 (fun x:A47=>[(.int .i64 x.a0),(.int .i64 x.a1)]) (fun x=>rt47 x.a0 x.a1) en47 (fun x=>T47  x.a0 x.a1) (fun x=>rfl) dec47 alt47 hd47 ha47
structure R48 where
  r0:Bool
structure A48 where
  a0:Int
  a1:Int
  a2:Int
  a3:Int
def rt48 (a0:Int)(a1:Int)(a2:Int)(a3:Int):RT R48 :=
  .br (F47_ok a0 a3) (.br (F47_0 a0 a3) (.br (F47_ok a1 a3) (.br (F47_0 a1 a3) (.br (F47_ok a2 a3) (.leaf ⟨(F47_0 a2 a3)⟩) (.no)) (.leaf ⟨false⟩)) (.no)) (.leaf ⟨false⟩)) (.no)
def en48 (r:R48):Value:=(.bool r.r0)
theorem T48  (a0:Int) (a1:Int) (a2:Int) (a3:Int):evC Try.prog (Ans.c p47) 60 (.call 48 ⟨[(.agg ⟨[(.int .i64 a0),(.int .i64 a1),(.int .i64 a2)]⟩),(.int .i64 a3)]⟩ ⟨[],0,[]⟩) (frzK [0])=(rt48 a0 a1 a2 a3).out (fun r=>.ret (en48 r) ⟨[],0,[]⟩):=by kernel_rfl
def F48 (a0:Int)(a1:Int)(a2:Int)(a3:Int):Option R48:=(rt48 a0 a1 a2 a3).val
section
variable (a0:Int) (a1:Int) (a2:Int) (a3:Int)
def F48_ok:Bool:=(F48 a0 a1 a2 a3).isSome
def F48_0:Bool:=match F48 a0 a1 a2 a3 with | some r=>r.r0 | none=>false
end
def dec48:Task→Option (A48×Hp)
  | .call g ⟨[(.agg ⟨[(.int .i64 a0),(.int .i64 a1),(.int .i64 a2)]⟩),(.int .i64 a3)]⟩ h=>(match Nat.beq g 48 with | true=>some (⟨a0,a1,a2,a3⟩,h) | false=>none)
  | _=>none
def alt48 (x:A48)(h:Hp):AT:=.br (F48_ok x.a0 x.a1 x.a2 x.a3) (.leaf (.ret (.bool (F48_0 x.a0 x.a1 x.a2 x.a3)) h)) .no
def p48:Ans:=fnAns dec48 alt48
theorem ha48:∀(x:A48) (h:Hp)(o:Out),(alt48 x h).out=some o→∃r,(rt48 x.a0 x.a1 x.a2 x.a3).val=some r∧o=.ret (en48 r) h:=by
  intro x h o e
  unfold alt48 at e
  simp only [AT.out]at e
  obtain ⟨g,e⟩:=cond_some e
  unfold F48_ok at g
  obtain ⟨r,hF⟩:=Option.isSome_iff_exists.1 g
  have hv:F48 x.a0 x.a1 x.a2 x.a3=(rt48 x.a0 x.a1 x.a2 x.a3).val:=by delta F48;exact rfl
  refine ⟨r,hv.symm.trans hF,?_⟩
  simp only [Option.some.injEq]at e
  rw [← e]
  have k0:F48_0 x.a0 x.a1 x.a2 x.a3=r.r0:=by
    show (match F48 x.a0 x.a1 x.a2 x.a3 with | some r=>r.r0 | none=>false)=r.r0
    rw [hF]
  rw [k0]<;>rfl
theorem hd48:∀(t:Task) (x:A48)(h:Hp),dec48 t=some (x,h)→t=.call 48 ⟨[(.agg ⟨[(.int .i64 x.a0),(.int .i64 x.a1),(.int .i64 x.a2)]⟩),(.int .i64 x.a3)]⟩ h:=by
  intro t x h e
  unfold dec48 at e
  split at e
  case h_2=>cases e
  split at e
  case h_2=>cases e
  rename_i hg
  simp only [Option.some.injEq,Prod.mk.injEq]at e
  obtain ⟨rfl,rfl⟩:=e
  rw [Nat.eq_of_beq_eq_true hg]
theorem known48:Known Try.prog p48:=by
  exact Known.fn noNG mixed known47 (n:=60) (zs:=[0]) 48 (fun x:A48=>[(.agg ⟨[(.int .i64 x.a0),(.int .i64 x.a1),(.int .i64 x.a2)]⟩),(.int .i64 x.a3)]) (fun x=>rt48 x.a0 x.a1 x.a2 x.a3) en48 (fun x=>T48  x.a0 x.a1 x.a2 x.a3) (fun x=>rfl) dec48 alt48 hd48 ha48
structure R86 where
  r0:Int
structure A86 where
  a0:Int
  a1:Int
  a2:Int
  a3:Int
  a4:Int
  a5:Int
def rt86 (a0:Int)(a1:Int)(a2:Int)(a3:Int)(a4:Int)(a5:Int):RT R86 :=
  .leaf ⟨(IntKind.wrap .i64 ((IntKind.wrap .i64 ((IntKind.wrap .i64 (a0*a3))+(IntKind.wrap .i64 (a1*a4))))+(IntKind.wrap .i64 (a2*a5))))⟩
def en86 (r:R86):Value:=(.int .i64 r.r0)
theorem T86  (a0:Int) (a1:Int) (a2:Int) (a3:Int) (a4:Int) (a5:Int):evC Try.prog (Ans.c (fun _=>none:Ans)) 60 (.call 86 ⟨[(.agg ⟨[(.int .i64 a0),(.int .i64 a1),(.int .i64 a2)]⟩),(.agg ⟨[(.int .i64 a3),(.int .i64 a4),(.int .i64 a5)]⟩)]⟩ ⟨[],0,[]⟩) (frzK [0])=(rt86 a0 a1 a2 a3 a4 a5).out (fun r=>.ret (en86 r) ⟨[],0,[]⟩):=by kernel_rfl
def F86 (a0:Int)(a1:Int)(a2:Int)(a3:Int)(a4:Int)(a5:Int):Option R86:=(rt86 a0 a1 a2 a3 a4 a5).val
section
variable (a0:Int) (a1:Int) (a2:Int) (a3:Int) (a4:Int) (a5:Int)
def F86_ok:Bool:=(F86 a0 a1 a2 a3 a4 a5).isSome
def F86_0:Int:=match F86 a0 a1 a2 a3 a4 a5 with | some r=>r.r0 | none=>0
end
def dec86:Task→Option (A86×Hp)
  | .call g ⟨[(.agg ⟨[(.int .i64 a0),(.int .i64 a1),(.int .i64 a2)]⟩),(.agg ⟨[(.int .i64 a3),(.int .i64 a4),(.int .i64 a5)]⟩)]⟩ h=>(match Nat.beq g 86 with | true=>some (⟨a0,a1,a2,a3,a4,a5⟩,h) | false=>none)
  | _=>none
def alt86 (x:A86)(h:Hp):AT:=.br (F86_ok x.a0 x.a1 x.a2 x.a3 x.a4 x.a5) (.leaf (.ret (.int .i64 (F86_0 x.a0 x.a1 x.a2 x.a3 x.a4 x.a5)) h)) .no
def p86:Ans:=fnAns dec86 alt86
theorem ha86:∀(x:A86) (h:Hp)(o:Out),(alt86 x h).out=some o→∃r,(rt86 x.a0 x.a1 x.a2 x.a3 x.a4 x.a5).val=some r∧o=.ret (en86 r) h:=by
  intro x h o e
  unfold alt86 at e
  simp only [AT.out]at e
  obtain ⟨g,e⟩:=cond_some e
  unfold F86_ok at g
  obtain ⟨r,hF⟩:=Option.isSome_iff_exists.1 g
  have hv:F86 x.a0 x.a1 x.a2 x.a3 x.a4 x.a5=(rt86 x.a0 x.a1 x.a2 x.a3 x.a4 x.a5).val:=by delta F86;exact rfl
  refine ⟨r,hv.symm.trans hF,?_⟩
  simp only [Option.some.injEq]at e
  rw [← e]
  have k0:F86_0 x.a0 x.a1 x.a2 x.a3 x.a4 x.a5=r.r0:=by
    show (match F86 x.a0 x.a1 x.a2 x.a3 x.a4 x.a5 with | some r=>r.r0 | none=>0)=r.r0
    rw [hF]
  rw [k0]<;>rfl
theorem hd86:∀(t:Task) (x:A86)(h:Hp),dec86 t=some (x,h)→t=.call 86 ⟨[(.agg ⟨[(.int .i64 x.a0),(.int .i64 x.a1),(.int .i64 x.a2)]⟩),(.agg ⟨[(.int .i64 x.a3),(.int .i64 x.a4),(.int .i64 x.a5)]⟩)]⟩ h:=by
  intro t x h e
  unfold dec86 at e
  split at e
  case h_2=>cases e
  split at e
  case h_2=>cases e
  rename_i hg
  simp only [Option.some.injEq,Prod.mk.injEq]at e
  obtain ⟨rfl,rfl⟩:=e
  rw [Nat.eq_of_beq_eq_true hg]
theorem known86:Known Try.prog p86:=by
  exact Known.fn noNG mixed (Known.nothing Try.prog) (n:=60) (zs:=[0]) 86 (fun x:A86=>[(.agg ⟨[(.int .i64 x.a0),(.int .i64 x.a1),(.int .i64 x.a2)]⟩),(.agg ⟨[(.int .i64 x.a3),(.int .i64 x.a4),(.int .i64 x.a5)]⟩)]) (fun x=>rt86 x.a0 x.a1 x.a2 x.a3 x.a4 x.a5) en86 (fun x=>T86  x.a0 x.a1 x.a2 x.a3 x.a4 x.a5) (fun x=>rfl) dec86 alt86 hd86 ha86
structure R49 where
  r0:Bool
structure A49 where
  a0:Array Value
  a1:Nat
  a2:Nat
  a3:Int
  a4:Array Value
  a5:Nat
  a6:Nat
  a7:Int
  a8:Int
  a9:Int
  a10:Int
  a11:Int
  a12:Int
def rt49 (a0:Array Value)(a1:Nat)(a2:Nat)(a3:Int)(a4:Array Value)(a5:Nat)(a6:Nat)(a7:Int)(a8:Int)(a9:Int)(a10:Int)(a11:Int)(a12:Int):RT R49 :=
  .br (decide (a3=a3)) (.br (decide (a3=a3)) (.leaf ⟨(decide (a3≤(F86_0 a7 a8 a9 a10 a11 a12)))⟩) (.no)) (.no)
def en49 (r:R49):Value:=(.bool r.r0)
theorem T49  (a0:Array Value) (a1:Nat) (a2:Nat) (a3:Int) (a4:Array Value) (a5:Nat) (a6:Nat) (a7:Int) (a8:Int) (a9:Int) (a10:Int) (a11:Int) (a12:Int):evC Try.prog (Ans.c p86) 60 (.call 49 ⟨[(.agg ⟨[(lstV a0 a1 a2 3),(.int .i64 a3),(lstV a4 a5 a6 7)]⟩),(.agg ⟨[(.int .i64 a7),(.int .i64 a8),(.int .i64 a9)]⟩),(.agg ⟨[(.int .i64 a10),(.int .i64 a11),(.int .i64 a12)]⟩)]⟩ ⟨[],0,[]⟩) (frzK [0])=(rt49 a0 a1 a2 a3 a4 a5 a6 a7 a8 a9 a10 a11 a12).out (fun r=>.ret (en49 r) ⟨[],0,[]⟩):=by kernel_rfl
def F49 (a0:Array Value)(a1:Nat)(a2:Nat)(a3:Int)(a4:Array Value)(a5:Nat)(a6:Nat)(a7:Int)(a8:Int)(a9:Int)(a10:Int)(a11:Int)(a12:Int):Option R49:=(rt49 a0 a1 a2 a3 a4 a5 a6 a7 a8 a9 a10 a11 a12).val
section
variable (a0:Array Value) (a1:Nat) (a2:Nat) (a3:Int) (a4:Array Value) (a5:Nat) (a6:Nat) (a7:Int) (a8:Int) (a9:Int) (a10:Int) (a11:Int) (a12:Int)
def F49_ok:Bool:=(F49 a0 a1 a2 a3 a4 a5 a6 a7 a8 a9 a10 a11 a12).isSome
def F49_0:Bool:=match F49 a0 a1 a2 a3 a4 a5 a6 a7 a8 a9 a10 a11 a12 with | some r=>r.r0 | none=>false
end
def dec49:Task→Option (A49×Hp)
  | .call g ⟨[(.agg ⟨[(.func (.via 0 ⟨[]⟩ 0 true) a0 ⟨[.slice (some ⟨0,a1,none⟩) a2 3]⟩),(.int .i64 a3),(.func (.via 0 ⟨[]⟩ 0 true) a4 ⟨[.slice (some ⟨0,a5,none⟩) a6 7]⟩)]⟩),(.agg ⟨[(.int .i64 a7),(.int .i64 a8),(.int .i64 a9)]⟩),(.agg ⟨[(.int .i64 a10),(.int .i64 a11),(.int .i64 a12)]⟩)]⟩ h=>(match Nat.beq g 49 with | true=>some (⟨a0,a1,a2,a3,a4,a5,a6,a7,a8,a9,a10,a11,a12⟩,h) | false=>none)
  | _=>none
def alt49 (x:A49)(h:Hp):AT:=.br (F49_ok x.a0 x.a1 x.a2 x.a3 x.a4 x.a5 x.a6 x.a7 x.a8 x.a9 x.a10 x.a11 x.a12) (.leaf (.ret (.bool (F49_0 x.a0 x.a1 x.a2 x.a3 x.a4 x.a5 x.a6 x.a7 x.a8 x.a9 x.a10 x.a11 x.a12)) h)) .no
def p49:Ans:=fnAns dec49 alt49
theorem ha49:∀(x:A49) (h:Hp)(o:Out),(alt49 x h).out=some o→∃r,(rt49 x.a0 x.a1 x.a2 x.a3 x.a4 x.a5 x.a6 x.a7 x.a8 x.a9 x.a10 x.a11 x.a12).val=some r∧o=.ret (en49 r) h:=by
  intro x h o e
  unfold alt49 at e
  simp only [AT.out]at e
  obtain ⟨g,e⟩:=cond_some e
  unfold F49_ok at g
  obtain ⟨r,hF⟩:=Option.isSome_iff_exists.1 g
  have hv:F49 x.a0 x.a1 x.a2 x.a3 x.a4 x.a5 x.a6 x.a7 x.a8 x.a9 x.a10 x.a11 x.a12=(rt49 x.a0 x.a1 x.a2 x.a3 x.a4 x.a5 x.a6 x.a7 x.a8 x.a9 x.a10 x.a11 x.a12).val:=by delta F49;exact rfl
  refine ⟨r,hv.symm.trans hF,?_⟩
  simp only [Option.some.injEq]at e
  rw [← e]
  have k0:F49_0 x.a0 x.a1 x.a2 x.a3 x.a4 x.a5 x.a6 x.a7 x.a8 x.a9 x.a10 x.a11 x.a12=r.r0:=by
    show (match F49 x.a0 x.a1 x.a2 x.a3 x.a4 x.a5 x.a6 x.a7 x.a8 x.a9 x.a10 x.a11 x.a12 with | some r=>r.r0 | none=>false)=r.r0
    rw [hF]
  rw [k0]<;>rfl
theorem hd49:∀(t:Task) (x:A49)(h:Hp),dec49 t=some (x,h)→t=.call 49 ⟨[(.agg ⟨[(lstV x.a0 x.a1 x.a2 3),(.int .i64 x.a3),(lstV x.a4 x.a5 x.a6 7)]⟩),(.agg ⟨[(.int .i64 x.a7),(.int .i64 x.a8),(.int .i64 x.a9)]⟩),(.agg ⟨[(.int .i64 x.a10),(.int .i64 x.a11),(.int .i64 x.a12)]⟩)]⟩ h:=by
  intro t x h e
  unfold dec49 at e
  split at e
  case h_2=>cases e
  split at e
  case h_2=>cases e
  rename_i hg
  simp only [Option.some.injEq,Prod.mk.injEq]at e
  obtain ⟨rfl,rfl⟩:=e
  rw [Nat.eq_of_beq_eq_true hg]
theorem known49:Known Try.prog p49:=by
  exact Known.fn noNG mixed known86 (n:=60) (zs:=[0]) 49 (fun x:A49=>[(.agg ⟨[(lstV x.a0 x.a1 x.a2 3),(.int .i64 x.a3),(lstV x.a4 x.a5 x.a6 7)]⟩),(.agg ⟨[(.int .i64 x.a7),(.int .i64 x.a8),(.int .i64 x.a9)]⟩),(.agg ⟨[(.int .i64 x.a10),(.int .i64 x.a11),(.int .i64 x.a12)]⟩)]) (fun x=>rt49 x.a0 x.a1 x.a2 x.a3 x.a4 x.a5 x.a6 x.a7 x.a8 x.a9 x.a10 x.a11 x.a12) en49 (fun x=>T49  x.a0 x.a1 x.a2 x.a3 x.a4 x.a5 x.a6 x.a7 x.a8 x.a9 x.a10 x.a11 x.a12) (fun x=>rfl) dec49 alt49 hd49 ha49
structure R50 where
  r0:Bool
structure A50 where
  a0:Array Value
  a1:Nat
  a2:Nat
  a3:Int
def rt50 (a0:Array Value)(a1:Nat)(a2:Nat)(a3:Int):RT R50 :=
  .br (F42_ok a3 (0:Int) (IntKind.wrap .i64 ((Int.ofNat a2)-(1:Int)))) (.leaf ⟨(F42_0 a3 (0:Int) (IntKind.wrap .i64 ((Int.ofNat a2)-(1:Int))))⟩) (.no)
def en50 (r:R50):Value:=(.bool r.r0)
theorem T50  (a0:Array Value) (a1:Nat) (a2:Nat) (a3:Int):evC Try.prog (Ans.c p42) 60 (.call 50 ⟨[(lstV a0 a1 a2 4),(.int .i64 a3)]⟩ ⟨[],0,[]⟩) (frzK [0])=(rt50 a0 a1 a2 a3).out (fun r=>.ret (en50 r) ⟨[],0,[]⟩):=by kernel_rfl
def F50 (a0:Array Value)(a1:Nat)(a2:Nat)(a3:Int):Option R50:=(rt50 a0 a1 a2 a3).val
section
variable (a0:Array Value) (a1:Nat) (a2:Nat) (a3:Int)
def F50_ok:Bool:=(F50 a0 a1 a2 a3).isSome
def F50_0:Bool:=match F50 a0 a1 a2 a3 with | some r=>r.r0 | none=>false
end
def dec50:Task→Option (A50×Hp)
  | .call g ⟨[(.func (.via 0 ⟨[]⟩ 0 true) a0 ⟨[.slice (some ⟨0,a1,none⟩) a2 4]⟩),(.int .i64 a3)]⟩ h=>(match Nat.beq g 50 with | true=>some (⟨a0,a1,a2,a3⟩,h) | false=>none)
  | _=>none
def alt50 (x:A50)(h:Hp):AT:=.br (F50_ok x.a0 x.a1 x.a2 x.a3) (.leaf (.ret (.bool (F50_0 x.a0 x.a1 x.a2 x.a3)) h)) .no
def p50:Ans:=fnAns dec50 alt50
theorem ha50:∀(x:A50) (h:Hp)(o:Out),(alt50 x h).out=some o→∃r,(rt50 x.a0 x.a1 x.a2 x.a3).val=some r∧o=.ret (en50 r) h:=by
  intro x h o e
  unfold alt50 at e
  simp only [AT.out]at e
  obtain ⟨g,e⟩:=cond_some e
  unfold F50_ok at g
  obtain ⟨r,hF⟩:=Option.isSome_iff_exists.1 g
  have hv:F50 x.a0 x.a1 x.a2 x.a3=(rt50 x.a0 x.a1 x.a2 x.a3).val:=by delta F50;exact rfl
  refine ⟨r,hv.symm.trans hF,?_⟩
  simp only [Option.some.injEq]at e
  rw [← e]
  have k0:F50_0 x.a0 x.a1 x.a2 x.a3=r.r0:=by
    show (match F50 x.a0 x.a1 x.a2 x.a3 with | some r=>r.r0 | none=>false)=r.r0
    rw [hF]
  rw [k0]<;>rfl
theorem hd50:∀(t:Task) (x:A50)(h:Hp),dec50 t=some (x,h)→t=.call 50 ⟨[(lstV x.a0 x.a1 x.a2 4),(.int .i64 x.a3)]⟩ h:=by
  intro t x h e
  unfold dec50 at e
  split at e
  case h_2=>cases e
  split at e
  case h_2=>cases e
  rename_i hg
  simp only [Option.some.injEq,Prod.mk.injEq]at e
  obtain ⟨rfl,rfl⟩:=e
  rw [Nat.eq_of_beq_eq_true hg]
theorem known50:Known Try.prog p50:=by
  exact Known.fn noNG mixed known42 (n:=60) (zs:=[0]) 50 (fun x:A50=>[(lstV x.a0 x.a1 x.a2 4),(.int .i64 x.a3)]) (fun x=>rt50 x.a0 x.a1 x.a2 x.a3) en50 (fun x=>T50  x.a0 x.a1 x.a2 x.a3) (fun x=>rfl) dec50 alt50 hd50 ha50
structure R51 where
  r0:Int
  r1:Int
  r2:Int
structure A51 where
  a0:Int
  a1:Int
  a2:Int
  a3:Int
  a4:Int
  a5:Int
  a6:Bool
def rt51 (a0:Int)(a1:Int)(a2:Int)(a3:Int)(a4:Int)(a5:Int)(a6:Bool):RT R51 :=
  .leaf ⟨a1,a2,a3⟩
def en51 (r:R51):Value:=(.agg ⟨[(.int .i64 r.r0),(.int .i64 r.r1),(.int .i64 r.r2)]⟩)
theorem T51  (a0:Int) (a1:Int) (a2:Int) (a3:Int) (a4:Int) (a5:Int) (a6:Bool):evC Try.prog (Ans.c (fun _=>none:Ans)) 60 (.call 51 ⟨[(.agg ⟨[(.int .i64 a0),(.int .i64 a1),(.int .i64 a2),(.int .i64 a3),(.int .i64 a4),(.int .i64 a5),(.bool a6)]⟩)]⟩ ⟨[],0,[]⟩) (frzK [0])=(rt51 a0 a1 a2 a3 a4 a5 a6).out (fun r=>.ret (en51 r) ⟨[],0,[]⟩):=by kernel_rfl
def F51 (a0:Int)(a1:Int)(a2:Int)(a3:Int)(a4:Int)(a5:Int)(a6:Bool):Option R51:=(rt51 a0 a1 a2 a3 a4 a5 a6).val
section
variable (a0:Int) (a1:Int) (a2:Int) (a3:Int) (a4:Int) (a5:Int) (a6:Bool)
def F51_ok:Bool:=(F51 a0 a1 a2 a3 a4 a5 a6).isSome
def F51_0:Int:=match F51 a0 a1 a2 a3 a4 a5 a6 with | some r=>r.r0 | none=>0
def F51_1:Int:=match F51 a0 a1 a2 a3 a4 a5 a6 with | some r=>r.r1 | none=>0
def F51_2:Int:=match F51 a0 a1 a2 a3 a4 a5 a6 with | some r=>r.r2 | none=>0
end
def dec51:Task→Option (A51×Hp)
  | .call g ⟨[(.agg ⟨[(.int .i64 a0),(.int .i64 a1),(.int .i64 a2),(.int .i64 a3),(.int .i64 a4),(.int .i64 a5),(.bool a6)]⟩)]⟩ h=>(match Nat.beq g 51 with | true=>some (⟨a0,a1,a2,a3,a4,a5,a6⟩,h) | false=>none)
  | _=>none
def alt51 (x:A51)(h:Hp):AT:=.br (F51_ok x.a0 x.a1 x.a2 x.a3 x.a4 x.a5 x.a6) (.leaf (.ret (.agg ⟨[(.int .i64 (F51_0 x.a0 x.a1 x.a2 x.a3 x.a4 x.a5 x.a6)),(.int .i64 (F51_1 x.a0 x.a1 x.a2 x.a3 x.a4 x.a5 x.a6)),(.int .i64 (F51_2 x.a0 x.a1 x.a2 x.a3 x.a4 x.a5 x.a6))]⟩) h)) .no
def p51:Ans:=fnAns dec51 alt51
theorem ha51:∀(x:A51) (h:Hp)(o:Out),(alt51 x h).out=some o→∃r,(rt51 x.a0 x.a1 x.a2 x.a3 x.a4 x.a5 x.a6).val=some r∧o=.ret (en51 r) h:=by
  intro x h o e
  unfold alt51 at e
  simp only [AT.out]at e
  obtain ⟨g,e⟩:=cond_some e
  unfold F51_ok at g
  obtain ⟨r,hF⟩:=Option.isSome_iff_exists.1 g
  have hv:F51 x.a0 x.a1 x.a2 x.a3 x.a4 x.a5 x.a6=(rt51 x.a0 x.a1 x.a2 x.a3 x.a4 x.a5 x.a6).val:=by delta F51;exact rfl
  refine ⟨r,hv.symm.trans hF,?_⟩
  simp only [Option.some.injEq]at e
  rw [← e]
  have k0:F51_0 x.a0 x.a1 x.a2 x.a3 x.a4 x.a5 x.a6=r.r0:=by
    show (match F51 x.a0 x.a1 x.a2 x.a3 x.a4 x.a5 x.a6 with | some r=>r.r0 | none=>0)=r.r0
    rw [hF]
  have k1:F51_1 x.a0 x.a1 x.a2 x.a3 x.a4 x.a5 x.a6=r.r1:=by
    show (match F51 x.a0 x.a1 x.a2 x.a3 x.a4 x.a5 x.a6 with | some r=>r.r1 | none=>0)=r.r1
    rw [hF]
  have k2:F51_2 x.a0 x.a1 x.a2 x.a3 x.a4 x.a5 x.a6=r.r2:=by
    show (match F51 x.a0 x.a1 x.a2 x.a3 x.a4 x.a5 x.a6 with | some r=>r.r2 | none=>0)=r.r2
    rw [hF]
  rw [k0,k1,k2]<;>rfl
theorem hd51:∀(t:Task) (x:A51)(h:Hp),dec51 t=some (x,h)→t=.call 51 ⟨[(.agg ⟨[(.int .i64 x.a0),(.int .i64 x.a1),(.int .i64 x.a2),(.int .i64 x.a3),(.int .i64 x.a4),(.int .i64 x.a5),(.bool x.a6)]⟩)]⟩ h:=by
  intro t x h e
  unfold dec51 at e
  split at e
  case h_2=>cases e
  split at e
  case h_2=>cases e
  rename_i hg
  simp only [Option.some.injEq,Prod.mk.injEq]at e
  obtain ⟨rfl,rfl⟩:=e
  rw [Nat.eq_of_beq_eq_true hg]
theorem known51:Known Try.prog p51:=by
  exact Known.fn noNG mixed (Known.nothing Try.prog) (n:=60) (zs:=[0]) 51 (fun x:A51=>[(.agg ⟨[(.int .i64 x.a0),(.int .i64 x.a1),(.int .i64 x.a2),(.int .i64 x.a3),(.int .i64 x.a4),(.int .i64 x.a5),(.bool x.a6)]⟩)]) (fun x=>rt51 x.a0 x.a1 x.a2 x.a3 x.a4 x.a5 x.a6) en51 (fun x=>T51  x.a0 x.a1 x.a2 x.a3 x.a4 x.a5 x.a6) (fun x=>rfl) dec51 alt51 hd51 ha51
end
end Go.Proofs.Ytoojllndfjamgaa
