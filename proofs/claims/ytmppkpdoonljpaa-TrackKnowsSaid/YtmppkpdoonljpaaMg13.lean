/- Part 13 of the texts below the claim. Conditions: none. -/
import Derived.Test.YtmppkpdoonljpaaMg7
import Derived.Test.YtmppkpdoonljpaaMg8
import Derived.Test.YtmppkpdoonljpaaMg12
import Derived.Test.YtmppkpdoonljpaaMg11
set_option linter.unusedVariables false
set_option linter.unusedSimpArgs false
namespace Go.Proofs.Ytmppkpdoonljpaa
open Go.Gi Go.RowKit Go.Proofs.Ytmppkpdoonljpaa.Old
noncomputable section
set_option maxRecDepth 100000
set_option maxHeartbeats 4000000
structure X25_102x0 where
  own:Option (Array Value×Nat)
  hb:Nat
  hw:List Nat
  v0:Array Value
  v1:Nat
  v2:Nat
  v3:Int
  v4:Int
  v5:Int
  v6:Int
  v7:Int
  v8:Array Value
  v9:Nat
  v10:Nat
  v11:Array Value
  v12:Nat
  v13:Nat
  v14:Int
  v15:Int
  v16:Int
  v17:Array Value
  v18:Nat
  v19:Nat
  v20:Array Value
  v21:Nat
  v22:Nat
  v23:Int
  v24:Bool
  v25:Bool
  v26:Bool
inductive D25_102x0 where
  | k0 (d0:Int) (d1:Int) (d2:Int) (d3:Array Value) (d4:Nat) (d5:Nat) (d6:Array Value) (d7:Nat) (d8:Nat) (d9:Array Value) (d10:Nat) (d11:Nat) (d12:Int) (d13:Int) (d14:Int) (d15:Array Value) (d16:Nat) (d17:Nat) (d18:Array Value) (d19:Nat) (d20:Nat) (d21:Int) (d22:Bool) (d23:Bool) (d24:Bool)
def Lp25_102x0:LoopS X25_102x0 D25_102x0 where
  c:=(theLoop Try.prog 102 0)
  N:=33
  M:=6
  S:=[0,1,2,7,8,9]
  Bs:=[]
  q:=(some (1,0))
  sz:=1
  z:=1
  own:=fun x=>x.own
  sl:=fun x=>[(Value.func (Fn.yield 5) ⟨[]⟩ ⟨[]⟩),(Value.pointer (Option.some (Addr.mk 2 0 Option.none))),(Value.pointer (Option.some (Addr.mk 3 0 Option.none))),(lstV x.v0 x.v1 x.v2 5),(.int .i64 x.v3),(.int .i64 x.v4)]
  hp:=fun x w=>[.cells ⟨[(.int .i64 x.v5),(.int .i64 x.v6),(.int .i64 x.v7),(lstV x.v8 x.v9 x.v10 6),(lstV x.v11 x.v12 x.v13 5)]⟩ false,.cells ⟨[w]⟩ false,.cells ⟨[(.int .i64 x.v14),(.int .i64 x.v15),(.int .i64 x.v16),(lstV x.v17 x.v18 x.v19 6),(lstV x.v20 x.v21 x.v22 5)]⟩ false,.cells ⟨[(.int .i64 x.v23)]⟩ false,.dfr false,.loop .ready .none ⟨[(.tuple ⟨[]⟩),(.tuple ⟨[]⟩),(.tuple ⟨[]⟩),(.tuple ⟨[]⟩),(.tuple ⟨[]⟩),(.tuple ⟨[]⟩),(.tuple ⟨[]⟩),(.tuple ⟨[]⟩),(.tuple ⟨[]⟩),(Value.pointer (Option.some (Addr.mk 1 0 Option.none))),(.tuple ⟨[]⟩),(.tuple ⟨[]⟩),(.tuple ⟨[]⟩),(.tuple ⟨[]⟩),(.tuple ⟨[]⟩),(.tuple ⟨[]⟩),(.tuple ⟨[]⟩),(.tuple ⟨[]⟩),(.bool x.v24),(.tuple ⟨[]⟩),(.tuple ⟨[]⟩),(.bool x.v25),(.bool x.v26),(.tuple ⟨[]⟩),(.tuple ⟨[]⟩),(.tuple ⟨[]⟩),(.tuple ⟨[]⟩),(.tuple ⟨[]⟩),(.tuple ⟨[]⟩),(.tuple ⟨[]⟩),(.tuple ⟨[]⟩),(.tuple ⟨[]⟩)]⟩ ⟨[26]⟩ (theRangeG Try.prog 25 0).1 (theRangeG Try.prog 25 0).2 4]
  ex:=fun d=>match d with | .k0 ..=>.exit 0
  pick:=fun e=>match e with | .exit 0=>[] | _=>[]
  dv:=fun d=>match d with | .k0 d0 d1 d2 d3 d4 d5 d6 d7 d8 d9 d10 d11 d12 d13 d14 d15 d16 d17 d18 d19 d20 d21 d22 d23 d24=>[]
  dh:=fun d=>match d with | .k0 d0 d1 d2 d3 d4 d5 d6 d7 d8 d9 d10 d11 d12 d13 d14 d15 d16 d17 d18 d19 d20 d21 d22 d23 d24=>[.cells ⟨[(.int .i64 d0),(.int .i64 d1),(.int .i64 d2),(lstV d3 d4 d5 6),(lstV d6 d7 d8 5)]⟩ false,.cells ⟨[(lstV d9 d10 d11 1)]⟩ false,.cells ⟨[(.int .i64 d12),(.int .i64 d13),(.int .i64 d14),(lstV d15 d16 d17 6),(lstV d18 d19 d20 5)]⟩ false,.cells ⟨[(.int .i64 d21)]⟩ false,.dfr false,.loop .ready .none ⟨[(.tuple ⟨[]⟩),(.tuple ⟨[]⟩),(.tuple ⟨[]⟩),(.tuple ⟨[]⟩),(.tuple ⟨[]⟩),(.tuple ⟨[]⟩),(.tuple ⟨[]⟩),(.tuple ⟨[]⟩),(.tuple ⟨[]⟩),(Value.pointer (Option.some (Addr.mk 1 0 Option.none))),(.tuple ⟨[]⟩),(.tuple ⟨[]⟩),(.tuple ⟨[]⟩),(.tuple ⟨[]⟩),(.tuple ⟨[]⟩),(.tuple ⟨[]⟩),(.tuple ⟨[]⟩),(.tuple ⟨[]⟩),(.bool d22),(.tuple ⟨[]⟩),(.tuple ⟨[]⟩),(.bool d23),(.bool d24),(.tuple ⟨[]⟩),(.tuple ⟨[]⟩),(.tuple ⟨[]⟩),(.tuple ⟨[]⟩),(.tuple ⟨[]⟩),(.tuple ⟨[]⟩),(.tuple ⟨[]⟩),(.tuple ⟨[]⟩),(.tuple ⟨[]⟩)]⟩ ⟨[26]⟩ (theRangeG Try.prog 25 0).1 (theRangeG Try.prog 25 0).2 4]
theorem ok25_102x0:Lp25_102x0.OkS:=⟨fun x=>rfl,fun x=>rfl,fun x w=>rfl,fun x=>(fun _=>rfl),fun x w=>⟨_,_,rfl,rfl,Nat.le_of_ble_eq_true rfl,rfl⟩,fun x w=>rfl,(fun q j h=>by cases h;decide),fun d=>by cases d<;>rfl,fun d=>by cases d<;>rfl,fun d=>match d with | .k0 d0 d1 d2 d3 d4 d5 d6 d7 d8 d9 d10 d11 d12 d13 d14 d15 d16 d17 d18 d19 d20 d21 d22 d23 d24=>(fun _=>rfl),fun d=>by cases d<;>(intro h;cases h),fun d=>by cases d<;>rfl,fun d=>by cases d<;>rfl,by decide,by decide⟩
def rd25_102x0 (x:X25_102x0):RT (Sum X25_102x0 D25_102x0):=match x with
  | ⟨none,hb,hw,v0,v1,v2,v3,v4,v5,v6,v7,v8,v9,v10,v11,v12,v13,v14,v15,v16,v17,v18,v19,v20,v21,v22,v23,v24,v25,v26⟩ =>
     .br (decide (v4<v3)) (.br (and (decide ((0:Int)≤v4)) (decide (v4<(Int.ofNat v2)))) (.br (rdOk v0 [(Leaf.int .i64),(Leaf.int .i64),(Leaf.int .i64),(Leaf.int .i64),(Leaf.int .i64)] (v1+((Int.toNat v4)*5))) (.br (and (decide ((0:Int)≤(getInt v0 (v1+((Int.toNat v4)*5))))) (decide ((getInt v0 (v1+((Int.toNat v4)*5)))<(Int.ofNat v19)))) (.br (isInt .i64 v17 ((v18+((Int.toNat (getInt v0 (v1+((Int.toNat v4)*5))))*6))+5))
     (.br (decide ((IntKind.wrap .i64 ((getInt v0 ((v1+((Int.toNat v4)*5))+1))+(getInt v17 ((v18+((Int.toNat (getInt v0 (v1+((Int.toNat v4)*5))))*6))+5))))≤v23)) (.leaf (.inl ⟨(some (⟨[(Value.int .i64 v4)]⟩,1)),hb,hw,v0,v1,v2,v3,(IntKind.wrap .i64 (v4+(1:Int))),v5,v6,v7,v8,v9,v10,v11,v12,v13,v14,v15,v16,v17,v18,v19,v20,v21,v22,v23,v24,v25,v26⟩)) (.leaf (.inl ⟨none,hb,hw,v0,v1,v2,v3,(IntKind.wrap .i64 (v4+(1:Int))),v5,v6,v7,v8,v9,v10,v11,v12,v13,v14,v15,v16,v17,v18,v19,v20,v21,v22,v23,v24,v25,v26⟩))) (.no)) (.no)) (.no)) (.no)) (.leaf (.inr (.k0 (v5) (v6) (v7) (v8) (v9) (v10) (v11) (v12) (v13) (⟨[]⟩) (0) (0) (v14) (v15) (v16) (v17) (v18) (v19) (v20) (v21) (v22) (v23) (v24) (v25) (v26))))
  | ⟨some (oa,ol),hb,hw,v0,v1,v2,v3,v4,v5,v6,v7,v8,v9,v10,v11,v12,v13,v14,v15,v16,v17,v18,v19,v20,v21,v22,v23,v24,v25,v26⟩ =>
     .br (decide (v4<v3)) (.br (and (decide ((0:Int)≤v4)) (decide (v4<(Int.ofNat v2)))) (.br (rdOk v0 [(Leaf.int .i64),(Leaf.int .i64),(Leaf.int .i64),(Leaf.int .i64),(Leaf.int .i64)] (v1+((Int.toNat v4)*5))) (.br (and (decide ((0:Int)≤(getInt v0 (v1+((Int.toNat v4)*5))))) (decide ((getInt v0 (v1+((Int.toNat v4)*5)))<(Int.ofNat v19)))) (.br (isInt .i64 v17 ((v18+((Int.toNat (getInt v0 (v1+((Int.toNat v4)*5))))*6))+5)) (.br (decide ((IntKind.wrap .i64 ((getInt v0 ((v1+((Int.toNat v4)*5))+1))+(getInt v17 ((v18+((Int.toNat (getInt v0 (v1+((Int.toNat v4)*5))))*6))+5))))≤v23)) (.br (and (decide (((ol+1)*8)≤140737488355328)) (decide ((ol+1)≤4611686018427387904))) (.br (decide ((0+(ol*1))≤(Array.size oa)))
     (.br (allFz (apB (Array.extract oa 0 (0+(ol*1))) ⟨[(Value.int .i64 v4)]⟩)) (.leaf (.inl ⟨(some ((apB (Array.extract oa 0 (0+(ol*1))) ⟨[(Value.int .i64 v4)]⟩),(ol+1))),hb,hw,v0,v1,v2,v3,(IntKind.wrap .i64 (v4+(1:Int))),v5,v6,v7,v8,v9,v10,v11,v12,v13,v14,v15,v16,v17,v18,v19,v20,v21,v22,v23,v24,v25,v26⟩)) (.no)) (.no)) (.no)) (.br (allFz oa) (.leaf (.inl ⟨(some (oa,ol)),hb,hw,v0,v1,v2,v3,(IntKind.wrap .i64 (v4+(1:Int))),v5,v6,v7,v8,v9,v10,v11,v12,v13,v14,v15,v16,v17,v18,v19,v20,v21,v22,v23,v24,v25,v26⟩)) (.no))) (.no)) (.no)) (.no)) (.no)) (.br (and (allFz oa) (decide ((0+(ol*1))≤(Array.size oa)))) (.leaf (.inr (.k0 (v5) (v6) (v7) (v8) (v9) (v10) (v11) (v12) (v13) (oa) (0) (ol) (v14) (v15) (v16) (v17) (v18) (v19) (v20) (v21) (v22) (v23) (v24) (v25) (v26)))) (.no))
theorem T25_102x0n  (y:List Value) (hb:Nat) (hw:List Nat) (v0:Array Value) (v1:Nat) (v2:Nat) (v3:Int) (v4:Int) (v5:Int) (v6:Int) (v7:Int) (v8:Array Value) (v9:Nat) (v10:Nat) (v11:Array Value) (v12:Nat) (v13:Nat) (v14:Int) (v15:Int) (v16:Int) (v17:Array Value) (v18:Nat) (v19:Nat) (v20:Array Value) (v21:Nat) (v22:Nat) (v23:Int) (v24:Bool) (v25:Bool) (v26:Bool):evC Try.prog (Ans.c (p20.or p57)) 60 (.code none (theLoop Try.prog 102 0) ⟨sets (junkF 33 y) [(0,(Value.func (Fn.yield 5) ⟨[]⟩ ⟨[]⟩)),(1,(Value.pointer (Option.some (Addr.mk 2 0 Option.none)))),(2,(Value.pointer (Option.some (Addr.mk 3 0 Option.none)))),(7,(lstV v0 v1 v2 5)),(8,(.int .i64 v3)),(9,(.int .i64 v4))],[],⟨[.cells ⟨[(.int .i64 v5),(.int .i64 v6),(.int .i64 v7),(lstV v8 v9 v10 6),(lstV v11 v12 v13 5)]⟩ false,.cells ⟨[(.slice none 0 0)]⟩ false,.cells ⟨[(.int .i64 v14),(.int .i64 v15),(.int .i64 v16),(lstV v17 v18 v19 6),(lstV v20 v21 v22 5)]⟩ false,.cells ⟨[(.int .i64 v23)]⟩ false,.dfr false,.loop .ready .none ⟨[(.tuple ⟨[]⟩),(.tuple ⟨[]⟩),(.tuple ⟨[]⟩),(.tuple ⟨[]⟩),(.tuple ⟨[]⟩),(.tuple ⟨[]⟩),(.tuple ⟨[]⟩),(.tuple ⟨[]⟩),(.tuple ⟨[]⟩),(Value.pointer (Option.some (Addr.mk 1 0 Option.none))),(.tuple ⟨[]⟩),(.tuple ⟨[]⟩),(.tuple ⟨[]⟩),(.tuple ⟨[]⟩),(.tuple ⟨[]⟩),(.tuple ⟨[]⟩),(.tuple ⟨[]⟩),(.tuple ⟨[]⟩),(.bool v24),(.tuple ⟨[]⟩),(.tuple ⟨[]⟩),(.bool v25),(.bool v26),(.tuple ⟨[]⟩),(.tuple ⟨[]⟩),(.tuple ⟨[]⟩),(.tuple ⟨[]⟩),(.tuple ⟨[]⟩),(.tuple ⟨[]⟩),(.tuple ⟨[]⟩),(.tuple ⟨[]⟩),(.tuple ⟨[]⟩)]⟩ ⟨[26]⟩ (theRangeG Try.prog 25 0).1 (theRangeG Try.prog 25 0).2 4],0,[]⟩⟩) (kS 33 6 [0,1,2,7,8,9] Lp25_102x0.pick [] 1 (some (1,0)))=(rd25_102x0 ⟨none,hb,hw,v0,v1,v2,v3,v4,v5,v6,v7,v8,v9,v10,v11,v12,v13,v14,v15,v16,v17,v18,v19,v20,v21,v22,v23,v24,v25,v26⟩).out Lp25_102x0.encS:=by kernel_rfl
theorem T25_102x0s  (y:List Value) (hb:Nat) (hw:List Nat) (oa:Array Value) (ol:Nat) (v0:Array Value) (v1:Nat) (v2:Nat) (v3:Int) (v4:Int) (v5:Int) (v6:Int) (v7:Int) (v8:Array Value) (v9:Nat) (v10:Nat) (v11:Array Value) (v12:Nat) (v13:Nat) (v14:Int) (v15:Int) (v16:Int) (v17:Array Value) (v18:Nat) (v19:Nat) (v20:Array Value) (v21:Nat) (v22:Nat) (v23:Int) (v24:Bool) (v25:Bool) (v26:Bool):evC Try.prog (Ans.c (p20.or p57)) 60 (.code none (theLoop Try.prog 102 0) ⟨sets (junkF 33 y) [(0,(Value.func (Fn.yield 5) ⟨[]⟩ ⟨[]⟩)),(1,(Value.pointer (Option.some (Addr.mk 2 0 Option.none)))),(2,(Value.pointer (Option.some (Addr.mk 3 0 Option.none)))),(7,(lstV v0 v1 v2 5)),(8,(.int .i64 v3)),(9,(.int .i64 v4))],[],⟨[.cells ⟨[(.int .i64 v5),(.int .i64 v6),(.int .i64 v7),(lstV v8 v9 v10 6),(lstV v11 v12 v13 5)]⟩ false,.cells ⟨[(.slice (some ⟨6,0,none⟩) ol 1)]⟩ false,.cells ⟨[(.int .i64 v14),(.int .i64 v15),(.int .i64 v16),(lstV v17 v18 v19 6),(lstV v20 v21 v22 5)]⟩ false,.cells ⟨[(.int .i64 v23)]⟩ false,.dfr false,.loop .ready .none ⟨[(.tuple ⟨[]⟩),(.tuple ⟨[]⟩),(.tuple ⟨[]⟩),(.tuple ⟨[]⟩),(.tuple ⟨[]⟩),(.tuple ⟨[]⟩),(.tuple ⟨[]⟩),(.tuple ⟨[]⟩),(.tuple ⟨[]⟩),(Value.pointer (Option.some (Addr.mk 1 0 Option.none))),(.tuple ⟨[]⟩),(.tuple ⟨[]⟩),(.tuple ⟨[]⟩),(.tuple ⟨[]⟩),(.tuple ⟨[]⟩),(.tuple ⟨[]⟩),(.tuple ⟨[]⟩),(.tuple ⟨[]⟩),(.bool v24),(.tuple ⟨[]⟩),(.tuple ⟨[]⟩),(.bool v25),(.bool v26),(.tuple ⟨[]⟩),(.tuple ⟨[]⟩),(.tuple ⟨[]⟩),(.tuple ⟨[]⟩),(.tuple ⟨[]⟩),(.tuple ⟨[]⟩),(.tuple ⟨[]⟩),(.tuple ⟨[]⟩),(.tuple ⟨[]⟩)]⟩ ⟨[26]⟩ (theRangeG Try.prog 25 0).1 (theRangeG Try.prog 25 0).2 4,.cells oa false],0,[]⟩⟩) (kS 33 6 [0,1,2,7,8,9] Lp25_102x0.pick [] 1 (some (1,0)))=(rd25_102x0 ⟨some (oa,ol),hb,hw,v0,v1,v2,v3,v4,v5,v6,v7,v8,v9,v10,v11,v12,v13,v14,v15,v16,v17,v18,v19,v20,v21,v22,v23,v24,v25,v26⟩).out Lp25_102x0.encS:=by kernel_rfl
theorem T25_102x0  (x:X25_102x0) (y:List Value):evC Try.prog (Ans.c (p20.or p57)) 60 (Lp25_102x0.headS x y) (kS Lp25_102x0.N Lp25_102x0.M Lp25_102x0.S Lp25_102x0.pick Lp25_102x0.Bs Lp25_102x0.z Lp25_102x0.q)=(rd25_102x0 x).out Lp25_102x0.encS:=by
  obtain ⟨own,hb,hw,v0,v1,v2,v3,v4,v5,v6,v7,v8,v9,v10,v11,v12,v13,v14,v15,v16,v17,v18,v19,v20,v21,v22,v23,v24,v25,v26⟩:=x
  cases own with
  | none=>exact T25_102x0n  y hb hw v0 v1 v2 v3 v4 v5 v6 v7 v8 v9 v10 v11 v12 v13 v14 v15 v16 v17 v18 v19 v20 v21 v22 v23 v24 v25 v26
  | some al=>obtain ⟨oa,ol⟩:=al;exact T25_102x0s  y hb hw oa ol v0 v1 v2 v3 v4 v5 v6 v7 v8 v9 v10 v11 v12 v13 v14 v15 v16 v17 v18 v19 v20 v21 v22 v23 v24 v25 v26
def L25_102x0 (x:X25_102x0):Option D25_102x0:=loopR rd25_102x0 x
def L25_102x0_k0 (x:X25_102x0):Bool:=match L25_102x0 x with | some (.k0 ..)=>true | _=>false
def L25_102x0_k0_0 (x:X25_102x0):Int:=match L25_102x0 x with | some (.k0 d _ _ _ _ _ _ _ _ _ _ _ _ _ _ _ _ _ _ _ _ _ _ _ _)=>d | _=>0
def L25_102x0_k0_1 (x:X25_102x0):Int:=match L25_102x0 x with | some (.k0 _ d _ _ _ _ _ _ _ _ _ _ _ _ _ _ _ _ _ _ _ _ _ _ _)=>d | _=>0
def L25_102x0_k0_2 (x:X25_102x0):Int:=match L25_102x0 x with | some (.k0 _ _ d _ _ _ _ _ _ _ _ _ _ _ _ _ _ _ _ _ _ _ _ _ _)=>d | _=>0
def L25_102x0_k0_3 (x:X25_102x0):Array Value:=match L25_102x0 x with | some (.k0 _ _ _ d _ _ _ _ _ _ _ _ _ _ _ _ _ _ _ _ _ _ _ _ _)=>d | _=>#[]
def L25_102x0_k0_4 (x:X25_102x0):Nat:=match L25_102x0 x with | some (.k0 _ _ _ _ d _ _ _ _ _ _ _ _ _ _ _ _ _ _ _ _ _ _ _ _)=>d | _=>0
def L25_102x0_k0_5 (x:X25_102x0):Nat:=match L25_102x0 x with | some (.k0 _ _ _ _ _ d _ _ _ _ _ _ _ _ _ _ _ _ _ _ _ _ _ _ _)=>d | _=>0
def L25_102x0_k0_6 (x:X25_102x0):Array Value:=match L25_102x0 x with | some (.k0 _ _ _ _ _ _ d _ _ _ _ _ _ _ _ _ _ _ _ _ _ _ _ _ _)=>d | _=>#[]
def L25_102x0_k0_7 (x:X25_102x0):Nat:=match L25_102x0 x with | some (.k0 _ _ _ _ _ _ _ d _ _ _ _ _ _ _ _ _ _ _ _ _ _ _ _ _)=>d | _=>0
def L25_102x0_k0_8 (x:X25_102x0):Nat:=match L25_102x0 x with | some (.k0 _ _ _ _ _ _ _ _ d _ _ _ _ _ _ _ _ _ _ _ _ _ _ _ _)=>d | _=>0
def L25_102x0_k0_9 (x:X25_102x0):Array Value:=match L25_102x0 x with | some (.k0 _ _ _ _ _ _ _ _ _ d _ _ _ _ _ _ _ _ _ _ _ _ _ _ _)=>d | _=>#[]
def L25_102x0_k0_10 (x:X25_102x0):Nat:=match L25_102x0 x with | some (.k0 _ _ _ _ _ _ _ _ _ _ d _ _ _ _ _ _ _ _ _ _ _ _ _ _)=>d | _=>0
def L25_102x0_k0_11 (x:X25_102x0):Nat:=match L25_102x0 x with | some (.k0 _ _ _ _ _ _ _ _ _ _ _ d _ _ _ _ _ _ _ _ _ _ _ _ _)=>d | _=>0
def L25_102x0_k0_12 (x:X25_102x0):Int:=match L25_102x0 x with | some (.k0 _ _ _ _ _ _ _ _ _ _ _ _ d _ _ _ _ _ _ _ _ _ _ _ _)=>d | _=>0
def L25_102x0_k0_13 (x:X25_102x0):Int:=match L25_102x0 x with | some (.k0 _ _ _ _ _ _ _ _ _ _ _ _ _ d _ _ _ _ _ _ _ _ _ _ _)=>d | _=>0
def L25_102x0_k0_14 (x:X25_102x0):Int:=match L25_102x0 x with | some (.k0 _ _ _ _ _ _ _ _ _ _ _ _ _ _ d _ _ _ _ _ _ _ _ _ _)=>d | _=>0
def L25_102x0_k0_15 (x:X25_102x0):Array Value:=match L25_102x0 x with | some (.k0 _ _ _ _ _ _ _ _ _ _ _ _ _ _ _ d _ _ _ _ _ _ _ _ _)=>d | _=>#[]
def L25_102x0_k0_16 (x:X25_102x0):Nat:=match L25_102x0 x with | some (.k0 _ _ _ _ _ _ _ _ _ _ _ _ _ _ _ _ d _ _ _ _ _ _ _ _)=>d | _=>0
def L25_102x0_k0_17 (x:X25_102x0):Nat:=match L25_102x0 x with | some (.k0 _ _ _ _ _ _ _ _ _ _ _ _ _ _ _ _ _ d _ _ _ _ _ _ _)=>d | _=>0
def L25_102x0_k0_18 (x:X25_102x0):Array Value:=match L25_102x0 x with | some (.k0 _ _ _ _ _ _ _ _ _ _ _ _ _ _ _ _ _ _ d _ _ _ _ _ _)=>d | _=>#[]
def L25_102x0_k0_19 (x:X25_102x0):Nat:=match L25_102x0 x with | some (.k0 _ _ _ _ _ _ _ _ _ _ _ _ _ _ _ _ _ _ _ d _ _ _ _ _)=>d | _=>0
def L25_102x0_k0_20 (x:X25_102x0):Nat:=match L25_102x0 x with | some (.k0 _ _ _ _ _ _ _ _ _ _ _ _ _ _ _ _ _ _ _ _ d _ _ _ _)=>d | _=>0
def L25_102x0_k0_21 (x:X25_102x0):Int:=match L25_102x0 x with | some (.k0 _ _ _ _ _ _ _ _ _ _ _ _ _ _ _ _ _ _ _ _ _ d _ _ _)=>d | _=>0
def L25_102x0_k0_22 (x:X25_102x0):Bool:=match L25_102x0 x with | some (.k0 _ _ _ _ _ _ _ _ _ _ _ _ _ _ _ _ _ _ _ _ _ _ d _ _)=>d | _=>false
def L25_102x0_k0_23 (x:X25_102x0):Bool:=match L25_102x0 x with | some (.k0 _ _ _ _ _ _ _ _ _ _ _ _ _ _ _ _ _ _ _ _ _ _ _ d _)=>d | _=>false
def L25_102x0_k0_24 (x:X25_102x0):Bool:=match L25_102x0 x with | some (.k0 _ _ _ _ _ _ _ _ _ _ _ _ _ _ _ _ _ _ _ _ _ _ _ _ d)=>d | _=>false
def dec25_102x0:Task→Option (Code×X25_102x0)
  | .code none (.loop code) ⟨t,[],⟨[b0,b1,b2,b3,b4,b5],hb,hw⟩⟩ =>
    (match Nat.beq (firstReg code) 1,lenIs t 33 with
    | true,true=>((dYi 5 (lget t 0)).bind fun _=>(dPt 2 0 (lget t 1)).bind fun _=>(dPt 3 0 (lget t 2)).bind fun _=>(dLs 5 (lget t 7)).bind fun q3=>(fun v0 v1 v2=>(dI .i64 (lget t 8)).bind fun v3=>(dI .i64 (lget t 9)).bind fun v4=>(dCe b0).bind fun l6=>match l6 with | [y6_0,y6_1,y6_2,y6_3,y6_4]=>((dI .i64 y6_0).bind fun v5=>(dI .i64 y6_1).bind fun v6=>(dI .i64 y6_2).bind fun v7=>(dLs 6 y6_3).bind fun q10=>(fun v8 v9 v10=>(dLs 5 y6_4).bind fun q11=>(fun v11 v12 v13=>(dCe b1).bind fun l12=>match l12 with | [y12_0]=>((dNl y12_0).bind fun _=>(dCe b2).bind fun l14=>match l14 with | [y14_0,y14_1,y14_2,y14_3,y14_4]=>((dI .i64 y14_0).bind fun v14=>(dI .i64 y14_1).bind fun v15=>(dI .i64 y14_2).bind fun v16=>(dLs 6 y14_3).bind fun q18=>(fun v17 v18 v19=>(dLs 5 y14_4).bind fun q19=>(fun v20 v21 v22=>(dCe b3).bind fun l20=>match l20 with | [y20_0]=>((dI .i64 y20_0).bind fun v23=>(dDf false b4).bind fun _=>(dLo 26 4 b5).bind fun q23=>(fun cas cbd=>match q23.1 with | [y23_0,y23_1,y23_2,y23_3,y23_4,y23_5,y23_6,y23_7,y23_8,y23_9,y23_10,y23_11,y23_12,y23_13,y23_14,y23_15,y23_16,y23_17,y23_18,y23_19,y23_20,y23_21,y23_22,y23_23,y23_24,y23_25,y23_26,y23_27,y23_28,y23_29,y23_30,y23_31]=>((dAn y23_0).bind fun _=>(dAn y23_1).bind fun _=>(dAn y23_2).bind fun _=>(dAn y23_3).bind fun _=>(dAn y23_4).bind fun _=>(dAn y23_5).bind fun _=>(dAn y23_6).bind fun _=>(dAn y23_7).bind fun _=>(dAn y23_8).bind fun _=>(dPt 1 0 y23_9).bind fun _=>(dAn y23_10).bind fun _=>(dAn y23_11).bind fun _=>(dAn y23_12).bind fun _=>(dAn y23_13).bind fun _=>(dAn y23_14).bind fun _=>(dAn y23_15).bind fun _=>(dAn y23_16).bind fun _=>(dAn y23_17).bind fun _=>(dBo y23_18).bind fun v24=>(dAn y23_19).bind fun _=>(dAn y23_20).bind fun _=>(dBo y23_21).bind fun v25=>(dBo y23_22).bind fun v26=>(dAn y23_23).bind fun _=>(dAn y23_24).bind fun _=>(dAn y23_25).bind fun _=>(dAn y23_26).bind fun _=>(dAn y23_27).bind fun _=>(dAn y23_28).bind fun _=>(dAn y23_29).bind fun _=>(dAn y23_30).bind fun _=>(dAn y23_31).bind fun _=>some (.seq (.seq code cas) cbd,⟨none,hb,hw,v0,v1,v2,v3,v4,v5,v6,v7,v8,v9,v10,v11,v12,v13,v14,v15,v16,v17,v18,v19,v20,v21,v22,v23,v24,v25,v26⟩)) | _=>none) q23.2.1 q23.2.2) | _=>none) q19.1 q19.2.1 q19.2.2) q18.1 q18.2.1 q18.2.2) | _=>none) | _=>none) q11.1 q11.2.1 q11.2.2) q10.1 q10.2.1 q10.2.2) | _=>none) q3.1 q3.2.1 q3.2.2)
    | _,_=>none)
  | .code none (.loop code) ⟨t,[],⟨[b0,b1,b2,b3,b4,b5,bo],hb,hw⟩⟩ =>
    (match Nat.beq (firstReg code) 1,lenIs t 33 with
    | true,true=>((dYi 5 (lget t 0)).bind fun _=>(dPt 2 0 (lget t 1)).bind fun _=>(dPt 3 0 (lget t 2)).bind fun _=>(dLs 5 (lget t 7)).bind fun q3=>(fun v0 v1 v2=>(dI .i64 (lget t 8)).bind fun v3=>(dI .i64 (lget t 9)).bind fun v4=>(dCe b0).bind fun l6=>match l6 with | [y6_0,y6_1,y6_2,y6_3,y6_4]=>((dI .i64 y6_0).bind fun v5=>(dI .i64 y6_1).bind fun v6=>(dI .i64 y6_2).bind fun v7=>(dLs 6 y6_3).bind fun q10=>(fun v8 v9 v10=>(dLs 5 y6_4).bind fun q11=>(fun v11 v12 v13=>(dCe b1).bind fun l12=>match l12 with | [y12_0]=>((dSl 6 1 y12_0).bind fun ol=>(dCe b2).bind fun l13=>match l13 with | [y13_0,y13_1,y13_2,y13_3,y13_4]=>((dI .i64 y13_0).bind fun v14=>(dI .i64 y13_1).bind fun v15=>(dI .i64 y13_2).bind fun v16=>(dLs 6 y13_3).bind fun q17=>(fun v17 v18 v19=>(dLs 5 y13_4).bind fun q18=>(fun v20 v21 v22=>(dCe b3).bind fun l19=>match l19 with | [y19_0]=>((dI .i64 y19_0).bind fun v23=>(dDf false b4).bind fun _=>(dLo 26 4 b5).bind fun q22=>(fun cas cbd=>match q22.1 with | [y22_0,y22_1,y22_2,y22_3,y22_4,y22_5,y22_6,y22_7,y22_8,y22_9,y22_10,y22_11,y22_12,y22_13,y22_14,y22_15,y22_16,y22_17,y22_18,y22_19,y22_20,y22_21,y22_22,y22_23,y22_24,y22_25,y22_26,y22_27,y22_28,y22_29,y22_30,y22_31]=>((dAn y22_0).bind fun _=>(dAn y22_1).bind fun _=>(dAn y22_2).bind fun _=>(dAn y22_3).bind fun _=>(dAn y22_4).bind fun _=>(dAn y22_5).bind fun _=>(dAn y22_6).bind fun _=>(dAn y22_7).bind fun _=>(dAn y22_8).bind fun _=>(dPt 1 0 y22_9).bind fun _=>(dAn y22_10).bind fun _=>(dAn y22_11).bind fun _=>(dAn y22_12).bind fun _=>(dAn y22_13).bind fun _=>(dAn y22_14).bind fun _=>(dAn y22_15).bind fun _=>(dAn y22_16).bind fun _=>(dAn y22_17).bind fun _=>(dBo y22_18).bind fun v24=>(dAn y22_19).bind fun _=>(dAn y22_20).bind fun _=>(dBo y22_21).bind fun v25=>(dBo y22_22).bind fun v26=>(dAn y22_23).bind fun _=>(dAn y22_24).bind fun _=>(dAn y22_25).bind fun _=>(dAn y22_26).bind fun _=>(dAn y22_27).bind fun _=>(dAn y22_28).bind fun _=>(dAn y22_29).bind fun _=>(dAn y22_30).bind fun _=>(dAn y22_31).bind fun _=>(dAr bo).bind fun oa=>some (.seq (.seq code cas) cbd,⟨(some (oa,ol)),hb,hw,v0,v1,v2,v3,v4,v5,v6,v7,v8,v9,v10,v11,v12,v13,v14,v15,v16,v17,v18,v19,v20,v21,v22,v23,v24,v25,v26⟩)) | _=>none) q22.2.1 q22.2.2) | _=>none) q18.1 q18.2.1 q18.2.2) q17.1 q17.2.1 q17.2.2) | _=>none) | _=>none) q11.1 q11.2.1 q11.2.2) q10.1 q10.2.1 q10.2.2) | _=>none) q3.1 q3.2.1 q3.2.2)
    | _,_=>none)
  | _=>none
def alt25_102x0 (x:X25_102x0)(j:List Value):AT:=match x.own with
  | none=>.br (L25_102x0_k0 x) (loopEnd 33 (.exit 0) [] ⟨[.cells ⟨[(.int .i64 (L25_102x0_k0_0 x)),(.int .i64 (L25_102x0_k0_1 x)),(.int .i64 (L25_102x0_k0_2 x)),(lstV (L25_102x0_k0_3 x) (L25_102x0_k0_4 x) (L25_102x0_k0_5 x) 6),(lstV (L25_102x0_k0_6 x) (L25_102x0_k0_7 x) (L25_102x0_k0_8 x) 5)]⟩ false,.cells ⟨[(lstV (L25_102x0_k0_9 x) (L25_102x0_k0_10 x) (L25_102x0_k0_11 x) 1)]⟩ false,.cells ⟨[(.int .i64 (L25_102x0_k0_12 x)),(.int .i64 (L25_102x0_k0_13 x)),(.int .i64 (L25_102x0_k0_14 x)),(lstV (L25_102x0_k0_15 x) (L25_102x0_k0_16 x) (L25_102x0_k0_17 x) 6),(lstV (L25_102x0_k0_18 x) (L25_102x0_k0_19 x) (L25_102x0_k0_20 x) 5)]⟩ false,.cells ⟨[(.int .i64 (L25_102x0_k0_21 x))]⟩ false,.dfr false,.loop .ready .none ⟨[(.tuple ⟨[]⟩),(.tuple ⟨[]⟩),(.tuple ⟨[]⟩),(.tuple ⟨[]⟩),(.tuple ⟨[]⟩),(.tuple ⟨[]⟩),(.tuple ⟨[]⟩),(.tuple ⟨[]⟩),(.tuple ⟨[]⟩),(Value.pointer (Option.some (Addr.mk 1 0 Option.none))),(.tuple ⟨[]⟩),(.tuple ⟨[]⟩),(.tuple ⟨[]⟩),(.tuple ⟨[]⟩),(.tuple ⟨[]⟩),(.tuple ⟨[]⟩),(.tuple ⟨[]⟩),(.tuple ⟨[]⟩),(.bool (L25_102x0_k0_22 x)),(.tuple ⟨[]⟩),(.tuple ⟨[]⟩),(.bool (L25_102x0_k0_23 x)),(.bool (L25_102x0_k0_24 x)),(.tuple ⟨[]⟩),(.tuple ⟨[]⟩),(.tuple ⟨[]⟩),(.tuple ⟨[]⟩),(.tuple ⟨[]⟩),(.tuple ⟨[]⟩),(.tuple ⟨[]⟩),(.tuple ⟨[]⟩),(.tuple ⟨[]⟩)]⟩ ⟨[26]⟩ (theRangeG Try.prog 25 0).1 (theRangeG Try.prog 25 0).2 4],x.hb,0::1::2::3::4::5::x.hw⟩ j) (.no)
  | some (oa,ol)=>.br (allFz oa) (.br (L25_102x0_k0 x) (loopEnd 33 (.exit 0) [] ⟨[.cells ⟨[(.int .i64 (L25_102x0_k0_0 x)),(.int .i64 (L25_102x0_k0_1 x)),(.int .i64 (L25_102x0_k0_2 x)),(lstV (L25_102x0_k0_3 x) (L25_102x0_k0_4 x) (L25_102x0_k0_5 x) 6),(lstV (L25_102x0_k0_6 x) (L25_102x0_k0_7 x) (L25_102x0_k0_8 x) 5)]⟩ false,.cells ⟨[(lstV (L25_102x0_k0_9 x) (L25_102x0_k0_10 x) (L25_102x0_k0_11 x) 1)]⟩ false,.cells ⟨[(.int .i64 (L25_102x0_k0_12 x)),(.int .i64 (L25_102x0_k0_13 x)),(.int .i64 (L25_102x0_k0_14 x)),(lstV (L25_102x0_k0_15 x) (L25_102x0_k0_16 x) (L25_102x0_k0_17 x) 6),(lstV (L25_102x0_k0_18 x) (L25_102x0_k0_19 x) (L25_102x0_k0_20 x) 5)]⟩ false,.cells ⟨[(.int .i64 (L25_102x0_k0_21 x))]⟩ false,.dfr false,.loop .ready .none ⟨[(.tuple ⟨[]⟩),(.tuple ⟨[]⟩),(.tuple ⟨[]⟩),(.tuple ⟨[]⟩),(.tuple ⟨[]⟩),(.tuple ⟨[]⟩),(.tuple ⟨[]⟩),(.tuple ⟨[]⟩),(.tuple ⟨[]⟩),(Value.pointer (Option.some (Addr.mk 1 0 Option.none))),(.tuple ⟨[]⟩),(.tuple ⟨[]⟩),(.tuple ⟨[]⟩),(.tuple ⟨[]⟩),(.tuple ⟨[]⟩),(.tuple ⟨[]⟩),(.tuple ⟨[]⟩),(.tuple ⟨[]⟩),(.bool (L25_102x0_k0_22 x)),(.tuple ⟨[]⟩),(.tuple ⟨[]⟩),(.bool (L25_102x0_k0_23 x)),(.bool (L25_102x0_k0_24 x)),(.tuple ⟨[]⟩),(.tuple ⟨[]⟩),(.tuple ⟨[]⟩),(.tuple ⟨[]⟩),(.tuple ⟨[]⟩),(.tuple ⟨[]⟩),(.tuple ⟨[]⟩),(.tuple ⟨[]⟩),(.tuple ⟨[]⟩)]⟩ ⟨[26]⟩ (theRangeG Try.prog 25 0).1 (theRangeG Try.prog 25 0).2 4,.dead],x.hb,0::1::2::3::4::5::6::x.hw⟩ j) (.no)) .no
def Cd25_102x0:Code:=.seq (.seq (theLoop Try.prog 102 0) (theRangeG Try.prog 25 0).1) (theRangeG Try.prog 25 0).2
def la25_102x0 (J:Task→List Value):Ans:=loopAns Cd25_102x0 dec25_102x0 alt25_102x0 J
theorem ha25_102x0:∀(x:X25_102x0) (j:List Value)(o:Out),(alt25_102x0 x j).out=some o→Lp25_102x0.good x∧∃d,loopR rd25_102x0 x=some d∧o=Lp25_102x0.tailB x d j x.hb x.hw:=by
  intro x j o h
  obtain ⟨own,hb,hw,v0,v1,v2,v3,v4,v5,v6,v7,v8,v9,v10,v11,v12,v13,v14,v15,v16,v17,v18,v19,v20,v21,v22,v23,v24,v25,v26⟩:=x
  cases own with
  | none =>
    replace h:(alt25_102x0 ⟨none,hb,hw,v0,v1,v2,v3,v4,v5,v6,v7,v8,v9,v10,v11,v12,v13,v14,v15,v16,v17,v18,v19,v20,v21,v22,v23,v24,v25,v26⟩ j).out=some o:=h
    simp only [alt25_102x0,AT.out]at h
    refine ⟨⟨rfl,fun a l e=>(by cases e)⟩,?_⟩
    cases hL:L25_102x0 ⟨none,hb,hw,v0,v1,v2,v3,v4,v5,v6,v7,v8,v9,v10,v11,v12,v13,v14,v15,v16,v17,v18,v19,v20,v21,v22,v23,v24,v25,v26⟩ with
    | none=>simp only [L25_102x0_k0,L25_102x0_k0_0,L25_102x0_k0_1,L25_102x0_k0_2,L25_102x0_k0_3,L25_102x0_k0_4,L25_102x0_k0_5,L25_102x0_k0_6,L25_102x0_k0_7,L25_102x0_k0_8,L25_102x0_k0_9,L25_102x0_k0_10,L25_102x0_k0_11,L25_102x0_k0_12,L25_102x0_k0_13,L25_102x0_k0_14,L25_102x0_k0_15,L25_102x0_k0_16,L25_102x0_k0_17,L25_102x0_k0_18,L25_102x0_k0_19,L25_102x0_k0_20,L25_102x0_k0_21,L25_102x0_k0_22,L25_102x0_k0_23,L25_102x0_k0_24,hL,AT.out,cond_false]at h;cases h
    | some d =>
      refine ⟨d,hL,?_⟩
      cases d<;>(simp only [L25_102x0_k0,L25_102x0_k0_0,L25_102x0_k0_1,L25_102x0_k0_2,L25_102x0_k0_3,L25_102x0_k0_4,L25_102x0_k0_5,L25_102x0_k0_6,L25_102x0_k0_7,L25_102x0_k0_8,L25_102x0_k0_9,L25_102x0_k0_10,L25_102x0_k0_11,L25_102x0_k0_12,L25_102x0_k0_13,L25_102x0_k0_14,L25_102x0_k0_15,L25_102x0_k0_16,L25_102x0_k0_17,L25_102x0_k0_18,L25_102x0_k0_19,L25_102x0_k0_20,L25_102x0_k0_21,L25_102x0_k0_22,L25_102x0_k0_23,L25_102x0_k0_24,hL,AT.out,loopEnd,cond_true,cond_false,Option.some.injEq]at h;rw [← h];rfl)
  | some al =>
    obtain ⟨oa,ol⟩:=al
    replace h:(alt25_102x0 ⟨some (oa,ol),hb,hw,v0,v1,v2,v3,v4,v5,v6,v7,v8,v9,v10,v11,v12,v13,v14,v15,v16,v17,v18,v19,v20,v21,v22,v23,v24,v25,v26⟩ j).out=some o:=h
    simp only [alt25_102x0,AT.out]at h
    obtain ⟨g,h⟩:=cond_some h
    refine ⟨⟨rfl,fun a l e=>(by cases e;exact g)⟩,?_⟩
    cases hL:L25_102x0 ⟨some (oa,ol),hb,hw,v0,v1,v2,v3,v4,v5,v6,v7,v8,v9,v10,v11,v12,v13,v14,v15,v16,v17,v18,v19,v20,v21,v22,v23,v24,v25,v26⟩ with
    | none=>simp only [L25_102x0_k0,L25_102x0_k0_0,L25_102x0_k0_1,L25_102x0_k0_2,L25_102x0_k0_3,L25_102x0_k0_4,L25_102x0_k0_5,L25_102x0_k0_6,L25_102x0_k0_7,L25_102x0_k0_8,L25_102x0_k0_9,L25_102x0_k0_10,L25_102x0_k0_11,L25_102x0_k0_12,L25_102x0_k0_13,L25_102x0_k0_14,L25_102x0_k0_15,L25_102x0_k0_16,L25_102x0_k0_17,L25_102x0_k0_18,L25_102x0_k0_19,L25_102x0_k0_20,L25_102x0_k0_21,L25_102x0_k0_22,L25_102x0_k0_23,L25_102x0_k0_24,hL,AT.out,cond_false]at h;cases h
    | some d =>
      refine ⟨d,hL,?_⟩
      cases d<;>(simp only [L25_102x0_k0,L25_102x0_k0_0,L25_102x0_k0_1,L25_102x0_k0_2,L25_102x0_k0_3,L25_102x0_k0_4,L25_102x0_k0_5,L25_102x0_k0_6,L25_102x0_k0_7,L25_102x0_k0_8,L25_102x0_k0_9,L25_102x0_k0_10,L25_102x0_k0_11,L25_102x0_k0_12,L25_102x0_k0_13,L25_102x0_k0_14,L25_102x0_k0_15,L25_102x0_k0_16,L25_102x0_k0_17,L25_102x0_k0_18,L25_102x0_k0_19,L25_102x0_k0_20,L25_102x0_k0_21,L25_102x0_k0_22,L25_102x0_k0_23,L25_102x0_k0_24,hL,AT.out,loopEnd,cond_true,cond_false,Option.some.injEq]at h;rw [← h];rfl)
theorem hd25_102x0:∀(t:Task) (c:Code)(x:X25_102x0),dec25_102x0 t=some (c,x)→c=Cd25_102x0→∃T H',t=.code none (.loop Lp25_102x0.c) ⟨T,[],⟨H',x.hb,x.hw⟩⟩∧Forgets H' (Lp25_102x0.H x)∧T.length=Lp25_102x0.N∧∀kv∈Lp25_102x0.S.zip (Lp25_102x0.sl x),lget T kv.1=kv.2:=by
  intro t c x h hc
  unfold dec25_102x0 at h
  split at h
  · split at h
    case h_2=>cases h
    rename_i hreg hlen
    have e2:=Option.bind_eq_some_iff.1 h
    clear h
    obtain ⟨_,hh,h⟩:=e2
    have hh:=dYi_eq hh
    have e2:=Option.bind_eq_some_iff.1 h
    clear h
    obtain ⟨_,hh,h⟩:=e2
    have hh:=dPt_eq hh
    have e2:=Option.bind_eq_some_iff.1 h
    clear h
    obtain ⟨_,hh,h⟩:=e2
    have hh:=dPt_eq hh
    have e2:=Option.bind_eq_some_iff.1 h
    clear h
    obtain ⟨_,hh,h⟩:=e2
    have hh:=dLs_eq hh
    have e2:=Option.bind_eq_some_iff.1 h
    clear h
    obtain ⟨_,hh,h⟩:=e2
    have hh:=dI_eq hh
    have e2:=Option.bind_eq_some_iff.1 h
    clear h
    obtain ⟨_,hh,h⟩:=e2
    have hh:=dI_eq hh
    have e2:=Option.bind_eq_some_iff.1 h
    clear h
    obtain ⟨_,hh,h⟩:=e2
    obtain rfl:=dCe_eq hh
    clear hh
    split at h
    case h_2=>cases h
    have e2:=Option.bind_eq_some_iff.1 h
    clear h
    obtain ⟨_,hh,h⟩:=e2
    obtain rfl:=dI_eq hh
    clear hh
    have e2:=Option.bind_eq_some_iff.1 h
    clear h
    obtain ⟨_,hh,h⟩:=e2
    obtain rfl:=dI_eq hh
    clear hh
    have e2:=Option.bind_eq_some_iff.1 h
    clear h
    obtain ⟨_,hh,h⟩:=e2
    obtain rfl:=dI_eq hh
    clear hh
    have e2:=Option.bind_eq_some_iff.1 h
    clear h
    obtain ⟨_,hh,h⟩:=e2
    obtain rfl:=dLs_eq hh
    clear hh
    have e2:=Option.bind_eq_some_iff.1 h
    clear h
    obtain ⟨_,hh,h⟩:=e2
    obtain rfl:=dLs_eq hh
    clear hh
    have e2:=Option.bind_eq_some_iff.1 h
    clear h
    obtain ⟨_,hh,h⟩:=e2
    obtain rfl:=dCe_eq hh
    clear hh
    split at h
    case h_2=>cases h
    have e2:=Option.bind_eq_some_iff.1 h
    clear h
    obtain ⟨_,hh,h⟩:=e2
    obtain rfl:=dNl_eq hh
    clear hh
    have e2:=Option.bind_eq_some_iff.1 h
    clear h
    obtain ⟨_,hh,h⟩:=e2
    obtain rfl:=dCe_eq hh
    clear hh
    split at h
    case h_2=>cases h
    have e2:=Option.bind_eq_some_iff.1 h
    clear h
    obtain ⟨_,hh,h⟩:=e2
    obtain rfl:=dI_eq hh
    clear hh
    have e2:=Option.bind_eq_some_iff.1 h
    clear h
    obtain ⟨_,hh,h⟩:=e2
    obtain rfl:=dI_eq hh
    clear hh
    have e2:=Option.bind_eq_some_iff.1 h
    clear h
    obtain ⟨_,hh,h⟩:=e2
    obtain rfl:=dI_eq hh
    clear hh
    have e2:=Option.bind_eq_some_iff.1 h
    clear h
    obtain ⟨_,hh,h⟩:=e2
    obtain rfl:=dLs_eq hh
    clear hh
    have e2:=Option.bind_eq_some_iff.1 h
    clear h
    obtain ⟨_,hh,h⟩:=e2
    obtain rfl:=dLs_eq hh
    clear hh
    have e2:=Option.bind_eq_some_iff.1 h
    clear h
    obtain ⟨_,hh,h⟩:=e2
    obtain rfl:=dCe_eq hh
    clear hh
    split at h
    case h_2=>cases h
    have e2:=Option.bind_eq_some_iff.1 h
    clear h
    obtain ⟨_,hh,h⟩:=e2
    obtain rfl:=dI_eq hh
    clear hh
    have e2:=Option.bind_eq_some_iff.1 h
    clear h
    obtain ⟨_,hh,h⟩:=e2
    obtain rfl:=dDf_eq hh
    clear hh
    have e2:=Option.bind_eq_some_iff.1 h
    clear h
    obtain ⟨⟨_,_,_⟩,hh,h⟩:=e2
    dsimp only at hh h
    obtain rfl:=dLo_eq hh
    clear hh
    split at h
    case h_2=>cases h
    have e2:=Option.bind_eq_some_iff.1 h
    clear h
    obtain ⟨_,hh,h⟩:=e2
    have hh:=dAn_eq hh
    have e2:=Option.bind_eq_some_iff.1 h
    clear h
    obtain ⟨_,hh,h⟩:=e2
    have hh:=dAn_eq hh
    have e2:=Option.bind_eq_some_iff.1 h
    clear h
    obtain ⟨_,hh,h⟩:=e2
    have hh:=dAn_eq hh
    have e2:=Option.bind_eq_some_iff.1 h
    clear h
    obtain ⟨_,hh,h⟩:=e2
    have hh:=dAn_eq hh
    have e2:=Option.bind_eq_some_iff.1 h
    clear h
    obtain ⟨_,hh,h⟩:=e2
    have hh:=dAn_eq hh
    have e2:=Option.bind_eq_some_iff.1 h
    clear h
    obtain ⟨_,hh,h⟩:=e2
    have hh:=dAn_eq hh
    have e2:=Option.bind_eq_some_iff.1 h
    clear h
    obtain ⟨_,hh,h⟩:=e2
    have hh:=dAn_eq hh
    have e2:=Option.bind_eq_some_iff.1 h
    clear h
    obtain ⟨_,hh,h⟩:=e2
    have hh:=dAn_eq hh
    have e2:=Option.bind_eq_some_iff.1 h
    clear h
    obtain ⟨_,hh,h⟩:=e2
    have hh:=dAn_eq hh
    have e2:=Option.bind_eq_some_iff.1 h
    clear h
    obtain ⟨_,hh,h⟩:=e2
    obtain rfl:=dPt_eq hh
    clear hh
    have e2:=Option.bind_eq_some_iff.1 h
    clear h
    obtain ⟨_,hh,h⟩:=e2
    have hh:=dAn_eq hh
    have e2:=Option.bind_eq_some_iff.1 h
    clear h
    obtain ⟨_,hh,h⟩:=e2
    have hh:=dAn_eq hh
    have e2:=Option.bind_eq_some_iff.1 h
    clear h
    obtain ⟨_,hh,h⟩:=e2
    have hh:=dAn_eq hh
    have e2:=Option.bind_eq_some_iff.1 h
    clear h
    obtain ⟨_,hh,h⟩:=e2
    have hh:=dAn_eq hh
    have e2:=Option.bind_eq_some_iff.1 h
    clear h
    obtain ⟨_,hh,h⟩:=e2
    have hh:=dAn_eq hh
    have e2:=Option.bind_eq_some_iff.1 h
    clear h
    obtain ⟨_,hh,h⟩:=e2
    have hh:=dAn_eq hh
    have e2:=Option.bind_eq_some_iff.1 h
    clear h
    obtain ⟨_,hh,h⟩:=e2
    have hh:=dAn_eq hh
    have e2:=Option.bind_eq_some_iff.1 h
    clear h
    obtain ⟨_,hh,h⟩:=e2
    have hh:=dAn_eq hh
    have e2:=Option.bind_eq_some_iff.1 h
    clear h
    obtain ⟨_,hh,h⟩:=e2
    obtain rfl:=dBo_eq hh
    clear hh
    have e2:=Option.bind_eq_some_iff.1 h
    clear h
    obtain ⟨_,hh,h⟩:=e2
    have hh:=dAn_eq hh
    have e2:=Option.bind_eq_some_iff.1 h
    clear h
    obtain ⟨_,hh,h⟩:=e2
    have hh:=dAn_eq hh
    have e2:=Option.bind_eq_some_iff.1 h
    clear h
    obtain ⟨_,hh,h⟩:=e2
    obtain rfl:=dBo_eq hh
    clear hh
    have e2:=Option.bind_eq_some_iff.1 h
    clear h
    obtain ⟨_,hh,h⟩:=e2
    obtain rfl:=dBo_eq hh
    clear hh
    have e2:=Option.bind_eq_some_iff.1 h
    clear h
    obtain ⟨_,hh,h⟩:=e2
    have hh:=dAn_eq hh
    have e2:=Option.bind_eq_some_iff.1 h
    clear h
    obtain ⟨_,hh,h⟩:=e2
    have hh:=dAn_eq hh
    have e2:=Option.bind_eq_some_iff.1 h
    clear h
    obtain ⟨_,hh,h⟩:=e2
    have hh:=dAn_eq hh
    have e2:=Option.bind_eq_some_iff.1 h
    clear h
    obtain ⟨_,hh,h⟩:=e2
    have hh:=dAn_eq hh
    have e2:=Option.bind_eq_some_iff.1 h
    clear h
    obtain ⟨_,hh,h⟩:=e2
    have hh:=dAn_eq hh
    have e2:=Option.bind_eq_some_iff.1 h
    clear h
    obtain ⟨_,hh,h⟩:=e2
    have hh:=dAn_eq hh
    have e2:=Option.bind_eq_some_iff.1 h
    clear h
    obtain ⟨_,hh,h⟩:=e2
    have hh:=dAn_eq hh
    have e2:=Option.bind_eq_some_iff.1 h
    clear h
    obtain ⟨_,hh,h⟩:=e2
    have hh:=dAn_eq hh
    have e2:=Option.bind_eq_some_iff.1 h
    clear h
    obtain ⟨_,hh,h⟩:=e2
    have hh:=dAn_eq hh
    simp only [Option.some.injEq,Prod.mk.injEq]at h
    obtain ⟨rfl,rfl⟩:=h
    replace hc:Code.seq (Code.seq _ _) _=Code.seq (Code.seq Lp25_102x0.c (theRangeG Try.prog 25 0).1) (theRangeG Try.prog 25 0).2:=hc
    simp only [Code.seq.injEq]at hc
    obtain ⟨⟨rfl,rfl⟩,rfl⟩:=hc
    refine ⟨_,_,rfl,(.same (.same (.same (.same (.same (.loop (.lo (by assumption) (.lo (by assumption) (.lo (by assumption) (.lo (by assumption) (.lo (by assumption) (.lo (by assumption) (.lo (by assumption) (.lo (by assumption) (.lo (by assumption) (.same (.lo (by assumption) (.lo (by assumption) (.lo (by assumption) (.lo (by assumption) (.lo (by assumption) (.lo (by assumption) (.lo (by assumption) (.lo (by assumption) (.same (.lo (by assumption) (.lo (by assumption) (.same (.same (.lo (by assumption) (.lo (by assumption) (.lo (by assumption) (.lo (by assumption) (.lo (by assumption) (.lo (by assumption) (.lo (by assumption) (.lo (by assumption) (.lo (by assumption) .nil)))))))))))))))))))))))))))))))) (Forgets.refl _))))))),lenIs_eq _ _ hlen,?_⟩
    intro kv hk
    simp only [Lp25_102x0,List.zip_cons_cons,List.zip_nil_right,List.mem_cons,List.not_mem_nil,or_false]at hk
    rcases hk with rfl | rfl | rfl | rfl | rfl | rfl<;>assumption
  · split at h
    case h_2=>cases h
    rename_i hreg hlen
    have e2:=Option.bind_eq_some_iff.1 h
    clear h
    obtain ⟨_,hh,h⟩:=e2
    have hh:=dYi_eq hh
    have e2:=Option.bind_eq_some_iff.1 h
    clear h
    obtain ⟨_,hh,h⟩:=e2
    have hh:=dPt_eq hh
    have e2:=Option.bind_eq_some_iff.1 h
    clear h
    obtain ⟨_,hh,h⟩:=e2
    have hh:=dPt_eq hh
    have e2:=Option.bind_eq_some_iff.1 h
    clear h
    obtain ⟨_,hh,h⟩:=e2
    have hh:=dLs_eq hh
    have e2:=Option.bind_eq_some_iff.1 h
    clear h
    obtain ⟨_,hh,h⟩:=e2
    have hh:=dI_eq hh
    have e2:=Option.bind_eq_some_iff.1 h
    clear h
    obtain ⟨_,hh,h⟩:=e2
    have hh:=dI_eq hh
    have e2:=Option.bind_eq_some_iff.1 h
    clear h
    obtain ⟨_,hh,h⟩:=e2
    obtain rfl:=dCe_eq hh
    clear hh
    split at h
    case h_2=>cases h
    have e2:=Option.bind_eq_some_iff.1 h
    clear h
    obtain ⟨_,hh,h⟩:=e2
    obtain rfl:=dI_eq hh
    clear hh
    have e2:=Option.bind_eq_some_iff.1 h
    clear h
    obtain ⟨_,hh,h⟩:=e2
    obtain rfl:=dI_eq hh
    clear hh
    have e2:=Option.bind_eq_some_iff.1 h
    clear h
    obtain ⟨_,hh,h⟩:=e2
    obtain rfl:=dI_eq hh
    clear hh
    have e2:=Option.bind_eq_some_iff.1 h
    clear h
    obtain ⟨_,hh,h⟩:=e2
    obtain rfl:=dLs_eq hh
    clear hh
    have e2:=Option.bind_eq_some_iff.1 h
    clear h
    obtain ⟨_,hh,h⟩:=e2
    obtain rfl:=dLs_eq hh
    clear hh
    have e2:=Option.bind_eq_some_iff.1 h
    clear h
    obtain ⟨_,hh,h⟩:=e2
    obtain rfl:=dCe_eq hh
    clear hh
    split at h
    case h_2=>cases h
    have e2:=Option.bind_eq_some_iff.1 h
    clear h
    obtain ⟨_,hh,h⟩:=e2
    obtain rfl:=dSl_eq hh
    clear hh
    have e2:=Option.bind_eq_some_iff.1 h
    clear h
    obtain ⟨_,hh,h⟩:=e2
    obtain rfl:=dCe_eq hh
    clear hh
    split at h
    case h_2=>cases h
    have e2:=Option.bind_eq_some_iff.1 h
    clear h
    obtain ⟨_,hh,h⟩:=e2
    obtain rfl:=dI_eq hh
    clear hh
    have e2:=Option.bind_eq_some_iff.1 h
    clear h
    obtain ⟨_,hh,h⟩:=e2
    obtain rfl:=dI_eq hh
    clear hh
    have e2:=Option.bind_eq_some_iff.1 h
    clear h
    obtain ⟨_,hh,h⟩:=e2
    obtain rfl:=dI_eq hh
    clear hh
    have e2:=Option.bind_eq_some_iff.1 h
    clear h
    obtain ⟨_,hh,h⟩:=e2
    obtain rfl:=dLs_eq hh
    clear hh
    have e2:=Option.bind_eq_some_iff.1 h
    clear h
    obtain ⟨_,hh,h⟩:=e2
    obtain rfl:=dLs_eq hh
    clear hh
    have e2:=Option.bind_eq_some_iff.1 h
    clear h
    obtain ⟨_,hh,h⟩:=e2
    obtain rfl:=dCe_eq hh
    clear hh
    split at h
    case h_2=>cases h
    have e2:=Option.bind_eq_some_iff.1 h
    clear h
    obtain ⟨_,hh,h⟩:=e2
    obtain rfl:=dI_eq hh
    clear hh
    have e2:=Option.bind_eq_some_iff.1 h
    clear h
    obtain ⟨_,hh,h⟩:=e2
    obtain rfl:=dDf_eq hh
    clear hh
    have e2:=Option.bind_eq_some_iff.1 h
    clear h
    obtain ⟨⟨_,_,_⟩,hh,h⟩:=e2
    dsimp only at hh h
    obtain rfl:=dLo_eq hh
    clear hh
    split at h
    case h_2=>cases h
    have e2:=Option.bind_eq_some_iff.1 h
    clear h
    obtain ⟨_,hh,h⟩:=e2
    have hh:=dAn_eq hh
    have e2:=Option.bind_eq_some_iff.1 h
    clear h
    obtain ⟨_,hh,h⟩:=e2
    have hh:=dAn_eq hh
    have e2:=Option.bind_eq_some_iff.1 h
    clear h
    obtain ⟨_,hh,h⟩:=e2
    have hh:=dAn_eq hh
    have e2:=Option.bind_eq_some_iff.1 h
    clear h
    obtain ⟨_,hh,h⟩:=e2
    have hh:=dAn_eq hh
    have e2:=Option.bind_eq_some_iff.1 h
    clear h
    obtain ⟨_,hh,h⟩:=e2
    have hh:=dAn_eq hh
    have e2:=Option.bind_eq_some_iff.1 h
    clear h
    obtain ⟨_,hh,h⟩:=e2
    have hh:=dAn_eq hh
    have e2:=Option.bind_eq_some_iff.1 h
    clear h
    obtain ⟨_,hh,h⟩:=e2
    have hh:=dAn_eq hh
    have e2:=Option.bind_eq_some_iff.1 h
    clear h
    obtain ⟨_,hh,h⟩:=e2
    have hh:=dAn_eq hh
    have e2:=Option.bind_eq_some_iff.1 h
    clear h
    obtain ⟨_,hh,h⟩:=e2
    have hh:=dAn_eq hh
    have e2:=Option.bind_eq_some_iff.1 h
    clear h
    obtain ⟨_,hh,h⟩:=e2
    obtain rfl:=dPt_eq hh
    clear hh
    have e2:=Option.bind_eq_some_iff.1 h
    clear h
    obtain ⟨_,hh,h⟩:=e2
    have hh:=dAn_eq hh
    have e2:=Option.bind_eq_some_iff.1 h
    clear h
    obtain ⟨_,hh,h⟩:=e2
    have hh:=dAn_eq hh
    have e2:=Option.bind_eq_some_iff.1 h
    clear h
    obtain ⟨_,hh,h⟩:=e2
    have hh:=dAn_eq hh
    have e2:=Option.bind_eq_some_iff.1 h
    clear h
    obtain ⟨_,hh,h⟩:=e2
    have hh:=dAn_eq hh
    have e2:=Option.bind_eq_some_iff.1 h
    clear h
    obtain ⟨_,hh,h⟩:=e2
    have hh:=dAn_eq hh
    have e2:=Option.bind_eq_some_iff.1 h
    clear h
    obtain ⟨_,hh,h⟩:=e2
    have hh:=dAn_eq hh
    have e2:=Option.bind_eq_some_iff.1 h
    clear h
    obtain ⟨_,hh,h⟩:=e2
    have hh:=dAn_eq hh
    have e2:=Option.bind_eq_some_iff.1 h
    clear h
    obtain ⟨_,hh,h⟩:=e2
    have hh:=dAn_eq hh
    have e2:=Option.bind_eq_some_iff.1 h
    clear h
    obtain ⟨_,hh,h⟩:=e2
    obtain rfl:=dBo_eq hh
    clear hh
    have e2:=Option.bind_eq_some_iff.1 h
    clear h
    obtain ⟨_,hh,h⟩:=e2
    have hh:=dAn_eq hh
    have e2:=Option.bind_eq_some_iff.1 h
    clear h
    obtain ⟨_,hh,h⟩:=e2
    have hh:=dAn_eq hh
    have e2:=Option.bind_eq_some_iff.1 h
    clear h
    obtain ⟨_,hh,h⟩:=e2
    obtain rfl:=dBo_eq hh
    clear hh
    have e2:=Option.bind_eq_some_iff.1 h
    clear h
    obtain ⟨_,hh,h⟩:=e2
    obtain rfl:=dBo_eq hh
    clear hh
    have e2:=Option.bind_eq_some_iff.1 h
    clear h
    obtain ⟨_,hh,h⟩:=e2
    have hh:=dAn_eq hh
    have e2:=Option.bind_eq_some_iff.1 h
    clear h
    obtain ⟨_,hh,h⟩:=e2
    have hh:=dAn_eq hh
    have e2:=Option.bind_eq_some_iff.1 h
    clear h
    obtain ⟨_,hh,h⟩:=e2
    have hh:=dAn_eq hh
    have e2:=Option.bind_eq_some_iff.1 h
    clear h
    obtain ⟨_,hh,h⟩:=e2
    have hh:=dAn_eq hh
    have e2:=Option.bind_eq_some_iff.1 h
    clear h
    obtain ⟨_,hh,h⟩:=e2
    have hh:=dAn_eq hh
    have e2:=Option.bind_eq_some_iff.1 h
    clear h
    obtain ⟨_,hh,h⟩:=e2
    have hh:=dAn_eq hh
    have e2:=Option.bind_eq_some_iff.1 h
    clear h
    obtain ⟨_,hh,h⟩:=e2
    have hh:=dAn_eq hh
    have e2:=Option.bind_eq_some_iff.1 h
    clear h
    obtain ⟨_,hh,h⟩:=e2
    have hh:=dAn_eq hh
    have e2:=Option.bind_eq_some_iff.1 h
    clear h
    obtain ⟨_,hh,h⟩:=e2
    have hh:=dAn_eq hh
    have e2:=Option.bind_eq_some_iff.1 h
    clear h
    obtain ⟨_,hh,h⟩:=e2
    obtain rfl:=dAr_eq hh
    clear hh
    simp only [Option.some.injEq,Prod.mk.injEq]at h
    obtain ⟨rfl,rfl⟩:=h
    replace hc:Code.seq (Code.seq _ _) _=Code.seq (Code.seq Lp25_102x0.c (theRangeG Try.prog 25 0).1) (theRangeG Try.prog 25 0).2:=hc
    simp only [Code.seq.injEq]at hc
    obtain ⟨⟨rfl,rfl⟩,rfl⟩:=hc
    refine ⟨_,_,rfl,(.same (.same (.same (.same (.same (.loop (.lo (by assumption) (.lo (by assumption) (.lo (by assumption) (.lo (by assumption) (.lo (by assumption) (.lo (by assumption) (.lo (by assumption) (.lo (by assumption) (.lo (by assumption) (.same (.lo (by assumption) (.lo (by assumption) (.lo (by assumption) (.lo (by assumption) (.lo (by assumption) (.lo (by assumption) (.lo (by assumption) (.lo (by assumption) (.same (.lo (by assumption) (.lo (by assumption) (.same (.same (.lo (by assumption) (.lo (by assumption) (.lo (by assumption) (.lo (by assumption) (.lo (by assumption) (.lo (by assumption) (.lo (by assumption) (.lo (by assumption) (.lo (by assumption) .nil)))))))))))))))))))))))))))))))) (Forgets.refl _))))))),lenIs_eq _ _ hlen,?_⟩
    intro kv hk
    simp only [Lp25_102x0,List.zip_cons_cons,List.zip_nil_right,List.mem_cons,List.not_mem_nil,or_false]at hk
    rcases hk with rfl | rfl | rfl | rfl | rfl | rfl<;>assumption
  · cases h
theorem kl25_102x0:∃J,Known Try.prog (la25_102x0 J):=by
  exact LoopS.knownB noNG mixed ok25_102x0 (Known.or known20 known57) (n:=60) (rd:=rd25_102x0) (fun x j _=>T25_102x0  x j) (fun x=>x.hb) (fun x=>x.hw) dec25_102x0 alt25_102x0 hd25_102x0 ha25_102x0
structure R25 where
  r0:Array Value
  r1:Nat
  r2:Nat
  r3:Int
structure A25 where
  a0:Int
  a1:Int
  a2:Int
  a3:Array Value
  a4:Nat
  a5:Nat
  a6:Array Value
  a7:Nat
  a8:Nat
  a9:Int
def rt25 (a0:Int)(a1:Int)(a2:Int)(a3:Array Value)(a4:Nat)(a5:Nat)(a6:Array Value)(a7:Nat)(a8:Nat)(a9:Int):RT R25 :=
  .br (Proofs.Ytmppkpdoonljpaa.F20_ok a0 a1 a2 (a3) a4 a5 (a6) a7 a8) (.br (not (decide ((Proofs.Ytmppkpdoonljpaa.F20_2 a0 a1 a2 (a3) a4 a5 (a6) a7 a8)=(0:Int)))) (.leaf ⟨⟨[]⟩,0,0,(Proofs.Ytmppkpdoonljpaa.F20_2 a0 a1 a2 (a3) a4 a5 (a6) a7 a8)⟩) (.br (Proofs.Ytmppkpdoonljpaa.F57_ok a9) (.br (not (Proofs.Ytmppkpdoonljpaa.F57_0 a9)) (.leaf ⟨⟨[]⟩,0,0,(7:Int)⟩) (.br (eqCode (Cd25_102x0) (Cd25_102x0))
     (.br (Proofs.Ytmppkpdoonljpaa.L25_102x0_k0 (Proofs.Ytmppkpdoonljpaa.X25_102x0.mk Option.none 6 [] (a6) a7 a8 (Int.ofNat a8) (0:Int) a0 a1 a2 (a3) a4 a5 (a6) a7 a8 a0 a1 a2 (a3) a4 a5 (a6) a7 a8 a9 false (Proofs.Ytmppkpdoonljpaa.F57_0 a9) false)) (.leaf ⟨(Proofs.Ytmppkpdoonljpaa.L25_102x0_k0_9 (Proofs.Ytmppkpdoonljpaa.X25_102x0.mk Option.none 6 [] (a6) a7 a8 (Int.ofNat a8) (0:Int) a0 a1 a2 (a3) a4 a5 (a6) a7 a8 a0 a1 a2 (a3) a4 a5 (a6) a7 a8 a9 false (Proofs.Ytmppkpdoonljpaa.F57_0 a9) false)),(Proofs.Ytmppkpdoonljpaa.L25_102x0_k0_10 (Proofs.Ytmppkpdoonljpaa.X25_102x0.mk Option.none 6 [] (a6) a7 a8 (Int.ofNat a8) (0:Int) a0 a1 a2 (a3) a4 a5 (a6) a7 a8 a0 a1 a2 (a3) a4 a5 (a6) a7 a8 a9 false (Proofs.Ytmppkpdoonljpaa.F57_0 a9) false)),(Proofs.Ytmppkpdoonljpaa.L25_102x0_k0_11 (Proofs.Ytmppkpdoonljpaa.X25_102x0.mk Option.none 6 [] (a6) a7 a8 (Int.ofNat a8) (0:Int) a0 a1 a2 (a3) a4 a5 (a6) a7 a8 a0 a1 a2 (a3) a4 a5 (a6) a7 a8 a9 false (Proofs.Ytmppkpdoonljpaa.F57_0 a9) false)),(0:Int)⟩) (.no)) (.no))) (.no))) (.no)
def en25 (r:R25):Value:=(.tuple ⟨[(lstV r.r0 r.r1 r.r2 1),(.int .i64 r.r3)]⟩)
theorem T25 (J102x0:Task→List Value)(a0:Int)(a1:Int)(a2:Int)(a3:Array Value)(a4:Nat)(a5:Nat)(a6:Array Value)(a7:Nat)(a8:Nat)(a9:Int):evC Try.prog (Ans.c (p20.or (p57.or (la25_102x0 J102x0)))) 60 (.call 25 ⟨[(.agg ⟨[(.int .i64 a0),(.int .i64 a1),(.int .i64 a2),(lstV a3 a4 a5 6),(lstV a6 a7 a8 5)]⟩),(.int .i64 a9)]⟩ ⟨[],0,[]⟩) (frzK [1,0])=(rt25 a0 a1 a2 a3 a4 a5 a6 a7 a8 a9).out (fun r=>.ret (en25 r) ⟨[],0,[]⟩):=by kernel_rfl
def F25 (a0:Int)(a1:Int)(a2:Int)(a3:Array Value)(a4:Nat)(a5:Nat)(a6:Array Value)(a7:Nat)(a8:Nat)(a9:Int):Option R25:=(rt25 a0 a1 a2 a3 a4 a5 a6 a7 a8 a9).val
section
variable (a0:Int) (a1:Int) (a2:Int) (a3:Array Value) (a4:Nat) (a5:Nat) (a6:Array Value) (a7:Nat) (a8:Nat) (a9:Int)
def F25_ok:Bool:=(F25 a0 a1 a2 a3 a4 a5 a6 a7 a8 a9).isSome
def F25_0:Array Value:=match F25 a0 a1 a2 a3 a4 a5 a6 a7 a8 a9 with | some r=>r.r0 | none=>#[]
def F25_1:Nat:=match F25 a0 a1 a2 a3 a4 a5 a6 a7 a8 a9 with | some r=>r.r1 | none=>0
def F25_2:Nat:=match F25 a0 a1 a2 a3 a4 a5 a6 a7 a8 a9 with | some r=>r.r2 | none=>0
def F25_3:Int:=match F25 a0 a1 a2 a3 a4 a5 a6 a7 a8 a9 with | some r=>r.r3 | none=>0
end
def dec25:Task→Option (A25×Hp)
  | .call g ⟨[(.agg ⟨[(.int .i64 a0),(.int .i64 a1),(.int .i64 a2),(.func (.via 0 ⟨[]⟩ 0 true) a3 ⟨[.slice (some ⟨0,a4,none⟩) a5 6]⟩),(.func (.via 0 ⟨[]⟩ 0 true) a6 ⟨[.slice (some ⟨0,a7,none⟩) a8 5]⟩)]⟩),(.int .i64 a9)]⟩ h=>(match Nat.beq g 25 with | true=>some (⟨a0,a1,a2,a3,a4,a5,a6,a7,a8,a9⟩,h) | false=>none)
  | _=>none
def alt25 (x:A25)(h:Hp):AT:=.br (F25_ok x.a0 x.a1 x.a2 x.a3 x.a4 x.a5 x.a6 x.a7 x.a8 x.a9) (.leaf (.ret (.tuple ⟨[(lstV (F25_0 x.a0 x.a1 x.a2 x.a3 x.a4 x.a5 x.a6 x.a7 x.a8 x.a9) (F25_1 x.a0 x.a1 x.a2 x.a3 x.a4 x.a5 x.a6 x.a7 x.a8 x.a9) (F25_2 x.a0 x.a1 x.a2 x.a3 x.a4 x.a5 x.a6 x.a7 x.a8 x.a9) 1),(.int .i64 (F25_3 x.a0 x.a1 x.a2 x.a3 x.a4 x.a5 x.a6 x.a7 x.a8 x.a9))]⟩) h)) .no
def p25:Ans:=fnAns dec25 alt25
theorem ha25:∀(x:A25) (h:Hp)(o:Out),(alt25 x h).out=some o→∃r,(rt25 x.a0 x.a1 x.a2 x.a3 x.a4 x.a5 x.a6 x.a7 x.a8 x.a9).val=some r∧o=.ret (en25 r) h:=by
  intro x h o e
  unfold alt25 at e
  simp only [AT.out]at e
  obtain ⟨g,e⟩:=cond_some e
  unfold F25_ok at g
  obtain ⟨r,hF⟩:=Option.isSome_iff_exists.1 g
  have hv:F25 x.a0 x.a1 x.a2 x.a3 x.a4 x.a5 x.a6 x.a7 x.a8 x.a9=(rt25 x.a0 x.a1 x.a2 x.a3 x.a4 x.a5 x.a6 x.a7 x.a8 x.a9).val:=by delta F25;exact rfl
  refine ⟨r,hv.symm.trans hF,?_⟩
  simp only [Option.some.injEq]at e
  rw [← e]
  have k0:F25_0 x.a0 x.a1 x.a2 x.a3 x.a4 x.a5 x.a6 x.a7 x.a8 x.a9=r.r0:=by
    show (match F25 x.a0 x.a1 x.a2 x.a3 x.a4 x.a5 x.a6 x.a7 x.a8 x.a9 with | some r=>r.r0 | none=>#[])=r.r0
    rw [hF]
  have k1:F25_1 x.a0 x.a1 x.a2 x.a3 x.a4 x.a5 x.a6 x.a7 x.a8 x.a9=r.r1:=by
    show (match F25 x.a0 x.a1 x.a2 x.a3 x.a4 x.a5 x.a6 x.a7 x.a8 x.a9 with | some r=>r.r1 | none=>0)=r.r1
    rw [hF]
  have k2:F25_2 x.a0 x.a1 x.a2 x.a3 x.a4 x.a5 x.a6 x.a7 x.a8 x.a9=r.r2:=by
    show (match F25 x.a0 x.a1 x.a2 x.a3 x.a4 x.a5 x.a6 x.a7 x.a8 x.a9 with | some r=>r.r2 | none=>0)=r.r2
    rw [hF]
  have k3:F25_3 x.a0 x.a1 x.a2 x.a3 x.a4 x.a5 x.a6 x.a7 x.a8 x.a9=r.r3:=by
    show (match F25 x.a0 x.a1 x.a2 x.a3 x.a4 x.a5 x.a6 x.a7 x.a8 x.a9 with | some r=>r.r3 | none=>0)=r.r3
    rw [hF]
  rw [k0,k1,k2,k3]<;>rfl
theorem hd25:∀(t:Task) (x:A25)(h:Hp),dec25 t=some (x,h)→t=.call 25 ⟨[(.agg ⟨[(.int .i64 x.a0),(.int .i64 x.a1),(.int .i64 x.a2),(lstV x.a3 x.a4 x.a5 6),(lstV x.a6 x.a7 x.a8 5)]⟩),(.int .i64 x.a9)]⟩ h:=by
  intro t x h e
  unfold dec25 at e
  split at e
  case h_2=>cases e
  split at e
  case h_2=>cases e
  rename_i hg
  simp only [Option.some.injEq,Prod.mk.injEq]at e
  obtain ⟨rfl,rfl⟩:=e
  rw [Nat.eq_of_beq_eq_true hg]
theorem known25:Known Try.prog p25:=by
  obtain ⟨J102x0,hJ102x0⟩:=kl25_102x0
  exact Known.fn noNG mixed (Known.or known20 (Known.or known57 hJ102x0)) (n:=60) (zs:=[1,0]) 25 (fun x:A25=>[(.agg ⟨[(.int .i64 x.a0),(.int .i64 x.a1),(.int .i64 x.a2),(lstV x.a3 x.a4 x.a5 6),(lstV x.a6 x.a7 x.a8 5)]⟩),(.int .i64 x.a9)]) (fun x=>rt25 x.a0 x.a1 x.a2 x.a3 x.a4 x.a5 x.a6 x.a7 x.a8 x.a9) en25 (fun x=>T25 J102x0 x.a0 x.a1 x.a2 x.a3 x.a4 x.a5 x.a6 x.a7 x.a8 x.a9) (fun x=>rfl) dec25 alt25 hd25 ha25
structure R70 where
  r0:Bool
structure A70 where
  a0:Int
  a1:Int
  a2:Int
  a3:Array Value
  a4:Nat
  a5:Nat
  a6:Array Value
  a7:Nat
  a8:Nat
  a9:Int
  a10:Int
def rt70 (a0:Int)(a1:Int)(a2:Int)(a3:Array Value)(a4:Nat)(a5:Nat)(a6:Array Value)(a7:Nat)(a8:Nat)(a9:Int)(a10:Int):RT R70 :=
  .br (and (decide ((0:Int)≤a9)) (decide (a9<(Int.ofNat a8)))) (.br (isInt .i64 a6 ((a7+((Int.toNat a9)*5))+1)) (.br (and (decide ((0:Int)≤a9)) (decide (a9<(Int.ofNat a8)))) (.br (isInt .i64 a6 ((a7+((Int.toNat a9)*5))+0)) (.br (and (decide ((0:Int)≤(getInt a6 ((a7+((Int.toNat a9)*5))+0)))) (decide ((getInt a6 ((a7+((Int.toNat a9)*5))+0))<(Int.ofNat a5)))) (.br (isInt .i64 a3 ((a4+((Int.toNat (getInt a6 ((a7+((Int.toNat a9)*5))+0)))*6))+5)) (.leaf ⟨(decide ((IntKind.wrap .i64 ((getInt a6 ((a7+((Int.toNat a9)*5))+1))+(getInt a3 ((a4+((Int.toNat (getInt a6 ((a7+((Int.toNat a9)*5))+0)))*6))+5))))≤a10))⟩) (.no)) (.no)) (.no)) (.no)) (.no)) (.no)
def en70 (r:R70):Value:=(.bool r.r0)
theorem T70  (a0:Int) (a1:Int) (a2:Int) (a3:Array Value) (a4:Nat) (a5:Nat) (a6:Array Value) (a7:Nat) (a8:Nat) (a9:Int) (a10:Int):evC Try.prog (Ans.c (fun _=>none:Ans)) 60 (.call 70 ⟨[(.agg ⟨[(.int .i64 a0),(.int .i64 a1),(.int .i64 a2),(lstV a3 a4 a5 6),(lstV a6 a7 a8 5)]⟩),(.int .i64 a9),(.int .i64 a10)]⟩ ⟨[],0,[]⟩) (frzK [0])=(rt70 a0 a1 a2 a3 a4 a5 a6 a7 a8 a9 a10).out (fun r=>.ret (en70 r) ⟨[],0,[]⟩):=by kernel_rfl
def F70 (a0:Int)(a1:Int)(a2:Int)(a3:Array Value)(a4:Nat)(a5:Nat)(a6:Array Value)(a7:Nat)(a8:Nat)(a9:Int)(a10:Int):Option R70:=(rt70 a0 a1 a2 a3 a4 a5 a6 a7 a8 a9 a10).val
section
variable (a0:Int) (a1:Int) (a2:Int) (a3:Array Value) (a4:Nat) (a5:Nat) (a6:Array Value) (a7:Nat) (a8:Nat) (a9:Int) (a10:Int)
def F70_ok:Bool:=(F70 a0 a1 a2 a3 a4 a5 a6 a7 a8 a9 a10).isSome
def F70_0:Bool:=match F70 a0 a1 a2 a3 a4 a5 a6 a7 a8 a9 a10 with | some r=>r.r0 | none=>false
end
def dec70:Task→Option (A70×Hp)
  | .call g ⟨[(.agg ⟨[(.int .i64 a0),(.int .i64 a1),(.int .i64 a2),(.func (.via 0 ⟨[]⟩ 0 true) a3 ⟨[.slice (some ⟨0,a4,none⟩) a5 6]⟩),(.func (.via 0 ⟨[]⟩ 0 true) a6 ⟨[.slice (some ⟨0,a7,none⟩) a8 5]⟩)]⟩),(.int .i64 a9),(.int .i64 a10)]⟩ h=>(match Nat.beq g 70 with | true=>some (⟨a0,a1,a2,a3,a4,a5,a6,a7,a8,a9,a10⟩,h) | false=>none)
  | _=>none
def alt70 (x:A70)(h:Hp):AT:=.br (F70_ok x.a0 x.a1 x.a2 x.a3 x.a4 x.a5 x.a6 x.a7 x.a8 x.a9 x.a10) (.leaf (.ret (.bool (F70_0 x.a0 x.a1 x.a2 x.a3 x.a4 x.a5 x.a6 x.a7 x.a8 x.a9 x.a10)) h)) .no
def p70:Ans:=fnAns dec70 alt70
theorem ha70:∀(x:A70) (h:Hp)(o:Out),(alt70 x h).out=some o→∃r,(rt70 x.a0 x.a1 x.a2 x.a3 x.a4 x.a5 x.a6 x.a7 x.a8 x.a9 x.a10).val=some r∧o=.ret (en70 r) h:=by
  intro x h o e
  unfold alt70 at e
  simp only [AT.out]at e
  obtain ⟨g,e⟩:=cond_some e
  unfold F70_ok at g
  obtain ⟨r,hF⟩:=Option.isSome_iff_exists.1 g
  have hv:F70 x.a0 x.a1 x.a2 x.a3 x.a4 x.a5 x.a6 x.a7 x.a8 x.a9 x.a10=(rt70 x.a0 x.a1 x.a2 x.a3 x.a4 x.a5 x.a6 x.a7 x.a8 x.a9 x.a10).val:=by delta F70;exact rfl
  refine ⟨r,hv.symm.trans hF,?_⟩
  simp only [Option.some.injEq]at e
  rw [← e]
  have k0:F70_0 x.a0 x.a1 x.a2 x.a3 x.a4 x.a5 x.a6 x.a7 x.a8 x.a9 x.a10=r.r0:=by
    show (match F70 x.a0 x.a1 x.a2 x.a3 x.a4 x.a5 x.a6 x.a7 x.a8 x.a9 x.a10 with | some r=>r.r0 | none=>false)=r.r0
    rw [hF]
  rw [k0]<;>rfl
theorem hd70:∀(t:Task) (x:A70)(h:Hp),dec70 t=some (x,h)→t=.call 70 ⟨[(.agg ⟨[(.int .i64 x.a0),(.int .i64 x.a1),(.int .i64 x.a2),(lstV x.a3 x.a4 x.a5 6),(lstV x.a6 x.a7 x.a8 5)]⟩),(.int .i64 x.a9),(.int .i64 x.a10)]⟩ h:=by
  intro t x h e
  unfold dec70 at e
  split at e
  case h_2=>cases e
  split at e
  case h_2=>cases e
  rename_i hg
  simp only [Option.some.injEq,Prod.mk.injEq]at e
  obtain ⟨rfl,rfl⟩:=e
  rw [Nat.eq_of_beq_eq_true hg]
theorem known70:Known Try.prog p70:=by
  exact Known.fn noNG mixed (Known.nothing Try.prog) (n:=60) (zs:=[0]) 70 (fun x:A70=>[(.agg ⟨[(.int .i64 x.a0),(.int .i64 x.a1),(.int .i64 x.a2),(lstV x.a3 x.a4 x.a5 6),(lstV x.a6 x.a7 x.a8 5)]⟩),(.int .i64 x.a9),(.int .i64 x.a10)]) (fun x=>rt70 x.a0 x.a1 x.a2 x.a3 x.a4 x.a5 x.a6 x.a7 x.a8 x.a9 x.a10) en70 (fun x=>T70  x.a0 x.a1 x.a2 x.a3 x.a4 x.a5 x.a6 x.a7 x.a8 x.a9 x.a10) (fun x=>rfl) dec70 alt70 hd70 ha70
structure X26_0 where
  own:Option (Array Value×Nat)
  v0:Int
  v1:Int
  v2:Int
  v3:Int
  v4:Int
  v5:Array Value
  v6:Nat
  v7:Nat
  v8:Array Value
  v9:Nat
  v10:Nat
inductive D26_0 where
  | k0 (d0:Array Value) (d1:Nat) (d2:Nat) (d3:Int) (d4:Int) (d5:Int) (d6:Array Value) (d7:Nat) (d8:Nat) (d9:Array Value) (d10:Nat) (d11:Nat)
def Lp26_0:LoopG X26_0 D26_0 where
  c:=(theLoop Try.prog 26 0)
  N:=37
  M:=1
  S:=[1,2,8]
  os:=7
  sz:=1
  z:=1
  own:=fun x=>x.own
  sl:=fun x=>[(.int .i64 x.v0),(Value.pointer (Option.some (Addr.mk 0 0 Option.none))),(.int .i64 x.v1)]
  hp:=fun x=>[.cells ⟨[(.int .i64 x.v2),(.int .i64 x.v3),(.int .i64 x.v4),(lstV x.v5 x.v6 x.v7 6),(lstV x.v8 x.v9 x.v10 5)]⟩ false]
  ex:=fun d=>match d with | .k0 ..=>.exit 0
  pick:=fun e=>match e with | .exit 0=>[7] | _=>[]
  dv:=fun d=>match d with | .k0 d0 d1 d2 d3 d4 d5 d6 d7 d8 d9 d10 d11=>[(lstV d0 d1 d2 1)]
  dh:=fun d=>match d with | .k0 d0 d1 d2 d3 d4 d5 d6 d7 d8 d9 d10 d11=>[.cells ⟨[(.int .i64 d3),(.int .i64 d4),(.int .i64 d5),(lstV d6 d7 d8 6),(lstV d9 d10 d11 5)]⟩ false]
theorem ok26_0:Lp26_0.OkG:=⟨⟨fun x=>rfl,fun x=>rfl,fun x=>rfl,fun x=>rfl,fun d=>by cases d<;>rfl,fun d=>by cases d<;>rfl,fun d=>by cases d<;>rfl,fun d=>by cases d<;>(intro h;cases h),fun d=>by cases d<;>rfl,fun d=>by cases d<;>rfl⟩,by decide,by decide,fun d=>match d with | .k0 ..=>(show ([7]:List Nat).Nodup by decide),fun d=>match d with | .k0 ..=>(show ∀k∈([7]:List Nat),k<37 by decide)⟩
def rd26_0 (x:X26_0):RT (Sum X26_0 D26_0):=match x with
  | ⟨none,v0,v1,v2,v3,v4,v5,v6,v7,v8,v9,v10⟩ =>
     .br (decide (v1<(Int.ofNat v10))) (.br (Proofs.Ytmppkpdoonljpaa.F70_ok v2 v3 v4 (v5) v6 v7 (v8) v9 v10 v1 v0) (.br (Proofs.Ytmppkpdoonljpaa.F70_0 v2 v3 v4 (v5) v6 v7 (v8) v9 v10 v1 v0) (.leaf (.inl ⟨(some (⟨[(Value.int .i64 v1)]⟩,1)),v0,(IntKind.wrap .i64 (v1+(1:Int))),v2,v3,v4,v5,v6,v7,v8,v9,v10⟩)) (.leaf (.inl ⟨none,v0,(IntKind.wrap .i64 (v1+(1:Int))),v2,v3,v4,v5,v6,v7,v8,v9,v10⟩))) (.no)) (.leaf (.inr (.k0 (⟨[]⟩) (0) (0) (v2) (v3) (v4) (v5) (v6) (v7) (v8) (v9) (v10))))
  | ⟨some (oa,ol),v0,v1,v2,v3,v4,v5,v6,v7,v8,v9,v10⟩ =>
     .br (decide (v1<(Int.ofNat v10))) (.br (Proofs.Ytmppkpdoonljpaa.F70_ok v2 v3 v4 (v5) v6 v7 (v8) v9 v10 v1 v0) (.br (Proofs.Ytmppkpdoonljpaa.F70_0 v2 v3 v4 (v5) v6 v7 (v8) v9 v10 v1 v0) (.br (and (decide (((ol+1)*8)≤140737488355328)) (decide ((ol+1)≤4611686018427387904))) (.br (decide ((0+(ol*1))≤(Array.size oa))) (.br (allFz (apB (Array.extract oa 0 (0+(ol*1))) ⟨[(Value.int .i64 v1)]⟩)) (.leaf (.inl ⟨(some ((apB (Array.extract oa 0 (0+(ol*1))) ⟨[(Value.int .i64 v1)]⟩),(ol+1))),v0,(IntKind.wrap .i64 (v1+(1:Int))),v2,v3,v4,v5,v6,v7,v8,v9,v10⟩)) (.no)) (.no)) (.no)) (.br (allFz oa) (.leaf (.inl ⟨(some (oa,ol)),v0,(IntKind.wrap .i64 (v1+(1:Int))),v2,v3,v4,v5,v6,v7,v8,v9,v10⟩)) (.no))) (.no)) (.br (and (allFz oa) (decide ((0+(ol*1))≤(Array.size oa)))) (.leaf (.inr (.k0 (oa) (0) (ol) (v2) (v3) (v4) (v5) (v6) (v7) (v8) (v9) (v10)))) (.no))
theorem T26_0n  (y:List Value) (v0:Int) (v1:Int) (v2:Int) (v3:Int) (v4:Int) (v5:Array Value) (v6:Nat) (v7:Nat) (v8:Array Value) (v9:Nat) (v10:Nat):evC Try.prog (Ans.c (p61.or (p67.or p70))) 60 (.code none (theLoop Try.prog 26 0) ⟨sets (junkF 37 y) [(7,.slice none 0 0),(1,(.int .i64 v0)),(2,(Value.pointer (Option.some (Addr.mk 0 0 Option.none)))),(8,(.int .i64 v1))],[],⟨[.cells ⟨[(.int .i64 v2),(.int .i64 v3),(.int .i64 v4),(lstV v5 v6 v7 6),(lstV v8 v9 v10 5)]⟩ false],0,[]⟩⟩) (gK 37 1 7 1 [1,2,8] Lp26_0.pick)=(rd26_0 ⟨none,v0,v1,v2,v3,v4,v5,v6,v7,v8,v9,v10⟩).out Lp26_0.encG:=by kernel_rfl
theorem T26_0s  (y:List Value) (oa:Array Value) (ol:Nat) (v0:Int) (v1:Int) (v2:Int) (v3:Int) (v4:Int) (v5:Array Value) (v6:Nat) (v7:Nat) (v8:Array Value) (v9:Nat) (v10:Nat):evC Try.prog (Ans.c (p61.or (p67.or p70))) 60 (.code none (theLoop Try.prog 26 0) ⟨sets (junkF 37 y) [(7,.slice (some ⟨1,0,none⟩) ol 1),(1,(.int .i64 v0)),(2,(Value.pointer (Option.some (Addr.mk 0 0 Option.none)))),(8,(.int .i64 v1))],[],⟨[.cells ⟨[(.int .i64 v2),(.int .i64 v3),(.int .i64 v4),(lstV v5 v6 v7 6),(lstV v8 v9 v10 5)]⟩ false,.cells oa false],0,[]⟩⟩) (gK 37 1 7 1 [1,2,8] Lp26_0.pick)=(rd26_0 ⟨some (oa,ol),v0,v1,v2,v3,v4,v5,v6,v7,v8,v9,v10⟩).out Lp26_0.encG:=by kernel_rfl
theorem T26_0  (x:X26_0) (y:List Value):evC Try.prog (Ans.c (p61.or (p67.or p70))) 60 (Lp26_0.headG x y) (gK Lp26_0.N Lp26_0.M Lp26_0.os Lp26_0.z Lp26_0.S Lp26_0.pick)=(rd26_0 x).out Lp26_0.encG:=by
  obtain ⟨own,v0,v1,v2,v3,v4,v5,v6,v7,v8,v9,v10⟩:=x
  cases own with
  | none=>exact T26_0n  y v0 v1 v2 v3 v4 v5 v6 v7 v8 v9 v10
  | some al=>obtain ⟨oa,ol⟩:=al;exact T26_0s  y oa ol v0 v1 v2 v3 v4 v5 v6 v7 v8 v9 v10
def L26_0 (x:X26_0):Option D26_0:=loopR rd26_0 x
section
variable (x:X26_0)
def L26_0_k0:Bool:=match L26_0 x with | some (.k0 ..)=>true | _=>false
def Qs0:Array Value:=match L26_0 x with | some (.k0 d _ _ _ _ _ _ _ _ _ _ _)=>d | _=>#[]
def Qs1:Nat:=match L26_0 x with | some (.k0 _ d _ _ _ _ _ _ _ _ _ _)=>d | _=>0
def Qs2:Nat:=match L26_0 x with | some (.k0 _ _ d _ _ _ _ _ _ _ _ _)=>d | _=>0
def Qs3:Int:=match L26_0 x with | some (.k0 _ _ _ d _ _ _ _ _ _ _ _)=>d | _=>0
def Qs4:Int:=match L26_0 x with | some (.k0 _ _ _ _ d _ _ _ _ _ _ _)=>d | _=>0
def Qs5:Int:=match L26_0 x with | some (.k0 _ _ _ _ _ d _ _ _ _ _ _)=>d | _=>0
def Qs6:Array Value:=match L26_0 x with | some (.k0 _ _ _ _ _ _ d _ _ _ _ _)=>d | _=>#[]
def Qs7:Nat:=match L26_0 x with | some (.k0 _ _ _ _ _ _ _ d _ _ _ _)=>d | _=>0
def Qs8:Nat:=match L26_0 x with | some (.k0 _ _ _ _ _ _ _ _ d _ _ _)=>d | _=>0
def Qs9:Array Value:=match L26_0 x with | some (.k0 _ _ _ _ _ _ _ _ _ d _ _)=>d | _=>#[]
def Qs10:Nat:=match L26_0 x with | some (.k0 _ _ _ _ _ _ _ _ _ _ d _)=>d | _=>0
def Qs11:Nat:=match L26_0 x with | some (.k0 _ _ _ _ _ _ _ _ _ _ _ d)=>d | _=>0
end
def dec26_0:Task→Option (Code×X26_0)
  | .code none (.loop code) ⟨t,[],⟨[.cells ⟨[(.int .i64 v2),(.int .i64 v3),(.int .i64 v4),(.func (.via 0 ⟨[]⟩ 0 true) v5 ⟨[.slice (some ⟨0,v6,none⟩) v7 6]⟩),(.func (.via 0 ⟨[]⟩ 0 true) v8 ⟨[.slice (some ⟨0,v9,none⟩) v10 5]⟩)]⟩ false],0,[]⟩⟩ =>
    (match Nat.beq (firstReg code) 8,lenIs t 37,lget t 7,lget t 1,lget t 2,lget t 8 with
    | true,true,.slice none 0 0,(.int .i64 v0),(Value.pointer (Option.some (Addr.mk 0 0 Option.none))),(.int .i64 v1)=>some (code,⟨none,v0,v1,v2,v3,v4,v5,v6,v7,v8,v9,v10⟩)
    | _,_,_,_,_,_=>none)
  | .code none (.loop code) ⟨t,[],⟨[.cells ⟨[(.int .i64 v2),(.int .i64 v3),(.int .i64 v4),(.func (.via 0 ⟨[]⟩ 0 true) v5 ⟨[.slice (some ⟨0,v6,none⟩) v7 6]⟩),(.func (.via 0 ⟨[]⟩ 0 true) v8 ⟨[.slice (some ⟨0,v9,none⟩) v10 5]⟩)]⟩ false,.cells oa false],0,[]⟩⟩ =>
    (match Nat.beq (firstReg code) 8,lenIs t 37,lget t 7,lget t 1,lget t 2,lget t 8 with
    | true,true,.slice (some ⟨1,0,none⟩) ol 1,(.int .i64 v0),(Value.pointer (Option.some (Addr.mk 0 0 Option.none))),(.int .i64 v1)=>some (code,⟨(some (oa,ol)),v0,v1,v2,v3,v4,v5,v6,v7,v8,v9,v10⟩)
    | _,_,_,_,_,_=>none)
  | _=>none
def alt26_0 (x:X26_0)(j:List Value):AT:=match x.own with
  | none=>.br (L26_0_k0 x) (loopEnd 37 (.exit 0) [(7,(lstV (Qs0 x) (Qs1 x) (Qs2 x) 1))] ⟨[.cells ⟨[(.int .i64 (Qs3 x)),(.int .i64 (Qs4 x)),(.int .i64 (Qs5 x)),(lstV (Qs6 x) (Qs7 x) (Qs8 x) 6),(lstV (Qs9 x) (Qs10 x) (Qs11 x) 5)]⟩ false],0,[]⟩ j) (.no)
  | some (oa,ol)=>.br (allFz oa) (.br (L26_0_k0 x) (loopEnd 37 (.exit 0) [(7,(lstV (Qs0 x) (Qs1 x) (Qs2 x) 1))] ⟨[.cells ⟨[(.int .i64 (Qs3 x)),(.int .i64 (Qs4 x)),(.int .i64 (Qs5 x)),(lstV (Qs6 x) (Qs7 x) (Qs8 x) 6),(lstV (Qs9 x) (Qs10 x) (Qs11 x) 5)]⟩ false,.dead],0,[]⟩ j) (.no)) .no
def la26_0 (J:Task→List Value):Ans:=loopAns Lp26_0.c dec26_0 alt26_0 J
theorem ha26_0:∀(x:X26_0) (j:List Value)(o:Out),(alt26_0 x j).out=some o→(∀a l,Lp26_0.own x=some (a,l)→allFz a=true)∧∃d,loopR rd26_0 x=some d∧o=Lp26_0.tailG x d j:=by
  intro x j o h
  obtain ⟨own,v0,v1,v2,v3,v4,v5,v6,v7,v8,v9,v10⟩:=x
  cases own with
  | none =>
    refine ⟨fun a l e=>(by cases e),?_⟩
    cases hL:L26_0 ⟨none,v0,v1,v2,v3,v4,v5,v6,v7,v8,v9,v10⟩ with
    | none=>simp [alt26_0,L26_0_k0,Qs0,Qs1,Qs2,Qs3,Qs4,Qs5,Qs6,Qs7,Qs8,Qs9,Qs10,Qs11,hL,AT.out]at h
    | some d =>
      refine ⟨d,hL,?_⟩
      cases d<;>(simp only [alt26_0,L26_0_k0,Qs0,Qs1,Qs2,Qs3,Qs4,Qs5,Qs6,Qs7,Qs8,Qs9,Qs10,Qs11,hL,AT.out,loopEnd,cond_true,cond_false,Option.some.injEq]at h;rw [← h];rfl)
  | some al =>
    obtain ⟨oa,ol⟩:=al
    obtain ⟨h1,h⟩:=cond_some (show cond (allFz oa) _ none=some o from h)
    refine ⟨fun a l e=>(by cases e;exact h1),?_⟩
    cases hL:L26_0 ⟨some (oa,ol),v0,v1,v2,v3,v4,v5,v6,v7,v8,v9,v10⟩ with
    | none=>simp [L26_0_k0,Qs0,Qs1,Qs2,Qs3,Qs4,Qs5,Qs6,Qs7,Qs8,Qs9,Qs10,Qs11,hL,AT.out]at h
    | some d =>
      refine ⟨d,hL,?_⟩
      cases d<;>(simp only [L26_0_k0,Qs0,Qs1,Qs2,Qs3,Qs4,Qs5,Qs6,Qs7,Qs8,Qs9,Qs10,Qs11,hL,AT.out,loopEnd,cond_true,cond_false,Option.some.injEq]at h;rw [← h];rfl)
theorem hd26_0:∀(t:Task) (c:Code)(x:X26_0),dec26_0 t=some (c,x)→c=Lp26_0.c→∃T,t=.code none (.loop Lp26_0.c) ⟨T,[],⟨Lp26_0.hp x++Lp26_0.ownB x,0,[]⟩⟩∧T.length=Lp26_0.N∧∀kv∈(Lp26_0.os::Lp26_0.S).zip (Lp26_0.ownV x::Lp26_0.sl x),lget T kv.1=kv.2:=by
  intro t c x h hc
  unfold dec26_0 at h
  split at h
  case h_3=>cases h
  all_goals
    split at h
    case h_2=>cases h
    simp only [Option.some.injEq,Prod.mk.injEq]at h
    obtain ⟨rfl,rfl⟩:=h
    subst hc
    refine ⟨_,rfl,lenIs_eq _ _ (by assumption),?_⟩
    intro kv hk
    simp only [Lp26_0,LoopG.ownV,List.zip_cons_cons,List.zip_nil_right,List.mem_cons,List.not_mem_nil,or_false]at hk
    rcases hk with rfl | rfl | rfl | rfl<;>assumption
theorem kl26_0:∃J,Known Try.prog (la26_0 J):=by
  exact LoopG.known noNG mixed ok26_0 (Known.or known61 (Known.or known67 known70)) (n:=60) (rd:=rd26_0) (fun x j _=>T26_0  x j) dec26_0 alt26_0 hd26_0 ha26_0
structure R26 where
  r0:Array Value
  r1:Nat
  r2:Nat
  r3:Int
structure A26 where
  a0:Int
  a1:Int
  a2:Int
  a3:Array Value
  a4:Nat
  a5:Nat
  a6:Array Value
  a7:Nat
  a8:Nat
  a9:Int
def rt26 (a0:Int)(a1:Int)(a2:Int)(a3:Array Value)(a4:Nat)(a5:Nat)(a6:Array Value)(a7:Nat)(a8:Nat)(a9:Int):RT R26 :=
  .br (Proofs.Ytmppkpdoonljpaa.F67_ok a0 a1 a2 (a3) a4 a5 (a6) a7 a8) (.br (decide ((Proofs.Ytmppkpdoonljpaa.F67_0 a0 a1 a2 (a3) a4 a5 (a6) a7 a8)=(0:Int))) (.br (Proofs.Ytmppkpdoonljpaa.F61_ok a9) (.br (not (Proofs.Ytmppkpdoonljpaa.F61_0 a9)) (.leaf ⟨⟨[]⟩,0,0,(7:Int)⟩) (.br (not (decide ((Proofs.Ytmppkpdoonljpaa.F67_0 a0 a1 a2 (a3) a4 a5 (a6) a7 a8)=(0:Int)))) (.leaf ⟨⟨[]⟩,0,0,(Proofs.Ytmppkpdoonljpaa.F67_0 a0 a1 a2 (a3) a4 a5 (a6) a7 a8)⟩)
      (.sw (eqCode (Lp26_0.c) (Lp26_0.c)) true (by simp only [eqCode_self,arrEq_self]) (.br (Proofs.Ytmppkpdoonljpaa.L26_0_k0 (Proofs.Ytmppkpdoonljpaa.X26_0.mk Option.none a9 (0:Int) a0 a1 a2 a3 a4 a5 a6 a7 a8)) (.leaf ⟨(Proofs.Ytmppkpdoonljpaa.Qs0 (Proofs.Ytmppkpdoonljpaa.X26_0.mk Option.none a9 (0:Int) a0 a1 a2 a3 a4 a5 a6 a7 a8)),(Proofs.Ytmppkpdoonljpaa.Qs1 (Proofs.Ytmppkpdoonljpaa.X26_0.mk Option.none a9 (0:Int) a0 a1 a2 a3 a4 a5 a6 a7 a8)),(Proofs.Ytmppkpdoonljpaa.Qs2 (Proofs.Ytmppkpdoonljpaa.X26_0.mk Option.none a9 (0:Int) a0 a1 a2 a3 a4 a5 a6 a7 a8)),(0:Int)⟩) (.no)) (.no)))) (.no)) (.br (not (decide ((Proofs.Ytmppkpdoonljpaa.F67_0 a0 a1 a2 (a3) a4 a5 (a6) a7 a8)=(0:Int)))) (.leaf ⟨⟨[]⟩,0,0,(Proofs.Ytmppkpdoonljpaa.F67_0 a0 a1 a2 (a3) a4 a5 (a6) a7 a8)⟩)
    (.sw (eqCode (Lp26_0.c) (Lp26_0.c)) true (by simp only [eqCode_self,arrEq_self]) (.br (Proofs.Ytmppkpdoonljpaa.L26_0_k0 (Proofs.Ytmppkpdoonljpaa.X26_0.mk Option.none a9 (0:Int) a0 a1 a2 a3 a4 a5 a6 a7 a8)) (.leaf ⟨(Proofs.Ytmppkpdoonljpaa.Qs0 (Proofs.Ytmppkpdoonljpaa.X26_0.mk Option.none a9 (0:Int) a0 a1 a2 a3 a4 a5 a6 a7 a8)),(Proofs.Ytmppkpdoonljpaa.Qs1 (Proofs.Ytmppkpdoonljpaa.X26_0.mk Option.none a9 (0:Int) a0 a1 a2 a3 a4 a5 a6 a7 a8)),(Proofs.Ytmppkpdoonljpaa.Qs2 (Proofs.Ytmppkpdoonljpaa.X26_0.mk Option.none a9 (0:Int) a0 a1 a2 a3 a4 a5 a6 a7 a8)),(0:Int)⟩) (.no)) (.no)))) (.no)
def en26 (r:R26):Value:=(.tuple ⟨[(lstV r.r0 r.r1 r.r2 1),(.int .i64 r.r3)]⟩)
theorem T26 (J0:Task→List Value)(a0:Int)(a1:Int)(a2:Int)(a3:Array Value)(a4:Nat)(a5:Nat)(a6:Array Value)(a7:Nat)(a8:Nat)(a9:Int):evC Try.prog (Ans.c (p61.or (p67.or (p70.or (la26_0 J0))))) 60 (.call 26 ⟨[(.agg ⟨[(.int .i64 a0),(.int .i64 a1),(.int .i64 a2),(lstV a3 a4 a5 6),(lstV a6 a7 a8 5)]⟩),(.int .i64 a9)]⟩ ⟨[],0,[]⟩) (frzK [1,0])=(rt26 a0 a1 a2 a3 a4 a5 a6 a7 a8 a9).out (fun r=>.ret (en26 r) ⟨[],0,[]⟩):=by kernel_rfl
def F26 (a0:Int)(a1:Int)(a2:Int)(a3:Array Value)(a4:Nat)(a5:Nat)(a6:Array Value)(a7:Nat)(a8:Nat)(a9:Int):Option R26:=(rt26 a0 a1 a2 a3 a4 a5 a6 a7 a8 a9).val
section
variable (a0:Int) (a1:Int) (a2:Int) (a3:Array Value) (a4:Nat) (a5:Nat) (a6:Array Value) (a7:Nat) (a8:Nat) (a9:Int)
def F26_ok:Bool:=(F26 a0 a1 a2 a3 a4 a5 a6 a7 a8 a9).isSome
def F26_0:Array Value:=match F26 a0 a1 a2 a3 a4 a5 a6 a7 a8 a9 with | some r=>r.r0 | none=>#[]
def F26_1:Nat:=match F26 a0 a1 a2 a3 a4 a5 a6 a7 a8 a9 with | some r=>r.r1 | none=>0
def F26_2:Nat:=match F26 a0 a1 a2 a3 a4 a5 a6 a7 a8 a9 with | some r=>r.r2 | none=>0
def F26_3:Int:=match F26 a0 a1 a2 a3 a4 a5 a6 a7 a8 a9 with | some r=>r.r3 | none=>0
end
def dec26:Task→Option (A26×Hp)
  | .call g ⟨[(.agg ⟨[(.int .i64 a0),(.int .i64 a1),(.int .i64 a2),(.func (.via 0 ⟨[]⟩ 0 true) a3 ⟨[.slice (some ⟨0,a4,none⟩) a5 6]⟩),(.func (.via 0 ⟨[]⟩ 0 true) a6 ⟨[.slice (some ⟨0,a7,none⟩) a8 5]⟩)]⟩),(.int .i64 a9)]⟩ h=>(match Nat.beq g 26 with | true=>some (⟨a0,a1,a2,a3,a4,a5,a6,a7,a8,a9⟩,h) | false=>none)
  | _=>none
def alt26 (x:A26)(h:Hp):AT:=.br (F26_ok x.a0 x.a1 x.a2 x.a3 x.a4 x.a5 x.a6 x.a7 x.a8 x.a9) (.leaf (.ret (.tuple ⟨[(lstV (F26_0 x.a0 x.a1 x.a2 x.a3 x.a4 x.a5 x.a6 x.a7 x.a8 x.a9) (F26_1 x.a0 x.a1 x.a2 x.a3 x.a4 x.a5 x.a6 x.a7 x.a8 x.a9) (F26_2 x.a0 x.a1 x.a2 x.a3 x.a4 x.a5 x.a6 x.a7 x.a8 x.a9) 1),(.int .i64 (F26_3 x.a0 x.a1 x.a2 x.a3 x.a4 x.a5 x.a6 x.a7 x.a8 x.a9))]⟩) h)) .no
def p26:Ans:=fnAns dec26 alt26
theorem ha26:∀(x:A26) (h:Hp)(o:Out),(alt26 x h).out=some o→∃r,(rt26 x.a0 x.a1 x.a2 x.a3 x.a4 x.a5 x.a6 x.a7 x.a8 x.a9).val=some r∧o=.ret (en26 r) h:=by
  intro x h o e
  unfold alt26 at e
  simp only [AT.out]at e
  obtain ⟨g,e⟩:=cond_some e
  unfold F26_ok at g
  obtain ⟨r,hF⟩:=Option.isSome_iff_exists.1 g
  have hv:F26 x.a0 x.a1 x.a2 x.a3 x.a4 x.a5 x.a6 x.a7 x.a8 x.a9=(rt26 x.a0 x.a1 x.a2 x.a3 x.a4 x.a5 x.a6 x.a7 x.a8 x.a9).val:=by delta F26;exact rfl
  refine ⟨r,hv.symm.trans hF,?_⟩
  simp only [Option.some.injEq]at e
  rw [← e]
  have k0:F26_0 x.a0 x.a1 x.a2 x.a3 x.a4 x.a5 x.a6 x.a7 x.a8 x.a9=r.r0:=by
    show (match F26 x.a0 x.a1 x.a2 x.a3 x.a4 x.a5 x.a6 x.a7 x.a8 x.a9 with | some r=>r.r0 | none=>#[])=r.r0
    rw [hF]
  have k1:F26_1 x.a0 x.a1 x.a2 x.a3 x.a4 x.a5 x.a6 x.a7 x.a8 x.a9=r.r1:=by
    show (match F26 x.a0 x.a1 x.a2 x.a3 x.a4 x.a5 x.a6 x.a7 x.a8 x.a9 with | some r=>r.r1 | none=>0)=r.r1
    rw [hF]
  have k2:F26_2 x.a0 x.a1 x.a2 x.a3 x.a4 x.a5 x.a6 x.a7 x.a8 x.a9=r.r2:=by
    show (match F26 x.a0 x.a1 x.a2 x.a3 x.a4 x.a5 x.a6 x.a7 x.a8 x.a9 with | some r=>r.r2 | none=>0)=r.r2
    rw [hF]
  have k3:F26_3 x.a0 x.a1 x.a2 x.a3 x.a4 x.a5 x.a6 x.a7 x.a8 x.a9=r.r3:=by
    show (match F26 x.a0 x.a1 x.a2 x.a3 x.a4 x.a5 x.a6 x.a7 x.a8 x.a9 with | some r=>r.r3 | none=>0)=r.r3
    rw [hF]
  rw [k0,k1,k2,k3]<;>rfl
theorem hd26:∀(t:Task) (x:A26)(h:Hp),dec26 t=some (x,h)→t=.call 26 ⟨[(.agg ⟨[(.int .i64 x.a0),(.int .i64 x.a1),(.int .i64 x.a2),(lstV x.a3 x.a4 x.a5 6),(lstV x.a6 x.a7 x.a8 5)]⟩),(.int .i64 x.a9)]⟩ h:=by
  intro t x h e
  unfold dec26 at e
  split at e
  case h_2=>cases e
  split at e
  case h_2=>cases e
  rename_i hg
  simp only [Option.some.injEq,Prod.mk.injEq]at e
  obtain ⟨rfl,rfl⟩:=e
  rw [Nat.eq_of_beq_eq_true hg]
theorem known26:Known Try.prog p26:=by
  obtain ⟨J0,hJ0⟩:=kl26_0
  exact Known.fn noNG mixed (Known.or known61 (Known.or known67 (Known.or known70 hJ0))) (n:=60) (zs:=[1,0]) 26 (fun x:A26=>[(.agg ⟨[(.int .i64 x.a0),(.int .i64 x.a1),(.int .i64 x.a2),(lstV x.a3 x.a4 x.a5 6),(lstV x.a6 x.a7 x.a8 5)]⟩),(.int .i64 x.a9)]) (fun x=>rt26 x.a0 x.a1 x.a2 x.a3 x.a4 x.a5 x.a6 x.a7 x.a8 x.a9) en26 (fun x=>T26 J0 x.a0 x.a1 x.a2 x.a3 x.a4 x.a5 x.a6 x.a7 x.a8 x.a9) (fun x=>rfl) dec26 alt26 hd26 ha26
structure X27_0 where
  v0:Array Value
  v1:Nat
  v2:Nat
  v3:Array Value
  v4:Nat
  v5:Nat
  v6:Int
inductive D27_0 where
  | k0 (d0:Bool)
  | k1
def Lp27_0:LoopOf X27_0 D27_0 where
  c:=(theLoop Try.prog 27 0)
  N:=26
  M:=0
  S:=[0,1,5]
  sl:=fun x=>[(lstV x.v0 x.v1 x.v2 1),(lstV x.v3 x.v4 x.v5 1),(.int .i64 x.v6)]
  hp:=fun x=>[]
  ex:=fun d=>match d with | .k0 ..=>.ret | .k1 ..=>.exit 0
  pick:=fun e=>match e with | .ret=>[4] | .exit 0=>[] | _=>[]
  dv:=fun d=>match d with | .k0 d0=>[(.bool d0)] | .k1 =>[]
  dh:=fun d=>match d with | .k0 d0=>[] | .k1 =>[]
theorem ok27_0:Lp27_0.Ok:=⟨fun x=>rfl,fun x=>rfl,fun x=>rfl,fun x=>rfl,fun d=>by cases d<;>rfl,fun d=>by cases d<;>rfl,fun d=>by cases d<;>rfl,fun d=>by cases d<;>(intro h;cases h),fun d=>by cases d<;>rfl,fun d=>by cases d<;>rfl⟩
def rd27_0 (x:X27_0):RT (Sum X27_0 D27_0):=match x with
  | ⟨v0,v1,v2,v3,v4,v5,v6⟩ =>
     .br (decide (v6<(Int.ofNat v2))) (.br (and (decide ((0:Int)≤v6)) (decide (v6<(Int.ofNat v2)))) (.br (isInt .i64 v0 (v1+((Int.toNat v6)*1))) (.br (and (decide ((0:Int)≤v6)) (decide (v6<(Int.ofNat v5)))) (.br (isInt .i64 v3 (v4+((Int.toNat v6)*1))) (.br (not (decide ((getInt v0 (v1+((Int.toNat v6)*1)))=(getInt v3 (v4+((Int.toNat v6)*1)))))) (.leaf (.inr (.k0 (false)))) (.leaf (.inl ⟨v0,v1,v2,v3,v4,v5,(IntKind.wrap .i64 (v6+(1:Int)))⟩))) (.no)) (.no)) (.no)) (.no)) (.leaf (.inr (.k1)))
theorem T27_0  (y:List Value) (v0:Array Value) (v1:Nat) (v2:Nat) (v3:Array Value) (v4:Nat) (v5:Nat) (v6:Int):evC Try.prog (Ans.c (fun _=>none:Ans)) 60 (.code none (theLoop Try.prog 27 0) ⟨sets (junkF 26 y) [(0,(lstV v0 v1 v2 1)),(1,(lstV v3 v4 v5 1)),(5,(.int .i64 v6))],[],⟨[],0,[]⟩⟩) (sumK 0 26 Lp27_0.pk)=(rd27_0 ⟨v0,v1,v2,v3,v4,v5,v6⟩).out Lp27_0.enc:=by kernel_rfl
def L27_0 (x:X27_0):Option D27_0:=loopR rd27_0 x
section
variable (x:X27_0)
def L27_0_k0:Bool:=match L27_0 x with | some (.k0 ..)=>true | _=>false
def Qt0:Bool:=match L27_0 x with | some (.k0 d)=>d | _=>false
def L27_0_k1:Bool:=match L27_0 x with | some (.k1 ..)=>true | _=>false
end
def dec27_0:Task→Option (Code×X27_0)
  | .code none (.loop code) ⟨t,[],⟨[],0,[]⟩⟩ =>
    (match Nat.beq (firstReg code) 4,lenIs t 26,lget t 0,lget t 1,lget t 5 with
    | true,true,(.func (.via 0 ⟨[]⟩ 0 true) v0 ⟨[.slice (some ⟨0,v1,none⟩) v2 1]⟩),(.func (.via 0 ⟨[]⟩ 0 true) v3 ⟨[.slice (some ⟨0,v4,none⟩) v5 1]⟩),(.int .i64 v6)=>some (code,⟨v0,v1,v2,v3,v4,v5,v6⟩)
    | _,_,_,_,_=>none)
  | _=>none
def alt27_0 (x:X27_0)(j:List Value):AT:=.br (L27_0_k0 x) (loopEnd 26 (.ret) [(4,(.bool (Qt0 x)))] ⟨[],0,[]⟩ j) (.br (L27_0_k1 x) (loopEnd 26 (.exit 0) [] ⟨[],0,[]⟩ j) (.no))
def la27_0 (J:Task→List Value):Ans:=loopAns Lp27_0.c dec27_0 alt27_0 J
theorem ha27_0:∀(x:X27_0) (j:List Value)(o:Out),(alt27_0 x j).out=some o→∃d,loopR rd27_0 x=some d∧o=Lp27_0.tail d j:=by
  intro x j o h
  unfold alt27_0 at h
  cases hL:L27_0 x with
  | none=>simp [L27_0_k0,Qt0,L27_0_k1,hL,AT.out]at h
  | some d =>
    refine ⟨d,hL,?_⟩
    cases d<;>(simp only [L27_0_k0,Qt0,L27_0_k1,hL,AT.out,loopEnd,cond_true,cond_false,Option.some.injEq]at h;rw [← h];rfl)
theorem hd27_0:∀(t:Task) (c:Code)(x:X27_0),dec27_0 t=some (c,x)→c=Lp27_0.c→∃T,t=.code none (.loop Lp27_0.c) ⟨T,[],⟨Lp27_0.hp x,0,[]⟩⟩∧T.length=Lp27_0.N∧∀kv∈Lp27_0.S.zip (Lp27_0.sl x),lget T kv.1=kv.2:=by
  intro t c x h hc
  unfold dec27_0 at h
  split at h
  case h_2=>cases h
  split at h
  case h_2=>cases h
  simp only [Option.some.injEq,Prod.mk.injEq]at h
  obtain ⟨rfl,rfl⟩:=h
  subst hc
  refine ⟨_,rfl,lenIs_eq _ _ (by assumption),?_⟩
  intro kv hk
  simp only [Lp27_0,List.zip_cons_cons,List.zip_nil_right,List.mem_cons,List.not_mem_nil,or_false]at hk
  rcases hk with rfl | rfl | rfl<;>assumption
theorem kl27_0:∃J,Known Try.prog (la27_0 J):=by
  exact LoopOf.known noNG mixed ok27_0 (by decide) (by decide) (Known.nothing Try.prog) (n:=60) (rd:=rd27_0) (fun x j=>T27_0  j x.v0 x.v1 x.v2 x.v3 x.v4 x.v5 x.v6) dec27_0 alt27_0 hd27_0 ha27_0
structure R27 where
  r0:Bool
structure A27 where
  a0:Array Value
  a1:Nat
  a2:Nat
  a3:Array Value
  a4:Nat
  a5:Nat
def rt27 (a0:Array Value)(a1:Nat)(a2:Nat)(a3:Array Value)(a4:Nat)(a5:Nat):RT R27 :=
  .br (not (decide ((Int.ofNat a2)=(Int.ofNat a5)))) (.leaf ⟨false⟩)
  (.sw (eqCode (Lp27_0.c) (Lp27_0.c)) true (by simp only [eqCode_self,arrEq_self]) (.br (L27_0_k0 (X27_0.mk a0 a1 a2 a3 a4 a5 (0:Int))) (.leaf ⟨(Qt0 (X27_0.mk a0 a1 a2 a3 a4 a5 (0:Int)))⟩) (.br (L27_0_k1 (X27_0.mk a0 a1 a2 a3 a4 a5 (0:Int))) (.leaf ⟨true⟩) (.no))) (.no))
def en27 (r:R27):Value:=(.bool r.r0)
theorem T27 (J0:Task→List Value)(a0:Array Value)(a1:Nat)(a2:Nat)(a3:Array Value)(a4:Nat)(a5:Nat):evC Try.prog (Ans.c (la27_0 J0)) 60 (.call 27 ⟨[(lstV a0 a1 a2 1),(lstV a3 a4 a5 1)]⟩ ⟨[],0,[]⟩) (frzK [0])=(rt27 a0 a1 a2 a3 a4 a5).out (fun r=>.ret (en27 r) ⟨[],0,[]⟩):=by kernel_rfl
def F27 (a0:Array Value)(a1:Nat)(a2:Nat)(a3:Array Value)(a4:Nat)(a5:Nat):Option R27:=(rt27 a0 a1 a2 a3 a4 a5).val
section
variable (a0:Array Value) (a1:Nat) (a2:Nat) (a3:Array Value) (a4:Nat) (a5:Nat)
def F27_ok:Bool:=(F27 a0 a1 a2 a3 a4 a5).isSome
def F27_0:Bool:=match F27 a0 a1 a2 a3 a4 a5 with | some r=>r.r0 | none=>false
end
def dec27:Task→Option (A27×Hp)
  | .call g ⟨[(.func (.via 0 ⟨[]⟩ 0 true) a0 ⟨[.slice (some ⟨0,a1,none⟩) a2 1]⟩),(.func (.via 0 ⟨[]⟩ 0 true) a3 ⟨[.slice (some ⟨0,a4,none⟩) a5 1]⟩)]⟩ h=>(match Nat.beq g 27 with | true=>some (⟨a0,a1,a2,a3,a4,a5⟩,h) | false=>none)
  | _=>none
def alt27 (x:A27)(h:Hp):AT:=.br (F27_ok x.a0 x.a1 x.a2 x.a3 x.a4 x.a5) (.leaf (.ret (.bool (F27_0 x.a0 x.a1 x.a2 x.a3 x.a4 x.a5)) h)) .no
def p27:Ans:=fnAns dec27 alt27
theorem ha27:∀(x:A27) (h:Hp)(o:Out),(alt27 x h).out=some o→∃r,(rt27 x.a0 x.a1 x.a2 x.a3 x.a4 x.a5).val=some r∧o=.ret (en27 r) h:=by
  intro x h o e
  unfold alt27 at e
  simp only [AT.out]at e
  obtain ⟨g,e⟩:=cond_some e
  unfold F27_ok at g
  obtain ⟨r,hF⟩:=Option.isSome_iff_exists.1 g
  have hv:F27 x.a0 x.a1 x.a2 x.a3 x.a4 x.a5=(rt27 x.a0 x.a1 x.a2 x.a3 x.a4 x.a5).val:=by delta F27;exact rfl
  refine ⟨r,hv.symm.trans hF,?_⟩
  simp only [Option.some.injEq]at e
  rw [← e]
  have k0:F27_0 x.a0 x.a1 x.a2 x.a3 x.a4 x.a5=r.r0:=by
    show (match F27 x.a0 x.a1 x.a2 x.a3 x.a4 x.a5 with | some r=>r.r0 | none=>false)=r.r0
    rw [hF]
  rw [k0]<;>rfl
theorem hd27:∀(t:Task) (x:A27)(h:Hp),dec27 t=some (x,h)→t=.call 27 ⟨[(lstV x.a0 x.a1 x.a2 1),(lstV x.a3 x.a4 x.a5 1)]⟩ h:=by
  intro t x h e
  unfold dec27 at e
  split at e
  case h_2=>cases e
  split at e
  case h_2=>cases e
  rename_i hg
  simp only [Option.some.injEq,Prod.mk.injEq]at e
  obtain ⟨rfl,rfl⟩:=e
  rw [Nat.eq_of_beq_eq_true hg]
theorem known27:Known Try.prog p27:=by
  obtain ⟨J0,hJ0⟩:=kl27_0
  exact Known.fn noNG mixed hJ0 (n:=60) (zs:=[0]) 27 (fun x:A27=>[(lstV x.a0 x.a1 x.a2 1),(lstV x.a3 x.a4 x.a5 1)]) (fun x=>rt27 x.a0 x.a1 x.a2 x.a3 x.a4 x.a5) en27 (fun x=>T27 J0 x.a0 x.a1 x.a2 x.a3 x.a4 x.a5) (fun x=>rfl) dec27 alt27 hd27 ha27
structure R71 where
  r0:Int
structure A71 where
  a0:Int
  a1:Int
  a2:Int
  a3:Array Value
  a4:Nat
  a5:Nat
  a6:Array Value
  a7:Nat
  a8:Nat
  a9:Int
def rt71 (a0:Int)(a1:Int)(a2:Int)(a3:Array Value)(a4:Nat)(a5:Nat)(a6:Array Value)(a7:Nat)(a8:Nat)(a9:Int):RT R71 :=
  .br (not (decide (a2=(0:Int)))) (.leaf ⟨(IntKind.wrap .i64 ((IntKind.wrap .i64 (Int.tdiv (IntKind.wrap .i64 ((IntKind.wrap .i64 (a2*(min a9 (IntKind.wrap .i64 (Int.tdiv a1 a2)))))*(IntKind.wrap .i64 ((min a9 (IntKind.wrap .i64 (Int.tdiv a1 a2)))+(1:Int))))) (2:Int)))+(IntKind.wrap .i64 (a1*(IntKind.wrap .i64 (a9-(min a9 (IntKind.wrap .i64 (Int.tdiv a1 a2)))))))))⟩) (.no)
def en71 (r:R71):Value:=(.int .i64 r.r0)
theorem T71  (a0:Int) (a1:Int) (a2:Int) (a3:Array Value) (a4:Nat) (a5:Nat) (a6:Array Value) (a7:Nat) (a8:Nat) (a9:Int):evC Try.prog (Ans.c (fun _=>none:Ans)) 60 (.call 71 ⟨[(.agg ⟨[(.int .i64 a0),(.int .i64 a1),(.int .i64 a2),(lstV a3 a4 a5 6),(lstV a6 a7 a8 5)]⟩),(.int .i64 a9)]⟩ ⟨[],0,[]⟩) (frzK [0])=(rt71 a0 a1 a2 a3 a4 a5 a6 a7 a8 a9).out (fun r=>.ret (en71 r) ⟨[],0,[]⟩):=by kernel_rfl
def F71 (a0:Int)(a1:Int)(a2:Int)(a3:Array Value)(a4:Nat)(a5:Nat)(a6:Array Value)(a7:Nat)(a8:Nat)(a9:Int):Option R71:=(rt71 a0 a1 a2 a3 a4 a5 a6 a7 a8 a9).val
section
variable (a0:Int) (a1:Int) (a2:Int) (a3:Array Value) (a4:Nat) (a5:Nat) (a6:Array Value) (a7:Nat) (a8:Nat) (a9:Int)
def F71_ok:Bool:=(F71 a0 a1 a2 a3 a4 a5 a6 a7 a8 a9).isSome
def F71_0:Int:=match F71 a0 a1 a2 a3 a4 a5 a6 a7 a8 a9 with | some r=>r.r0 | none=>0
end
def dec71:Task→Option (A71×Hp)
  | .call g ⟨[(.agg ⟨[(.int .i64 a0),(.int .i64 a1),(.int .i64 a2),(.func (.via 0 ⟨[]⟩ 0 true) a3 ⟨[.slice (some ⟨0,a4,none⟩) a5 6]⟩),(.func (.via 0 ⟨[]⟩ 0 true) a6 ⟨[.slice (some ⟨0,a7,none⟩) a8 5]⟩)]⟩),(.int .i64 a9)]⟩ h=>(match Nat.beq g 71 with | true=>some (⟨a0,a1,a2,a3,a4,a5,a6,a7,a8,a9⟩,h) | false=>none)
  | _=>none
def alt71 (x:A71)(h:Hp):AT:=.br (F71_ok x.a0 x.a1 x.a2 x.a3 x.a4 x.a5 x.a6 x.a7 x.a8 x.a9) (.leaf (.ret (.int .i64 (F71_0 x.a0 x.a1 x.a2 x.a3 x.a4 x.a5 x.a6 x.a7 x.a8 x.a9)) h)) .no
def p71:Ans:=fnAns dec71 alt71
theorem ha71:∀(x:A71) (h:Hp)(o:Out),(alt71 x h).out=some o→∃r,(rt71 x.a0 x.a1 x.a2 x.a3 x.a4 x.a5 x.a6 x.a7 x.a8 x.a9).val=some r∧o=.ret (en71 r) h:=by
  intro x h o e
  unfold alt71 at e
  simp only [AT.out]at e
  obtain ⟨g,e⟩:=cond_some e
  unfold F71_ok at g
  obtain ⟨r,hF⟩:=Option.isSome_iff_exists.1 g
  have hv:F71 x.a0 x.a1 x.a2 x.a3 x.a4 x.a5 x.a6 x.a7 x.a8 x.a9=(rt71 x.a0 x.a1 x.a2 x.a3 x.a4 x.a5 x.a6 x.a7 x.a8 x.a9).val:=by delta F71;exact rfl
  refine ⟨r,hv.symm.trans hF,?_⟩
  simp only [Option.some.injEq]at e
  rw [← e]
  have k0:F71_0 x.a0 x.a1 x.a2 x.a3 x.a4 x.a5 x.a6 x.a7 x.a8 x.a9=r.r0:=by
    show (match F71 x.a0 x.a1 x.a2 x.a3 x.a4 x.a5 x.a6 x.a7 x.a8 x.a9 with | some r=>r.r0 | none=>0)=r.r0
    rw [hF]
  rw [k0]<;>rfl
theorem hd71:∀(t:Task) (x:A71)(h:Hp),dec71 t=some (x,h)→t=.call 71 ⟨[(.agg ⟨[(.int .i64 x.a0),(.int .i64 x.a1),(.int .i64 x.a2),(lstV x.a3 x.a4 x.a5 6),(lstV x.a6 x.a7 x.a8 5)]⟩),(.int .i64 x.a9)]⟩ h:=by
  intro t x h e
  unfold dec71 at e
  split at e
  case h_2=>cases e
  split at e
  case h_2=>cases e
  rename_i hg
  simp only [Option.some.injEq,Prod.mk.injEq]at e
  obtain ⟨rfl,rfl⟩:=e
  rw [Nat.eq_of_beq_eq_true hg]
theorem known71:Known Try.prog p71:=by
  exact Known.fn noNG mixed (Known.nothing Try.prog) (n:=60) (zs:=[0]) 71 (fun x:A71=>[(.agg ⟨[(.int .i64 x.a0),(.int .i64 x.a1),(.int .i64 x.a2),(lstV x.a3 x.a4 x.a5 6),(lstV x.a6 x.a7 x.a8 5)]⟩),(.int .i64 x.a9)]) (fun x=>rt71 x.a0 x.a1 x.a2 x.a3 x.a4 x.a5 x.a6 x.a7 x.a8 x.a9) en71 (fun x=>T71  x.a0 x.a1 x.a2 x.a3 x.a4 x.a5 x.a6 x.a7 x.a8 x.a9) (fun x=>rfl) dec71 alt71 hd71 ha71
structure R28 where
  r0:Int
  r1:Int
structure A28 where
  a0:Int
  a1:Int
  a2:Int
  a3:Array Value
  a4:Nat
  a5:Nat
  a6:Array Value
  a7:Nat
  a8:Nat
  a9:Int
def rt28 (a0:Int)(a1:Int)(a2:Int)(a3:Array Value)(a4:Nat)(a5:Nat)(a6:Array Value)(a7:Nat)(a8:Nat)(a9:Int):RT R28 :=
  .br (F20_ok a0 a1 a2 (a3) a4 a5 (a6) a7 a8) (.br (not (decide ((F20_2 a0 a1 a2 (a3) a4 a5 (a6) a7 a8)=(0:Int)))) (.leaf ⟨(0:Int),(F20_2 a0 a1 a2 (a3) a4 a5 (a6) a7 a8)⟩) (.br (F57_ok a9) (.br (not (F57_0 a9)) (.leaf ⟨(0:Int),(7:Int)⟩) (.br (F71_ok a0 a1 a2 (a3) a4 a5 (a6) a7 a8 a9) (.leaf ⟨(F71_0 a0 a1 a2 (a3) a4 a5 (a6) a7 a8 a9),(0:Int)⟩) (.no))) (.no))) (.no)
def en28 (r:R28):Value:=(.tuple ⟨[(.int .i64 r.r0),(.int .i64 r.r1)]⟩)
theorem T28  (a0:Int) (a1:Int) (a2:Int) (a3:Array Value) (a4:Nat) (a5:Nat) (a6:Array Value) (a7:Nat) (a8:Nat) (a9:Int):evC Try.prog (Ans.c (p20.or (p57.or p71))) 60 (.call 28 ⟨[(.agg ⟨[(.int .i64 a0),(.int .i64 a1),(.int .i64 a2),(lstV a3 a4 a5 6),(lstV a6 a7 a8 5)]⟩),(.int .i64 a9)]⟩ ⟨[],0,[]⟩) (frzK [0,0])=(rt28 a0 a1 a2 a3 a4 a5 a6 a7 a8 a9).out (fun r=>.ret (en28 r) ⟨[],0,[]⟩):=by kernel_rfl
def F28 (a0:Int)(a1:Int)(a2:Int)(a3:Array Value)(a4:Nat)(a5:Nat)(a6:Array Value)(a7:Nat)(a8:Nat)(a9:Int):Option R28:=(rt28 a0 a1 a2 a3 a4 a5 a6 a7 a8 a9).val
section
variable (a0:Int) (a1:Int) (a2:Int) (a3:Array Value) (a4:Nat) (a5:Nat) (a6:Array Value) (a7:Nat) (a8:Nat) (a9:Int)
def F28_ok:Bool:=(F28 a0 a1 a2 a3 a4 a5 a6 a7 a8 a9).isSome
def F28_0:Int:=match F28 a0 a1 a2 a3 a4 a5 a6 a7 a8 a9 with | some r=>r.r0 | none=>0
def F28_1:Int:=match F28 a0 a1 a2 a3 a4 a5 a6 a7 a8 a9 with | some r=>r.r1 | none=>0
end
def dec28:Task→Option (A28×Hp)
  | .call g ⟨[(.agg ⟨[(.int .i64 a0),(.int .i64 a1),(.int .i64 a2),(.func (.via 0 ⟨[]⟩ 0 true) a3 ⟨[.slice (some ⟨0,a4,none⟩) a5 6]⟩),(.func (.via 0 ⟨[]⟩ 0 true) a6 ⟨[.slice (some ⟨0,a7,none⟩) a8 5]⟩)]⟩),(.int .i64 a9)]⟩ h=>(match Nat.beq g 28 with | true=>some (⟨a0,a1,a2,a3,a4,a5,a6,a7,a8,a9⟩,h) | false=>none)
  | _=>none
def alt28 (x:A28)(h:Hp):AT:=.br (F28_ok x.a0 x.a1 x.a2 x.a3 x.a4 x.a5 x.a6 x.a7 x.a8 x.a9) (.leaf (.ret (.tuple ⟨[(.int .i64 (F28_0 x.a0 x.a1 x.a2 x.a3 x.a4 x.a5 x.a6 x.a7 x.a8 x.a9)),(.int .i64 (F28_1 x.a0 x.a1 x.a2 x.a3 x.a4 x.a5 x.a6 x.a7 x.a8 x.a9))]⟩) h)) .no
def p28:Ans:=fnAns dec28 alt28
theorem ha28:∀(x:A28) (h:Hp)(o:Out),(alt28 x h).out=some o→∃r,(rt28 x.a0 x.a1 x.a2 x.a3 x.a4 x.a5 x.a6 x.a7 x.a8 x.a9).val=some r∧o=.ret (en28 r) h:=by
  intro x h o e
  unfold alt28 at e
  simp only [AT.out]at e
  obtain ⟨g,e⟩:=cond_some e
  unfold F28_ok at g
  obtain ⟨r,hF⟩:=Option.isSome_iff_exists.1 g
  have hv:F28 x.a0 x.a1 x.a2 x.a3 x.a4 x.a5 x.a6 x.a7 x.a8 x.a9=(rt28 x.a0 x.a1 x.a2 x.a3 x.a4 x.a5 x.a6 x.a7 x.a8 x.a9).val:=by delta F28;exact rfl
  refine ⟨r,hv.symm.trans hF,?_⟩
  simp only [Option.some.injEq]at e
  rw [← e]
  have k0:F28_0 x.a0 x.a1 x.a2 x.a3 x.a4 x.a5 x.a6 x.a7 x.a8 x.a9=r.r0:=by
    show (match F28 x.a0 x.a1 x.a2 x.a3 x.a4 x.a5 x.a6 x.a7 x.a8 x.a9 with | some r=>r.r0 | none=>0)=r.r0
    rw [hF]
  have k1:F28_1 x.a0 x.a1 x.a2 x.a3 x.a4 x.a5 x.a6 x.a7 x.a8 x.a9=r.r1:=by
    show (match F28 x.a0 x.a1 x.a2 x.a3 x.a4 x.a5 x.a6 x.a7 x.a8 x.a9 with | some r=>r.r1 | none=>0)=r.r1
    rw [hF]
  rw [k0,k1]<;>rfl
theorem hd28:∀(t:Task) (x:A28)(h:Hp),dec28 t=some (x,h)→t=.call 28 ⟨[(.agg ⟨[(.int .i64 x.a0),(.int .i64 x.a1),(.int .i64 x.a2),(lstV x.a3 x.a4 x.a5 6),(lstV x.a6 x.a7 x.a8 5)]⟩),(.int .i64 x.a9)]⟩ h:=by
  intro t x h e
  unfold dec28 at e
  split at e
  case h_2=>cases e
  split at e
  case h_2=>cases e
  rename_i hg
  simp only [Option.some.injEq,Prod.mk.injEq]at e
  obtain ⟨rfl,rfl⟩:=e
  rw [Nat.eq_of_beq_eq_true hg]
theorem known28:Known Try.prog p28:=by
  exact Known.fn noNG mixed (Known.or known20 (Known.or known57 known71)) (n:=60) (zs:=[0,0]) 28 (fun x:A28=>[(.agg ⟨[(.int .i64 x.a0),(.int .i64 x.a1),(.int .i64 x.a2),(lstV x.a3 x.a4 x.a5 6),(lstV x.a6 x.a7 x.a8 5)]⟩),(.int .i64 x.a9)]) (fun x=>rt28 x.a0 x.a1 x.a2 x.a3 x.a4 x.a5 x.a6 x.a7 x.a8 x.a9) en28 (fun x=>T28  x.a0 x.a1 x.a2 x.a3 x.a4 x.a5 x.a6 x.a7 x.a8 x.a9) (fun x=>rfl) dec28 alt28 hd28 ha28
structure R72 where
  r0:Int
structure A72 where
  a0:Int
  a1:Int
  a2:Int
  a3:Array Value
  a4:Nat
  a5:Nat
  a6:Array Value
  a7:Nat
  a8:Nat
  a9:Int
def rt72 (a0:Int)(a1:Int)(a2:Int)(a3:Array Value)(a4:Nat)(a5:Nat)(a6:Array Value)(a7:Nat)(a8:Nat)(a9:Int):RT R72 :=
  .br (not (decide (a2=(0:Int)))) (.leaf ⟨(IntKind.wrap .i64 ((IntKind.wrap .i64 (Int.tdiv (IntKind.wrap .i64 ((IntKind.wrap .i64 (a2*(min a9 (IntKind.wrap .i64 (Int.tdiv a1 a2)))))*(IntKind.wrap .i64 ((min a9 (IntKind.wrap .i64 (Int.tdiv a1 a2)))+(1:Int))))) (2:Int)))+(IntKind.wrap .i64 (a1*(IntKind.wrap .i64 (a9-(min a9 (IntKind.wrap .i64 (Int.tdiv a1 a2)))))))))⟩) (.no)
def en72 (r:R72):Value:=(.int .i64 r.r0)
theorem T72  (a0:Int) (a1:Int) (a2:Int) (a3:Array Value) (a4:Nat) (a5:Nat) (a6:Array Value) (a7:Nat) (a8:Nat) (a9:Int):evC Try.prog (Ans.c (fun _=>none:Ans)) 60 (.call 72 ⟨[(.agg ⟨[(.int .i64 a0),(.int .i64 a1),(.int .i64 a2),(lstV a3 a4 a5 6),(lstV a6 a7 a8 5)]⟩),(.int .i64 a9)]⟩ ⟨[],0,[]⟩) (frzK [0])=(rt72 a0 a1 a2 a3 a4 a5 a6 a7 a8 a9).out (fun r=>.ret (en72 r) ⟨[],0,[]⟩):=by kernel_rfl
def F72 (a0:Int)(a1:Int)(a2:Int)(a3:Array Value)(a4:Nat)(a5:Nat)(a6:Array Value)(a7:Nat)(a8:Nat)(a9:Int):Option R72:=(rt72 a0 a1 a2 a3 a4 a5 a6 a7 a8 a9).val
section
variable (a0:Int) (a1:Int) (a2:Int) (a3:Array Value) (a4:Nat) (a5:Nat) (a6:Array Value) (a7:Nat) (a8:Nat) (a9:Int)
def F72_ok:Bool:=(F72 a0 a1 a2 a3 a4 a5 a6 a7 a8 a9).isSome
def F72_0:Int:=match F72 a0 a1 a2 a3 a4 a5 a6 a7 a8 a9 with | some r=>r.r0 | none=>0
end
def dec72:Task→Option (A72×Hp)
  | .call g ⟨[(.agg ⟨[(.int .i64 a0),(.int .i64 a1),(.int .i64 a2),(.func (.via 0 ⟨[]⟩ 0 true) a3 ⟨[.slice (some ⟨0,a4,none⟩) a5 6]⟩),(.func (.via 0 ⟨[]⟩ 0 true) a6 ⟨[.slice (some ⟨0,a7,none⟩) a8 5]⟩)]⟩),(.int .i64 a9)]⟩ h=>(match Nat.beq g 72 with | true=>some (⟨a0,a1,a2,a3,a4,a5,a6,a7,a8,a9⟩,h) | false=>none)
  | _=>none
def alt72 (x:A72)(h:Hp):AT:=.br (F72_ok x.a0 x.a1 x.a2 x.a3 x.a4 x.a5 x.a6 x.a7 x.a8 x.a9) (.leaf (.ret (.int .i64 (F72_0 x.a0 x.a1 x.a2 x.a3 x.a4 x.a5 x.a6 x.a7 x.a8 x.a9)) h)) .no
def p72:Ans:=fnAns dec72 alt72
theorem ha72:∀(x:A72) (h:Hp)(o:Out),(alt72 x h).out=some o→∃r,(rt72 x.a0 x.a1 x.a2 x.a3 x.a4 x.a5 x.a6 x.a7 x.a8 x.a9).val=some r∧o=.ret (en72 r) h:=by
  intro x h o e
  unfold alt72 at e
  simp only [AT.out]at e
  obtain ⟨g,e⟩:=cond_some e
  unfold F72_ok at g
  obtain ⟨r,hF⟩:=Option.isSome_iff_exists.1 g
  have hv:F72 x.a0 x.a1 x.a2 x.a3 x.a4 x.a5 x.a6 x.a7 x.a8 x.a9=(rt72 x.a0 x.a1 x.a2 x.a3 x.a4 x.a5 x.a6 x.a7 x.a8 x.a9).val:=by delta F72;exact rfl
  refine ⟨r,hv.symm.trans hF,?_⟩
  simp only [Option.some.injEq]at e
  rw [← e]
  have k0:F72_0 x.a0 x.a1 x.a2 x.a3 x.a4 x.a5 x.a6 x.a7 x.a8 x.a9=r.r0:=by
    show (match F72 x.a0 x.a1 x.a2 x.a3 x.a4 x.a5 x.a6 x.a7 x.a8 x.a9 with | some r=>r.r0 | none=>0)=r.r0
    rw [hF]
  rw [k0]<;>rfl
theorem hd72:∀(t:Task) (x:A72)(h:Hp),dec72 t=some (x,h)→t=.call 72 ⟨[(.agg ⟨[(.int .i64 x.a0),(.int .i64 x.a1),(.int .i64 x.a2),(lstV x.a3 x.a4 x.a5 6),(lstV x.a6 x.a7 x.a8 5)]⟩),(.int .i64 x.a9)]⟩ h:=by
  intro t x h e
  unfold dec72 at e
  split at e
  case h_2=>cases e
  split at e
  case h_2=>cases e
  rename_i hg
  simp only [Option.some.injEq,Prod.mk.injEq]at e
  obtain ⟨rfl,rfl⟩:=e
  rw [Nat.eq_of_beq_eq_true hg]
theorem known72:Known Try.prog p72:=by
  exact Known.fn noNG mixed (Known.nothing Try.prog) (n:=60) (zs:=[0]) 72 (fun x:A72=>[(.agg ⟨[(.int .i64 x.a0),(.int .i64 x.a1),(.int .i64 x.a2),(lstV x.a3 x.a4 x.a5 6),(lstV x.a6 x.a7 x.a8 5)]⟩),(.int .i64 x.a9)]) (fun x=>rt72 x.a0 x.a1 x.a2 x.a3 x.a4 x.a5 x.a6 x.a7 x.a8 x.a9) en72 (fun x=>T72  x.a0 x.a1 x.a2 x.a3 x.a4 x.a5 x.a6 x.a7 x.a8 x.a9) (fun x=>rfl) dec72 alt72 hd72 ha72
structure R29 where
  r0:Int
  r1:Int
structure A29 where
  a0:Int
  a1:Int
  a2:Int
  a3:Array Value
  a4:Nat
  a5:Nat
  a6:Array Value
  a7:Nat
  a8:Nat
  a9:Int
def rt29 (a0:Int)(a1:Int)(a2:Int)(a3:Array Value)(a4:Nat)(a5:Nat)(a6:Array Value)(a7:Nat)(a8:Nat)(a9:Int):RT R29 :=
  .br (F67_ok a0 a1 a2 (a3) a4 a5 (a6) a7 a8) (.br (decide ((F67_0 a0 a1 a2 (a3) a4 a5 (a6) a7 a8)=(0:Int))) (.br (F61_ok a9) (.br (not (F61_0 a9)) (.leaf ⟨(0:Int),(7:Int)⟩) (.br (not (decide ((F67_0 a0 a1 a2 (a3) a4 a5 (a6) a7 a8)=(0:Int)))) (.leaf ⟨(0:Int),(F67_0 a0 a1 a2 (a3) a4 a5 (a6) a7 a8)⟩) (.br (F72_ok a0 a1 a2 (a3) a4 a5 (a6) a7 a8 a9) (.leaf ⟨(F72_0 a0 a1 a2 (a3) a4 a5 (a6) a7 a8 a9),(0:Int)⟩) (.no)))) (.no)) (.br (not (decide ((F67_0 a0 a1 a2 (a3) a4 a5 (a6) a7 a8)=(0:Int)))) (.leaf ⟨(0:Int),(F67_0 a0 a1 a2 (a3) a4 a5 (a6) a7 a8)⟩) (.br (F72_ok a0 a1 a2 (a3) a4 a5 (a6) a7 a8 a9) (.leaf ⟨(F72_0 a0 a1 a2 (a3) a4 a5 (a6) a7 a8 a9),(0:Int)⟩) (.no)))) (.no)
def en29 (r:R29):Value:=(.tuple ⟨[(.int .i64 r.r0),(.int .i64 r.r1)]⟩)
theorem T29  (a0:Int) (a1:Int) (a2:Int) (a3:Array Value) (a4:Nat) (a5:Nat) (a6:Array Value) (a7:Nat) (a8:Nat) (a9:Int):evC Try.prog (Ans.c (p61.or (p67.or p72))) 60 (.call 29 ⟨[(.agg ⟨[(.int .i64 a0),(.int .i64 a1),(.int .i64 a2),(lstV a3 a4 a5 6),(lstV a6 a7 a8 5)]⟩),(.int .i64 a9)]⟩ ⟨[],0,[]⟩) (frzK [0,0])=(rt29 a0 a1 a2 a3 a4 a5 a6 a7 a8 a9).out (fun r=>.ret (en29 r) ⟨[],0,[]⟩):=by kernel_rfl
def F29 (a0:Int)(a1:Int)(a2:Int)(a3:Array Value)(a4:Nat)(a5:Nat)(a6:Array Value)(a7:Nat)(a8:Nat)(a9:Int):Option R29:=(rt29 a0 a1 a2 a3 a4 a5 a6 a7 a8 a9).val
section
variable (a0:Int) (a1:Int) (a2:Int) (a3:Array Value) (a4:Nat) (a5:Nat) (a6:Array Value) (a7:Nat) (a8:Nat) (a9:Int)
def F29_ok:Bool:=(F29 a0 a1 a2 a3 a4 a5 a6 a7 a8 a9).isSome
def F29_0:Int:=match F29 a0 a1 a2 a3 a4 a5 a6 a7 a8 a9 with | some r=>r.r0 | none=>0
def F29_1:Int:=match F29 a0 a1 a2 a3 a4 a5 a6 a7 a8 a9 with | some r=>r.r1 | none=>0
end
def dec29:Task→Option (A29×Hp)
  | .call g ⟨[(.agg ⟨[(.int .i64 a0),(.int .i64 a1),(.int .i64 a2),(.func (.via 0 ⟨[]⟩ 0 true) a3 ⟨[.slice (some ⟨0,a4,none⟩) a5 6]⟩),(.func (.via 0 ⟨[]⟩ 0 true) a6 ⟨[.slice (some ⟨0,a7,none⟩) a8 5]⟩)]⟩),(.int .i64 a9)]⟩ h=>(match Nat.beq g 29 with | true=>some (⟨a0,a1,a2,a3,a4,a5,a6,a7,a8,a9⟩,h) | false=>none)
  | _=>none
def alt29 (x:A29)(h:Hp):AT:=.br (F29_ok x.a0 x.a1 x.a2 x.a3 x.a4 x.a5 x.a6 x.a7 x.a8 x.a9) (.leaf (.ret (.tuple ⟨[(.int .i64 (F29_0 x.a0 x.a1 x.a2 x.a3 x.a4 x.a5 x.a6 x.a7 x.a8 x.a9)),(.int .i64 (F29_1 x.a0 x.a1 x.a2 x.a3 x.a4 x.a5 x.a6 x.a7 x.a8 x.a9))]⟩) h)) .no
def p29:Ans:=fnAns dec29 alt29
theorem ha29:∀(x:A29) (h:Hp)(o:Out),(alt29 x h).out=some o→∃r,(rt29 x.a0 x.a1 x.a2 x.a3 x.a4 x.a5 x.a6 x.a7 x.a8 x.a9).val=some r∧o=.ret (en29 r) h:=by
  intro x h o e
  unfold alt29 at e
  simp only [AT.out]at e
  obtain ⟨g,e⟩:=cond_some e
  unfold F29_ok at g
  obtain ⟨r,hF⟩:=Option.isSome_iff_exists.1 g
  have hv:F29 x.a0 x.a1 x.a2 x.a3 x.a4 x.a5 x.a6 x.a7 x.a8 x.a9=(rt29 x.a0 x.a1 x.a2 x.a3 x.a4 x.a5 x.a6 x.a7 x.a8 x.a9).val:=by delta F29;exact rfl
  refine ⟨r,hv.symm.trans hF,?_⟩
  simp only [Option.some.injEq]at e
  rw [← e]
  have k0:F29_0 x.a0 x.a1 x.a2 x.a3 x.a4 x.a5 x.a6 x.a7 x.a8 x.a9=r.r0:=by
    show (match F29 x.a0 x.a1 x.a2 x.a3 x.a4 x.a5 x.a6 x.a7 x.a8 x.a9 with | some r=>r.r0 | none=>0)=r.r0
    rw [hF]
  have k1:F29_1 x.a0 x.a1 x.a2 x.a3 x.a4 x.a5 x.a6 x.a7 x.a8 x.a9=r.r1:=by
    show (match F29 x.a0 x.a1 x.a2 x.a3 x.a4 x.a5 x.a6 x.a7 x.a8 x.a9 with | some r=>r.r1 | none=>0)=r.r1
    rw [hF]
  rw [k0,k1]<;>rfl
theorem hd29:∀(t:Task) (x:A29)(h:Hp),dec29 t=some (x,h)→t=.call 29 ⟨[(.agg ⟨[(.int .i64 x.a0),(.int .i64 x.a1),(.int .i64 x.a2),(lstV x.a3 x.a4 x.a5 6),(lstV x.a6 x.a7 x.a8 5)]⟩),(.int .i64 x.a9)]⟩ h:=by
  intro t x h e
  unfold dec29 at e
  split at e
  case h_2=>cases e
  split at e
  case h_2=>cases e
  rename_i hg
  simp only [Option.some.injEq,Prod.mk.injEq]at e
  obtain ⟨rfl,rfl⟩:=e
  rw [Nat.eq_of_beq_eq_true hg]
theorem known29:Known Try.prog p29:=by
  exact Known.fn noNG mixed (Known.or known61 (Known.or known67 known72)) (n:=60) (zs:=[0,0]) 29 (fun x:A29=>[(.agg ⟨[(.int .i64 x.a0),(.int .i64 x.a1),(.int .i64 x.a2),(lstV x.a3 x.a4 x.a5 6),(lstV x.a6 x.a7 x.a8 5)]⟩),(.int .i64 x.a9)]) (fun x=>rt29 x.a0 x.a1 x.a2 x.a3 x.a4 x.a5 x.a6 x.a7 x.a8 x.a9) en29 (fun x=>T29  x.a0 x.a1 x.a2 x.a3 x.a4 x.a5 x.a6 x.a7 x.a8 x.a9) (fun x=>rfl) dec29 alt29 hd29 ha29
structure R4 where
  r0:Bool
structure A4 where
  a0:Int
  a1:Int
  a2:Int
  a3:Array Value
  a4:Nat
  a5:Nat
  a6:Array Value
  a7:Nat
  a8:Nat
  a9:Int
  a10:Int
  a11:Int
def rt4 (a0:Int)(a1:Int)(a2:Int)(a3:Array Value)(a4:Nat)(a5:Nat)(a6:Array Value)(a7:Nat)(a8:Nat)(a9:Int)(a10:Int)(a11:Int):RT R4 :=
  .br (Proofs.Ytmppkpdoonljpaa.F23_ok a0 a1 a2 (a3) a4 a5 (a6) a7 a8 a9) (.br (Proofs.Ytmppkpdoonljpaa.F24_ok a0 a1 a2 (a3) a4 a5 (a6) a7 a8 a9) (.br (not (decide ((Proofs.Ytmppkpdoonljpaa.F23_0 a0 a1 a2 (a3) a4 a5 (a6) a7 a8 a9)=(Proofs.Ytmppkpdoonljpaa.F24_0 a0 a1 a2 (a3) a4 a5 (a6) a7 a8 a9)))) (.leaf ⟨false⟩) (.br (not (decide ((Proofs.Ytmppkpdoonljpaa.F23_1 a0 a1 a2 (a3) a4 a5 (a6) a7 a8 a9)=(Proofs.Ytmppkpdoonljpaa.F24_1 a0 a1 a2 (a3) a4 a5 (a6) a7 a8 a9)))) (.leaf ⟨false⟩) (.br (Proofs.Ytmppkpdoonljpaa.F25_ok a0 a1 a2 (a3) a4 a5 (a6) a7 a8 a10) (.br (Proofs.Ytmppkpdoonljpaa.F26_ok a0 a1 a2 (a3) a4 a5 (a6) a7 a8 a10)
 (.br (Proofs.Ytmppkpdoonljpaa.F27_ok (Proofs.Ytmppkpdoonljpaa.F25_0 a0 a1 a2 (a3) a4 a5 (a6) a7 a8 a10) (Proofs.Ytmppkpdoonljpaa.F25_1 a0 a1 a2 (a3) a4 a5 (a6) a7 a8 a10) (Proofs.Ytmppkpdoonljpaa.F25_2 a0 a1 a2 (a3) a4 a5 (a6) a7 a8 a10) (Proofs.Ytmppkpdoonljpaa.F26_0 a0 a1 a2 (a3) a4 a5 (a6) a7 a8 a10) (Proofs.Ytmppkpdoonljpaa.F26_1 a0 a1 a2 (a3) a4 a5 (a6) a7 a8 a10) (Proofs.Ytmppkpdoonljpaa.F26_2 a0 a1 a2 (a3) a4 a5 (a6) a7 a8 a10)) (.br (not (Proofs.Ytmppkpdoonljpaa.F27_0 (Proofs.Ytmppkpdoonljpaa.F25_0 a0 a1 a2 (a3) a4 a5 (a6) a7 a8 a10) (Proofs.Ytmppkpdoonljpaa.F25_1 a0 a1 a2 (a3) a4 a5 (a6) a7 a8 a10) (Proofs.Ytmppkpdoonljpaa.F25_2 a0 a1 a2 (a3) a4 a5 (a6) a7 a8 a10) (Proofs.Ytmppkpdoonljpaa.F26_0 a0 a1 a2 (a3) a4 a5 (a6) a7 a8 a10) (Proofs.Ytmppkpdoonljpaa.F26_1 a0 a1 a2 (a3) a4 a5 (a6) a7 a8 a10) (Proofs.Ytmppkpdoonljpaa.F26_2 a0 a1 a2 (a3) a4 a5 (a6) a7 a8 a10))) (.leaf ⟨false⟩)
 (.br (not (decide ((Proofs.Ytmppkpdoonljpaa.F25_3 a0 a1 a2 (a3) a4 a5 (a6) a7 a8 a10)=(Proofs.Ytmppkpdoonljpaa.F26_3 a0 a1 a2 (a3) a4 a5 (a6) a7 a8 a10)))) (.leaf ⟨false⟩) (.br (Proofs.Ytmppkpdoonljpaa.F28_ok a0 a1 a2 (a3) a4 a5 (a6) a7 a8 a11) (.br (Proofs.Ytmppkpdoonljpaa.F29_ok a0 a1 a2 (a3) a4 a5 (a6) a7 a8 a11) (.br (decide ((Proofs.Ytmppkpdoonljpaa.F28_0 a0 a1 a2 (a3) a4 a5 (a6) a7 a8 a11)=(Proofs.Ytmppkpdoonljpaa.F29_0 a0 a1 a2 (a3) a4 a5 (a6) a7 a8 a11))) (.br (decide ((Proofs.Ytmppkpdoonljpaa.F28_1 a0 a1 a2 (a3) a4 a5 (a6) a7 a8 a11)=(Proofs.Ytmppkpdoonljpaa.F29_1 a0 a1 a2 (a3) a4 a5 (a6) a7 a8 a11))) (.leaf ⟨true⟩) (.leaf ⟨false⟩)) (.leaf ⟨false⟩)) (.no)) (.no)))) (.no)) (.no)) (.no)))) (.no)) (.no)
def en4 (r:R4):Value:=(.bool r.r0)
theorem T4  (a0:Int) (a1:Int) (a2:Int) (a3:Array Value) (a4:Nat) (a5:Nat) (a6:Array Value) (a7:Nat) (a8:Nat) (a9:Int) (a10:Int) (a11:Int):evC Try.prog (Ans.c (p22.or (p23.or (p24.or (p25.or (p26.or (p27.or (p28.or p29)))))))) 60 (.call 4 ⟨[(.agg ⟨[(.int .i64 a0),(.int .i64 a1),(.int .i64 a2),(lstV a3 a4 a5 6),(lstV a6 a7 a8 5)]⟩),(.agg ⟨[(.int .i64 a9),(.int .i64 a10),(.int .i64 a11)]⟩)]⟩ ⟨[],0,[]⟩) (frzK [0])=(rt4 a0 a1 a2 a3 a4 a5 a6 a7 a8 a9 a10 a11).out (fun r=>.ret (en4 r) ⟨[],0,[]⟩):=by kernel_rfl
def F4 (a0:Int)(a1:Int)(a2:Int)(a3:Array Value)(a4:Nat)(a5:Nat)(a6:Array Value)(a7:Nat)(a8:Nat)(a9:Int)(a10:Int)(a11:Int):Option R4:=(rt4 a0 a1 a2 a3 a4 a5 a6 a7 a8 a9 a10 a11).val
section
variable (a0:Int) (a1:Int) (a2:Int) (a3:Array Value) (a4:Nat) (a5:Nat) (a6:Array Value) (a7:Nat) (a8:Nat) (a9:Int) (a10:Int) (a11:Int)
def F4_ok:Bool:=(F4 a0 a1 a2 a3 a4 a5 a6 a7 a8 a9 a10 a11).isSome
def F4_0:Bool:=match F4 a0 a1 a2 a3 a4 a5 a6 a7 a8 a9 a10 a11 with | some r=>r.r0 | none=>false
end
def dec4:Task→Option (A4×Hp)
  | .call g ⟨[(.agg ⟨[(.int .i64 a0),(.int .i64 a1),(.int .i64 a2),(.func (.via 0 ⟨[]⟩ 0 true) a3 ⟨[.slice (some ⟨0,a4,none⟩) a5 6]⟩),(.func (.via 0 ⟨[]⟩ 0 true) a6 ⟨[.slice (some ⟨0,a7,none⟩) a8 5]⟩)]⟩),(.agg ⟨[(.int .i64 a9),(.int .i64 a10),(.int .i64 a11)]⟩)]⟩ h=>(match Nat.beq g 4 with | true=>some (⟨a0,a1,a2,a3,a4,a5,a6,a7,a8,a9,a10,a11⟩,h) | false=>none)
  | _=>none
def alt4 (x:A4)(h:Hp):AT:=.br (F4_ok x.a0 x.a1 x.a2 x.a3 x.a4 x.a5 x.a6 x.a7 x.a8 x.a9 x.a10 x.a11) (.leaf (.ret (.bool (F4_0 x.a0 x.a1 x.a2 x.a3 x.a4 x.a5 x.a6 x.a7 x.a8 x.a9 x.a10 x.a11)) h)) .no
def p4:Ans:=fnAns dec4 alt4
theorem ha4:∀(x:A4) (h:Hp)(o:Out),(alt4 x h).out=some o→∃r,(rt4 x.a0 x.a1 x.a2 x.a3 x.a4 x.a5 x.a6 x.a7 x.a8 x.a9 x.a10 x.a11).val=some r∧o=.ret (en4 r) h:=by
  intro x h o e
  unfold alt4 at e
  simp only [AT.out]at e
  obtain ⟨g,e⟩:=cond_some e
  unfold F4_ok at g
  obtain ⟨r,hF⟩:=Option.isSome_iff_exists.1 g
  have hv:F4 x.a0 x.a1 x.a2 x.a3 x.a4 x.a5 x.a6 x.a7 x.a8 x.a9 x.a10 x.a11=(rt4 x.a0 x.a1 x.a2 x.a3 x.a4 x.a5 x.a6 x.a7 x.a8 x.a9 x.a10 x.a11).val:=by delta F4;exact rfl
  refine ⟨r,hv.symm.trans hF,?_⟩
  simp only [Option.some.injEq]at e
  rw [← e]
  have k0:F4_0 x.a0 x.a1 x.a2 x.a3 x.a4 x.a5 x.a6 x.a7 x.a8 x.a9 x.a10 x.a11=r.r0:=by
    show (match F4 x.a0 x.a1 x.a2 x.a3 x.a4 x.a5 x.a6 x.a7 x.a8 x.a9 x.a10 x.a11 with | some r=>r.r0 | none=>false)=r.r0
    rw [hF]
  rw [k0]<;>rfl
theorem hd4:∀(t:Task) (x:A4)(h:Hp),dec4 t=some (x,h)→t=.call 4 ⟨[(.agg ⟨[(.int .i64 x.a0),(.int .i64 x.a1),(.int .i64 x.a2),(lstV x.a3 x.a4 x.a5 6),(lstV x.a6 x.a7 x.a8 5)]⟩),(.agg ⟨[(.int .i64 x.a9),(.int .i64 x.a10),(.int .i64 x.a11)]⟩)]⟩ h:=by
  intro t x h e
  unfold dec4 at e
  split at e
  case h_2=>cases e
  split at e
  case h_2=>cases e
  rename_i hg
  simp only [Option.some.injEq,Prod.mk.injEq]at e
  obtain ⟨rfl,rfl⟩:=e
  rw [Nat.eq_of_beq_eq_true hg]
theorem known4:Known Try.prog p4:=by
  exact Known.fn noNG mixed (Known.or known22 (Known.or known23 (Known.or known24 (Known.or known25 (Known.or known26 (Known.or known27 (Known.or known28 known29))))))) (n:=60) (zs:=[0]) 4 (fun x:A4=>[(.agg ⟨[(.int .i64 x.a0),(.int .i64 x.a1),(.int .i64 x.a2),(lstV x.a3 x.a4 x.a5 6),(lstV x.a6 x.a7 x.a8 5)]⟩),(.agg ⟨[(.int .i64 x.a9),(.int .i64 x.a10),(.int .i64 x.a11)]⟩)]) (fun x=>rt4 x.a0 x.a1 x.a2 x.a3 x.a4 x.a5 x.a6 x.a7 x.a8 x.a9 x.a10 x.a11) en4 (fun x=>T4  x.a0 x.a1 x.a2 x.a3 x.a4 x.a5 x.a6 x.a7 x.a8 x.a9 x.a10 x.a11) (fun x=>rfl) dec4 alt4 hd4 ha4
end
end Go.Proofs.Ytmppkpdoonljpaa
