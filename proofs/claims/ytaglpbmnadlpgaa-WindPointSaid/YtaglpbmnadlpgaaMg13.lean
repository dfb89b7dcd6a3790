/- WindPoint proved: at each height the spans of At are those of a task with this height alone for a band; where sources agree there, they lie in the spans of the band that has the height. Conditions: none. -/
import Derived.Test.YtaglpbmnadlpgaaMg6
import Derived.Test.YtaglpbmnadlpgaaMg12
import Derived.Test.YtaglpbmnadlpgaaMg11
namespace Go.Proofs.Ytaglpbmnadlpgaa
open Go.Gi Go.RowKit Go.Proofs.Ytaglpbmnadlpgaa.Old
noncomputable section
set_option maxRecDepth 100000
set_option maxHeartbeats 4000000
set_option linter.unusedVariables false
set_option linter.unusedSimpArgs false
structure X17_0 where
  (v0:Int)
  (v1:Array Value)
  (v2 v3:Nat)
  (v4:Array Value)
  (v5 v6:Nat)
  (v7:Array Value)
  (v8 v9:Nat)
  (v10 v11:Int)
  (v12 v13:Int)
  (v14 v15:Int)
  (v16 v17 v18:Int)
inductive D17_0 where
  | k0 (d0:Bool) (d1 : Array Value) (d2 d3:Nat) (d4 : Array Value) (d5 d6:Nat) (d7 : Array Value) (d8 d9:Nat) (d10 d11:Int) (d12 d13:Int) (d14 d15:Int) (d16 d17 d18:Int)
  | k1 (d0 : Array Value) (d1 d2:Nat) (d3 : Array Value) (d4 d5:Nat) (d6 : Array Value) (d7 d8:Nat) (d9 d10:Int) (d11 d12:Int) (d13 d14:Int) (d15 d16 d17:Int)
noncomputable def Lp17_0 : LoopOf X17_0 D17_0 where
  c:=(theLoop Try.prog 17 0)
  N:=204
  M:=4
  S:=[2,3,5,6,12]
  sl:=fun x=>[(Value.pointer (Option.some (Addr.mk 0 0 Option.none))),(Value.pointer (Option.some (Addr.mk 1 0 Option.none))),(Value.pointer (Option.some (Addr.mk 2 0 Option.none))),(Value.pointer (Option.some (Addr.mk 3 0 Option.none))),(.int .i64 x.v0)]
  hp:=fun x=>[.cells ⟨[(lstV x.v1 x.v2 x.v3 7),(lstV x.v4 x.v5 x.v6 5),(lstV x.v7 x.v8 x.v9 1),(.int .i64 x.v10),(.int .i64 x.v11)]⟩ false,.cells ⟨[(.int .i64 x.v12),(.int .i64 x.v13),(.int .i64 x.v14)]⟩ false,.cells ⟨[(.int .i64 x.v15),(.int .i64 x.v16)]⟩ false,.cells ⟨[(.int .i64 x.v17),(.int .i64 x.v18)]⟩ false]
  ex:=fun d=>match d with | .k0 ..=>.ret | .k1 ..=>.exit 0
  pick:=fun e=>match e with | .ret=>[4] | .exit 0=>[] | _=>[]
  dv:=fun d=>match d with | .k0 d0 d1 d2 d3 d4 d5 d6 d7 d8 d9 d10 d11 d12 d13 d14 d15 d16 d17 d18=>[(.bool d0)] | .k1 d0 d1 d2 d3 d4 d5 d6 d7 d8 d9 d10 d11 d12 d13 d14 d15 d16 d17=>[]
  dh:=fun d=>match d with | .k0 d0 d1 d2 d3 d4 d5 d6 d7 d8 d9 d10 d11 d12 d13 d14 d15 d16 d17 d18=>[.cells ⟨[(lstV d1 d2 d3 7),(lstV d4 d5 d6 5),(lstV d7 d8 d9 1),(.int .i64 d10),(.int .i64 d11)]⟩ false,.cells ⟨[(.int .i64 d12),(.int .i64 d13),(.int .i64 d14)]⟩ false,.cells ⟨[(.int .i64 d15),(.int .i64 d16)]⟩ false,.cells ⟨[(.int .i64 d17),(.int .i64 d18)]⟩ false] | .k1 d0 d1 d2 d3 d4 d5 d6 d7 d8 d9 d10 d11 d12 d13 d14 d15 d16 d17=>[.cells ⟨[(lstV d0 d1 d2 7),(lstV d3 d4 d5 5),(lstV d6 d7 d8 1),(.int .i64 d9),(.int .i64 d10)]⟩ false,.cells ⟨[(.int .i64 d11),(.int .i64 d12),(.int .i64 d13)]⟩ false,.cells ⟨[(.int .i64 d14),(.int .i64 d15)]⟩ false,.cells ⟨[(.int .i64 d16),(.int .i64 d17)]⟩ false]
theorem ok17_0 : Lp17_0.Ok:=⟨fun x=>rfl,fun x=>rfl,fun x=>rfl,fun x=>rfl,fun d=>by cases d <;> rfl,fun d=>by cases d <;> rfl,fun d=>by cases d <;> rfl,fun d=>by cases d <;> (intro h; cases h),fun d=>by cases d <;> rfl,fun d=>by cases d <;> rfl⟩
noncomputable def rd17_0 (x:X17_0) : RT (Sum X17_0 D17_0):=match x with
  | ⟨v0,v1,v2,v3,v4,v5,v6,v7,v8,v9,v10,v11,v12,v13,v14,v15,v16,v17,v18⟩ =>
     .br (decide (v0 < (Int.ofNat v9)))
     (.br (and (decide ((0 : Int) ≤ v0)) (decide (v0 < (Int.ofNat v9))))
     (.br (isInt .i64 v7 (v8+((Int.toNat v0)*1)))
     (.br (decide ((getInt v7 (v8+((Int.toNat v0)*1))) ≤ v12))
     (.leaf (.inl ⟨(IntKind.wrap .i64 (v0+(1 : Int))),v1,v2,v3,v4,v5,v6,v7,v8,v9,v10,v11,v12,v13,v14,v15,v16,v17,v18⟩))
     (.br (decide ((0 : Int) < v0))
     (.br (and (decide ((0 : Int) ≤ (IntKind.wrap .i64 (v0 - (1 : Int))))) (decide ((IntKind.wrap .i64 (v0 - (1 : Int))) < (Int.ofNat v9))))
     (.br (isInt .i64 v7 (v8+((Int.toNat (IntKind.wrap .i64 (v0 - (1 : Int))))*1)))
     (.br (decide (v12 < (getInt v7 (v8+((Int.toNat (IntKind.wrap .i64 (v0 - (1 : Int))))*1)))))
     (.leaf (.inl ⟨(IntKind.wrap .i64 (v0+(1 : Int))),v1,v2,v3,v4,v5,v6,v7,v8,v9,v10,v11,v12,v13,v14,v15,v16,v17,v18⟩))
     (.br (F38_ok v1 v2 v3 v4 v5 v6 v7 v8 v9 v10 v11 v0 v13 v14)
     (.br (F42_ok v1 v2 v3 v4 v5 v6 v7 v8 v9 v10 v11 v13 v14)
     (.br (not (decide ((F38_4 v1 v2 v3 v4 v5 v6 v7 v8 v9 v10 v11 v0 v13 v14) = (0 : Int))))
     (.leaf (.inr (.k0 false v1 v2 v3 v4 v5 v6 v7 v8 v9 v10 v11 v12 v13 v14 v15 v16 v17 v18)))
     (.br (not (F38_3 v1 v2 v3 v4 v5 v6 v7 v8 v9 v10 v11 v0 v13 v14))
     (.leaf (.inr (.k0 false v1 v2 v3 v4 v5 v6 v7 v8 v9 v10 v11 v12 v13 v14 v15 v16 v17 v18)))
     (.br (decide ((F42_3 v1 v2 v3 v4 v5 v6 v7 v8 v9 v10 v11 v13 v14) = (0 : Int)))
     (.br (not (decide ((Int.ofNat (F42_2 v1 v2 v3 v4 v5 v6 v7 v8 v9 v10 v11 v13 v14)) = (Int.ofNat v9))))
     (.leaf (.inr (.k0 false v1 v2 v3 v4 v5 v6 v7 v8 v9 v10 v11 v12 v13 v14 v15 v16 v17 v18)))
     (.br (and (decide ((0 : Int) ≤ v0)) (decide (v0 < (Int.ofNat (F42_2 v1 v2 v3 v4 v5 v6 v7 v8 v9 v10 v11 v13 v14)))))
     (.br (isInt .i64 (F42_0 v1 v2 v3 v4 v5 v6 v7 v8 v9 v10 v11 v13 v14) ((((F42_1 v1 v2 v3 v4 v5 v6 v7 v8 v9 v10 v11 v13 v14)+((Int.toNat v0)*6))+2)+0))
     (.br (decide (v15 < (getInt (F42_0 v1 v2 v3 v4 v5 v6 v7 v8 v9 v10 v11 v13 v14) ((((F42_1 v1 v2 v3 v4 v5 v6 v7 v8 v9 v10 v11 v13 v14)+((Int.toNat v0)*6))+2)+0))))
     (.leaf (.inr (.k0 false v1 v2 v3 v4 v5 v6 v7 v8 v9 v10 v11 v12 v13 v14 v15 v16 v17 v18)))
     (.br (and (decide ((0 : Int) ≤ v0)) (decide (v0 < (Int.ofNat (F42_2 v1 v2 v3 v4 v5 v6 v7 v8 v9 v10 v11 v13 v14)))))
     (.br (isInt .i64 (F42_0 v1 v2 v3 v4 v5 v6 v7 v8 v9 v10 v11 v13 v14) ((((F42_1 v1 v2 v3 v4 v5 v6 v7 v8 v9 v10 v11 v13 v14)+((Int.toNat v0)*6))+2)+1))
     (.br (decide ((getInt (F42_0 v1 v2 v3 v4 v5 v6 v7 v8 v9 v10 v11 v13 v14) ((((F42_1 v1 v2 v3 v4 v5 v6 v7 v8 v9 v10 v11 v13 v14)+((Int.toNat v0)*6))+2)+1)) < v16))
     (.leaf (.inr (.k0 false v1 v2 v3 v4 v5 v6 v7 v8 v9 v10 v11 v12 v13 v14 v15 v16 v17 v18)))
     (.br (and (decide ((0 : Int) ≤ v0)) (decide (v0 < (Int.ofNat (F42_2 v1 v2 v3 v4 v5 v6 v7 v8 v9 v10 v11 v13 v14)))))
     (.br (isInt .i64 (F42_0 v1 v2 v3 v4 v5 v6 v7 v8 v9 v10 v11 v13 v14) ((((F42_1 v1 v2 v3 v4 v5 v6 v7 v8 v9 v10 v11 v13 v14)+((Int.toNat v0)*6))+4)+0))
     (.br (decide (v17 < (getInt (F42_0 v1 v2 v3 v4 v5 v6 v7 v8 v9 v10 v11 v13 v14) ((((F42_1 v1 v2 v3 v4 v5 v6 v7 v8 v9 v10 v11 v13 v14)+((Int.toNat v0)*6))+4)+0))))
     (.leaf (.inr (.k0 false v1 v2 v3 v4 v5 v6 v7 v8 v9 v10 v11 v12 v13 v14 v15 v16 v17 v18)))
     (.br (and (decide ((0 : Int) ≤ v0)) (decide (v0 < (Int.ofNat (F42_2 v1 v2 v3 v4 v5 v6 v7 v8 v9 v10 v11 v13 v14)))))
     (.br (isInt .i64 (F42_0 v1 v2 v3 v4 v5 v6 v7 v8 v9 v10 v11 v13 v14) ((((F42_1 v1 v2 v3 v4 v5 v6 v7 v8 v9 v10 v11 v13 v14)+((Int.toNat v0)*6))+4)+1))
     (.br (decide ((getInt (F42_0 v1 v2 v3 v4 v5 v6 v7 v8 v9 v10 v11 v13 v14) ((((F42_1 v1 v2 v3 v4 v5 v6 v7 v8 v9 v10 v11 v13 v14)+((Int.toNat v0)*6))+4)+1)) < v18))
     (.leaf (.inr (.k0 false v1 v2 v3 v4 v5 v6 v7 v8 v9 v10 v11 v12 v13 v14 v15 v16 v17 v18)))
     (.leaf (.inl ⟨(IntKind.wrap .i64 (v0+(1 : Int))),v1,v2,v3,v4,v5,v6,v7,v8,v9,v10,v11,v12,v13,v14,v15,v16,v17,v18⟩)))
     (.no))
     (.no)))
     (.no))
     (.no)))
     (.no))
     (.no)))
     (.no))
     (.no)))
     (.leaf (.inl ⟨(IntKind.wrap .i64 (v0+(1 : Int))),v1,v2,v3,v4,v5,v6,v7,v8,v9,v10,v11,v12,v13,v14,v15,v16,v17,v18⟩)))))
     (.no))
     (.no)))
     (.no))
     (.no))
     (.br (F38_ok v1 v2 v3 v4 v5 v6 v7 v8 v9 v10 v11 v0 v13 v14)
     (.br (F42_ok v1 v2 v3 v4 v5 v6 v7 v8 v9 v10 v11 v13 v14)
     (.br (not (decide ((F38_4 v1 v2 v3 v4 v5 v6 v7 v8 v9 v10 v11 v0 v13 v14) = (0 : Int))))
     (.leaf (.inr (.k0 false v1 v2 v3 v4 v5 v6 v7 v8 v9 v10 v11 v12 v13 v14 v15 v16 v17 v18)))
     (.br (not (F38_3 v1 v2 v3 v4 v5 v6 v7 v8 v9 v10 v11 v0 v13 v14))
     (.leaf (.inr (.k0 false v1 v2 v3 v4 v5 v6 v7 v8 v9 v10 v11 v12 v13 v14 v15 v16 v17 v18)))
     (.br (decide ((F42_3 v1 v2 v3 v4 v5 v6 v7 v8 v9 v10 v11 v13 v14) = (0 : Int)))
     (.br (not (decide ((Int.ofNat (F42_2 v1 v2 v3 v4 v5 v6 v7 v8 v9 v10 v11 v13 v14)) = (Int.ofNat v9))))
     (.leaf (.inr (.k0 false v1 v2 v3 v4 v5 v6 v7 v8 v9 v10 v11 v12 v13 v14 v15 v16 v17 v18)))
     (.br (and (decide ((0 : Int) ≤ v0)) (decide (v0 < (Int.ofNat (F42_2 v1 v2 v3 v4 v5 v6 v7 v8 v9 v10 v11 v13 v14)))))
     (.br (isInt .i64 (F42_0 v1 v2 v3 v4 v5 v6 v7 v8 v9 v10 v11 v13 v14) ((((F42_1 v1 v2 v3 v4 v5 v6 v7 v8 v9 v10 v11 v13 v14)+((Int.toNat v0)*6))+2)+0))
     (.br (decide (v15 < (getInt (F42_0 v1 v2 v3 v4 v5 v6 v7 v8 v9 v10 v11 v13 v14) ((((F42_1 v1 v2 v3 v4 v5 v6 v7 v8 v9 v10 v11 v13 v14)+((Int.toNat v0)*6))+2)+0))))
     (.leaf (.inr (.k0 false v1 v2 v3 v4 v5 v6 v7 v8 v9 v10 v11 v12 v13 v14 v15 v16 v17 v18)))
     (.br (and (decide ((0 : Int) ≤ v0)) (decide (v0 < (Int.ofNat (F42_2 v1 v2 v3 v4 v5 v6 v7 v8 v9 v10 v11 v13 v14)))))
     (.br (isInt .i64 (F42_0 v1 v2 v3 v4 v5 v6 v7 v8 v9 v10 v11 v13 v14) ((((F42_1 v1 v2 v3 v4 v5 v6 v7 v8 v9 v10 v11 v13 v14)+((Int.toNat v0)*6))+2)+1))
     (.br (decide ((getInt (F42_0 v1 v2 v3 v4 v5 v6 v7 v8 v9 v10 v11 v13 v14) ((((F42_1 v1 v2 v3 v4 v5 v6 v7 v8 v9 v10 v11 v13 v14)+((Int.toNat v0)*6))+2)+1)) < v16))
     (.leaf (.inr (.k0 false v1 v2 v3 v4 v5 v6 v7 v8 v9 v10 v11 v12 v13 v14 v15 v16 v17 v18)))
     (.br (and (decide ((0 : Int) ≤ v0)) (decide (v0 < (Int.ofNat (F42_2 v1 v2 v3 v4 v5 v6 v7 v8 v9 v10 v11 v13 v14)))))
     (.br (isInt .i64 (F42_0 v1 v2 v3 v4 v5 v6 v7 v8 v9 v10 v11 v13 v14) ((((F42_1 v1 v2 v3 v4 v5 v6 v7 v8 v9 v10 v11 v13 v14)+((Int.toNat v0)*6))+4)+0))
     (.br (decide (v17 < (getInt (F42_0 v1 v2 v3 v4 v5 v6 v7 v8 v9 v10 v11 v13 v14) ((((F42_1 v1 v2 v3 v4 v5 v6 v7 v8 v9 v10 v11 v13 v14)+((Int.toNat v0)*6))+4)+0))))
     (.leaf (.inr (.k0 false v1 v2 v3 v4 v5 v6 v7 v8 v9 v10 v11 v12 v13 v14 v15 v16 v17 v18)))
     (.br (and (decide ((0 : Int) ≤ v0)) (decide (v0 < (Int.ofNat (F42_2 v1 v2 v3 v4 v5 v6 v7 v8 v9 v10 v11 v13 v14)))))
     (.br (isInt .i64 (F42_0 v1 v2 v3 v4 v5 v6 v7 v8 v9 v10 v11 v13 v14) ((((F42_1 v1 v2 v3 v4 v5 v6 v7 v8 v9 v10 v11 v13 v14)+((Int.toNat v0)*6))+4)+1))
     (.br (decide ((getInt (F42_0 v1 v2 v3 v4 v5 v6 v7 v8 v9 v10 v11 v13 v14) ((((F42_1 v1 v2 v3 v4 v5 v6 v7 v8 v9 v10 v11 v13 v14)+((Int.toNat v0)*6))+4)+1)) < v18))
     (.leaf (.inr (.k0 false v1 v2 v3 v4 v5 v6 v7 v8 v9 v10 v11 v12 v13 v14 v15 v16 v17 v18)))
     (.leaf (.inl ⟨(IntKind.wrap .i64 (v0+(1 : Int))),v1,v2,v3,v4,v5,v6,v7,v8,v9,v10,v11,v12,v13,v14,v15,v16,v17,v18⟩)))
     (.no))
     (.no)))
     (.no))
     (.no)))
     (.no))
     (.no)))
     (.no))
     (.no)))
     (.leaf (.inl ⟨(IntKind.wrap .i64 (v0+(1 : Int))),v1,v2,v3,v4,v5,v6,v7,v8,v9,v10,v11,v12,v13,v14,v15,v16,v17,v18⟩)))))
     (.no))
     (.no))))
     (.no))
     (.no))
     (.leaf (.inr (.k1 v1 v2 v3 v4 v5 v6 v7 v8 v9 v10 v11 v12 v13 v14 v15 v16 v17 v18)))
theorem T17_0  (y : List Value) (v0 : Int) (v1 : Array Value) (v2 v3:Nat) (v4 : Array Value) (v5 v6:Nat) (v7 : Array Value) (v8 v9:Nat) (v10 v11:Int) (v12 v13:Int) (v14 v15:Int) (v16 v17 v18:Int) : evC Try.prog (Ans.c (p24V.or ((p38.or (thawK 38 [[7,5,1,0,0],[0],[0],[0]] p38)).or (p40.or p42)))) 60 (.code none (theLoop Try.prog 17 0) ⟨sets (junkF 204 y) [(2,(Value.pointer (some (Addr.mk 0 0 none)))),(3,(Value.pointer (some (Addr.mk 1 0 none)))),(5,(Value.pointer (some (Addr.mk 2 0 none)))),(6,(Value.pointer (some (Addr.mk 3 0 none)))),(12,(.int .i64 v0))],[],⟨[.cells ⟨[(lstV v1 v2 v3 7),(lstV v4 v5 v6 5),(lstV v7 v8 v9 1),(.int .i64 v10),(.int .i64 v11)]⟩ false,.cells ⟨[(.int .i64 v12),(.int .i64 v13),(.int .i64 v14)]⟩ false,.cells ⟨[(.int .i64 v15),(.int .i64 v16)]⟩ false,.cells ⟨[(.int .i64 v17),(.int .i64 v18)]⟩ false],0,[]⟩⟩) (sumK 4 204 Lp17_0.pk) = (rd17_0 ⟨v0,v1,v2,v3,v4,v5,v6,v7,v8,v9,v10,v11,v12,v13,v14,v15,v16,v17,v18⟩).out Lp17_0.enc:=by kernel_rfl
noncomputable def L17_0 (x:X17_0) : Option D17_0:=loopR rd17_0 x
section
variable (x:X17_0)
noncomputable def L17_0_k0 : Bool:=match L17_0 x with | some (.k0 ..)=>true | _=>false
noncomputable def L17_0_k0_0 : Bool:=match L17_0 x with | some (.k0 d _ _ _ _ _ _ _ _ _ _ _ _ _ _ _ _ _ _)=>d | _=>false
noncomputable def L17_0_k0_1 : Array Value:=match L17_0 x with | some (.k0 _ d _ _ _ _ _ _ _ _ _ _ _ _ _ _ _ _ _)=>d | _=>#[]
noncomputable def L17_0_k0_2 : Nat:=match L17_0 x with | some (.k0 _ _ d _ _ _ _ _ _ _ _ _ _ _ _ _ _ _ _)=>d | _=>0
noncomputable def L17_0_k0_3 : Nat:=match L17_0 x with | some (.k0 _ _ _ d _ _ _ _ _ _ _ _ _ _ _ _ _ _ _)=>d | _=>0
noncomputable def L17_0_k0_4 : Array Value:=match L17_0 x with | some (.k0 _ _ _ _ d _ _ _ _ _ _ _ _ _ _ _ _ _ _)=>d | _=>#[]
noncomputable def L17_0_k0_5 : Nat:=match L17_0 x with | some (.k0 _ _ _ _ _ d _ _ _ _ _ _ _ _ _ _ _ _ _)=>d | _=>0
noncomputable def L17_0_k0_6 : Nat:=match L17_0 x with | some (.k0 _ _ _ _ _ _ d _ _ _ _ _ _ _ _ _ _ _ _)=>d | _=>0
noncomputable def L17_0_k0_7 : Array Value:=match L17_0 x with | some (.k0 _ _ _ _ _ _ _ d _ _ _ _ _ _ _ _ _ _ _)=>d | _=>#[]
noncomputable def L17_0_k0_8 : Nat:=match L17_0 x with | some (.k0 _ _ _ _ _ _ _ _ d _ _ _ _ _ _ _ _ _ _)=>d | _=>0
noncomputable def L17_0_k0_9 : Nat:=match L17_0 x with | some (.k0 _ _ _ _ _ _ _ _ _ d _ _ _ _ _ _ _ _ _)=>d | _=>0
noncomputable def L17_0_k0_10 : Int:=match L17_0 x with | some (.k0 _ _ _ _ _ _ _ _ _ _ d _ _ _ _ _ _ _ _)=>d | _=>0
noncomputable def L17_0_k0_11 : Int:=match L17_0 x with | some (.k0 _ _ _ _ _ _ _ _ _ _ _ d _ _ _ _ _ _ _)=>d | _=>0
noncomputable def L17_0_k0_12 : Int:=match L17_0 x with | some (.k0 _ _ _ _ _ _ _ _ _ _ _ _ d _ _ _ _ _ _)=>d | _=>0
noncomputable def L17_0_k0_13 : Int:=match L17_0 x with | some (.k0 _ _ _ _ _ _ _ _ _ _ _ _ _ d _ _ _ _ _)=>d | _=>0
noncomputable def L17_0_k0_14 : Int:=match L17_0 x with | some (.k0 _ _ _ _ _ _ _ _ _ _ _ _ _ _ d _ _ _ _)=>d | _=>0
noncomputable def L17_0_k0_15 : Int:=match L17_0 x with | some (.k0 _ _ _ _ _ _ _ _ _ _ _ _ _ _ _ d _ _ _)=>d | _=>0
noncomputable def L17_0_k0_16 : Int:=match L17_0 x with | some (.k0 _ _ _ _ _ _ _ _ _ _ _ _ _ _ _ _ d _ _)=>d | _=>0
noncomputable def L17_0_k0_17 : Int:=match L17_0 x with | some (.k0 _ _ _ _ _ _ _ _ _ _ _ _ _ _ _ _ _ d _)=>d | _=>0
noncomputable def L17_0_k0_18 : Int:=match L17_0 x with | some (.k0 _ _ _ _ _ _ _ _ _ _ _ _ _ _ _ _ _ _ d)=>d | _=>0
noncomputable def L17_0_k1 : Bool:=match L17_0 x with | some (.k1 ..)=>true | _=>false
noncomputable def L17_0_k1_0 : Array Value:=match L17_0 x with | some (.k1 d _ _ _ _ _ _ _ _ _ _ _ _ _ _ _ _ _)=>d | _=>#[]
noncomputable def L17_0_k1_1 : Nat:=match L17_0 x with | some (.k1 _ d _ _ _ _ _ _ _ _ _ _ _ _ _ _ _ _)=>d | _=>0
noncomputable def L17_0_k1_2 : Nat:=match L17_0 x with | some (.k1 _ _ d _ _ _ _ _ _ _ _ _ _ _ _ _ _ _)=>d | _=>0
noncomputable def L17_0_k1_3 : Array Value:=match L17_0 x with | some (.k1 _ _ _ d _ _ _ _ _ _ _ _ _ _ _ _ _ _)=>d | _=>#[]
noncomputable def L17_0_k1_4 : Nat:=match L17_0 x with | some (.k1 _ _ _ _ d _ _ _ _ _ _ _ _ _ _ _ _ _)=>d | _=>0
noncomputable def L17_0_k1_5 : Nat:=match L17_0 x with | some (.k1 _ _ _ _ _ d _ _ _ _ _ _ _ _ _ _ _ _)=>d | _=>0
noncomputable def L17_0_k1_6 : Array Value:=match L17_0 x with | some (.k1 _ _ _ _ _ _ d _ _ _ _ _ _ _ _ _ _ _)=>d | _=>#[]
noncomputable def L17_0_k1_7 : Nat:=match L17_0 x with | some (.k1 _ _ _ _ _ _ _ d _ _ _ _ _ _ _ _ _ _)=>d | _=>0
noncomputable def L17_0_k1_8 : Nat:=match L17_0 x with | some (.k1 _ _ _ _ _ _ _ _ d _ _ _ _ _ _ _ _ _)=>d | _=>0
noncomputable def L17_0_k1_9 : Int:=match L17_0 x with | some (.k1 _ _ _ _ _ _ _ _ _ d _ _ _ _ _ _ _ _)=>d | _=>0
noncomputable def L17_0_k1_10 : Int:=match L17_0 x with | some (.k1 _ _ _ _ _ _ _ _ _ _ d _ _ _ _ _ _ _)=>d | _=>0
noncomputable def L17_0_k1_11 : Int:=match L17_0 x with | some (.k1 _ _ _ _ _ _ _ _ _ _ _ d _ _ _ _ _ _)=>d | _=>0
noncomputable def L17_0_k1_12 : Int:=match L17_0 x with | some (.k1 _ _ _ _ _ _ _ _ _ _ _ _ d _ _ _ _ _)=>d | _=>0
noncomputable def L17_0_k1_13 : Int:=match L17_0 x with | some (.k1 _ _ _ _ _ _ _ _ _ _ _ _ _ d _ _ _ _)=>d | _=>0
noncomputable def L17_0_k1_14 : Int:=match L17_0 x with | some (.k1 _ _ _ _ _ _ _ _ _ _ _ _ _ _ d _ _ _)=>d | _=>0
noncomputable def L17_0_k1_15 : Int:=match L17_0 x with | some (.k1 _ _ _ _ _ _ _ _ _ _ _ _ _ _ _ d _ _)=>d | _=>0
noncomputable def L17_0_k1_16 : Int:=match L17_0 x with | some (.k1 _ _ _ _ _ _ _ _ _ _ _ _ _ _ _ _ d _)=>d | _=>0
noncomputable def L17_0_k1_17 : Int:=match L17_0 x with | some (.k1 _ _ _ _ _ _ _ _ _ _ _ _ _ _ _ _ _ d)=>d | _=>0
end
noncomputable def dec17_0 : Task → Option (Code × X17_0)
  | .code none (.loop code) ⟨t,[],⟨[.cells ⟨[(.func (.via 0 ⟨[]⟩ 0 true) v1 ⟨[.slice (some ⟨0,v2,none⟩) v3 7]⟩),(.func (.via 0 ⟨[]⟩ 0 true) v4 ⟨[.slice (some ⟨0,v5,none⟩) v6 5]⟩),(.func (.via 0 ⟨[]⟩ 0 true) v7 ⟨[.slice (some ⟨0,v8,none⟩) v9 1]⟩),(.int .i64 v10),(.int .i64 v11)]⟩ false,.cells ⟨[(.int .i64 v12),(.int .i64 v13),(.int .i64 v14)]⟩ false,.cells ⟨[(.int .i64 v15),(.int .i64 v16)]⟩ false,.cells ⟨[(.int .i64 v17),(.int .i64 v18)]⟩ false],0,[]⟩⟩ =>
    (match Nat.beq (firstReg code) 14,lenIs t 204,lget t 2,lget t 3,lget t 5,lget t 6,lget t 12 with
    | true,true,(Value.pointer (Option.some (Addr.mk 0 0 Option.none))),(Value.pointer (Option.some (Addr.mk 1 0 Option.none))),(Value.pointer (Option.some (Addr.mk 2 0 Option.none))),(Value.pointer (Option.some (Addr.mk 3 0 Option.none))),(.int .i64 v0)=>some (code,⟨v0,v1,v2,v3,v4,v5,v6,v7,v8,v9,v10,v11,v12,v13,v14,v15,v16,v17,v18⟩)
    | _,_,_,_,_,_,_=>none)
  | _=>none
noncomputable def alt17_0 (x:X17_0) (j : List Value) : AT:=.br (L17_0_k0 x) (loopEnd 204 (.ret) [(4,(.bool (L17_0_k0_0 x)))] ⟨[.cells ⟨[(lstV (L17_0_k0_1 x) (L17_0_k0_2 x) (L17_0_k0_3 x) 7),(lstV (L17_0_k0_4 x) (L17_0_k0_5 x) (L17_0_k0_6 x) 5),(lstV (L17_0_k0_7 x) (L17_0_k0_8 x) (L17_0_k0_9 x) 1),(.int .i64 (L17_0_k0_10 x)),(.int .i64 (L17_0_k0_11 x))]⟩ false,.cells ⟨[(.int .i64 (L17_0_k0_12 x)),(.int .i64 (L17_0_k0_13 x)),(.int .i64 (L17_0_k0_14 x))]⟩ false,.cells ⟨[(.int .i64 (L17_0_k0_15 x)),(.int .i64 (L17_0_k0_16 x))]⟩ false,.cells ⟨[(.int .i64 (L17_0_k0_17 x)),(.int .i64 (L17_0_k0_18 x))]⟩ false],0,[]⟩ j) (.br (L17_0_k1 x) (loopEnd 204 (.exit 0) [] ⟨[.cells ⟨[(lstV (L17_0_k1_0 x) (L17_0_k1_1 x) (L17_0_k1_2 x) 7),(lstV (L17_0_k1_3 x) (L17_0_k1_4 x) (L17_0_k1_5 x) 5),(lstV (L17_0_k1_6 x) (L17_0_k1_7 x) (L17_0_k1_8 x) 1),(.int .i64 (L17_0_k1_9 x)),(.int .i64 (L17_0_k1_10 x))]⟩ false,.cells ⟨[(.int .i64 (L17_0_k1_11 x)),(.int .i64 (L17_0_k1_12 x)),(.int .i64 (L17_0_k1_13 x))]⟩ false,.cells ⟨[(.int .i64 (L17_0_k1_14 x)),(.int .i64 (L17_0_k1_15 x))]⟩ false,.cells ⟨[(.int .i64 (L17_0_k1_16 x)),(.int .i64 (L17_0_k1_17 x))]⟩ false],0,[]⟩ j) (.no))
noncomputable def la17_0 (J : Task → List Value) : Ans:=loopAns Lp17_0.c dec17_0 alt17_0 J
theorem ha17_0 : ∀ (x:X17_0) (j : List Value) (o:Out),(alt17_0 x j).out = some o → ∃ d,loopR rd17_0 x = some d ∧ o = Lp17_0.tail d j:=by
  intro x j o h
  unfold alt17_0 at h
  cases hL : L17_0 x with
  | none=>simp [L17_0_k0,L17_0_k0_0,L17_0_k0_1,L17_0_k0_2,L17_0_k0_3,L17_0_k0_4,L17_0_k0_5,L17_0_k0_6,L17_0_k0_7,L17_0_k0_8,L17_0_k0_9,L17_0_k0_10,L17_0_k0_11,L17_0_k0_12,L17_0_k0_13,L17_0_k0_14,L17_0_k0_15,L17_0_k0_16,L17_0_k0_17,L17_0_k0_18,L17_0_k1,L17_0_k1_0,L17_0_k1_1,L17_0_k1_2,L17_0_k1_3,L17_0_k1_4,L17_0_k1_5,L17_0_k1_6,L17_0_k1_7,L17_0_k1_8,L17_0_k1_9,L17_0_k1_10,L17_0_k1_11,L17_0_k1_12,L17_0_k1_13,L17_0_k1_14,L17_0_k1_15,L17_0_k1_16,L17_0_k1_17,hL,AT.out] at h
  | some d =>
    refine ⟨d,hL,?_⟩
    cases d <;> (simp only [L17_0_k0,L17_0_k0_0,L17_0_k0_1,L17_0_k0_2,L17_0_k0_3,L17_0_k0_4,L17_0_k0_5,L17_0_k0_6,L17_0_k0_7,L17_0_k0_8,L17_0_k0_9,L17_0_k0_10,L17_0_k0_11,L17_0_k0_12,L17_0_k0_13,L17_0_k0_14,L17_0_k0_15,L17_0_k0_16,L17_0_k0_17,L17_0_k0_18,L17_0_k1,L17_0_k1_0,L17_0_k1_1,L17_0_k1_2,L17_0_k1_3,L17_0_k1_4,L17_0_k1_5,L17_0_k1_6,L17_0_k1_7,L17_0_k1_8,L17_0_k1_9,L17_0_k1_10,L17_0_k1_11,L17_0_k1_12,L17_0_k1_13,L17_0_k1_14,L17_0_k1_15,L17_0_k1_16,L17_0_k1_17,hL,AT.out,loopEnd,cond_true,cond_false,Option.some.injEq] at h; rw [← h]; rfl)
theorem hd17_0 : ∀ (t:Task) (c:Code) (x:X17_0),dec17_0 t = some (c,x) → c = Lp17_0.c → ∃ T,t = .code none (.loop Lp17_0.c) ⟨T,[],⟨Lp17_0.hp x,0,[]⟩⟩ ∧ T.length = Lp17_0.N ∧ ∀ kv ∈ Lp17_0.S.zip (Lp17_0.sl x),lget T kv.1 = kv.2:=by
  intro t c x h hc
  unfold dec17_0 at h
  split at h
  case h_2=>cases h
  split at h
  case h_2=>cases h
  simp only [Option.some.injEq,Prod.mk.injEq] at h
  obtain ⟨rfl,rfl⟩:=h
  subst hc
  refine ⟨_,rfl,lenIs_eq _ _ (by assumption),?_⟩
  intro kv hk
  simp only [Lp17_0,List.zip_cons_cons,List.zip_nil_right,List.mem_cons,List.not_mem_nil,or_false] at hk
  rcases hk with rfl | rfl | rfl | rfl | rfl <;> assumption
theorem kl17_0 : ∃ J,Known Try.prog (la17_0 J):=by
  exact LoopOf.known noNG mixed ok17_0 (by decide) (by decide) (Known.or known24V (Known.or (Known.or known38 (Known.thawK known38 38 [[7,5,1,0,0],[0],[0],[0]])) (Known.or known40 known42))) (n:=60) (rd:=rd17_0) (fun x j=>T17_0  j x.v0 x.v1 x.v2 x.v3 x.v4 x.v5 x.v6 x.v7 x.v8 x.v9 x.v10 x.v11 x.v12 x.v13 x.v14 x.v15 x.v16 x.v17 x.v18) dec17_0 alt17_0 hd17_0 ha17_0
structure R17 where
  (r0:Bool)
structure A17 where
  (a0:Array Value)
  (a1 a2:Nat)
  (a3:Array Value)
  (a4 a5:Nat)
  (a6:Array Value)
  (a7 a8:Nat)
  (a9 a10:Int)
  (a11 a12 a13:Int)
noncomputable def rt17 (a0 : Array Value) (a1 a2:Nat) (a3 : Array Value) (a4 a5:Nat) (a6 : Array Value) (a7 a8:Nat) (a9 a10:Int) (a11 a12 a13:Int) : RT R17 :=
  .br (F40_ok a0 a1 a2 a3 a4 a5 a6 a7 a8 a9 a10 a11 a12 a13)
  (.br (not (decide ((F40_4 a0 a1 a2 a3 a4 a5 a6 a7 a8 a9 a10 a11 a12 a13) = (0 : Int))))
   (.br (not (decide ((F40_4 a0 a1 a2 a3 a4 a5 a6 a7 a8 a9 a10 a11 a12 a13) = (9 : Int))))
    (.br (and (decide ((F40_0 a0 a1 a2 a3 a4 a5 a6 a7 a8 a9 a10 a11 a12 a13) = (0 : Int))) (and (decide ((F40_1 a0 a1 a2 a3 a4 a5 a6 a7 a8 a9 a10 a11 a12 a13) = (0 : Int))) true))
     (.br (and (decide ((F40_2 a0 a1 a2 a3 a4 a5 a6 a7 a8 a9 a10 a11 a12 a13) = (0 : Int))) (and (decide ((F40_3 a0 a1 a2 a3 a4 a5 a6 a7 a8 a9 a10 a11 a12 a13) = (0 : Int))) true))
     (.leaf ⟨true⟩)
     (.leaf ⟨false⟩))
     (.leaf ⟨false⟩))
    (.br (decide ((0 : Int) < a11))
     (.br (F38_ok a0 a1 a2 a3 a4 a5 ⟨[(.int .i64 a11),(.int .i64 (IntKind.wrap .i64 (a11+(1 : Int))))]⟩ 0 2 a9 a10 (1 : Int) a12 a13)
     (.br (not (decide ((F38_4 a0 a1 a2 a3 a4 a5 ⟨[(.int .i64 a11),(.int .i64 (IntKind.wrap .i64 (a11+(1 : Int))))]⟩ 0 2 a9 a10 (1 : Int) a12 a13) = (0 : Int))))
     (.leaf ⟨false⟩)
     (.br (F38_3 a0 a1 a2 a3 a4 a5 ⟨[(.int .i64 a11),(.int .i64 (IntKind.wrap .i64 (a11+(1 : Int))))]⟩ 0 2 a9 a10 (1 : Int) a12 a13)
     (.br (not ((decide ((F40_4 a0 a1 a2 a3 a4 a5 a6 a7 a8 a9 a10 a11 a12 a13) = (0 : Int))) == true))
     (.leaf ⟨false⟩)
     (.br (not (F38_3 a0 a1 a2 a3 a4 a5 ⟨[(.int .i64 a11),(.int .i64 (IntKind.wrap .i64 (a11+(1 : Int))))]⟩ 0 2 a9 a10 (1 : Int) a12 a13))
     (.leaf ⟨true⟩)
     (.br (eqCode (Lp17_0.c) (Lp17_0.c))
     (.br (L17_0_k0 (X17_0.mk (0 : Int) a0 a1 a2 a3 a4 a5 a6 a7 a8 a9 a10 a11 a12 a13 (F40_0 a0 a1 a2 a3 a4 a5 a6 a7 a8 a9 a10 a11 a12 a13) (F40_1 a0 a1 a2 a3 a4 a5 a6 a7 a8 a9 a10 a11 a12 a13) (F40_2 a0 a1 a2 a3 a4 a5 a6 a7 a8 a9 a10 a11 a12 a13) (F40_3 a0 a1 a2 a3 a4 a5 a6 a7 a8 a9 a10 a11 a12 a13)))
     (.leaf ⟨(L17_0_k0_0 (X17_0.mk (0 : Int) a0 a1 a2 a3 a4 a5 a6 a7 a8 a9 a10 a11 a12 a13 (F40_0 a0 a1 a2 a3 a4 a5 a6 a7 a8 a9 a10 a11 a12 a13) (F40_1 a0 a1 a2 a3 a4 a5 a6 a7 a8 a9 a10 a11 a12 a13) (F40_2 a0 a1 a2 a3 a4 a5 a6 a7 a8 a9 a10 a11 a12 a13) (F40_3 a0 a1 a2 a3 a4 a5 a6 a7 a8 a9 a10 a11 a12 a13)))⟩)
     (.br (L17_0_k1 (X17_0.mk (0 : Int) a0 a1 a2 a3 a4 a5 a6 a7 a8 a9 a10 a11 a12 a13 (F40_0 a0 a1 a2 a3 a4 a5 a6 a7 a8 a9 a10 a11 a12 a13) (F40_1 a0 a1 a2 a3 a4 a5 a6 a7 a8 a9 a10 a11 a12 a13) (F40_2 a0 a1 a2 a3 a4 a5 a6 a7 a8 a9 a10 a11 a12 a13) (F40_3 a0 a1 a2 a3 a4 a5 a6 a7 a8 a9 a10 a11 a12 a13)))
     (.leaf ⟨true⟩)
     (.no)))
     (.no))))
     (.br (not ((decide ((F40_4 a0 a1 a2 a3 a4 a5 a6 a7 a8 a9 a10 a11 a12 a13) = (0 : Int))) == (decide ((Int.ofNat (F38_2 a0 a1 a2 a3 a4 a5 ⟨[(.int .i64 a11),(.int .i64 (IntKind.wrap .i64 (a11+(1 : Int))))]⟩ 0 2 a9 a10 (1 : Int) a12 a13)) = (1 : Int)))))
     (.leaf ⟨false⟩)
     (.br (not (F38_3 a0 a1 a2 a3 a4 a5 ⟨[(.int .i64 a11),(.int .i64 (IntKind.wrap .i64 (a11+(1 : Int))))]⟩ 0 2 a9 a10 (1 : Int) a12 a13))
     (.leaf ⟨true⟩)
     (.br (eqCode (Lp17_0.c) (Lp17_0.c))
     (.br (L17_0_k0 (X17_0.mk (0 : Int) a0 a1 a2 a3 a4 a5 a6 a7 a8 a9 a10 a11 a12 a13 (F40_0 a0 a1 a2 a3 a4 a5 a6 a7 a8 a9 a10 a11 a12 a13) (F40_1 a0 a1 a2 a3 a4 a5 a6 a7 a8 a9 a10 a11 a12 a13) (F40_2 a0 a1 a2 a3 a4 a5 a6 a7 a8 a9 a10 a11 a12 a13) (F40_3 a0 a1 a2 a3 a4 a5 a6 a7 a8 a9 a10 a11 a12 a13)))
     (.leaf ⟨(L17_0_k0_0 (X17_0.mk (0 : Int) a0 a1 a2 a3 a4 a5 a6 a7 a8 a9 a10 a11 a12 a13 (F40_0 a0 a1 a2 a3 a4 a5 a6 a7 a8 a9 a10 a11 a12 a13) (F40_1 a0 a1 a2 a3 a4 a5 a6 a7 a8 a9 a10 a11 a12 a13) (F40_2 a0 a1 a2 a3 a4 a5 a6 a7 a8 a9 a10 a11 a12 a13) (F40_3 a0 a1 a2 a3 a4 a5 a6 a7 a8 a9 a10 a11 a12 a13)))⟩)
     (.br (L17_0_k1 (X17_0.mk (0 : Int) a0 a1 a2 a3 a4 a5 a6 a7 a8 a9 a10 a11 a12 a13 (F40_0 a0 a1 a2 a3 a4 a5 a6 a7 a8 a9 a10 a11 a12 a13) (F40_1 a0 a1 a2 a3 a4 a5 a6 a7 a8 a9 a10 a11 a12 a13) (F40_2 a0 a1 a2 a3 a4 a5 a6 a7 a8 a9 a10 a11 a12 a13) (F40_3 a0 a1 a2 a3 a4 a5 a6 a7 a8 a9 a10 a11 a12 a13)))
     (.leaf ⟨true⟩)
     (.no)))
     (.no))))))
     (.no))
     (.br (F38_ok a0 a1 a2 a3 a4 a5 ⟨[(.int .i64 (IntKind.wrap .i64 (a11+(1 : Int))))]⟩ 0 1 a9 a10 (0 : Int) a12 a13)
     (.br (not (decide ((F38_4 a0 a1 a2 a3 a4 a5 ⟨[(.int .i64 (IntKind.wrap .i64 (a11+(1 : Int))))]⟩ 0 1 a9 a10 (0 : Int) a12 a13) = (0 : Int))))
     (.leaf ⟨false⟩)
     (.br (F38_3 a0 a1 a2 a3 a4 a5 ⟨[(.int .i64 (IntKind.wrap .i64 (a11+(1 : Int))))]⟩ 0 1 a9 a10 (0 : Int) a12 a13)
     (.br (not ((decide ((F40_4 a0 a1 a2 a3 a4 a5 a6 a7 a8 a9 a10 a11 a12 a13) = (0 : Int))) == true))
     (.leaf ⟨false⟩)
     (.br (not (F38_3 a0 a1 a2 a3 a4 a5 ⟨[(.int .i64 (IntKind.wrap .i64 (a11+(1 : Int))))]⟩ 0 1 a9 a10 (0 : Int) a12 a13))
     (.leaf ⟨true⟩)
     (.br (eqCode (Lp17_0.c) (Lp17_0.c))
     (.br (L17_0_k0 (X17_0.mk (0 : Int) a0 a1 a2 a3 a4 a5 a6 a7 a8 a9 a10 a11 a12 a13 (F40_0 a0 a1 a2 a3 a4 a5 a6 a7 a8 a9 a10 a11 a12 a13) (F40_1 a0 a1 a2 a3 a4 a5 a6 a7 a8 a9 a10 a11 a12 a13) (F40_2 a0 a1 a2 a3 a4 a5 a6 a7 a8 a9 a10 a11 a12 a13) (F40_3 a0 a1 a2 a3 a4 a5 a6 a7 a8 a9 a10 a11 a12 a13)))
     (.leaf ⟨(L17_0_k0_0 (X17_0.mk (0 : Int) a0 a1 a2 a3 a4 a5 a6 a7 a8 a9 a10 a11 a12 a13 (F40_0 a0 a1 a2 a3 a4 a5 a6 a7 a8 a9 a10 a11 a12 a13) (F40_1 a0 a1 a2 a3 a4 a5 a6 a7 a8 a9 a10 a11 a12 a13) (F40_2 a0 a1 a2 a3 a4 a5 a6 a7 a8 a9 a10 a11 a12 a13) (F40_3 a0 a1 a2 a3 a4 a5 a6 a7 a8 a9 a10 a11 a12 a13)))⟩)
     (.br (L17_0_k1 (X17_0.mk (0 : Int) a0 a1 a2 a3 a4 a5 a6 a7 a8 a9 a10 a11 a12 a13 (F40_0 a0 a1 a2 a3 a4 a5 a6 a7 a8 a9 a10 a11 a12 a13) (F40_1 a0 a1 a2 a3 a4 a5 a6 a7 a8 a9 a10 a11 a12 a13) (F40_2 a0 a1 a2 a3 a4 a5 a6 a7 a8 a9 a10 a11 a12 a13) (F40_3 a0 a1 a2 a3 a4 a5 a6 a7 a8 a9 a10 a11 a12 a13)))
     (.leaf ⟨true⟩)
     (.no)))
     (.no))))
     (.br (not ((decide ((F40_4 a0 a1 a2 a3 a4 a5 a6 a7 a8 a9 a10 a11 a12 a13) = (0 : Int))) == (decide ((Int.ofNat (F38_2 a0 a1 a2 a3 a4 a5 ⟨[(.int .i64 (IntKind.wrap .i64 (a11+(1 : Int))))]⟩ 0 1 a9 a10 (0 : Int) a12 a13)) = (1 : Int)))))
     (.leaf ⟨false⟩)
     (.br (not (F38_3 a0 a1 a2 a3 a4 a5 ⟨[(.int .i64 (IntKind.wrap .i64 (a11+(1 : Int))))]⟩ 0 1 a9 a10 (0 : Int) a12 a13))
     (.leaf ⟨true⟩)
     (.br (eqCode (Lp17_0.c) (Lp17_0.c))
     (.br (L17_0_k0 (X17_0.mk (0 : Int) a0 a1 a2 a3 a4 a5 a6 a7 a8 a9 a10 a11 a12 a13 (F40_0 a0 a1 a2 a3 a4 a5 a6 a7 a8 a9 a10 a11 a12 a13) (F40_1 a0 a1 a2 a3 a4 a5 a6 a7 a8 a9 a10 a11 a12 a13) (F40_2 a0 a1 a2 a3 a4 a5 a6 a7 a8 a9 a10 a11 a12 a13) (F40_3 a0 a1 a2 a3 a4 a5 a6 a7 a8 a9 a10 a11 a12 a13)))
     (.leaf ⟨(L17_0_k0_0 (X17_0.mk (0 : Int) a0 a1 a2 a3 a4 a5 a6 a7 a8 a9 a10 a11 a12 a13 (F40_0 a0 a1 a2 a3 a4 a5 a6 a7 a8 a9 a10 a11 a12 a13) (F40_1 a0 a1 a2 a3 a4 a5 a6 a7 a8 a9 a10 a11 a12 a13) (F40_2 a0 a1 a2 a3 a4 a5 a6 a7 a8 a9 a10 a11 a12 a13) (F40_3 a0 a1 a2 a3 a4 a5 a6 a7 a8 a9 a10 a11 a12 a13)))⟩)
     (.br (L17_0_k1 (X17_0.mk (0 : Int) a0 a1 a2 a3 a4 a5 a6 a7 a8 a9 a10 a11 a12 a13 (F40_0 a0 a1 a2 a3 a4 a5 a6 a7 a8 a9 a10 a11 a12 a13) (F40_1 a0 a1 a2 a3 a4 a5 a6 a7 a8 a9 a10 a11 a12 a13) (F40_2 a0 a1 a2 a3 a4 a5 a6 a7 a8 a9 a10 a11 a12 a13) (F40_3 a0 a1 a2 a3 a4 a5 a6 a7 a8 a9 a10 a11 a12 a13)))
     (.leaf ⟨true⟩)
     (.no)))
     (.no))))))
     (.no))))
   (.br (decide ((0 : Int) < a11))
    (.br (F38_ok a0 a1 a2 a3 a4 a5 ⟨[(.int .i64 a11),(.int .i64 (IntKind.wrap .i64 (a11+(1 : Int))))]⟩ 0 2 a9 a10 (1 : Int) a12 a13)
     (.br (not (decide ((F38_4 a0 a1 a2 a3 a4 a5 ⟨[(.int .i64 a11),(.int .i64 (IntKind.wrap .i64 (a11+(1 : Int))))]⟩ 0 2 a9 a10 (1 : Int) a12 a13) = (0 : Int))))
     (.leaf ⟨false⟩)
     (.br (F38_3 a0 a1 a2 a3 a4 a5 ⟨[(.int .i64 a11),(.int .i64 (IntKind.wrap .i64 (a11+(1 : Int))))]⟩ 0 2 a9 a10 (1 : Int) a12 a13)
     (.br (not ((decide ((F40_4 a0 a1 a2 a3 a4 a5 a6 a7 a8 a9 a10 a11 a12 a13) = (0 : Int))) == true))
     (.leaf ⟨false⟩)
     (.br (not (F38_3 a0 a1 a2 a3 a4 a5 ⟨[(.int .i64 a11),(.int .i64 (IntKind.wrap .i64 (a11+(1 : Int))))]⟩ 0 2 a9 a10 (1 : Int) a12 a13))
     (.leaf ⟨true⟩)
     (.br (eqCode (Lp17_0.c) (Lp17_0.c))
     (.br (L17_0_k0 (X17_0.mk (0 : Int) a0 a1 a2 a3 a4 a5 a6 a7 a8 a9 a10 a11 a12 a13 (F40_0 a0 a1 a2 a3 a4 a5 a6 a7 a8 a9 a10 a11 a12 a13) (F40_1 a0 a1 a2 a3 a4 a5 a6 a7 a8 a9 a10 a11 a12 a13) (F40_2 a0 a1 a2 a3 a4 a5 a6 a7 a8 a9 a10 a11 a12 a13) (F40_3 a0 a1 a2 a3 a4 a5 a6 a7 a8 a9 a10 a11 a12 a13)))
     (.leaf ⟨(L17_0_k0_0 (X17_0.mk (0 : Int) a0 a1 a2 a3 a4 a5 a6 a7 a8 a9 a10 a11 a12 a13 (F40_0 a0 a1 a2 a3 a4 a5 a6 a7 a8 a9 a10 a11 a12 a13) (F40_1 a0 a1 a2 a3 a4 a5 a6 a7 a8 a9 a10 a11 a12 a13) (F40_2 a0 a1 a2 a3 a4 a5 a6 a7 a8 a9 a10 a11 a12 a13) (F40_3 a0 a1 a2 a3 a4 a5 a6 a7 a8 a9 a10 a11 a12 a13)))⟩)
     (.br (L17_0_k1 (X17_0.mk (0 : Int) a0 a1 a2 a3 a4 a5 a6 a7 a8 a9 a10 a11 a12 a13 (F40_0 a0 a1 a2 a3 a4 a5 a6 a7 a8 a9 a10 a11 a12 a13) (F40_1 a0 a1 a2 a3 a4 a5 a6 a7 a8 a9 a10 a11 a12 a13) (F40_2 a0 a1 a2 a3 a4 a5 a6 a7 a8 a9 a10 a11 a12 a13) (F40_3 a0 a1 a2 a3 a4 a5 a6 a7 a8 a9 a10 a11 a12 a13)))
     (.leaf ⟨true⟩)
     (.no)))
     (.no))))
     (.br (not ((decide ((F40_4 a0 a1 a2 a3 a4 a5 a6 a7 a8 a9 a10 a11 a12 a13) = (0 : Int))) == (decide ((Int.ofNat (F38_2 a0 a1 a2 a3 a4 a5 ⟨[(.int .i64 a11),(.int .i64 (IntKind.wrap .i64 (a11+(1 : Int))))]⟩ 0 2 a9 a10 (1 : Int) a12 a13)) = (1 : Int)))))
     (.leaf ⟨false⟩)
     (.br (not (F38_3 a0 a1 a2 a3 a4 a5 ⟨[(.int .i64 a11),(.int .i64 (IntKind.wrap .i64 (a11+(1 : Int))))]⟩ 0 2 a9 a10 (1 : Int) a12 a13))
     (.leaf ⟨true⟩)
     (.br (eqCode (Lp17_0.c) (Lp17_0.c))
     (.br (L17_0_k0 (X17_0.mk (0 : Int) a0 a1 a2 a3 a4 a5 a6 a7 a8 a9 a10 a11 a12 a13 (F40_0 a0 a1 a2 a3 a4 a5 a6 a7 a8 a9 a10 a11 a12 a13) (F40_1 a0 a1 a2 a3 a4 a5 a6 a7 a8 a9 a10 a11 a12 a13) (F40_2 a0 a1 a2 a3 a4 a5 a6 a7 a8 a9 a10 a11 a12 a13) (F40_3 a0 a1 a2 a3 a4 a5 a6 a7 a8 a9 a10 a11 a12 a13)))
     (.leaf ⟨(L17_0_k0_0 (X17_0.mk (0 : Int) a0 a1 a2 a3 a4 a5 a6 a7 a8 a9 a10 a11 a12 a13 (F40_0 a0 a1 a2 a3 a4 a5 a6 a7 a8 a9 a10 a11 a12 a13) (F40_1 a0 a1 a2 a3 a4 a5 a6 a7 a8 a9 a10 a11 a12 a13) (F40_2 a0 a1 a2 a3 a4 a5 a6 a7 a8 a9 a10 a11 a12 a13) (F40_3 a0 a1 a2 a3 a4 a5 a6 a7 a8 a9 a10 a11 a12 a13)))⟩)
     (.br (L17_0_k1 (X17_0.mk (0 : Int) a0 a1 a2 a3 a4 a5 a6 a7 a8 a9 a10 a11 a12 a13 (F40_0 a0 a1 a2 a3 a4 a5 a6 a7 a8 a9 a10 a11 a12 a13) (F40_1 a0 a1 a2 a3 a4 a5 a6 a7 a8 a9 a10 a11 a12 a13) (F40_2 a0 a1 a2 a3 a4 a5 a6 a7 a8 a9 a10 a11 a12 a13) (F40_3 a0 a1 a2 a3 a4 a5 a6 a7 a8 a9 a10 a11 a12 a13)))
     (.leaf ⟨true⟩)
     (.no)))
     (.no))))))
     (.no))
    (.br (F38_ok a0 a1 a2 a3 a4 a5 ⟨[(.int .i64 (IntKind.wrap .i64 (a11+(1 : Int))))]⟩ 0 1 a9 a10 (0 : Int) a12 a13)
     (.br (not (decide ((F38_4 a0 a1 a2 a3 a4 a5 ⟨[(.int .i64 (IntKind.wrap .i64 (a11+(1 : Int))))]⟩ 0 1 a9 a10 (0 : Int) a12 a13) = (0 : Int))))
     (.leaf ⟨false⟩)
     (.br (F38_3 a0 a1 a2 a3 a4 a5 ⟨[(.int .i64 (IntKind.wrap .i64 (a11+(1 : Int))))]⟩ 0 1 a9 a10 (0 : Int) a12 a13)
     (.br (not ((decide ((F40_4 a0 a1 a2 a3 a4 a5 a6 a7 a8 a9 a10 a11 a12 a13) = (0 : Int))) == true))
     (.leaf ⟨false⟩)
     (.br (not (F38_3 a0 a1 a2 a3 a4 a5 ⟨[(.int .i64 (IntKind.wrap .i64 (a11+(1 : Int))))]⟩ 0 1 a9 a10 (0 : Int) a12 a13))
     (.leaf ⟨true⟩)
     (.br (eqCode (Lp17_0.c) (Lp17_0.c))
     (.br (L17_0_k0 (X17_0.mk (0 : Int) a0 a1 a2 a3 a4 a5 a6 a7 a8 a9 a10 a11 a12 a13 (F40_0 a0 a1 a2 a3 a4 a5 a6 a7 a8 a9 a10 a11 a12 a13) (F40_1 a0 a1 a2 a3 a4 a5 a6 a7 a8 a9 a10 a11 a12 a13) (F40_2 a0 a1 a2 a3 a4 a5 a6 a7 a8 a9 a10 a11 a12 a13) (F40_3 a0 a1 a2 a3 a4 a5 a6 a7 a8 a9 a10 a11 a12 a13)))
     (.leaf ⟨(L17_0_k0_0 (X17_0.mk (0 : Int) a0 a1 a2 a3 a4 a5 a6 a7 a8 a9 a10 a11 a12 a13 (F40_0 a0 a1 a2 a3 a4 a5 a6 a7 a8 a9 a10 a11 a12 a13) (F40_1 a0 a1 a2 a3 a4 a5 a6 a7 a8 a9 a10 a11 a12 a13) (F40_2 a0 a1 a2 a3 a4 a5 a6 a7 a8 a9 a10 a11 a12 a13) (F40_3 a0 a1 a2 a3 a4 a5 a6 a7 a8 a9 a10 a11 a12 a13)))⟩)
     (.br (L17_0_k1 (X17_0.mk (0 : Int) a0 a1 a2 a3 a4 a5 a6 a7 a8 a9 a10 a11 a12 a13 (F40_0 a0 a1 a2 a3 a4 a5 a6 a7 a8 a9 a10 a11 a12 a13) (F40_1 a0 a1 a2 a3 a4 a5 a6 a7 a8 a9 a10 a11 a12 a13) (F40_2 a0 a1 a2 a3 a4 a5 a6 a7 a8 a9 a10 a11 a12 a13) (F40_3 a0 a1 a2 a3 a4 a5 a6 a7 a8 a9 a10 a11 a12 a13)))
     (.leaf ⟨true⟩)
     (.no)))
     (.no))))
     (.br (not ((decide ((F40_4 a0 a1 a2 a3 a4 a5 a6 a7 a8 a9 a10 a11 a12 a13) = (0 : Int))) == (decide ((Int.ofNat (F38_2 a0 a1 a2 a3 a4 a5 ⟨[(.int .i64 (IntKind.wrap .i64 (a11+(1 : Int))))]⟩ 0 1 a9 a10 (0 : Int) a12 a13)) = (1 : Int)))))
     (.leaf ⟨false⟩)
     (.br (not (F38_3 a0 a1 a2 a3 a4 a5 ⟨[(.int .i64 (IntKind.wrap .i64 (a11+(1 : Int))))]⟩ 0 1 a9 a10 (0 : Int) a12 a13))
     (.leaf ⟨true⟩)
     (.br (eqCode (Lp17_0.c) (Lp17_0.c))
     (.br (L17_0_k0 (X17_0.mk (0 : Int) a0 a1 a2 a3 a4 a5 a6 a7 a8 a9 a10 a11 a12 a13 (F40_0 a0 a1 a2 a3 a4 a5 a6 a7 a8 a9 a10 a11 a12 a13) (F40_1 a0 a1 a2 a3 a4 a5 a6 a7 a8 a9 a10 a11 a12 a13) (F40_2 a0 a1 a2 a3 a4 a5 a6 a7 a8 a9 a10 a11 a12 a13) (F40_3 a0 a1 a2 a3 a4 a5 a6 a7 a8 a9 a10 a11 a12 a13)))
     (.leaf ⟨(L17_0_k0_0 (X17_0.mk (0 : Int) a0 a1 a2 a3 a4 a5 a6 a7 a8 a9 a10 a11 a12 a13 (F40_0 a0 a1 a2 a3 a4 a5 a6 a7 a8 a9 a10 a11 a12 a13) (F40_1 a0 a1 a2 a3 a4 a5 a6 a7 a8 a9 a10 a11 a12 a13) (F40_2 a0 a1 a2 a3 a4 a5 a6 a7 a8 a9 a10 a11 a12 a13) (F40_3 a0 a1 a2 a3 a4 a5 a6 a7 a8 a9 a10 a11 a12 a13)))⟩)
     (.br (L17_0_k1 (X17_0.mk (0 : Int) a0 a1 a2 a3 a4 a5 a6 a7 a8 a9 a10 a11 a12 a13 (F40_0 a0 a1 a2 a3 a4 a5 a6 a7 a8 a9 a10 a11 a12 a13) (F40_1 a0 a1 a2 a3 a4 a5 a6 a7 a8 a9 a10 a11 a12 a13) (F40_2 a0 a1 a2 a3 a4 a5 a6 a7 a8 a9 a10 a11 a12 a13) (F40_3 a0 a1 a2 a3 a4 a5 a6 a7 a8 a9 a10 a11 a12 a13)))
     (.leaf ⟨true⟩)
     (.no)))
     (.no))))))
     (.no))))
  (.no)
noncomputable def en17 (r:R17) : Value:=(.bool r.r0)
theorem T17 (J0 : Task → List Value) (a0 : Array Value) (a1 a2:Nat) (a3 : Array Value) (a4 a5:Nat) (a6 : Array Value) (a7 a8:Nat) (a9 a10:Int) (a11 a12 a13:Int) : evC Try.prog (Ans.c (p24V.or ((p38.or (thawK 38 [[7,5,1,0,0],[0],[0],[0]] p38)).or (p40.or (p42.or ((la17_0 J0).or (fgt 4 (la17_0 J0)))))))) 60 (.call 17 ⟨[(.agg ⟨[(lstV a0 a1 a2 7),(lstV a3 a4 a5 5),(lstV a6 a7 a8 1),(.int .i64 a9),(.int .i64 a10)]⟩),(.agg ⟨[(.int .i64 a11),(.int .i64 a12),(.int .i64 a13)]⟩)]⟩ ⟨[],0,[]⟩) (frzK [0]) = (rt17 a0 a1 a2 a3 a4 a5 a6 a7 a8 a9 a10 a11 a12 a13).out (fun r=>.ret (en17 r) ⟨[],0,[]⟩):=by kernel_rfl
noncomputable def F17 (a0 : Array Value) (a1 a2:Nat) (a3 : Array Value) (a4 a5:Nat) (a6 : Array Value) (a7 a8:Nat) (a9 a10:Int) (a11 a12 a13:Int) : Option R17:=(rt17 a0 a1 a2 a3 a4 a5 a6 a7 a8 a9 a10 a11 a12 a13).val
section
variable (a0 : Array Value) (a1 a2:Nat) (a3 : Array Value) (a4 a5:Nat) (a6 : Array Value) (a7 a8:Nat) (a9 a10:Int) (a11 a12 a13:Int)
noncomputable def F17_ok : Bool:=(F17 a0 a1 a2 a3 a4 a5 a6 a7 a8 a9 a10 a11 a12 a13).isSome
noncomputable def F17_0 : Bool:=match F17 a0 a1 a2 a3 a4 a5 a6 a7 a8 a9 a10 a11 a12 a13 with | some r=>r.r0 | none=>false
end
noncomputable def dec17 : Task → Option (A17 × Hp)
  | .call g ⟨[(.agg ⟨[(.func (.via 0 ⟨[]⟩ 0 true) a0 ⟨[.slice (some ⟨0,a1,none⟩) a2 7]⟩),(.func (.via 0 ⟨[]⟩ 0 true) a3 ⟨[.slice (some ⟨0,a4,none⟩) a5 5]⟩),(.func (.via 0 ⟨[]⟩ 0 true) a6 ⟨[.slice (some ⟨0,a7,none⟩) a8 1]⟩),(.int .i64 a9),(.int .i64 a10)]⟩),(.agg ⟨[(.int .i64 a11),(.int .i64 a12),(.int .i64 a13)]⟩)]⟩ h=>(match Nat.beq g 17 with | true=>some (⟨a0,a1,a2,a3,a4,a5,a6,a7,a8,a9,a10,a11,a12,a13⟩,h) | false=>none)
  | _=>none
noncomputable def alt17 (x:A17) (h:Hp) : AT:=.br (F17_ok x.a0 x.a1 x.a2 x.a3 x.a4 x.a5 x.a6 x.a7 x.a8 x.a9 x.a10 x.a11 x.a12 x.a13) (.leaf (.ret (.bool (F17_0 x.a0 x.a1 x.a2 x.a3 x.a4 x.a5 x.a6 x.a7 x.a8 x.a9 x.a10 x.a11 x.a12 x.a13)) h)) .no
noncomputable def p17 : Ans:=fnAns dec17 alt17
theorem ha17 : ∀ (x:A17) (h:Hp) (o:Out),(alt17 x h).out = some o → ∃ r,(rt17 x.a0 x.a1 x.a2 x.a3 x.a4 x.a5 x.a6 x.a7 x.a8 x.a9 x.a10 x.a11 x.a12 x.a13).val = some r ∧ o = .ret (en17 r) h:=by
  intro x h o e
  unfold alt17 at e
  cases hF : F17 x.a0 x.a1 x.a2 x.a3 x.a4 x.a5 x.a6 x.a7 x.a8 x.a9 x.a10 x.a11 x.a12 x.a13 with
  | none=>simp [F17_ok,hF,AT.out] at e
  | some r =>
    refine ⟨r,hF,?_⟩
    simp only [F17_ok,F17_0,hF,AT.out,Option.isSome_some,cond_true,Option.some.injEq] at e
    rw [← e]; rfl
theorem hd17 : ∀ (t:Task) (x:A17) (h:Hp),dec17 t = some (x,h) → t = .call 17 ⟨[(.agg ⟨[(lstV x.a0 x.a1 x.a2 7),(lstV x.a3 x.a4 x.a5 5),(lstV x.a6 x.a7 x.a8 1),(.int .i64 x.a9),(.int .i64 x.a10)]⟩),(.agg ⟨[(.int .i64 x.a11),(.int .i64 x.a12),(.int .i64 x.a13)]⟩)]⟩ h:=by
  intro t x h e
  unfold dec17 at e
  split at e
  case h_2=>cases e
  split at e
  case h_2=>cases e
  rename_i hg
  simp only [Option.some.injEq,Prod.mk.injEq] at e
  obtain ⟨rfl,rfl⟩:=e
  rw [Nat.eq_of_beq_eq_true hg]
theorem known17 : Known Try.prog p17:=by
  obtain ⟨J0,hJ0⟩:=kl17_0
  exact Known.fn noNG mixed (Known.or known24V (Known.or (Known.or known38 (Known.thawK known38 38 [[7,5,1,0,0],[0],[0],[0]])) (Known.or known40 (Known.or known42 (Known.or hJ0 (Known.fgt hJ0 4)))))) (n:=60) (zs:=[0]) 17 (fun x : A17=>[(.agg ⟨[(lstV x.a0 x.a1 x.a2 7),(lstV x.a3 x.a4 x.a5 5),(lstV x.a6 x.a7 x.a8 1),(.int .i64 x.a9),(.int .i64 x.a10)]⟩),(.agg ⟨[(.int .i64 x.a11),(.int .i64 x.a12),(.int .i64 x.a13)]⟩)]) (fun x=>rt17 x.a0 x.a1 x.a2 x.a3 x.a4 x.a5 x.a6 x.a7 x.a8 x.a9 x.a10 x.a11 x.a12 x.a13) en17 (fun x=>T17 J0 x.a0 x.a1 x.a2 x.a3 x.a4 x.a5 x.a6 x.a7 x.a8 x.a9 x.a10 x.a11 x.a12 x.a13) (fun x=>rfl) dec17 alt17 hd17 ha17
end
end Go.Proofs.Ytaglpbmnadlpgaa

namespace Go.Proofs.Ytaglpbmnadlpgaa
open Go.ChangeShapes Go.WideShapes Go.ChangeAt Go.RowKit Go.Gi Go.Proofs.Ytaglpbmnadlpgaa.Old
set_option linter.unusedVariables false
def True17 : Prop:=∀ (c1 : Array Value) (n1 : Nat) (c2 : Array Value) (n2 : Nat) (c3 : Array Value) (n3 : Nat) (age shear x0 x1 x2 : Int),GL L7 7 c1 n1 → GL L5 5 c2 n2 → GL L1 1 c3 n3 →
  (Lit.int .i64 age).wf = true → (Lit.int .i64 shear).wf = true → (Lit.int .i64 x0).wf = true → (Lit.int .i64 x1).wf = true → (Lit.int .i64 x2).wf = true →
  (rt17 c1 0 n1 c2 0 n2 c3 0 n3 age shear x0 x1 x2).val = some ⟨true⟩
theorem law17 (hm : True17) {c1 c2 c3 : Array Value} {n1 n2 n3 : Nat} {age shear x0 x1 x2 : Int} (h1 : GL L7 7 c1 n1) (h2 : GL L5 5 c2 n2) (h3 : GL L1 1 c3 n3) (w0 : (Lit.int .i64 age).wf = true) (w1 : (Lit.int .i64 shear).wf = true) (w2 : (Lit.int .i64 x0).wf = true) (w3 : (Lit.int .i64 x1).wf = true) (w4 : (Lit.int .i64 x2).wf = true) :
    Fact Try.prog (.call 17 ⟨[(.agg ⟨[(lstV c1 0 n1 7),(lstV c2 0 n2 5),(lstV c3 0 n3 1),(.int .i64 age),(.int .i64 shear)]⟩),(.agg ⟨[(.int .i64 x0),(.int .i64 x1),(.int .i64 x2)]⟩)]⟩ ⟨[],0,[]⟩) (.ret (.bool true) ⟨[],0,[]⟩):=by
  have e:=hm c1 n1 c2 n2 c3 n3 age shear x0 x1 x2 h1 h2 h3 w0 w1 w2 w3 w4
  refine known17 _ (alt17 ⟨c1,0,n1,c2,0,n2,c3,0,n3,age,shear,x0,x1,x2⟩ ⟨[],0,[]⟩) _ rfl ?_
  have e1 : F17 c1 0 n1 c2 0 n2 c3 0 n3 age shear x0 x1 x2 = some ⟨true⟩:=e
  simp only [alt17,F17_ok,F17_0,e1,AT.out,Option.isSome_some,cond_true]
set_option maxRecDepth 100000 in
theorem lifted17 (hm : True17) (os : Os) (started : os.Started) (H : Type) (enc : TypeId × Value → H) :
    ReturnsInHanded {} Try.checked os 17 .any (Rows.windPointSpec.pre6 enc Try.prog Try.f17 Rows.windPointRow.domain false) (Rows.windPointSpec.post enc Try.prog Try.f17 false true false false):=by
  refine returnsInHanded_of_change (C:=Try.checked) own started (by kernel_rfl) Try.func17
    (ChangeSpec.witness6 (enc:=enc) (C:=Try.checked) false ⟨#[],#[.agg #[.slice none 0 0,.slice none 0 0,.slice none 0 0,.int .i64 0,.int .i64 0],.agg #[.int .i64 0,.int .i64 0,.int .i64 0]],[]⟩ 17 (by kernel_rfl) (by kernel_rfl) (by kernel_rfl) (by kernel_rfl)) ?_
  intro W base args ds gs before hval0 hW hcnd _
  have hval : ∀ (j : Nat) t v,Try.f17.params[j]? = some t → args[j]? = some v → Value.okWide Try.prog W .any base t v:=hval0
  have hW':=hW
  obtain ⟨p,q,hA0,hV,rfl,hfz,hnd⟩:=hW
  have hA : DataW.TrodAll enc Try.prog W 0 (fun _=>true) true Try.f17.params.toList args.toList ds p:=hA0
  rw [Try.params17] at hA hval
  obtain ⟨v0,vs0,d0,ds0,p0,q0,hargs,rfl,rfl,h0,r0⟩:=trodAll_cons hA
  obtain ⟨v1,vs1,d1,ds1,p1,q1,rfl,rfl,rfl,h1,r1⟩:=trodAll_cons r0
  obtain ⟨rfl,rfl,rfl⟩:=trodAll_nil r1
  obtain rfl : args = #[v0,v1]:=by cases args; simp_all
  obtain ⟨rfl,rfl⟩:=trodVars_none hV
  have k0:=h0
  have k1:=h1
  have lt0 : ∀ x ∈ p0,x.block < W.heap.size:=by obtain ⟨m,hm⟩:=k0; exact DataW.trod_lt m _ _ _ hm
  have lt1 : ∀ x ∈ p1,x.block < W.heap.size:=by obtain ⟨m,hm⟩:=k1; exact DataW.trod_lt m _ _ _ hm
  obtain ⟨abs,u0,c1,n1,c2,n2,c3,n3,age,shear,rfl,g1,g2,g3,w4,w5⟩:=tskArg (hval 0 26 v0 rfl rfl) h0
  obtain ⟨x0,x1,x2,u1,y0,y1,y2⟩:=threeArg (hval 1 50 v1 rfl rfl) h1
  clear hA0 hval0
  refine (calls_frozen (law17 hm (age:=age) (shear:=shear) (x0:=x0) (x1:=x1) (x2:=x2) g1 g2 g3 w4 w5 y0 y1 y2) rfl (((VRs.nil _).push u0).push u1)).mono fun e W' ⟨he,bel⟩=>?_
  subst he
  exact ⟨_,rfl,_,_,_,[],_,[],hW',trodAll_mk1 (shut_bool Try.underlying4 _),(trodAll_cons_mk (Below.trod laidOut (by kernel_rfl) (of_decide_eq_true (by kernel_rfl)) k0 bel lt0) (trodAll_cons_mk (Below.trod laidOut (by kernel_rfl) (of_decide_eq_true (by kernel_rfl)) k1 bel lt1) trodAll_mk0)),rfl,bel.frame _,fun h=>by cases h⟩
theorem over17 (hm : True17) : Rows.windPointRow.holds Try.pinned (OpenSpec.ofChange Rows.windPointSpec) :=
  OpenClaim.holds_of_wide 17 Try.f17 rfl rfl rfl rfl rfl rfl rfl ⟨rfl,rfl,rfl,rfl,rfl⟩ rfl rfl rfl rfl rfl (by kernel_rfl) Try.func17 (by kernel_rfl)
    (of_decide_eq_true (by kernel_rfl)) (by unfold Func.isWrapper; first | (rw [if_pos (by decide +kernel)]; kernel_rfl) | (rw [if_neg (by decide +kernel)]; exact ⟨rfl,rfl⟩))
    (fun os started H enc _=>lifted17 hm os started H enc)
theorem point_of (hm : True17) : Rows.WindPointSaid:=over17 hm
end Go.Proofs.Ytaglpbmnadlpgaa

namespace Go.Proofs.Ytaglpbmnadlpgaa
open Go.Gi Go.RowKit Go.Proofs.Ytaglpbmnadlpgaa.Old
noncomputable section
set_option maxRecDepth 100000
set_option linter.unusedVariables false
set_option linter.unusedSimpArgs false
section
variable {c0 c c3 : Array Value} {n n2 n3 : Nat} {age shear h x y tick now : Int}
theorem srcE_ne9 (c : Array Value) (o i : Nat) : srcE c o i ≠ 9:=by
  unfold srcE
  repeat' split
  all_goals decide
theorem sdE_ne9 (c0 : Array Value) (o0 n : Nat) (c : Array Value) (o i : Nat) : sdE c0 o0 n c o i ≠ 9:=by
  unfold sdE
  repeat' split
  all_goals decide
theorem tmE_ne9 (c : Array Value) (o i : Nat) : tmE c o i ≠ 9:=by
  unfold tmE
  repeat' split
  all_goals decide
theorem ck_ne9 : F20_2 c0 0 n c 0 n2 c3 0 n3 age shear ≠ 9:=by
  show (ckR _ _ _ n n2 n3 age shear _).2.2 ≠ 9
  unfold ckR
  repeat' split
  · decide
  · exact srcE_ne9 _ _ _
  · exact sdE_ne9 _ _ _ _ _ _
  · exact tmE_ne9 _ _ _
  · decide
  · decide
theorem wHi_at {k : Nat} (h1 : 1 ≤ getInt c3 k ∧ getInt c3 k ≤ 100000000) : wHi c3 (k : Int) = getInt c3 k - 1:=by
  unfold wHi
  rw [Int.toNat_natCast,wrap64_id (by omega) (by omega)]
theorem wLo_zero : wLo c3 ((0 : Nat) : Int) = 0:=by
  unfold wLo
  rw [if_neg (by omega)]
theorem in_band {k : Nat} (hv : Vld c0 0 n c 0 n2 age shear) (hc : ∀ k,k < n3 → 1 ≤ getInt c3 k ∧ getInt c3 k ≤ 100000000) (hk : k < n3) (hh : hgB h = true) (q1 : h < getInt c3 k) (q2 : 0 < k → getInt c3 (k - 1) ≤ h)
    (he : emp (all c0 c n2 age shear h h tick now (chB 128 (-1))) = false) :
    emp (winA c0 c c3 n2 age shear tick now k) = false ∧ wid (winA c0 c c3 n2 age shear tick now k) (all c0 c n2 age shear h h tick now (chB 128 (-1))):=by
  unfold winA
  refine all_between hv ?_ (Int.le_refl _) ?_ he
  · rcases Nat.eq_zero_or_pos k with h0 | h0
    · subst h0
      rw [wLo_zero]
      simp only [hgB,Bool.and_eq_true,decide_eq_true_eq] at hh
      exact hh.1
    · rw [wLo_pos h0]
      exact q2 h0
  · rw [wHi_at (hc k hk)]
    omega
theorem isB (L : List Bd) {i : Nat} (h : i < L.length) : isInt .i64 (arrB L) (i * 6 + 2) = true ∧ isInt .i64 (arrB L) (i * 6 + 2 + 1) = true ∧ isInt .i64 (arrB L) (i * 6 + 4) = true ∧ isInt .i64 (arrB L) (i * 6 + 4 + 1) = true:=by
  have g:=cellsB L h
  have g2:=g 2
  have g3:=g 3
  have g4:=g 4
  have g5:=g 5
  simp only [Nat.zero_add] at g2 g3 g4 g5
  simp only [isInt,Nat.add_assoc,Nat.reduceAdd,g2,g3,g4,g5]
  exact ⟨rfl,rfl,rfl,rfl⟩
theorem getB' (L : List Bd) {i : Nat} (h : i < L.length) : getInt (arrB L) (i * 6 + 2) = L[i].xl ∧ getInt (arrB L) (i * 6 + 2 + 1) = L[i].xh ∧ getInt (arrB L) (i * 6 + 4) = L[i].yl ∧ getInt (arrB L) (i * 6 + 4 + 1) = L[i].yh:=by
  obtain ⟨_,_,h2,h3,h4,h5⟩:=getB L h
  simp only [Nat.zero_add] at h2 h3 h4 h5
  exact ⟨h2,h3,h4,h5⟩
theorem round17 {k : Nat} (g1 : GL L7 7 c0 n) (g2 : GL L5 5 c n2) (g3 : GL L1 1 c3 n3) (hz : F20_2 c0 0 n c 0 n2 c3 0 n3 age shear = 0) (hk : k < n3) (hh : hgB h = true) (hxy : (tkB tick && tkB now) = true) (q1 : h < getInt c3 k) (q2 : 0 < k → getInt c3 (k - 1) ≤ h)
    {W : Hd} (hW : W = all c0 c n2 age shear h h tick now (chB 128 (-1))) (he : emp W = false) :
    (rd17_0 ⟨(k : Int),c0,0,n,c,0,n2,c3,0,n3,age,shear,h,tick,now,W.xl,W.xh,W.yl,W.yh⟩).val = some (.inl ⟨((k + 1 : Nat) : Int),c0,0,n,c,0,n2,c3,0,n3,age,shear,h,tick,now,W.xl,W.xh,W.yl,W.yh⟩):=by
  obtain ⟨hv,hn,hc⟩:=vld g1 g2 g3 hz
  have hki : (k : Int) < (n3 : Int):=by omega
  have h0 : (0 : Int) ≤ (k : Int):=by omega
  have hi : isInt .i64 c3 k = true:=g3.int hk
  have h3 : IntKind.wrap .i64 ((k : Int) + 1) = ((k + 1 : Nat) : Int):=by rw [wrap64_id (by omega) (by omega)]; omega
  have nq1 : ¬ getInt c3 k ≤ h:=by omega
  obtain ⟨f1,f2,f3⟩:=F38_at (k:=k) g1 g2 g3 hz hxy hk
  obtain ⟨w1,w2⟩:=in_band hv hc hk hh q1 q2 (hW ▸ he)
  rw [← hW] at w2
  rw [w1] at f3
  have e42:=F42_eq (age:=age) (shear:=shear) (x:=tick) (y:=now) g1 g2 g3
  have key : (F42_ok c0 0 n c 0 n2 c3 0 n3 age shear tick now = true ∧ ¬ F42_3 c0 0 n c 0 n2 c3 0 n3 age shear tick now = 0) ∨
      ∃ R : List Bd,∃ hR : R.length = n3,F42_ok c0 0 n c 0 n2 c3 0 n3 age shear tick now = true ∧ F42_0 c0 0 n c 0 n2 c3 0 n3 age shear tick now = arrB R ∧ F42_1 c0 0 n c 0 n2 c3 0 n3 age shear tick now = 0 ∧ F42_2 c0 0 n c 0 n2 c3 0 n3 age shear tick now = n3 ∧ F42_3 c0 0 n c 0 n2 c3 0 n3 age shear tick now = 0 ∧
        (R[k]'(by omega)).xl ≤ W.xl ∧ W.xh ≤ (R[k]'(by omega)).xh ∧ (R[k]'(by omega)).yl ≤ W.yl ∧ W.yh ≤ (R[k]'(by omega)).yh:=by
    by_cases hb : (bnS c0 c c3 n n2 n3 age shear tick now).2 = 0
    · right
      obtain ⟨_,_,R,hR,hs⟩:=bnS_ok hb
      have hl:=bnds_len n3 0 R hR
      rw [hs] at e42
      obtain ⟨H,h1,h2⟩:=bnds_get n3 0 R hR k (by omega)
      have w1':=w1
      unfold winA at w1'
      rw [Nat.zero_add] at h1
      unfold ansO at h1
      rw [if_neg (by rw [w1']; decide),Option.some.injEq] at h1
      refine ⟨R,hl,by simp only [F42_ok,e42]; rfl,by simp only [F42_0,e42],by simp only [F42_1,e42],by simp only [F42_2,e42,hl],by simp only [F42_3,e42],?_⟩
      rw [h2,← h1]
      exact w2
    · left
      exact ⟨by simp only [F42_ok,e42]; rfl,by simp only [F42_3,e42]; exact hb⟩
  rcases key with ⟨k1,k2⟩ | ⟨R,hl,k1,k2,k3,k4,k5,a1,a2,a3,a4⟩
  · rcases Nat.eq_zero_or_pos k with hk0 | hk0
    · have p0 : ¬ (0 : Int) < (k : Int):=by omega
      simp only [rd17_0,RT.val,hki,h0,hi,h3,nq1,p0,f1,f2,f3,k1,k2,Int.ofNat_eq_natCast,Int.toNat_natCast,Nat.zero_add,Nat.mul_one,decide_true,decide_false,Bool.and_self,Bool.not_true,Bool.not_false,cond_true,cond_false]
    · have p0 : (0 : Int) < (k : Int):=by omega
      have p1 : IntKind.wrap .i64 ((k : Int) - 1) = ((k - 1 : Nat) : Int):=by rw [wrap64_id (by omega) (by omega)]; omega
      have p2 : (0 : Int) ≤ ((k - 1 : Nat) : Int):=by omega
      have p3 : ((k - 1 : Nat) : Int) < (n3 : Int):=by omega
      have p4 : isInt .i64 c3 (k - 1) = true:=g3.int (by omega)
      have p5 : ¬ h < getInt c3 (k - 1):=by have:=q2 hk0; omega
      simp only [rd17_0,RT.val,hki,h0,hi,h3,nq1,p0,p1,p2,p3,p4,p5,f1,f2,f3,k1,k2,Int.ofNat_eq_natCast,Int.toNat_natCast,Nat.zero_add,Nat.mul_one,decide_true,decide_false,Bool.and_self,Bool.not_true,Bool.not_false,cond_true,cond_false]
  · have hkR : k < R.length:=by omega
    obtain ⟨b1,b2,b3,b4⟩:=getB' R hkR
    obtain ⟨i1,i2,i3,i4⟩:=isB R hkR
    have n1 : ¬ W.xl < (R[k]'hkR).xl:=by omega
    have n2 : ¬ (R[k]'hkR).xh < W.xh:=by omega
    have n3 : ¬ W.yl < (R[k]'hkR).yl:=by omega
    have n4 : ¬ (R[k]'hkR).yh < W.yh:=by omega
    rcases Nat.eq_zero_or_pos k with hk0 | hk0
    · have p0 : ¬ (0 : Int) < (k : Int):=by omega
      simp only [rd17_0,RT.val,hki,h0,hi,h3,nq1,p0,f1,f2,f3,k1,k2,k3,k4,k5,b1,b2,b3,b4,i1,i2,i3,i4,n1,n2,n3,n4,Int.ofNat_eq_natCast,Int.toNat_natCast,Nat.zero_add,Nat.add_zero,Nat.mul_one,decide_true,decide_false,Bool.and_self,Bool.not_true,Bool.not_false,cond_true,cond_false]
    · have p0 : (0 : Int) < (k : Int):=by omega
      have p1 : IntKind.wrap .i64 ((k : Int) - 1) = ((k - 1 : Nat) : Int):=by rw [wrap64_id (by omega) (by omega)]; omega
      have p2 : (0 : Int) ≤ ((k - 1 : Nat) : Int):=by omega
      have p3 : ((k - 1 : Nat) : Int) < (R.length : Int):=by omega
      have p4 : isInt .i64 c3 (k - 1) = true:=g3.int (by omega)
      have p5 : ¬ h < getInt c3 (k - 1):=by have:=q2 hk0; omega
      rw [hl] at p3
      simp only [rd17_0,RT.val,hki,h0,hi,h3,nq1,p0,p1,p2,p3,p4,p5,f1,f2,f3,k1,k2,k3,k4,k5,b1,b2,b3,b4,i1,i2,i3,i4,n1,n2,n3,n4,Int.ofNat_eq_natCast,Int.toNat_natCast,Nat.zero_add,Nat.add_zero,Nat.mul_one,decide_true,decide_false,Bool.and_self,Bool.not_true,Bool.not_false,cond_true,cond_false]
theorem loop17 (g1 : GL L7 7 c0 n) (g2 : GL L5 5 c n2) (g3 : GL L1 1 c3 n3) (hz : F20_2 c0 0 n c 0 n2 c3 0 n3 age shear = 0) (few : n3 ≤ 1000) (hh : hgB h = true) (hxy : (tkB tick && tkB now) = true)
    {W : Hd} (hW : W = all c0 c n2 age shear h h tick now (chB 128 (-1))) (he : emp W = false) : ∀ m k,k + m = n3 →
    loopR rd17_0 ⟨(k : Int),c0,0,n,c,0,n2,c3,0,n3,age,shear,h,tick,now,W.xl,W.xh,W.yl,W.yh⟩ = some (.k1 c0 0 n c 0 n2 c3 0 n3 age shear h tick now W.xl W.xh W.yl W.yh)
  | 0,k,e=>loopR_done (by
      obtain rfl : k = n3:=by omega
      have h1 : ¬ ((k : Int) < (k : Int)):=by omega
      simp only [rd17_0,RT.val,h1,Int.ofNat_eq_natCast,decide_false,cond_false])
  | m + 1,k,e=>by
    have hki : (k : Int) < (n3 : Int):=by omega
    have h0 : (0 : Int) ≤ (k : Int):=by omega
    have hi : isInt .i64 c3 k = true:=g3.int (by omega)
    have h3 : IntKind.wrap .i64 ((k : Int) + 1) = ((k + 1 : Nat) : Int):=by rw [wrap64_id (by omega) (by omega)]; omega
    refine (loopR_next ?_).trans (loop17 g1 g2 g3 hz few hh hxy hW he m (k + 1) (by omega))
    by_cases q1 : getInt c3 k ≤ h
    · simp only [rd17_0,RT.val,hki,h0,hi,h3,q1,Int.ofNat_eq_natCast,Int.toNat_natCast,Nat.zero_add,Nat.mul_one,decide_true,Bool.and_self,cond_true]
    · by_cases q2 : 0 < k ∧ h < getInt c3 (k - 1)
      · obtain ⟨hk0,q2⟩:=q2
        have p0 : (0 : Int) < (k : Int):=by omega
        have p1 : IntKind.wrap .i64 ((k : Int) - 1) = ((k - 1 : Nat) : Int):=by rw [wrap64_id (by omega) (by omega)]; omega
        have p2 : (0 : Int) ≤ ((k - 1 : Nat) : Int):=by omega
        have p3 : ((k - 1 : Nat) : Int) < (n3 : Int):=by omega
        have p4 : isInt .i64 c3 (k - 1) = true:=g3.int (by omega)
        simp only [rd17_0,RT.val,hki,h0,hi,h3,q1,p0,p1,p2,p3,p4,q2,Int.ofNat_eq_natCast,Int.toNat_natCast,Nat.zero_add,Nat.mul_one,decide_true,decide_false,Bool.and_self,cond_true,cond_false]
      · exact round17 g1 g2 g3 hz (by omega) hh hxy (by omega) (fun hk0=>by omega) hW he
theorem blame_one {L : List Int} {k : Nat} (g1 : GL L7 7 c0 n) (g2 : GL L5 5 c n2) (g3 : GL L1 1 c3 n3) (hz : F20_2 c0 0 n c 0 n2 c3 0 n3 age shear = 0) (l1 : 1 ≤ L.length) (l2 : L.length ≤ 20)
    (hc : ∀ k (hk : k < L.length),1 ≤ L[k] ∧ L[k] ≤ 100000000 ∧ (0 < k → getInt (arrI L) (k - 1) < L[k])) (hk : k < L.length) (e1 : wLo (arrI L) (k : Int) = h) (e2 : wHi (arrI L) (k : Int) = h) (hxy : (tkB x && tkB y) = true)
    {W : Hd} (hW : W = all c0 c n2 age shear h h x y (chB 128 (-1))) :
    F38_ok c0 0 n c 0 n2 (arrI L) 0 L.length age shear (k : Int) x y = true ∧ F38_4 c0 0 n c 0 n2 (arrI L) 0 L.length age shear (k : Int) x y = 0 ∧ F38_3 c0 0 n c 0 n2 (arrI L) 0 L.length age shear (k : Int) x y = !emp W ∧
    (emp W = true → F38_2 c0 0 n c 0 n2 (arrI L) 0 L.length age shear (k : Int) x y = (cul c0 c n2 age shear h h x y n 0).length):=by
  have g3' : GL L1 1 (arrI L) L.length:=GL1_arrI (by have hm : maxLen = 9223372036854775807:=rfl; omega)
  have hz':=check_cuts g1 g2 g3 hz l1 l2 hc
  obtain ⟨f1,f2,f3⟩:=F38_at (k:=k) (tick:=x) (now:=y) g1 g2 g3' hz' hxy hk
  have ew : winA c0 c (arrI L) n2 age shear x y k = W:=by
    unfold winA
    rw [e1,e2,hW]
  rw [ew] at f3
  refine ⟨f1,f2,f3,fun he=>?_⟩
  have e:=F38_eq (age:=age) (shear:=shear) (k:=(k : Int)) (x:=x) (y:=y) g1 g2 g3'
  have hq : qErr L.length (k : Int) x y = 0:=by
    unfold qErr
    rw [if_neg (by omega)]
    exact if_pos hxy
  unfold blm at e
  rw [if_pos hz',if_pos hq,e1,e2,← hW,if_pos he] at e
  simp only [F38_2,e]
end
theorem true17 : True17:=by
  intro c1 n1 c2 n2 c3 n3 age shear x0 x1 x2 g1 g2 g3 _ _ _ _ _
  have e40:=F40_eq (age:=age) (shear:=shear) (h:=x0) (x:=x1) (y:=x2) g1 g2 g3
  by_cases hz : F20_2 c1 0 n1 c2 0 n2 c3 0 n3 age shear = 0
  · by_cases hxy : (hgB x0 && (tkB x1 && tkB x2)) = true
    · obtain ⟨hv,hn,hc⟩:=vld g1 g2 g3 hz
      rw [Bool.and_eq_true] at hxy
      obtain ⟨hh,hxy⟩:=hxy
      have hb : 0 ≤ x0 ∧ x0 ≤ 99999999:=by
        simp only [hgB,Bool.and_eq_true,decide_eq_true_eq] at hh
        exact hh
      have hw : IntKind.wrap .i64 (x0 + 1) = x0 + 1:=wrap64_id (by omega) (by omega)
      unfold atS at e40
      rw [if_pos hz,if_pos (by rw [hh,hxy]; rfl)] at e40
      obtain ⟨W,hW⟩ : ∃ W,W = all c1 c2 n2 age shear x0 x0 x1 x2 (chB 128 (-1)):=⟨_,rfl⟩
      have hB : (0 < x0 → F38_ok c1 0 n1 c2 0 n2 ⟨[(Value.int .i64 x0),(Value.int .i64 (x0 + 1))]⟩ 0 2 age shear 1 x1 x2 = true ∧ F38_4 c1 0 n1 c2 0 n2 ⟨[(Value.int .i64 x0),(Value.int .i64 (x0 + 1))]⟩ 0 2 age shear 1 x1 x2 = 0 ∧ F38_3 c1 0 n1 c2 0 n2 ⟨[(Value.int .i64 x0),(Value.int .i64 (x0 + 1))]⟩ 0 2 age shear 1 x1 x2 = !emp W ∧
          (emp W = true → F38_2 c1 0 n1 c2 0 n2 ⟨[(Value.int .i64 x0),(Value.int .i64 (x0 + 1))]⟩ 0 2 age shear 1 x1 x2 = (cul c1 c2 n2 age shear x0 x0 x1 x2 n1 0).length)):=by
        intro hp
        refine blame_one (L:=[x0,x0 + 1]) (k:=1) g1 g2 g3 hz (by simp) (by simp) (fun k hk=>?_) (by simp) ?_ ?_ hxy hW
        · match k,hk with
          | 0,_=>exact ⟨by show 1 ≤ x0; omega,by show x0 ≤ 100000000; omega,fun h=>by omega⟩
          | 1,_=>exact ⟨by show 1 ≤ x0 + 1; omega,by show x0 + 1 ≤ 100000000; omega,fun _=>by show x0 < x0 + 1; omega⟩
        · rw [wLo_pos (by omega)]
          rfl
        · refine (wHi_at (c3:=arrI [x0,x0 + 1]) (k:=1) (show 1 ≤ x0 + 1 ∧ x0 + 1 ≤ 100000000 by omega)).trans ?_
          show x0 + 1 - 1 = x0
          omega
      have hA : (¬ 0 < x0 → F38_ok c1 0 n1 c2 0 n2 ⟨[(Value.int .i64 (x0 + 1))]⟩ 0 1 age shear 0 x1 x2 = true ∧ F38_4 c1 0 n1 c2 0 n2 ⟨[(Value.int .i64 (x0 + 1))]⟩ 0 1 age shear 0 x1 x2 = 0 ∧ F38_3 c1 0 n1 c2 0 n2 ⟨[(Value.int .i64 (x0 + 1))]⟩ 0 1 age shear 0 x1 x2 = !emp W ∧
          (emp W = true → F38_2 c1 0 n1 c2 0 n2 ⟨[(Value.int .i64 (x0 + 1))]⟩ 0 1 age shear 0 x1 x2 = (cul c1 c2 n2 age shear x0 x0 x1 x2 n1 0).length)):=by
        intro hp
        refine blame_one (L:=[x0 + 1]) (k:=0) g1 g2 g3 hz (by simp) (by simp) (fun k hk=>?_) (by simp) ?_ ?_ hxy hW
        · match k,hk with
          | 0,_=>exact ⟨by show 1 ≤ x0 + 1; omega,by show x0 + 1 ≤ 100000000; omega,fun h=>by omega⟩
        · rw [wLo_zero]
          omega
        · refine (wHi_at (c3:=arrI [x0 + 1]) (k:=0) (show 1 ≤ x0 + 1 ∧ x0 + 1 ≤ 100000000 by omega)).trans ?_
          show x0 + 1 - 1 = x0
          omega
      unfold ansO at e40
      rw [← hW] at e40
      by_cases he : emp W = true
      · rw [if_pos he] at e40
        have e3 : (!emp W) = false:=by rw [he]; rfl
        have key : ∃ q : Int,F40_4 c1 0 n1 c2 0 n2 c3 0 n3 age shear x0 x1 x2 = q ∧ F40_ok c1 0 n1 c2 0 n2 c3 0 n3 age shear x0 x1 x2 = true ∧ ((q = 0 ∧ (cul c1 c2 n2 age shear x0 x0 x1 x2 n1 0).length = 1) ∨ (q = 9 ∧ (cul c1 c2 n2 age shear x0 x0 x1 x2 n1 0).length ≠ 1)):=by
          refine ⟨_,rfl,by simp only [F40_ok,e40]; rfl,?_⟩
          simp only [F40_4,e40]
          split
          · rename_i H hH
            left
            split at hH
            · rename_i s hs
              exact ⟨rfl,by rw [hs]; rfl⟩
            · cases hH
          · rename_i hH
            right
            split at hH
            · cases hH
            · rename_i hs
              refine ⟨rfl,fun hl=>?_⟩
              obtain ⟨s,hs'⟩:=List.length_eq_one_iff.1 hl
              exact hs s hs'
        obtain ⟨q,k1,k2,k3⟩:=key
        by_cases hp : (0 : Int) < x0
        · obtain ⟨f1,f2,f3,f4⟩:=hB hp
          have f4:=f4 he
          rw [e3] at f3
          rcases k3 with ⟨rfl,k4⟩ | ⟨rfl,k4⟩
          · unfold rt17
            simp only [RT.val,k1,k2,hw,hp,f1,f2,f3,f4,k4,Int.ofNat_eq_natCast,decide_true,decide_false,Bool.not_true,Bool.not_false,cond_true,cond_false,show (((1 : Nat) : Int) = 1) from rfl,BEq.rfl]
          · have k5 : decide (((cul c1 c2 n2 age shear x0 x0 x1 x2 n1 0).length : Int) = 1) = false:=decide_eq_false (by omega)
            unfold rt17
            simp only [RT.val,k1,k2,hw,hp,f1,f2,f3,f4,k5,Int.ofNat_eq_natCast,decide_true,decide_false,Bool.not_true,Bool.not_false,cond_true,cond_false,show ¬ ((9 : Int) = 0) by decide,BEq.rfl]
        · obtain ⟨f1,f2,f3,f4⟩:=hA hp
          have f4:=f4 he
          rw [e3] at f3
          rcases k3 with ⟨rfl,k4⟩ | ⟨rfl,k4⟩
          · unfold rt17
            simp only [RT.val,k1,k2,hw,hp,f1,f2,f3,f4,k4,Int.ofNat_eq_natCast,decide_true,decide_false,Bool.not_true,Bool.not_false,cond_true,cond_false,show (((1 : Nat) : Int) = 1) from rfl,BEq.rfl]
          · have k5 : decide (((cul c1 c2 n2 age shear x0 x0 x1 x2 n1 0).length : Int) = 1) = false:=decide_eq_false (by omega)
            unfold rt17
            simp only [RT.val,k1,k2,hw,hp,f1,f2,f3,f4,k5,Int.ofNat_eq_natCast,decide_true,decide_false,Bool.not_true,Bool.not_false,cond_true,cond_false,show ¬ ((9 : Int) = 0) by decide,BEq.rfl]
      · have he' : emp W = false:=by simpa using he
        rw [if_neg he] at e40
        have e3 : (!emp W) = true:=by rw [he']; rfl
        have k0 : F40_ok c1 0 n1 c2 0 n2 c3 0 n3 age shear x0 x1 x2 = true:=by simp only [F40_ok,e40]; rfl
        have k1 : F40_0 c1 0 n1 c2 0 n2 c3 0 n3 age shear x0 x1 x2 = W.xl:=by simp only [F40_0,e40]
        have k2 : F40_1 c1 0 n1 c2 0 n2 c3 0 n3 age shear x0 x1 x2 = W.xh:=by simp only [F40_1,e40]
        have k3 : F40_2 c1 0 n1 c2 0 n2 c3 0 n3 age shear x0 x1 x2 = W.yl:=by simp only [F40_2,e40]
        have k4 : F40_3 c1 0 n1 c2 0 n2 c3 0 n3 age shear x0 x1 x2 = W.yh:=by simp only [F40_3,e40]
        have k5 : F40_4 c1 0 n1 c2 0 n2 c3 0 n3 age shear x0 x1 x2 = 0:=by simp only [F40_4,e40]
        have hL:=loop17 g1 g2 g3 hz (by omega) hh hxy hW he' n3 0 (by omega)
        have l0 : L17_0_k0 (X17_0.mk (0 : Int) c1 0 n1 c2 0 n2 c3 0 n3 age shear x0 x1 x2 W.xl W.xh W.yl W.yh) = false:=by
          have hL' : L17_0 (X17_0.mk (0 : Int) c1 0 n1 c2 0 n2 c3 0 n3 age shear x0 x1 x2 W.xl W.xh W.yl W.yh) = _:=hL
          simp only [L17_0_k0,hL']
        have l1 : L17_0_k1 (X17_0.mk (0 : Int) c1 0 n1 c2 0 n2 c3 0 n3 age shear x0 x1 x2 W.xl W.xh W.yl W.yh) = true:=by
          have hL' : L17_0 (X17_0.mk (0 : Int) c1 0 n1 c2 0 n2 c3 0 n3 age shear x0 x1 x2 W.xl W.xh W.yl W.yh) = _:=hL
          simp only [L17_0_k1,hL']
        by_cases hp : (0 : Int) < x0
        · obtain ⟨f1,f2,f3,f4⟩:=hB hp
          rw [e3] at f3
          unfold rt17
          simp only [RT.val,k0,k1,k2,k3,k4,k5,hw,hp,f1,f2,f3,l0,l1,eqCode_self,decide_true,decide_false,Bool.not_true,Bool.not_false,cond_true,cond_false,BEq.rfl]
        · obtain ⟨f1,f2,f3,f4⟩:=hA hp
          rw [e3] at f3
          unfold rt17
          simp only [RT.val,k0,k1,k2,k3,k4,k5,hw,hp,f1,f2,f3,l0,l1,eqCode_self,decide_true,decide_false,Bool.not_true,Bool.not_false,cond_true,cond_false,BEq.rfl]
    · unfold atS at e40
      rw [if_pos hz,if_neg hxy] at e40
      unfold rt17
      simp only [RT.val,F40_ok,F40_0,F40_1,F40_2,F40_3,F40_4,e40,Option.isSome_some,show ¬ ((7 : Int) = 0) by decide,show ¬ ((7 : Int) = 9) by decide,decide_true,decide_false,Bool.and_self,Bool.not_false,cond_true,cond_false]
  · unfold atS at e40
    rw [if_neg hz] at e40
    have h9 : ¬ F20_2 c1 0 n1 c2 0 n2 c3 0 n3 age shear = 9:=ck_ne9
    unfold rt17
    simp only [RT.val,F40_ok,F40_0,F40_1,F40_2,F40_3,F40_4,e40,Option.isSome_some,hz,h9,decide_true,decide_false,Bool.and_self,Bool.not_false,cond_true,cond_false]
theorem windPointProved : Rows.WindPointSaid:=point_of true17
end
end Go.Proofs.Ytaglpbmnadlpgaa

