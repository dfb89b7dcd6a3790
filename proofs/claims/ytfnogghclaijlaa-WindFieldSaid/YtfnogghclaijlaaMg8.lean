/- Part 8 of the texts below the claim. Conditions: none. -/
import Derived.Test.YtfnogghclaijlaaMg7
import Derived.Test.YtfnogghclaijlaaMg6
set_option linter.unusedVariables false
set_option linter.unusedSimpArgs false
namespace Go.Proofs.Ytfnogghclaijlaa.Old
open Go.Gi Go.RowKit
noncomputable section
set_option maxRecDepth 100000
theorem tree20b (J:Task→List Value)(c0 c:Array Value)(off0 off:Nat)(o2:Ob)(d:Option Addr)(n n2 n3 z3:Nat)(es:Es)(m k age shear:Int)(M:Nat)(y:List Value) :
    evS Try.prog (((sh20b.ans J).below mes20b M).or p106) 60 (.code none (.loop (theLoop Try.prog 20 1)) ⟨sets (junkF 96 y) [(1,pp 3),(5,.map (some 4)),(56,.int .i64 m),(57,.int .i64 k)],[],⟨[.cells c0 true,.cells c true,o2,.cells ⟨[.slice (some ⟨0,off0,none⟩) n 7,.slice (some ⟨1,off,none⟩) n2 5,.slice d n3 z3,.int .i64 age,.int .i64 shear]⟩ false,.map es],3,[]⟩⟩) (sumK 5 96 (pick20 [1])) =
    cond (decide (k<m)) (cond (and (decide ((0:Int)≤k)) (decide (k<(Int.ofNat n2)))) (cond (and true (rdOk c [(Leaf.int .i64),(Leaf.int .i64),(Leaf.int .i64),(Leaf.int .i64),(Leaf.int .i64)] (off+((Int.toNat k)*5)))) (cond (decide ((getInt c (off+((Int.toNat k)*5)))<(0:Int))) (some (Out.ex Ex.ret (St.mk [(.int .i64 (3:Int)),(.int .i64 k),(.int .i64 (4:Int))] [] (Hp.mk [(Ob.cells c0 true),(Ob.cells c true),o2,(Ob.cells ⟨[(.slice (some (Addr.mk 0 off0 none)) n 7),(.slice (some (Addr.mk 1 off none)) n2 5),(.slice d n3 z3),(.int .i64 age),(.int .i64 shear)]⟩ false),(Ob.map es)] 96 [])))) (cond (decide ((Int.ofNat n)≤(getInt c (off+((Int.toNat k)*5))))) (some (Out.ex Ex.ret (St.mk [(.int .i64 (3:Int)),(.int .i64 k),(.int .i64 (4:Int))] [] (Hp.mk [(Ob.cells c0 true),(Ob.cells c true),o2,(Ob.cells ⟨[(.slice (some (Addr.mk 0 off0 none)) n 7),(.slice (some (Addr.mk 1 off none)) n2 5),(.slice d n3 z3),(.int .i64 age),(.int .i64 shear)]⟩ false),(Ob.map es)] 96 []))))
 (cond (and (decide ((0:Int)≤(getInt c (off+((Int.toNat k)*5))))) (decide ((getInt c (off+((Int.toNat k)*5)))<(Int.ofNat n)))) (cond (and true (rdOk c0 [Leaf.str,(Leaf.int .i64),(Leaf.int .i64),(Leaf.int .i64),(Leaf.int .i64),(Leaf.int .i64),(Leaf.int .i64)] (off0+((Int.toNat (getInt c (off+((Int.toNat k)*5))))*7)))) (cond (decide ((0:Int)≤(getInt c ((off+((Int.toNat k)*5))+1)))) (cond (not (decide ((getInt c ((off+((Int.toNat k)*5))+1))≤(100000:Int)))) (some (Out.ex Ex.ret (St.mk [(.int .i64 (3:Int)),(.int .i64 k),(.int .i64 (7:Int))] [] (Hp.mk [(Ob.cells c0 true),(Ob.cells c true),o2,(Ob.cells ⟨[(.slice (some (Addr.mk 0 off0 none)) n 7),(.slice (some (Addr.mk 1 off none)) n2 5),(.slice d n3 z3),(.int .i64 age),(.int .i64 shear)]⟩ false),(Ob.map es)] 96 [])))) (cond (decide ((getInt c (((off+((Int.toNat k)*5))+1)+1))<(getInt c0 ((((((off0+((Int.toNat (getInt c (off+((Int.toNat k)*5))))*7))+1)+1)+1)+1)+1))))
 (some (Out.ex Ex.ret (St.mk [(.int .i64 (3:Int)),(.int .i64 k),(.int .i64 (7:Int))] [] (Hp.mk [(Ob.cells c0 true),(Ob.cells c true),o2,(Ob.cells ⟨[(.slice (some (Addr.mk 0 off0 none)) n 7),(.slice (some (Addr.mk 1 off none)) n2 5),(.slice d n3 z3),(.int .i64 age),(.int .i64 shear)]⟩ false),(Ob.map es)] 96 [])))) (cond (decide ((getInt c0 (((((((off0+((Int.toNat (getInt c (off+((Int.toNat k)*5))))*7))+1)+1)+1)+1)+1)+1))<(getInt c (((off+((Int.toNat k)*5))+1)+1)))) (some (Out.ex Ex.ret (St.mk [(.int .i64 (3:Int)),(.int .i64 k),(.int .i64 (7:Int))] [] (Hp.mk [(Ob.cells c0 true),(Ob.cells c true),o2,(Ob.cells ⟨[(.slice (some (Addr.mk 0 off0 none)) n 7),(.slice (some (Addr.mk 1 off none)) n2 5),(.slice d n3 z3),(.int .i64 age),(.int .i64 shear)]⟩ false),(Ob.map es)] 96 [])))) (cond (decide ((-20000:Int)≤(getInt c ((((off+((Int.toNat k)*5))+1)+1)+1)))) (cond (not (decide ((getInt c ((((off+((Int.toNat k)*5))+1)+1)+1))≤(20000:Int))))
 (some (Out.ex Ex.ret (St.mk [(.int .i64 (3:Int)),(.int .i64 k),(.int .i64 (7:Int))] [] (Hp.mk [(Ob.cells c0 true),(Ob.cells c true),o2,(Ob.cells ⟨[(.slice (some (Addr.mk 0 off0 none)) n 7),(.slice (some (Addr.mk 1 off none)) n2 5),(.slice d n3 z3),(.int .i64 age),(.int .i64 shear)]⟩ false),(Ob.map es)] 96 [])))) (cond (decide ((-20000:Int)≤(getInt c (((((off+((Int.toNat k)*5))+1)+1)+1)+1)))) (cond (not (decide ((getInt c (((((off+((Int.toNat k)*5))+1)+1)+1)+1))≤(20000:Int)))) (some (Out.ex Ex.ret (St.mk [(.int .i64 (3:Int)),(.int .i64 k),(.int .i64 (7:Int))] [] (Hp.mk [(Ob.cells c0 true),(Ob.cells c true),o2,(Ob.cells ⟨[(.slice (some (Addr.mk 0 off0 none)) n 7),(.slice (some (Addr.mk 1 off none)) n2 5),(.slice d n3 z3),(.int .i64 age),(.int .i64 shear)]⟩ false),(Ob.map es)] 96 []))))
 (cond (lkIs Try.prog 105 (.agg ⟨[(.string ByteArray.empty),(.int .i64 (getInt c (off+((Int.toNat k)*5)))),(.int .i64 (getInt c ((off+((Int.toNat k)*5))+1))),(.int .i64 (getInt c (((off+((Int.toNat k)*5))+1)+1)))]⟩) es) (cond (lkOf Try.prog 105 (.agg ⟨[(.string ByteArray.empty),(.int .i64 (getInt c (off+((Int.toNat k)*5)))),(.int .i64 (getInt c ((off+((Int.toNat k)*5))+1))),(.int .i64 (getInt c (((off+((Int.toNat k)*5))+1)+1)))]⟩) es) (some (Out.ex Ex.ret (St.mk [(.int .i64 (3:Int)),(.int .i64 k),(.int .i64 (5:Int))] [] (Hp.mk [(Ob.cells c0 true),(Ob.cells c true),o2,(Ob.cells ⟨[(.slice (some (Addr.mk 0 off0 none)) n 7),(.slice (some (Addr.mk 1 off none)) n2 5),(.slice d n3 z3),(.int .i64 age),(.int .i64 shear)]⟩ false),(Ob.map es)] 96 [])))) (cond (upIs Try.prog 105 (.agg ⟨[(.string ByteArray.empty),(.int .i64 (getInt c (off+((Int.toNat k)*5)))),(.int .i64 (getInt c ((off+((Int.toNat k)*5))+1))),(.int .i64 (getInt c (((off+((Int.toNat k)*5))+1)+1)))]⟩) (.bool true) es)
 (cond (mapSc (((((((1+1)+1)+1)+1)+1)+1)+1) (upOf Try.prog 105 (.agg ⟨[(.string ByteArray.empty),(.int .i64 (getInt c (off+((Int.toNat k)*5)))),(.int .i64 (getInt c ((off+((Int.toNat k)*5))+1))),(.int .i64 (getInt c (((off+((Int.toNat k)*5))+1)+1)))]⟩) (.bool true) es)) (cond (decide ((getInt c0 ((off0+((Int.toNat (getInt c (off+((Int.toNat k)*5))))*7))+1))=(2:Int))) (cond (and true (and (decide ((0:Int)≤k)) (and (decide (0≤(Int.toNat k))) (decide ((Int.toNat k)≤n2)))))
 (cond (c106 (some (Addr.mk 1 (off+0) none)) ((Int.toNat k)-0) 5 [(Ob.cells c0 true),(Ob.cells c true),o2,(Ob.cells ⟨[(.slice (some (Addr.mk 0 off0 none)) n 7),(.slice (some (Addr.mk 1 off none)) n2 5),(.slice d n3 z3),(.int .i64 age),(.int .i64 shear)]⟩ false),(Ob.map (upOf Try.prog 105 (.agg ⟨[(.string ByteArray.empty),(.int .i64 (getInt c (off+((Int.toNat k)*5)))),(.int .i64 (getInt c ((off+((Int.toNat k)*5))+1))),(.int .i64 (getInt c (((off+((Int.toNat k)*5))+1)+1)))]⟩) (.bool true) es)),(Ob.cells ⟨[(.slice (some (Addr.mk 0 off0 none)) n 7),(.slice (some (Addr.mk 1 off none)) n2 5),(.slice d n3 z3),(.int .i64 age),(.int .i64 shear)]⟩ false),(Ob.cells ⟨[(.int .i64 (getInt c (off+((Int.toNat k)*5)))),(.int .i64 (getInt c ((off+((Int.toNat k)*5))+1))),(.int .i64 (getInt c (((off+((Int.toNat k)*5))+1)+1))),(.int .i64 (getInt c ((((off+((Int.toNat k)*5))+1)+1)+1))),(.int .i64 (getInt c (((((off+((Int.toNat k)*5))+1)+1)+1)+1)))]⟩ false),(Ob.cells ⟨[(.string (getStr c0 (off0+((Int.toNat (getInt c (off+((Int.toNat k)*5))))*7)))),(.int .i64 (getInt c0 ((off0+((Int.toNat (getInt c (off+((Int.toNat k)*5))))*7))+1))),(.int .i64 (getInt c0 (((off0+((Int.toNat (getInt c (off+((Int.toNat k)*5))))*7))+1)+1))),(.int .i64 (getInt c0 ((((off0+((Int.toNat (getInt c (off+((Int.toNat k)*5))))*7))+1)+1)+1))),(.int .i64 (getInt c0 (((((off0+((Int.toNat (getInt c (off+((Int.toNat k)*5))))*7))+1)+1)+1)+1))),(.int .i64 (getInt c0 ((((((off0+((Int.toNat (getInt c (off+((Int.toNat k)*5))))*7))+1)+1)+1)+1)+1))),(.int .i64 (getInt c0 (((((((off0+((Int.toNat (getInt c (off+((Int.toNat k)*5))))*7))+1)+1)+1)+1)+1)+1)))]⟩ false)])
 (cond (flS c (off+0) (getInt c (off+((Int.toNat k)*5))) (getInt c ((off+((Int.toNat k)*5))+1)) (getInt c (((off+((Int.toNat k)*5))+1)+1)) ((Int.toNat k)-0)) (cond (mapSc ((((1+1)+1)+1)+1) (upOf Try.prog 105 (.agg ⟨[(.string ByteArray.empty),(.int .i64 (getInt c (off+((Int.toNat k)*5)))),(.int .i64 (getInt c ((off+((Int.toNat k)*5))+1))),(.int .i64 (getInt c (((off+((Int.toNat k)*5))+1)+1)))]⟩) (.bool true) es)) (some (Out.ex Ex.ret (St.mk [(.int .i64 (3:Int)),(.int .i64 k),(.int .i64 (2:Int))] [] (Hp.mk [(Ob.cells c0 true),(Ob.cells c true),o2,(Ob.cells ⟨[(.slice (some (Addr.mk 0 off0 none)) n 7),(.slice (some (Addr.mk 1 off none)) n2 5),(.slice d n3 z3),(.int .i64 age),(.int .i64 shear)]⟩ false),(Ob.map (upOf Try.prog 105 (.agg ⟨[(.string ByteArray.empty),(.int .i64 (getInt c (off+((Int.toNat k)*5)))),(.int .i64 (getInt c ((off+((Int.toNat k)*5))+1))),(.int .i64 (getInt c (((off+((Int.toNat k)*5))+1)+1)))]⟩) (.bool true) es))] 96 []))))
 none) (cond (mapSc ((((1+1)+1)+1)+1) (upOf Try.prog 105 (.agg ⟨[(.string ByteArray.empty),(.int .i64 (getInt c (off+((Int.toNat k)*5)))),(.int .i64 (getInt c ((off+((Int.toNat k)*5))+1))),(.int .i64 (getInt c (((off+((Int.toNat k)*5))+1)+1)))]⟩) (.bool true) es)) (cond (Nat.blt (Nat.sub (Int.toNat m) (Int.toNat (IntKind.wrap .i64 (k+(1:Int))))) M) (cond (eqCode (theLoop Try.prog 20 1) (theLoop Try.prog 20 1)) (cond (okA20b c0 off0 n c off n2 d n3 z3 o2 m (IntKind.wrap .i64 (k+(1:Int))) (upOf Try.prog 105 (.agg ⟨[(.string ByteArray.empty),(.int .i64 (getInt c (off+((Int.toNat k)*5)))),(.int .i64 (getInt c ((off+((Int.toNat k)*5))+1))),(.int .i64 (getInt c (((off+((Int.toNat k)*5))+1)+1)))]⟩) (.bool true) es))
 (cond (sbB c0 off0 n c off (n2-(Int.toNat (IntKind.wrap .i64 (k+(1:Int))))) (Int.toNat (IntKind.wrap .i64 (k+(1:Int)))) (upOf Try.prog 105 (.agg ⟨[(.string ByteArray.empty),(.int .i64 (getInt c (off+((Int.toNat k)*5)))),(.int .i64 (getInt c ((off+((Int.toNat k)*5))+1))),(.int .i64 (getInt c (((off+((Int.toNat k)*5))+1)+1)))]⟩) (.bool true) es))
 (some (Out.ex Ex.ret (St.mk [(.int .i64 (3:Int)),(.int .i64 (Int.ofNat (sbI c0 off0 n c off (n2-(Int.toNat (IntKind.wrap .i64 (k+(1:Int))))) (Int.toNat (IntKind.wrap .i64 (k+(1:Int)))) (upOf Try.prog 105 (.agg ⟨[(.string ByteArray.empty),(.int .i64 (getInt c (off+((Int.toNat k)*5)))),(.int .i64 (getInt c ((off+((Int.toNat k)*5))+1))),(.int .i64 (getInt c (((off+((Int.toNat k)*5))+1)+1)))]⟩) (.bool true) es)))),(.int .i64 (sbE c0 off0 n c off (n2-(Int.toNat (IntKind.wrap .i64 (k+(1:Int))))) (Int.toNat (IntKind.wrap .i64 (k+(1:Int)))) (upOf Try.prog 105 (.agg ⟨[(.string ByteArray.empty),(.int .i64 (getInt c (off+((Int.toNat k)*5)))),(.int .i64 (getInt c ((off+((Int.toNat k)*5))+1))),(.int .i64 (getInt c (((off+((Int.toNat k)*5))+1)+1)))]⟩) (.bool true) es)))] [] (Hp.mk [(Ob.cells c0 true),(Ob.cells c true),o2,(Ob.cells ⟨[(.slice (some (Addr.mk 0 off0 none)) n 7),(.slice (some (Addr.mk 1 off none)) n2 5),(.slice d n3 z3),(.int .i64 age),(.int .i64 shear)]⟩ false),(Ob.map (sbM c0 off0 n c off (n2-(Int.toNat (IntKind.wrap .i64 (k+(1:Int))))) (Int.toNat (IntKind.wrap .i64 (k+(1:Int)))) (upOf Try.prog 105 (.agg ⟨[(.string ByteArray.empty),(.int .i64 (getInt c (off+((Int.toNat k)*5)))),(.int .i64 (getInt c ((off+((Int.toNat k)*5))+1))),(.int .i64 (getInt c (((off+((Int.toNat k)*5))+1)+1)))]⟩) (.bool true) es)))] 96 []))))
 (some (Out.ex (Ex.exit 2) (St.mk [(.pointer (some (Addr.mk 3 0 none)))] [] (Hp.mk [(Ob.cells c0 true),(Ob.cells c true),o2,(Ob.cells ⟨[(.slice (some (Addr.mk 0 off0 none)) n 7),(.slice (some (Addr.mk 1 off none)) n2 5),(.slice d n3 z3),(.int .i64 age),(.int .i64 shear)]⟩ false),(Ob.map (sbM c0 off0 n c off (n2-(Int.toNat (IntKind.wrap .i64 (k+(1:Int))))) (Int.toNat (IntKind.wrap .i64 (k+(1:Int)))) (upOf Try.prog 105 (.agg ⟨[(.string ByteArray.empty),(.int .i64 (getInt c (off+((Int.toNat k)*5)))),(.int .i64 (getInt c ((off+((Int.toNat k)*5))+1))),(.int .i64 (getInt c (((off+((Int.toNat k)*5))+1)+1)))]⟩) (.bool true) es)))] 96 [])))))
 none)
 none)
 none)
 none))
 none)
 none) (cond (mapSc ((((1+1)+1)+1)+1) (upOf Try.prog 105 (.agg ⟨[(.string ByteArray.empty),(.int .i64 (getInt c (off+((Int.toNat k)*5)))),(.int .i64 (getInt c ((off+((Int.toNat k)*5))+1))),(.int .i64 (getInt c (((off+((Int.toNat k)*5))+1)+1)))]⟩) (.bool true) es)) (cond (Nat.blt (Nat.sub (Int.toNat m) (Int.toNat (IntKind.wrap .i64 (k+(1:Int))))) M) (cond (eqCode (theLoop Try.prog 20 1) (theLoop Try.prog 20 1)) (cond (okA20b c0 off0 n c off n2 d n3 z3 o2 m (IntKind.wrap .i64 (k+(1:Int))) (upOf Try.prog 105 (.agg ⟨[(.string ByteArray.empty),(.int .i64 (getInt c (off+((Int.toNat k)*5)))),(.int .i64 (getInt c ((off+((Int.toNat k)*5))+1))),(.int .i64 (getInt c (((off+((Int.toNat k)*5))+1)+1)))]⟩) (.bool true) es))
 (cond (sbB c0 off0 n c off (n2-(Int.toNat (IntKind.wrap .i64 (k+(1:Int))))) (Int.toNat (IntKind.wrap .i64 (k+(1:Int)))) (upOf Try.prog 105 (.agg ⟨[(.string ByteArray.empty),(.int .i64 (getInt c (off+((Int.toNat k)*5)))),(.int .i64 (getInt c ((off+((Int.toNat k)*5))+1))),(.int .i64 (getInt c (((off+((Int.toNat k)*5))+1)+1)))]⟩) (.bool true) es))
 (some (Out.ex Ex.ret (St.mk [(.int .i64 (3:Int)),(.int .i64 (Int.ofNat (sbI c0 off0 n c off (n2-(Int.toNat (IntKind.wrap .i64 (k+(1:Int))))) (Int.toNat (IntKind.wrap .i64 (k+(1:Int)))) (upOf Try.prog 105 (.agg ⟨[(.string ByteArray.empty),(.int .i64 (getInt c (off+((Int.toNat k)*5)))),(.int .i64 (getInt c ((off+((Int.toNat k)*5))+1))),(.int .i64 (getInt c (((off+((Int.toNat k)*5))+1)+1)))]⟩) (.bool true) es)))),(.int .i64 (sbE c0 off0 n c off (n2-(Int.toNat (IntKind.wrap .i64 (k+(1:Int))))) (Int.toNat (IntKind.wrap .i64 (k+(1:Int)))) (upOf Try.prog 105 (.agg ⟨[(.string ByteArray.empty),(.int .i64 (getInt c (off+((Int.toNat k)*5)))),(.int .i64 (getInt c ((off+((Int.toNat k)*5))+1))),(.int .i64 (getInt c (((off+((Int.toNat k)*5))+1)+1)))]⟩) (.bool true) es)))] [] (Hp.mk [(Ob.cells c0 true),(Ob.cells c true),o2,(Ob.cells ⟨[(.slice (some (Addr.mk 0 off0 none)) n 7),(.slice (some (Addr.mk 1 off none)) n2 5),(.slice d n3 z3),(.int .i64 age),(.int .i64 shear)]⟩ false),(Ob.map (sbM c0 off0 n c off (n2-(Int.toNat (IntKind.wrap .i64 (k+(1:Int))))) (Int.toNat (IntKind.wrap .i64 (k+(1:Int)))) (upOf Try.prog 105 (.agg ⟨[(.string ByteArray.empty),(.int .i64 (getInt c (off+((Int.toNat k)*5)))),(.int .i64 (getInt c ((off+((Int.toNat k)*5))+1))),(.int .i64 (getInt c (((off+((Int.toNat k)*5))+1)+1)))]⟩) (.bool true) es)))] 96 []))))
 (some (Out.ex (Ex.exit 2) (St.mk [(.pointer (some (Addr.mk 3 0 none)))] [] (Hp.mk [(Ob.cells c0 true),(Ob.cells c true),o2,(Ob.cells ⟨[(.slice (some (Addr.mk 0 off0 none)) n 7),(.slice (some (Addr.mk 1 off none)) n2 5),(.slice d n3 z3),(.int .i64 age),(.int .i64 shear)]⟩ false),(Ob.map (sbM c0 off0 n c off (n2-(Int.toNat (IntKind.wrap .i64 (k+(1:Int))))) (Int.toNat (IntKind.wrap .i64 (k+(1:Int)))) (upOf Try.prog 105 (.agg ⟨[(.string ByteArray.empty),(.int .i64 (getInt c (off+((Int.toNat k)*5)))),(.int .i64 (getInt c ((off+((Int.toNat k)*5))+1))),(.int .i64 (getInt c (((off+((Int.toNat k)*5))+1)+1)))]⟩) (.bool true) es)))] 96 [])))))
 none)
 none)
 none)
 none))
 none)
 none))
 none)) (some (Out.ex Ex.ret (St.mk [(.int .i64 (3:Int)),(.int .i64 k),(.int .i64 (7:Int))] [] (Hp.mk [(Ob.cells c0 true),(Ob.cells c true),o2,(Ob.cells ⟨[(.slice (some (Addr.mk 0 off0 none)) n 7),(.slice (some (Addr.mk 1 off none)) n2 5),(.slice d n3 z3),(.int .i64 age),(.int .i64 shear)]⟩ false),(Ob.map es)] 96 [])))))) (some (Out.ex Ex.ret (St.mk [(.int .i64 (3:Int)),(.int .i64 k),(.int .i64 (7:Int))] [] (Hp.mk [(Ob.cells c0 true),(Ob.cells c true),o2,(Ob.cells ⟨[(.slice (some (Addr.mk 0 off0 none)) n 7),(.slice (some (Addr.mk 1 off none)) n2 5),(.slice d n3 z3),(.int .i64 age),(.int .i64 shear)]⟩ false),(Ob.map es)] 96 [])))))))) (some (Out.ex Ex.ret (St.mk [(.int .i64 (3:Int)),(.int .i64 k),(.int .i64 (7:Int))] [] (Hp.mk [(Ob.cells c0 true),(Ob.cells c true),o2,(Ob.cells ⟨[(.slice (some (Addr.mk 0 off0 none)) n 7),(.slice (some (Addr.mk 1 off none)) n2 5),(.slice d n3 z3),(.int .i64 age),(.int .i64 shear)]⟩ false),(Ob.map es)] 96 [])))))
 none)
 none)))
 none)
 none) (some (Out.ex (Ex.exit 2) (St.mk [(.pointer (some (Addr.mk 3 0 none)))] [] (Hp.mk [(Ob.cells c0 true),(Ob.cells c true),o2,(Ob.cells ⟨[(.slice (some (Addr.mk 0 off0 none)) n 7),(.slice (some (Addr.mk 1 off none)) n2 5),(.slice d n3 z3),(.int .i64 age),(.int .i64 shear)]⟩ false),(Ob.map es)] 96 [])))):=by kernel_rfl
theorem soK_mk (c:Array Value)(x:Nat):isMk (soK c x):=⟨_,_,_,_,rfl⟩
theorem sbR_taken {c0:Array Value}{off0 n:Nat}{c:Array Value}{off:Nat}:∀{m k:Nat}{es:Es},TakenM es→TakenM (sbR c0 off0 n c off m k es).es
  | 0,_,_,h=>h
  | m+1,k,es,h=>by
    have h2:TakenM (sqM c0 off0 n c off k es):=by
      unfold sqM
      split
      · split
        · exact h
        · exact taken_add h (soK_mk ..)
      · exact h
    simp only [sbR]
    split
    · exact sbR_taken h2
    · exact h2
theorem known20b:∃J,Known Try.prog (sh20b.ans J):=by
  refine Known.junk known106c mes20b sh20b ?_
  intro J t f hs hkn
  unfold sh20b at hs
  split at hs
  case h_2=>cases hs
  rename_i code t c0 c o2 off0 n off n2 d n3 z3 age shear es G
  split at hs
  case h_2=>cases hs
  rename_i m k er e1 e5 e56 e57
  simp only [Option.some.injEq]at hs
  subst hs
  refine ex_guard fun h1=>ex_guard fun h2=>ex_guard fun h3=>?_
  obtain rfl:=eqCode_eq h1
  have hl:t.length=96:=Nat.eq_of_beq_eq_true h2
  obtain ⟨hg0,hg,hd,q2,hn,hn2,rfl,hk0,tk⟩:=dec_iff.1 h3
  obtain ⟨k,rfl⟩:=Int.eq_ofNat_of_zero_le hk0
  have scs:=And.intro (allsc (n:=5) hg0.1) (And.intro (allsc (n:=5) hg.1) (And.intro (slice_sc hd (show 3≤5 by decide)) (And.intro (grOb_sc (n:=5) q2) (And.intro (obSc_map tk 5) (And.intro (fun l z=>at0_sc (l:=l) (z:=z) (off:=off0) (show 0<5 by decide)) (fun l z=>at1_sc (l:=l) (z:=z) (off:=off) (show 1<5 by decide)))))))
  have hsc2:(([.cells c0 true,.cells c true,o2,.cells ⟨[.slice (some ⟨0,off0,none⟩) n 7,.slice (some ⟨1,off,none⟩) n2 5,.slice d n3 z3,.int .i64 age,.int .i64 shear]⟩ false,.map es]:List Ob).all (obSc ([.cells c0 true,.cells c true,o2,.cells ⟨[.slice (some ⟨0,off0,none⟩) n 7,.slice (some ⟨1,off,none⟩) n2 5,.slice d n3 z3,.int .i64 age,.int .i64 shear]⟩ false,.map es]:List Ob).length))=true:=by
    simp [obSc_cells,scs,int_sc]
  have hk2:∀es',TakenM es'→ObsKept 5 [.cells c0 true,.cells c true,o2,.cells ⟨[.slice (some ⟨0,off0,none⟩) n 7,.slice (some ⟨1,off,none⟩) n2 5,.slice d n3 z3,.int .i64 age,.int .i64 shear]⟩ false,.map es] [.cells c0 true,.cells c true,o2,.cells ⟨[.slice (some ⟨0,off0,none⟩) n 7,.slice (some ⟨1,off,none⟩) n2 5,.slice d n3 z3,.int .i64 age,.int .i64 shear]⟩ false,.map es']:=by
    intro es' ht
    have hs:=keptSelf hsc2
    cases hs with
    | cons h r=>cases r with
      | cons h' r=>cases r with
        | cons h'' r=>cases r with
          | cons h''' r=>exact .cons h (.cons h' (.cons h'' (.cons h''' (.cons (by
              show ((!(Ob.map es').live||(Ob.map es).live)&&(!(Ob.map es').rw||(Ob.map es).rw)&&(obSc 5 (.map es')))=true
              rw [obSc_map ht];rfl) .nil))))
  have use:=fun es' (ht:TakenM es') e' vs hev he hvs=>hkn.loopLeaf (G:=G) noNG mixed (n:=60) (N0:=96) (N:=96) (live:=[(1,pp 3),(5,.map (some 4)),(56,.int .i64 (Int.ofNat n2)),(57,.int .i64 (Int.ofNat k))])
    (H0:=[.cells c0 true,.cells c true,o2,.cells ⟨[.slice (some ⟨0,off0,none⟩) n 7,.slice (some ⟨1,off,none⟩) n2 5,.slice d n3 z3,.int .i64 age,.int .i64 shear]⟩ false,.map es])
    (H1:=[.cells c0 true,.cells c true,o2,.cells ⟨[.slice (some ⟨0,off0,none⟩) n 7,.slice (some ⟨1,off,none⟩) n2 5,.slice d n3 z3,.int .i64 age,.int .i64 shear]⟩ false,.map es']) (pick:=pick20 [1]) (e:=e') (vs:=vs)
    (base:=3) (wr:=[]) (wr1:=[]) (c:=theLoop Try.prog 20 1) (t:=t) hev hl (by
      intro kv hm
      simp only [List.mem_cons,List.not_mem_nil,or_false]at hm
      rcases hm with rfl | rfl | rfl | rfl
      · exact ⟨e1,rfl,rfl⟩
      · exact ⟨e5,rfl,rfl⟩
      · exact ⟨e56,rfl,rfl⟩
      · exact ⟨e57,rfl,rfl⟩) (by simp) hsc2 (hk2 es' ht) he hvs
  simp only [List.length_cons,List.length_nil,Nat.zero_add,Nat.reduceAdd]at use
  rw [tree20b]at use
  simp only [Int.ofNat_eq_natCast,Int.toNat_natCast]at use ⊢
  by_cases hin:(k:Int)<(n2:Int)
  · obtain ⟨m,hm⟩:∃m,n2-k=m+1:=⟨n2-k-1,by omega⟩
    have hw:IntKind.i64.wrap ((k:Int)+1)=((k+1:Nat):Int):=by rw [wrap64_id (by omega) (by omega)];rfl
    rw [hm]
    have hm':n2-(k+1)=m:=by omega
    have hme:(Nat.sub n2 (k+1)).blt (mes20b (.code none (.loop (theLoop Try.prog 20 1)) ⟨t,[],⟨.cells c0 true::.cells c true::o2::.cells ⟨[.slice (some ⟨0,off0,none⟩) n 7,.slice (some ⟨1,off,none⟩) n2 5,.slice d n3 z3,.int .i64 age,.int .i64 shear]⟩ false::.map es::G,3,[]⟩⟩))=true:=by
      simp only [mes20b,e56,e57,Nat.blt_eq,Int.toNat_natCast]
      show n2-(k+1)<n2-k
      omega
    have hok:∀es',TakenM es'→okA20b c0 off0 n c off n2 d n3 z3 o2 (n2:Int) ↑(k+1) es'=true:=fun es' ht=>dec_iff.2 ⟨hg0,hg,hd,q2,hn,hn2,rfl,by omega,ht⟩
    have hkle:k≤n2:=by omega
    have x0:=hg.2 k (by omega)
    simp only [show L5.length=5 from rfl]at x0
    have hcc:∀X:List Ob,c106 (some ⟨1,off,none⟩) k 5 (.cells c0 true::.cells c true::X)=true:=fun X=>dec_iff.2 ⟨.inr ⟨1,off,rfl,rfl,rfl,hg.1,fun q hq=>hg.2 q (by omega)⟩,by omega⟩
    have kR:∀v:Int,0≤v→v<n→rdOk c0 L7 (off0+v.toNat*7)=true:=fun v h1 h2=>hg0.2 v.toNat (by omega)
    have kk:=soK_mk c (off+k*5)
    have hlk:=lkL_mark kk tk
    have l1:lkIs Try.prog 105 (soK c (off+k*5)) es=true:=by unfold lkIs;rw [hlk]
    have l2:lkOf Try.prog 105 (soK c (off+k*5)) es=tkL es (soK c (off+k*5)):=by unfold lkOf;rw [hlk];rfl
    simp only [show Value.agg ⟨[.string ByteArray.empty,.int .i64 (getInt c (off+k*5)),.int .i64 (getInt c (off+k*5+1)),.int .i64 (getInt c (off+k*5+1+1))]⟩=soK c (off+k*5) from rfl,l1,l2,hw,Int.toNat_natCast,hm',hin,decide_true,cond_true,Bool.true_and,Bool.and_self,Int.natCast_nonneg,eqCode_self,hme,Nat.add_zero,Nat.sub_zero,x0,hcc,hkle,Nat.zero_le]at use
    have hE:=sqR.eq_1 c0 off0 n c (off+k*5)
    simp only [inB]at hE
    simp only [Nat.add_assoc,Nat.reduceAdd]at use hE
    by_cases hR:sqR c0 off0 n c (off+k*5)=0
    · have hF:0≤getInt c (off+k*5)∧getInt c (off+k*5)<n∧0≤getInt c (off+(k*5+1))∧getInt c (off+(k*5+1))≤100000∧getInt c0 (off0+((getInt c (off+k*5)).toNat*7+5))≤getInt c (off+(k*5+2))∧getInt c (off+(k*5+2))≤getInt c0 (off0+((getInt c (off+k*5)).toNat*7+6))∧-20000≤getInt c (off+(k*5+3))∧getInt c (off+(k*5+3))≤20000∧-20000≤getInt c (off+(k*5+4))∧getInt c (off+(k*5+4))≤20000:=by
        have hR2:=hR
        rw [hE]at hR2
        clear use hkn hk2 hsc2 hme hok h1 h2 h3 er hg0 hg hd q2 hl e1 e5 e56 e57 x0 scs hlk l1 l2 hcc kk hE
        split at hR2
        · cases hR2
        · split at hR2
          · cases hR2
          · simp only [Bool.not_eq_true',Bool.not_eq_false',decide_eq_true_eq,decide_eq_false_iff_not,Bool.and_eq_false_iff,Bool.and_eq_true]at *
            omega
      obtain ⟨f1,f2,f3,f4,f5,f6,f7,f8,f9,f10⟩:=hF
      have g1:¬getInt c (off+k*5)<0:=by omega
      have g2:¬(n:Int)≤getInt c (off+k*5):=by omega
      have g3:¬getInt c (off+(k*5+2))<getInt c0 (off0+((getInt c (off+k*5)).toNat*7+5)):=by omega
      have g4:¬getInt c0 (off0+((getInt c (off+k*5)).toNat*7+6))<getInt c (off+(k*5+2)):=by omega
      have hrd:=kR _ f1 f2
      simp only [f1,f2,f3,f4,f7,f8,f9,f10,g1,g2,g3,g4,hrd,decide_true,decide_false,Bool.and_self,Bool.not_true,cond_true,cond_false]at use
      have hsqE:sqE c0 off0 n c off k es=if tkL es (soK c (off+k*5))=true then 5 else sqF c0 off0 c off k:=by unfold sqE;rw [if_pos hR]
      have hsqM:sqM c0 off0 n c off k es=if tkL es (soK c (off+k*5))=true then es else tkU es (soK c (off+k*5)):=by unfold sqM;rw [if_pos hR]
      by_cases hmem:soK c (off+k*5)∈keysM es
      · have ht:tkL es (soK c (off+k*5))=true:=dec_iff.2 hmem
        have e:sbR c0 off0 n c off (m+1) k es=⟨true,k,5,es⟩:=by simp [sbR,hsqE,hsqM,ht]
        simp only [sbB,sbI,sbE,sbM,e]
        refine use es tk .ret [.int .i64 3,.int .i64 k,.int .i64 5] ?_ rfl rfl
        rw [ht];rfl
      · have ht:tkL es (soK c (off+k*5))=false:=dec_false hmem
        have hup:=upL_mark kk tk hmem
        have u1:upIs Try.prog 105 (soK c (off+k*5)) (.bool true) es=true:=by unfold upIs;rw [hup];rfl
        have u2:upOf Try.prog 105 (soK c (off+k*5)) (.bool true) es=tkU es (soK c (off+k*5)):=by unfold upOf;rw [hup];rfl
        have tk2:TakenM (tkU es (soK c (off+k*5))):=taken_add tk kk
        have u3:=mapSc_taken tk2
        simp only [ht,Bool.false_eq_true,if_false]at hsqE hsqM
        simp only [ht,u1,u2,u3,hok _ tk2,cond_false,cond_true]at use
        have hFE:=sqF.eq_1 c0 off0 c off k
        simp only [Nat.add_assoc,Nat.reduceAdd]at hFE
        by_cases hr:sqF c0 off0 c off k=0
        · have e:sbR c0 off0 n c off (m+1) k es=sbR c0 off0 n c off m (k+1) (tkU es (soK c (off+k*5))):=by simp only [sbR,hsqE,hr,if_true,hsqM]
          simp only [sbB,sbI,sbE,sbM,e]at use ⊢
          have tk3:TakenM (sbR c0 off0 n c off m (k+1) (tkU es (soK c (off+k*5)))).es:=sbR_taken tk2
          have hno:¬(getInt c0 (off0+((getInt c (off+k*5)).toNat*7+1))=2∧flS c off (getInt c (off+k*5)) (getInt c (off+(k*5+1))) (getInt c (off+(k*5+2))) k=true):=by
            intro hh
            rw [hFE,if_pos hh]at hr
            cases hr
          cases hbb:(sbR c0 off0 n c off m (k+1) (tkU es (soK c (off+k*5)))).bad with
          | true =>
            rw [hbb]at use
            refine use _ tk3 .ret [.int .i64 3,.int .i64 (Int.ofNat (sbR c0 off0 n c off m (k+1) (tkU es (soK c (off+k*5)))).ix),.int .i64 (sbR c0 off0 n c off m (k+1) (tkU es (soK c (off+k*5)))).err] ?_ rfl rfl
            by_cases hk2':getInt c0 (off0+((getInt c (off+k*5)).toNat*7+1))=2
            · have hfl:flS c off (getInt c (off+k*5)) (getInt c (off+(k*5+1))) (getInt c (off+(k*5+2))) k=false:=by cases hq:flS c off (getInt c (off+k*5)) (getInt c (off+(k*5+1))) (getInt c (off+(k*5+2))) k with | true=>exact absurd ⟨hk2',hq⟩ hno | false=>rfl
              simp only [hk2',hfl,decide_true,cond_true,cond_false];rfl
            · simp only [hk2',decide_false,cond_true,cond_false];rfl
          | false =>
            rw [hbb]at use
            refine use _ tk3 (.exit 2) [pp 3] ?_ rfl rfl
            by_cases hk2':getInt c0 (off0+((getInt c (off+k*5)).toNat*7+1))=2
            · have hfl:flS c off (getInt c (off+k*5)) (getInt c (off+(k*5+1))) (getInt c (off+(k*5+2))) k=false:=by cases hq:flS c off (getInt c (off+k*5)) (getInt c (off+(k*5+1))) (getInt c (off+(k*5+2))) k with | true=>exact absurd ⟨hk2',hq⟩ hno | false=>rfl
              simp only [hk2',hfl,decide_true,cond_true,cond_false];rfl
            · simp only [hk2',decide_false,cond_true,cond_false];rfl
        · have hyes:getInt c0 (off0+((getInt c (off+k*5)).toNat*7+1))=2∧flS c off (getInt c (off+k*5)) (getInt c (off+(k*5+1))) (getInt c (off+(k*5+2))) k=true:=by
            by_cases hh:getInt c0 (off0+((getInt c (off+k*5)).toNat*7+1))=2∧flS c off (getInt c (off+k*5)) (getInt c (off+(k*5+1))) (getInt c (off+(k*5+2))) k=true
            · exact hh
            · rw [hFE,if_neg hh]at hr;exact absurd rfl hr
          have h2v:sqF c0 off0 c off k=2:=by rw [hFE,if_pos hyes]
          have e:sbR c0 off0 n c off (m+1) k es=⟨true,k,2,tkU es (soK c (off+k*5))⟩:=by simp only [sbR,hsqE,h2v,hsqM];rfl
          simp only [sbB,sbI,sbE,sbM,e]
          refine use _ tk2 .ret [.int .i64 3,.int .i64 k,.int .i64 2] ?_ rfl rfl
          simp only [hyes.1,hyes.2,decide_true,cond_true]
    · have e:sbR c0 off0 n c off (m+1) k es=⟨true,k,sqR c0 off0 n c (off+k*5),es⟩:=by simp only [sbR,sqE,sqM,hR,if_false]
      simp only [sbB,sbI,sbE,sbM,e]
      refine use es tk .ret [.int .i64 3,.int .i64 k,.int .i64 (sqR c0 off0 n c (off+k*5))] ?_ rfl rfl
      clear use hkn hk2 hsc2 hme hok h1 h2 h3 er hg0 hg hd q2 hl e1 e5 e56 e57 x0 scs hlk l1 l2 hcc kk hin hm hw hm' hkle hk0 tk e
      repeat' refine cond_hd (fun _=>?_) (fun _=>?_)
      all_goals first
        | (exfalso
           have h9:=kR (getInt c (off+k*5)) (by simp only [Bool.not_eq_true',Bool.not_eq_false',decide_eq_true_eq,decide_eq_false_iff_not,Bool.and_eq_false_iff,Bool.and_eq_true]at *;omega) (by simp only [Bool.not_eq_true',Bool.not_eq_false',decide_eq_true_eq,decide_eq_false_iff_not,Bool.and_eq_false_iff,Bool.and_eq_true]at *;omega)
           simp_all;done)
        | (have h7:sqR c0 off0 n c (off+k*5)=4:=by
             simp only [Bool.not_eq_true',Bool.not_eq_false',decide_eq_true_eq,decide_eq_false_iff_not,Bool.and_eq_false_iff,Bool.and_eq_true]at *
             rw [hE,if_pos (by omega)]
           rw [h7];done)
        | (have h7:sqR c0 off0 n c (off+k*5)=7:=by
             simp only [Bool.not_eq_true',Bool.not_eq_false',decide_eq_true_eq,decide_eq_false_iff_not,Bool.and_eq_false_iff,Bool.and_eq_true]at *
             rw [hE,if_neg (by omega),if_pos (by omega)]
           rw [h7];done)
        | (exfalso
           refine hR ?_
           clear hR
           simp only [Bool.not_eq_true',Bool.not_eq_false',decide_eq_true_eq,decide_eq_false_iff_not,Bool.and_eq_false_iff,Bool.and_eq_true]at *
           rw [hE,if_neg (by omega),if_neg (by omega)])
  · have h0:n2-k=0:=by omega
    rw [h0]
    refine use es tk (.exit 2) [pp 3] ?_ rfl rfl
    simp only [hin,decide_false,cond_false]
    try rfl
end
end Go.Proofs.Ytfnogghclaijlaa.Old
namespace Go.Proofs.Ytfnogghclaijlaa.Old
open Go.Gi Go.RowKit
noncomputable section
theorem sEq_iff (a b:ByteArray):sEq a b=true↔a=b:=by
  unfold sEq
  rw [beq_iff_eq,ByteArray.toList_eq,ByteArray.toList_eq]
  constructor
  · intro h
    cases a;cases b
    rw [ByteArray.mk.injEq]
    exact Array.toList_inj.1 h
  · rintro rfl;rfl
theorem fst_iff2 {p:Nat→Bool}:∀{m i:Nat},(fst p m i).isSome=true↔∃j,i≤j∧j<i+m∧p j=true
  | 0,i=>by
    constructor
    · intro h;cases h
    · rintro ⟨j,h1,h2,_⟩;omega
  | m+1,i=>by
    by_cases hp:p i=true
    · rw [fst_hit hp]
      exact ⟨fun _=>⟨i,Nat.le_refl _,by omega,hp⟩,fun _=>rfl⟩
    · have hp':p i=false:=by simpa using hp
      rw [fst_miss hp',fst_iff2]
      constructor
      · rintro ⟨j,h1,h2,h3⟩;exact ⟨j,by omega,by omega,h3⟩
      · rintro ⟨j,h1,h2,h3⟩
        refine ⟨j,?_,by omega,h3⟩
        rcases Nat.lt_or_ge i j with h | h
        · omega
        · obtain rfl:j=i:=by omega
          exact absurd h3 hp
theorem mkV_inj {s s':ByteArray} {a b c a' b' c':Int}:mkV s a b c=mkV s' a' b' c'↔s=s'∧a=a'∧b=b'∧c=c':=by
  simp [mkV]
def KeysA (c:Array Value)(off k:Nat)(es:Es):Prop:=∀v,v∈keysM es↔∃j,j<k∧v=nmK c (off+j*7)
theorem keysA_nil {c:Array Value}{off:Nat}:KeysA c off 0 []:=by
  intro v
  constructor
  · intro h;simp [keysM]at h
  · rintro ⟨j,h,_⟩;omega
theorem keys_add {es:Es}{k v:Value}:v∈keysM (tkU es k)↔v∈keysM es∨v=k:=by simp [keysM,tkU]
theorem tk_tw {c:Array Value}{off k:Nat}{es:Es}(h:KeysA c off k es):tkL es (nmK c (off+k*7))=twB c off (getStr c (off+k*7)) k 0:=by
  rw [Bool.eq_iff_iff]
  unfold tkL twB
  rw [dec_iff,h,fst_iff2]
  constructor
  · rintro ⟨j,hj,e⟩
    refine ⟨j,by omega,by omega,?_⟩
    unfold twP
    rw [sEq_iff]
    unfold nmK at e
    exact (mkV_inj.1 e).1.symm
  · rintro ⟨j,_,hj,e⟩
    unfold twP at e
    rw [sEq_iff]at e
    exact ⟨j,by omega,by unfold nmK;rw [e]⟩
theorem seE_eq {c:Array Value}{off k:Nat}{es:Es}(h:KeysA c off k es):seE c (off+k*7) es=srcE c off k:=by
  unfold seE srcE
  rw [tk_tw h]
  rfl
theorem seM_keys {c:Array Value}{off k:Nat}{es:Es}(h:KeysA c off k es) (hz:seE c (off+k*7) es=0):nm (getStr c (off+k*7))=true∧KeysA c off (k+1) (seM c (off+k*7) es):=by
  unfold seE at hz
  unfold seM
  by_cases h1:nm (getStr c (off+k*7))=false
  · rw [if_pos h1]at hz;omega
  rw [if_neg h1]at hz ⊢
  by_cases h2:tkL es (nmK c (off+k*7))=true
  · rw [if_pos h2]at hz;omega
  rw [if_neg h2]
  refine ⟨by simpa using h1,fun v=>?_⟩
  rw [keys_add,h]
  constructor
  · rintro (⟨j,hj,e⟩ | e)
    · exact ⟨j,by omega,e⟩
    · exact ⟨k,by omega,e⟩
  · rintro ⟨j,hj,e⟩
    rcases Nat.lt_or_ge j k with h3 | h3
    · exact .inl ⟨j,h3,e⟩
    · obtain rfl:j=k:=by omega
      exact .inr e
def srQ (c:Array Value)(off k:Nat):Bool:=!decide (srcE c off k=0)
theorem saR_eq {c:Array Value}{off:Nat}:∀{m k:Nat}{es:Es},KeysA c off k es →
    (fst (srQ c off) m k=none∧(saR c off m k es).bad=false∧KeysA c off (k+m) (saR c off m k es).es∧(∀j,k≤j→j<k+m→nm (getStr c (off+j*7))=true)) ∨
    (∃i,fst (srQ c off) m k=some i∧(saR c off m k es).bad=true∧(saR c off m k es).ix=i∧(saR c off m k es).err=srcE c off i)
  | 0,k,es,h=>.inl ⟨rfl,rfl,h,fun j h1 h2=>by omega⟩
  | m+1,k,es,h=>by
    have hE:=seE_eq h
    by_cases hz:seE c (off+k*7) es=0
    · have hq:srQ c off k=false:=by unfold srQ;rw [← hE,hz];rfl
      have hs:saR c off (m+1) k es=saR c off m (k+1) (seM c (off+k*7) es):=by simp only [saR,if_pos hz]
      rw [hs,fst_miss hq]
      obtain ⟨hn,hM⟩:=seM_keys h hz
      rcases saR_eq (m:=m) hM with ⟨h1,h2,h3,h4⟩ | h1
      · refine .inl ⟨h1,h2,by rw [show k+(m+1)=k+1+m by omega];exact h3,fun j h5 h6=>?_⟩
        rcases Nat.lt_or_ge k j with h7 | h7
        · exact h4 j (by omega) (by omega)
        · obtain rfl:j=k:=by omega
          exact hn
      · exact .inr h1
    · have hq:srQ c off k=true:=by unfold srQ;rw [← hE,decide_eq_false hz];rfl
      have hs:saR c off (m+1) k es=⟨true,k,seE c (off+k*7) es,seM c (off+k*7) es⟩:=by simp only [saR,if_neg hz]
      rw [hs,fst_hit hq]
      exact .inr ⟨k,rfl,rfl,rfl,hE⟩
def KeysB (c0:Array Value)(off0 n:Nat)(c:Array Value)(off k:Nat)(es:Es):Prop :=
  ∀v,v∈keysM es↔(∃j,j<n∧v=nmK c0 (off0+j*7))∨∃j,j<k∧v=soK c (off+j*5)
theorem nm_ne {s:ByteArray}(h:nm s=true):s≠ByteArray.empty:=by
  rintro rfl
  unfold nm at h
  simp at h
theorem tk_sd {c0:Array Value}{off0 n:Nat}{c:Array Value}{off k:Nat}{es:Es}(h:KeysB c0 off0 n c off k es) (hn:∀j,j<n→nm (getStr c0 (off0+j*7))=true) :
    tkL es (soK c (off+k*5))=sdB c off (getInt c (off+k*5)) (getInt c (off+k*5+1)) (getInt c (off+k*5+2)) k 0:=by
  rw [Bool.eq_iff_iff]
  unfold tkL sdB
  rw [dec_iff,h,fst_iff2]
  constructor
  · rintro (⟨j,hj,e⟩ | ⟨j,hj,e⟩)
    · unfold nmK soK at e
      exact absurd (mkV_inj.1 e).1.symm (nm_ne (hn j hj))
    · refine ⟨j,by omega,by omega,?_⟩
      unfold soK at e
      obtain ⟨_,e0,e1,e2⟩:=mkV_inj.1 e
      unfold sdP
      rw [e0,e1,e2]
      simp
  · rintro ⟨j,_,hj,e⟩
    unfold sdP at e
    simp only [Bool.and_eq_true,decide_eq_true_eq]at e
    refine .inr ⟨j,by omega,?_⟩
    unfold soK
    rw [e.1,e.2.1,e.2.2]
theorem lastS_end {c:Array Value}{off:Nat}{x0:Int}:∀{m k:Nat}{l:Int},lastS c off x0 (m+1) k l=if getInt c (off+(k+m)*5)=x0 then ((k+m:Nat):Int) else lastS c off x0 m k l
  | 0,k,l=>rfl
  | m+1,k,l=>by
    have ih:=@lastS_end c off x0 m (k+1) (if getInt c (off+k*5)=x0 then (k:Int) else l)
    rw [show k+1+m=k+(m+1) by omega]at ih
    exact ih
theorem fl_last {c:Array Value}{off:Nat}{x0 x1 x2:Int}:∀{m:Nat},flS c off x0 x1 x2 m=true ↔
    0≤lastS c off x0 m 0 (-1)∧(x1<getInt c (off+(lastS c off x0 m 0 (-1)).toNat*5+1)∨x2<getInt c (off+(lastS c off x0 m 0 (-1)).toNat*5+2))
  | 0=>by simp [flS,lastS]
  | m+1=>by
    rw [lastS_end]
    simp only [flS,Nat.zero_add]
    by_cases h:getInt c (off+m*5)=x0
    · rw [if_pos h,if_pos h]
      simp only [Bool.or_eq_true,decide_eq_true_eq,Int.toNat_natCast]
      constructor
      · intro h;exact ⟨by omega,h⟩
      · intro h;exact h.2
    · rw [if_neg h,if_neg h]
      exact fl_last
theorem sqE_eq {c0:Array Value}{off0 n:Nat}{c:Array Value}{off k:Nat}{es:Es}(h:KeysB c0 off0 n c off k es) (hn:∀j,j<n→nm (getStr c0 (off0+j*7))=true) :
    sqE c0 off0 n c off k es=sdE c0 off0 n c off k:=by
  unfold sqE sdE sqF
  rw [tk_sd h hn]
  have hF:∀x0 x1 x2:Int,(flS c off x0 x1 x2 k=true)=(0≤lastS c off x0 k 0 (-1)∧(x1<getInt c (off+(lastS c off x0 k 0 (-1)).toNat*5+1)∨x2<getInt c (off+(lastS c off x0 k 0 (-1)).toNat*5+2))) :=
    fun x0 x1 x2=>propext fl_last
  simp only [hF]
  unfold sqR
  by_cases h1:inB (getInt c (off+k*5)) 0 ((n:Int)-1)=false
  · simp only [if_pos h1]
    rfl
  simp only [if_neg h1]
  split
  · rfl
  · rfl
theorem sqM_keys {c0:Array Value}{off0 n:Nat}{c:Array Value}{off k:Nat}{es:Es}(h:KeysB c0 off0 n c off k es) (hz:sqE c0 off0 n c off k es=0) :
    KeysB c0 off0 n c off (k+1) (sqM c0 off0 n c off k es):=by
  unfold sqE at hz
  unfold sqM
  by_cases h1:sqR c0 off0 n c (off+k*5)=0
  · rw [if_pos h1]at hz ⊢
    by_cases h2:tkL es (soK c (off+k*5))=true
    · rw [if_pos h2]at hz;omega
    rw [if_neg h2]
    intro v
    rw [keys_add,h]
    constructor
    · rintro ((e | ⟨j,hj,e⟩) | e)
      · exact .inl e
      · exact .inr ⟨j,by omega,e⟩
      · exact .inr ⟨k,by omega,e⟩
    · rintro (e | ⟨j,hj,e⟩)
      · exact .inl (.inl e)
      · rcases Nat.lt_or_ge j k with h3 | h3
        · exact .inl (.inr ⟨j,h3,e⟩)
        · obtain rfl:j=k:=by omega
          exact .inr e
  · rw [if_neg h1]at hz
    exact absurd hz h1
def sdQ (c0:Array Value)(off0 n:Nat)(c:Array Value)(off k:Nat):Bool:=!decide (sdE c0 off0 n c off k=0)
theorem sbR_eq {c0:Array Value}{off0 n:Nat}{c:Array Value}{off:Nat}(hn:∀j,j<n→nm (getStr c0 (off0+j*7))=true):∀{m k:Nat}{es:Es},KeysB c0 off0 n c off k es →
    (fst (sdQ c0 off0 n c off) m k=none∧(sbR c0 off0 n c off m k es).bad=false) ∨
    (∃i,fst (sdQ c0 off0 n c off) m k=some i∧(sbR c0 off0 n c off m k es).bad=true∧(sbR c0 off0 n c off m k es).ix=i∧(sbR c0 off0 n c off m k es).err=sdE c0 off0 n c off i)
  | 0,k,es,h=>.inl ⟨rfl,rfl⟩
  | m+1,k,es,h=>by
    have hE:=sqE_eq h hn
    by_cases hz:sqE c0 off0 n c off k es=0
    · have hq:sdQ c0 off0 n c off k=false:=by unfold sdQ;rw [← hE,hz];rfl
      have hs:sbR c0 off0 n c off (m+1) k es=sbR c0 off0 n c off m (k+1) (sqM c0 off0 n c off k es):=by simp only [sbR,if_pos hz]
      rw [hs,fst_miss hq]
      exact sbR_eq hn (sqM_keys h hz)
    · have hq:sdQ c0 off0 n c off k=true:=by unfold sdQ;rw [← hE,decide_eq_false hz];rfl
      have hs:sbR c0 off0 n c off (m+1) k es=⟨true,k,sqE c0 off0 n c off k es,sqM c0 off0 n c off k es⟩:=by simp only [sbR,if_neg hz]
      rw [hs,fst_hit hq]
      exact .inr ⟨k,rfl,rfl,rfl,hE⟩
theorem cuR_eq {c:Array Value}{off:Nat}:∀{m k:Nat}{fr:Int},fr=(if k=0 then 0 else getInt c (off+(k-1))) →
    (fst (tmP c off) m k=none∧(cuR c off m k fr).bad=false) ∨
    (∃i,fst (tmP c off) m k=some i∧(cuR c off m k fr).bad=true∧(cuR c off m k fr).ix=i∧(cuR c off m k fr).err=tmE c off i)
  | 0,k,fr,h=>.inl ⟨rfl,rfl⟩
  | m+1,k,fr,h=>by
    have hE:cuE c off k fr=tmE c off k:=by
      unfold cuE tmE
      by_cases h1:inB (getInt c (off+k)) 1 100000000=false
      · rw [if_pos h1,if_pos h1]
      rw [if_neg h1,if_neg h1]
      by_cases h0:k=0
      · subst h0
        simp only [if_true]at h
        have hb:¬getInt c (off+0)≤fr:=by
          unfold inB at h1
          simp only [Bool.and_eq_false_iff,decide_eq_false_iff_not]at h1
          omega
        rw [if_neg hb,if_neg (fun h=>absurd h.1 (Nat.lt_irrefl 0))]
      · rw [if_neg h0]at h
        subst h
        have:(0<k∧getInt c (off+k)≤getInt c (off+(k-1)))=(getInt c (off+k)≤getInt c (off+(k-1))):=propext ⟨fun h=>h.2,fun h=>⟨by omega,h⟩⟩
        simp only [this]
    by_cases hz:cuE c off k fr=0
    · have hq:tmP c off k=false:=by unfold tmP;rw [← hE,hz];rfl
      have hs:cuR c off (m+1) k fr=cuR c off m (k+1) (getInt c (off+k)):=by simp only [cuR,if_pos hz]
      rw [hs,fst_miss hq]
      exact cuR_eq (by rw [if_neg (by omega)];rfl)
    · have hq:tmP c off k=true:=by unfold tmP;rw [← hE,decide_eq_false hz];rfl
      have hs:cuR c off (m+1) k fr=⟨true,k,cuE c off k fr⟩:=by simp only [cuR,if_neg hz]
      rw [hs,fst_hit hq]
      exact .inr ⟨k,rfl,rfl,rfl,hE⟩
theorem sa_ck (c:Array Value)(off n:Nat) :
    (fB (srQ c off) n 0=false∧saB c off n 0 []=false∧KeysA c off n (saM c off n 0 [])∧(∀j,j<n→nm (getStr c (off+j*7))=true)) ∨
    (fB (srQ c off) n 0=true∧saB c off n 0 []=true∧saI c off n 0 []=fI (srQ c off) n 0∧saE c off n 0 []=srcE c off (fI (srQ c off) n 0)):=by
  unfold fB fI saB saI saE saM
  rcases saR_eq (m:=n) (keysA_nil (c:=c) (off:=off)) with ⟨h1,h2,h3,h4⟩ | ⟨i,h1,h2,h3,h4⟩
  · rw [h1]
    rw [Nat.zero_add]at h3
    exact .inl ⟨rfl,h2,h3,fun j hj=>h4 j (Nat.zero_le _) (by omega)⟩
  · rw [h1]
    exact .inr ⟨rfl,h2,h3,h4⟩
theorem keysB_of {c0:Array Value}{off0 n:Nat}{c:Array Value}{off:Nat}{es:Es}(h:KeysA c0 off0 n es):KeysB c0 off0 n c off 0 es:=by
  intro v
  rw [h]
  constructor
  · intro h;exact .inl h
  · rintro (h | ⟨j,h,_⟩)
    · exact h
    · omega
theorem sb_ck {c0:Array Value}{off0 n:Nat}(c:Array Value) (off n2:Nat) {es:Es}(h:KeysA c0 off0 n es) (hn:∀j,j<n→nm (getStr c0 (off0+j*7))=true) :
    (fB (sdQ c0 off0 n c off) n2 0=false∧sbB c0 off0 n c off n2 0 es=false) ∨
    (fB (sdQ c0 off0 n c off) n2 0=true∧sbB c0 off0 n c off n2 0 es=true∧sbI c0 off0 n c off n2 0 es=fI (sdQ c0 off0 n c off) n2 0∧sbE c0 off0 n c off n2 0 es=sdE c0 off0 n c off (fI (sdQ c0 off0 n c off) n2 0)):=by
  unfold fB fI sbB sbI sbE
  rcases sbR_eq hn (m:=n2) (keysB_of (c:=c) (off:=off) h) with ⟨h1,h2⟩ | ⟨i,h1,h2,h3,h4⟩
  · rw [h1]
    exact .inl ⟨rfl,h2⟩
  · rw [h1]
    exact .inr ⟨rfl,h2,h3,h4⟩
theorem cu_ck (c:Array Value)(off n:Nat) :
    (fB (tmP c off) n 0=false∧cuB c off n 0 0=false) ∨
    (fB (tmP c off) n 0=true∧cuB c off n 0 0=true∧cuI c off n 0 0=fI (tmP c off) n 0∧cuX c off n 0 0=tmE c off (fI (tmP c off) n 0)):=by
  unfold fB fI cuB cuI cuX
  rcases cuR_eq (c:=c) (off:=off) (m:=n) (k:=0) (fr:=0) rfl with ⟨h1,h2⟩ | ⟨i,h1,h2,h3,h4⟩
  · rw [h1]
    exact .inl ⟨rfl,h2⟩
  · rw [h1]
    exact .inr ⟨rfl,h2,h3,h4⟩
end
end Go.Proofs.Ytfnogghclaijlaa.Old
namespace Go.Proofs.Ytfnogghclaijlaa.Old
open Go.Gi Go.RowKit
noncomputable section
set_option maxRecDepth 100000
theorem tree20m (J J2 J3:Task→List Value)(c0 c c3:Array Value)(off0 off off3:Nat)(n n2 n3:Nat)(age shear:Int) :
    evC Try.prog ((sh20a.ans J).or ((sh20b.ans J2).or (sh20c.ans J3))).c 60 (.call 20 ⟨[.agg ⟨[.slice (some ⟨0,off0,none⟩) n 7,.slice (some ⟨1,off,none⟩) n2 5,.slice (some ⟨2,off3,none⟩) n3 1,.int .i64 age,.int .i64 shear]⟩]⟩ ⟨[.cells c0 true,.cells c true,.cells c3 true],3,[]⟩) some =
    cond (decide ((6:Int)<(Int.ofNat n))) (some (Out.ret (.tuple ⟨[(.int .i64 (1:Int)),(.int .i64 (0:Int)),(.int .i64 (3:Int))]⟩) (Hp.mk [(Ob.cells c0 true),(Ob.cells c true),(Ob.cells c3 true)] 3 []))) (cond (decide ((60:Int)<(Int.ofNat n2))) (some (Out.ret (.tuple ⟨[(.int .i64 (1:Int)),(.int .i64 (0:Int)),(.int .i64 (3:Int))]⟩) (Hp.mk [(Ob.cells c0 true),(Ob.cells c true),(Ob.cells c3 true)] 3 []))) (cond (decide ((Int.ofNat n3)<(1:Int))) (some (Out.ret (.tuple ⟨[(.int .i64 (1:Int)),(.int .i64 (0:Int)),(.int .i64 (3:Int))]⟩) (Hp.mk [(Ob.cells c0 true),(Ob.cells c true),(Ob.cells c3 true)] 3 []))) (cond (decide ((20:Int)<(Int.ofNat n3))) (some (Out.ret (.tuple ⟨[(.int .i64 (1:Int)),(.int .i64 (0:Int)),(.int .i64 (3:Int))]⟩) (Hp.mk [(Ob.cells c0 true),(Ob.cells c true),(Ob.cells c3 true)] 3 []))) (cond (eqCode (theLoop Try.prog 20 0) (theLoop Try.prog 20 0))
 (cond (okA20 c0 off0 n (some (Addr.mk 1 off none)) (some (Addr.mk 2 off3 none)) n2 5 n3 1 (Ob.cells c true) (Ob.cells c3 true) (Int.ofNat n) (0:Int) off0 n) (cond (okM []) (cond (saB c0 off0 (n-0) 0 []) (some (Out.ret (.tuple ⟨[(.int .i64 (2:Int)),(.int .i64 (Int.ofNat (saI c0 off0 (n-0) 0 []))),(.int .i64 (saE c0 off0 (n-0) 0 []))]⟩) (Hp.mk [(Ob.cells c0 true),(Ob.cells c true),(Ob.cells c3 true)] 3 []))) (cond (eqCode (theLoop Try.prog 20 1) (theLoop Try.prog 20 1)) (cond (okA20b c0 off0 n c off n2 (some (Addr.mk 2 off3 none)) n3 1 (Ob.cells c3 true) (Int.ofNat n2) (0:Int) (saM c0 off0 (n-0) 0 [])) (cond (sbB c0 off0 n c off (n2-0) 0 (saM c0 off0 (n-0) 0 [])) (some (Out.ret (.tuple ⟨[(.int .i64 (3:Int)),(.int .i64 (Int.ofNat (sbI c0 off0 n c off (n2-0) 0 (saM c0 off0 (n-0) 0 [])))),(.int .i64 (sbE c0 off0 n c off (n2-0) 0 (saM c0 off0 (n-0) 0 [])))]⟩) (Hp.mk [(Ob.cells c0 true),(Ob.cells c true),(Ob.cells c3 true)] 3 [])))
 (cond (eqCode (theLoop Try.prog 20 2) (theLoop Try.prog 20 2)) (cond (okA20c c3 off3 n3 (some (Addr.mk 0 off0 none)) (some (Addr.mk 1 off none)) n 7 n2 5 (Ob.cells c0 true) (Ob.cells c true) (Int.ofNat n3) (0:Int) off3 n3 (sbM c0 off0 n c off (n2-0) 0 (saM c0 off0 (n-0) 0 []))) (cond (cuB c3 off3 (n3-0) 0 (0:Int)) (some (Out.ret (.tuple ⟨[(.int .i64 (4:Int)),(.int .i64 (Int.ofNat (cuI c3 off3 (n3-0) 0 (0:Int)))),(.int .i64 (cuX c3 off3 (n3-0) 0 (0:Int)))]⟩) (Hp.mk [(Ob.cells c0 true),(Ob.cells c true),(Ob.cells c3 true)] 3 []))) (cond (decide ((0:Int)≤age)) (cond (not (decide (age≤(1000:Int)))) (some (Out.ret (.tuple ⟨[(.int .i64 (5:Int)),(.int .i64 (0:Int)),(.int .i64 (7:Int))]⟩) (Hp.mk [(Ob.cells c0 true),(Ob.cells c true),(Ob.cells c3 true)] 3 []))) (cond (decide ((0:Int)≤shear)) (cond (not (decide (shear≤(1000:Int)))) (some (Out.ret (.tuple ⟨[(.int .i64 (5:Int)),(.int .i64 (0:Int)),(.int .i64 (7:Int))]⟩) (Hp.mk [(Ob.cells c0 true),(Ob.cells c true),(Ob.cells c3 true)] 3 [])))
 (some (Out.ret (.tuple ⟨[(.int .i64 (0:Int)),(.int .i64 (0:Int)),(.int .i64 (0:Int))]⟩) (Hp.mk [(Ob.cells c0 true),(Ob.cells c true),(Ob.cells c3 true)] 3 [])))) (some (Out.ret (.tuple ⟨[(.int .i64 (5:Int)),(.int .i64 (0:Int)),(.int .i64 (7:Int))]⟩) (Hp.mk [(Ob.cells c0 true),(Ob.cells c true),(Ob.cells c3 true)] 3 []))))) (some (Out.ret (.tuple ⟨[(.int .i64 (5:Int)),(.int .i64 (0:Int)),(.int .i64 (7:Int))]⟩) (Hp.mk [(Ob.cells c0 true),(Ob.cells c true),(Ob.cells c3 true)] 3 [])))))
 none)
 none))
 none)
 none))
 none)
 none)
 none)))):=by kernel_rfl
theorem tree20p (J J3:Task→List Value)(c0 c3:Array Value)(off0 off3:Nat)(b:Option Addr)(n z2 n3:Nat)(age shear:Int) :
    evC Try.prog ((sh20a.ans J).or (sh20c.ans J3)).c 60 (.call 20 ⟨[.agg ⟨[.slice (some ⟨0,off0,none⟩) n 7,.slice b 0 z2,.slice (some ⟨2,off3,none⟩) n3 1,.int .i64 age,.int .i64 shear]⟩]⟩ ⟨[.cells c0 true,.dead,.cells c3 true],3,[]⟩) some =
    cond (decide ((6:Int)<(Int.ofNat n))) (some (Out.ret (.tuple ⟨[(.int .i64 (1:Int)),(.int .i64 (0:Int)),(.int .i64 (3:Int))]⟩) (Hp.mk [(Ob.cells c0 true),Ob.dead,(Ob.cells c3 true)] 3 []))) (cond (decide ((Int.ofNat n3)<(1:Int))) (some (Out.ret (.tuple ⟨[(.int .i64 (1:Int)),(.int .i64 (0:Int)),(.int .i64 (3:Int))]⟩) (Hp.mk [(Ob.cells c0 true),Ob.dead,(Ob.cells c3 true)] 3 []))) (cond (decide ((20:Int)<(Int.ofNat n3))) (some (Out.ret (.tuple ⟨[(.int .i64 (1:Int)),(.int .i64 (0:Int)),(.int .i64 (3:Int))]⟩) (Hp.mk [(Ob.cells c0 true),Ob.dead,(Ob.cells c3 true)] 3 []))) (cond (eqCode (theLoop Try.prog 20 0) (theLoop Try.prog 20 0)) (cond (okA20 c0 off0 n b (some (Addr.mk 2 off3 none)) 0 z2 n3 1 Ob.dead (Ob.cells c3 true) (Int.ofNat n) (0:Int) off0 n) (cond (okM []) (cond (saB c0 off0 (n-0) 0 [])
 (some (Out.ret (.tuple ⟨[(.int .i64 (2:Int)),(.int .i64 (Int.ofNat (saI c0 off0 (n-0) 0 []))),(.int .i64 (saE c0 off0 (n-0) 0 []))]⟩) (Hp.mk [(Ob.cells c0 true),Ob.dead,(Ob.cells c3 true)] 3 []))) (cond (eqCode (theLoop Try.prog 20 2) (theLoop Try.prog 20 2)) (cond (okA20c c3 off3 n3 (some (Addr.mk 0 off0 none)) b n 7 0 z2 (Ob.cells c0 true) Ob.dead (Int.ofNat n3) (0:Int) off3 n3 (saM c0 off0 (n-0) 0 [])) (cond (cuB c3 off3 (n3-0) 0 (0:Int)) (some (Out.ret (.tuple ⟨[(.int .i64 (4:Int)),(.int .i64 (Int.ofNat (cuI c3 off3 (n3-0) 0 (0:Int)))),(.int .i64 (cuX c3 off3 (n3-0) 0 (0:Int)))]⟩) (Hp.mk [(Ob.cells c0 true),Ob.dead,(Ob.cells c3 true)] 3 []))) (cond (decide ((0:Int)≤age)) (cond (not (decide (age≤(1000:Int)))) (some (Out.ret (.tuple ⟨[(.int .i64 (5:Int)),(.int .i64 (0:Int)),(.int .i64 (7:Int))]⟩) (Hp.mk [(Ob.cells c0 true),Ob.dead,(Ob.cells c3 true)] 3 []))) (cond (decide ((0:Int)≤shear)) (cond (not (decide (shear≤(1000:Int))))
 (some (Out.ret (.tuple ⟨[(.int .i64 (5:Int)),(.int .i64 (0:Int)),(.int .i64 (7:Int))]⟩) (Hp.mk [(Ob.cells c0 true),Ob.dead,(Ob.cells c3 true)] 3 []))) (some (Out.ret (.tuple ⟨[(.int .i64 (0:Int)),(.int .i64 (0:Int)),(.int .i64 (0:Int))]⟩) (Hp.mk [(Ob.cells c0 true),Ob.dead,(Ob.cells c3 true)] 3 [])))) (some (Out.ret (.tuple ⟨[(.int .i64 (5:Int)),(.int .i64 (0:Int)),(.int .i64 (7:Int))]⟩) (Hp.mk [(Ob.cells c0 true),Ob.dead,(Ob.cells c3 true)] 3 []))))) (some (Out.ret (.tuple ⟨[(.int .i64 (5:Int)),(.int .i64 (0:Int)),(.int .i64 (7:Int))]⟩) (Hp.mk [(Ob.cells c0 true),Ob.dead,(Ob.cells c3 true)] 3 [])))))
 none)
 none))
 none)
 none)
 none))):=by kernel_rfl
theorem tree20q0 (J3:Task→List Value)(c c3:Array Value)(off off3:Nat)(z n2 n3:Nat)(age shear:Int) :
    evC Try.prog (sh20c.ans J3).c 60 (.call 20 ⟨[.agg ⟨[.slice none 0 z,.slice (some ⟨1,off,none⟩) n2 5,.slice (some ⟨2,off3,none⟩) n3 1,.int .i64 age,.int .i64 shear]⟩]⟩ ⟨[.dead,.cells c true,.cells c3 true],3,[]⟩) some =
    cond (decide ((60:Int)<(Int.ofNat n2))) (some (Out.ret (.tuple ⟨[(.int .i64 (1:Int)),(.int .i64 (0:Int)),(.int .i64 (3:Int))]⟩) (Hp.mk [Ob.dead,(Ob.cells c true),(Ob.cells c3 true)] 3 []))) (cond (decide ((Int.ofNat n3)<(1:Int))) (some (Out.ret (.tuple ⟨[(.int .i64 (1:Int)),(.int .i64 (0:Int)),(.int .i64 (3:Int))]⟩) (Hp.mk [Ob.dead,(Ob.cells c true),(Ob.cells c3 true)] 3 []))) (cond (decide ((20:Int)<(Int.ofNat n3))) (some (Out.ret (.tuple ⟨[(.int .i64 (1:Int)),(.int .i64 (0:Int)),(.int .i64 (3:Int))]⟩) (Hp.mk [Ob.dead,(Ob.cells c true),(Ob.cells c3 true)] 3 []))) (cond (decide ((0:Int)<(Int.ofNat n2))) (cond (and true (decide ((0:Int)<(Int.ofNat n2)))) (cond (and true (rdOk c [(Leaf.int .i64),(Leaf.int .i64),(Leaf.int .i64),(Leaf.int .i64),(Leaf.int .i64)] (off+0))) (cond (decide ((getInt c (off+0))<(0:Int))) (some (Out.ret (.tuple ⟨[(.int .i64 (3:Int)),(.int .i64 (0:Int)),(.int .i64 (4:Int))]⟩) (Hp.mk [Ob.dead,(Ob.cells c true),(Ob.cells c3 true)] 3 [])))
 (cond (decide ((0:Int)≤(getInt c (off+0)))) (some (Out.ret (.tuple ⟨[(.int .i64 (3:Int)),(.int .i64 (0:Int)),(.int .i64 (4:Int))]⟩) (Hp.mk [Ob.dead,(Ob.cells c true),(Ob.cells c3 true)] 3 [])))
 none))
 none)
 none) (cond (eqCode (theLoop Try.prog 20 2) (theLoop Try.prog 20 2)) (cond (okA20c c3 off3 n3 none (some (Addr.mk 1 off none)) 0 z n2 5 Ob.dead (Ob.cells c true) (Int.ofNat n3) (0:Int) off3 n3 []) (cond (cuB c3 off3 (n3-0) 0 (0:Int)) (some (Out.ret (.tuple ⟨[(.int .i64 (4:Int)),(.int .i64 (Int.ofNat (cuI c3 off3 (n3-0) 0 (0:Int)))),(.int .i64 (cuX c3 off3 (n3-0) 0 (0:Int)))]⟩) (Hp.mk [Ob.dead,(Ob.cells c true),(Ob.cells c3 true)] 3 []))) (cond (decide ((0:Int)≤age)) (cond (not (decide (age≤(1000:Int)))) (some (Out.ret (.tuple ⟨[(.int .i64 (5:Int)),(.int .i64 (0:Int)),(.int .i64 (7:Int))]⟩) (Hp.mk [Ob.dead,(Ob.cells c true),(Ob.cells c3 true)] 3 []))) (cond (decide ((0:Int)≤shear)) (cond (not (decide (shear≤(1000:Int)))) (some (Out.ret (.tuple ⟨[(.int .i64 (5:Int)),(.int .i64 (0:Int)),(.int .i64 (7:Int))]⟩) (Hp.mk [Ob.dead,(Ob.cells c true),(Ob.cells c3 true)] 3 [])))
 (some (Out.ret (.tuple ⟨[(.int .i64 (0:Int)),(.int .i64 (0:Int)),(.int .i64 (0:Int))]⟩) (Hp.mk [Ob.dead,(Ob.cells c true),(Ob.cells c3 true)] 3 [])))) (some (Out.ret (.tuple ⟨[(.int .i64 (5:Int)),(.int .i64 (0:Int)),(.int .i64 (7:Int))]⟩) (Hp.mk [Ob.dead,(Ob.cells c true),(Ob.cells c3 true)] 3 []))))) (some (Out.ret (.tuple ⟨[(.int .i64 (5:Int)),(.int .i64 (0:Int)),(.int .i64 (7:Int))]⟩) (Hp.mk [Ob.dead,(Ob.cells c true),(Ob.cells c3 true)] 3 [])))))
 none)
 none)))):=by kernel_rfl
theorem tree20q1 (J3:Task→List Value)(c c3:Array Value)(off off3:Nat)(off0 z n2 n3:Nat)(age shear:Int) :
    evC Try.prog (sh20c.ans J3).c 60 (.call 20 ⟨[.agg ⟨[.slice (some ⟨0,off0,none⟩) 0 z,.slice (some ⟨1,off,none⟩) n2 5,.slice (some ⟨2,off3,none⟩) n3 1,.int .i64 age,.int .i64 shear]⟩]⟩ ⟨[.dead,.cells c true,.cells c3 true],3,[]⟩) some =
    cond (decide ((60:Int)<(Int.ofNat n2))) (some (Out.ret (.tuple ⟨[(.int .i64 (1:Int)),(.int .i64 (0:Int)),(.int .i64 (3:Int))]⟩) (Hp.mk [Ob.dead,(Ob.cells c true),(Ob.cells c3 true)] 3 []))) (cond (decide ((Int.ofNat n3)<(1:Int))) (some (Out.ret (.tuple ⟨[(.int .i64 (1:Int)),(.int .i64 (0:Int)),(.int .i64 (3:Int))]⟩) (Hp.mk [Ob.dead,(Ob.cells c true),(Ob.cells c3 true)] 3 []))) (cond (decide ((20:Int)<(Int.ofNat n3))) (some (Out.ret (.tuple ⟨[(.int .i64 (1:Int)),(.int .i64 (0:Int)),(.int .i64 (3:Int))]⟩) (Hp.mk [Ob.dead,(Ob.cells c true),(Ob.cells c3 true)] 3 []))) (cond (decide ((0:Int)<(Int.ofNat n2))) (cond (and true (decide ((0:Int)<(Int.ofNat n2)))) (cond (and true (rdOk c [(Leaf.int .i64),(Leaf.int .i64),(Leaf.int .i64),(Leaf.int .i64),(Leaf.int .i64)] (off+0))) (cond (decide ((getInt c (off+0))<(0:Int))) (some (Out.ret (.tuple ⟨[(.int .i64 (3:Int)),(.int .i64 (0:Int)),(.int .i64 (4:Int))]⟩) (Hp.mk [Ob.dead,(Ob.cells c true),(Ob.cells c3 true)] 3 [])))
 (cond (decide ((0:Int)≤(getInt c (off+0)))) (some (Out.ret (.tuple ⟨[(.int .i64 (3:Int)),(.int .i64 (0:Int)),(.int .i64 (4:Int))]⟩) (Hp.mk [Ob.dead,(Ob.cells c true),(Ob.cells c3 true)] 3 []))) (cond (and (decide ((0:Int)≤(getInt c (off+0)))) (decide ((getInt c (off+0))<(0:Int)))) (none)
 none)))
 none)
 none) (cond (eqCode (theLoop Try.prog 20 2) (theLoop Try.prog 20 2)) (cond (okA20c c3 off3 n3 (some (Addr.mk 0 off0 none)) (some (Addr.mk 1 off none)) 0 z n2 5 Ob.dead (Ob.cells c true) (Int.ofNat n3) (0:Int) off3 n3 []) (cond (cuB c3 off3 (n3-0) 0 (0:Int)) (some (Out.ret (.tuple ⟨[(.int .i64 (4:Int)),(.int .i64 (Int.ofNat (cuI c3 off3 (n3-0) 0 (0:Int)))),(.int .i64 (cuX c3 off3 (n3-0) 0 (0:Int)))]⟩) (Hp.mk [Ob.dead,(Ob.cells c true),(Ob.cells c3 true)] 3 []))) (cond (decide ((0:Int)≤age)) (cond (not (decide (age≤(1000:Int)))) (some (Out.ret (.tuple ⟨[(.int .i64 (5:Int)),(.int .i64 (0:Int)),(.int .i64 (7:Int))]⟩) (Hp.mk [Ob.dead,(Ob.cells c true),(Ob.cells c3 true)] 3 []))) (cond (decide ((0:Int)≤shear)) (cond (not (decide (shear≤(1000:Int)))) (some (Out.ret (.tuple ⟨[(.int .i64 (5:Int)),(.int .i64 (0:Int)),(.int .i64 (7:Int))]⟩) (Hp.mk [Ob.dead,(Ob.cells c true),(Ob.cells c3 true)] 3 [])))
 (some (Out.ret (.tuple ⟨[(.int .i64 (0:Int)),(.int .i64 (0:Int)),(.int .i64 (0:Int))]⟩) (Hp.mk [Ob.dead,(Ob.cells c true),(Ob.cells c3 true)] 3 [])))) (some (Out.ret (.tuple ⟨[(.int .i64 (5:Int)),(.int .i64 (0:Int)),(.int .i64 (7:Int))]⟩) (Hp.mk [Ob.dead,(Ob.cells c true),(Ob.cells c3 true)] 3 []))))) (some (Out.ret (.tuple ⟨[(.int .i64 (5:Int)),(.int .i64 (0:Int)),(.int .i64 (7:Int))]⟩) (Hp.mk [Ob.dead,(Ob.cells c true),(Ob.cells c3 true)] 3 [])))))
 none)
 none)))):=by kernel_rfl
theorem tree20q2 (J3:Task→List Value)(c c3:Array Value)(off off3:Nat)(sp:Nat)(off0 z n2 n3:Nat)(age shear:Int) :
    evC Try.prog (sh20c.ans J3).c 60 (.call 20 ⟨[.agg ⟨[.slice (some ⟨0,off0,some sp⟩) 0 z,.slice (some ⟨1,off,none⟩) n2 5,.slice (some ⟨2,off3,none⟩) n3 1,.int .i64 age,.int .i64 shear]⟩]⟩ ⟨[.dead,.cells c true,.cells c3 true],3,[]⟩) some =
    cond (decide ((60:Int)<(Int.ofNat n2))) (some (Out.ret (.tuple ⟨[(.int .i64 (1:Int)),(.int .i64 (0:Int)),(.int .i64 (3:Int))]⟩) (Hp.mk [Ob.dead,(Ob.cells c true),(Ob.cells c3 true)] 3 []))) (cond (decide ((Int.ofNat n3)<(1:Int))) (some (Out.ret (.tuple ⟨[(.int .i64 (1:Int)),(.int .i64 (0:Int)),(.int .i64 (3:Int))]⟩) (Hp.mk [Ob.dead,(Ob.cells c true),(Ob.cells c3 true)] 3 []))) (cond (decide ((20:Int)<(Int.ofNat n3))) (some (Out.ret (.tuple ⟨[(.int .i64 (1:Int)),(.int .i64 (0:Int)),(.int .i64 (3:Int))]⟩) (Hp.mk [Ob.dead,(Ob.cells c true),(Ob.cells c3 true)] 3 []))) (cond (decide ((0:Int)<(Int.ofNat n2))) (cond (and true (decide ((0:Int)<(Int.ofNat n2)))) (cond (and true (rdOk c [(Leaf.int .i64),(Leaf.int .i64),(Leaf.int .i64),(Leaf.int .i64),(Leaf.int .i64)] (off+0))) (cond (decide ((getInt c (off+0))<(0:Int))) (some (Out.ret (.tuple ⟨[(.int .i64 (3:Int)),(.int .i64 (0:Int)),(.int .i64 (4:Int))]⟩) (Hp.mk [Ob.dead,(Ob.cells c true),(Ob.cells c3 true)] 3 [])))
 (cond (decide ((0:Int)≤(getInt c (off+0)))) (some (Out.ret (.tuple ⟨[(.int .i64 (3:Int)),(.int .i64 (0:Int)),(.int .i64 (4:Int))]⟩) (Hp.mk [Ob.dead,(Ob.cells c true),(Ob.cells c3 true)] 3 [])))
 none))
 none)
 none) (cond (eqCode (theLoop Try.prog 20 2) (theLoop Try.prog 20 2)) (cond (okA20c c3 off3 n3 (some (Addr.mk 0 off0 (some sp))) (some (Addr.mk 1 off none)) 0 z n2 5 Ob.dead (Ob.cells c true) (Int.ofNat n3) (0:Int) off3 n3 []) (cond (cuB c3 off3 (n3-0) 0 (0:Int)) (some (Out.ret (.tuple ⟨[(.int .i64 (4:Int)),(.int .i64 (Int.ofNat (cuI c3 off3 (n3-0) 0 (0:Int)))),(.int .i64 (cuX c3 off3 (n3-0) 0 (0:Int)))]⟩) (Hp.mk [Ob.dead,(Ob.cells c true),(Ob.cells c3 true)] 3 []))) (cond (decide ((0:Int)≤age)) (cond (not (decide (age≤(1000:Int)))) (some (Out.ret (.tuple ⟨[(.int .i64 (5:Int)),(.int .i64 (0:Int)),(.int .i64 (7:Int))]⟩) (Hp.mk [Ob.dead,(Ob.cells c true),(Ob.cells c3 true)] 3 []))) (cond (decide ((0:Int)≤shear)) (cond (not (decide (shear≤(1000:Int)))) (some (Out.ret (.tuple ⟨[(.int .i64 (5:Int)),(.int .i64 (0:Int)),(.int .i64 (7:Int))]⟩) (Hp.mk [Ob.dead,(Ob.cells c true),(Ob.cells c3 true)] 3 [])))
 (some (Out.ret (.tuple ⟨[(.int .i64 (0:Int)),(.int .i64 (0:Int)),(.int .i64 (0:Int))]⟩) (Hp.mk [Ob.dead,(Ob.cells c true),(Ob.cells c3 true)] 3 [])))) (some (Out.ret (.tuple ⟨[(.int .i64 (5:Int)),(.int .i64 (0:Int)),(.int .i64 (7:Int))]⟩) (Hp.mk [Ob.dead,(Ob.cells c true),(Ob.cells c3 true)] 3 []))))) (some (Out.ret (.tuple ⟨[(.int .i64 (5:Int)),(.int .i64 (0:Int)),(.int .i64 (7:Int))]⟩) (Hp.mk [Ob.dead,(Ob.cells c true),(Ob.cells c3 true)] 3 [])))))
 none)
 none)))):=by kernel_rfl
theorem tree20r (J3:Task→List Value)(c3:Array Value)(off3:Nat)(a b:Option Addr)(z z2 n3:Nat)(age shear:Int) :
    evC Try.prog (sh20c.ans J3).c 60 (.call 20 ⟨[.agg ⟨[.slice a 0 z,.slice b 0 z2,.slice (some ⟨2,off3,none⟩) n3 1,.int .i64 age,.int .i64 shear]⟩]⟩ ⟨[.dead,.dead,.cells c3 true],3,[]⟩) some =
    cond (decide ((Int.ofNat n3)<(1:Int))) (some (Out.ret (.tuple ⟨[(.int .i64 (1:Int)),(.int .i64 (0:Int)),(.int .i64 (3:Int))]⟩) (Hp.mk [Ob.dead,Ob.dead,(Ob.cells c3 true)] 3 []))) (cond (decide ((20:Int)<(Int.ofNat n3))) (some (Out.ret (.tuple ⟨[(.int .i64 (1:Int)),(.int .i64 (0:Int)),(.int .i64 (3:Int))]⟩) (Hp.mk [Ob.dead,Ob.dead,(Ob.cells c3 true)] 3 []))) (cond (eqCode (theLoop Try.prog 20 2) (theLoop Try.prog 20 2)) (cond (okA20c c3 off3 n3 a b 0 z 0 z2 Ob.dead Ob.dead (Int.ofNat n3) (0:Int) off3 n3 []) (cond (cuB c3 off3 (n3-0) 0 (0:Int)) (some (Out.ret (.tuple ⟨[(.int .i64 (4:Int)),(.int .i64 (Int.ofNat (cuI c3 off3 (n3-0) 0 (0:Int)))),(.int .i64 (cuX c3 off3 (n3-0) 0 (0:Int)))]⟩) (Hp.mk [Ob.dead,Ob.dead,(Ob.cells c3 true)] 3 []))) (cond (decide ((0:Int)≤age)) (cond (not (decide (age≤(1000:Int)))) (some (Out.ret (.tuple ⟨[(.int .i64 (5:Int)),(.int .i64 (0:Int)),(.int .i64 (7:Int))]⟩) (Hp.mk [Ob.dead,Ob.dead,(Ob.cells c3 true)] 3 []))) (cond (decide ((0:Int)≤shear))
 (cond (not (decide (shear≤(1000:Int)))) (some (Out.ret (.tuple ⟨[(.int .i64 (5:Int)),(.int .i64 (0:Int)),(.int .i64 (7:Int))]⟩) (Hp.mk [Ob.dead,Ob.dead,(Ob.cells c3 true)] 3 []))) (some (Out.ret (.tuple ⟨[(.int .i64 (0:Int)),(.int .i64 (0:Int)),(.int .i64 (0:Int))]⟩) (Hp.mk [Ob.dead,Ob.dead,(Ob.cells c3 true)] 3 [])))) (some (Out.ret (.tuple ⟨[(.int .i64 (5:Int)),(.int .i64 (0:Int)),(.int .i64 (7:Int))]⟩) (Hp.mk [Ob.dead,Ob.dead,(Ob.cells c3 true)] 3 []))))) (some (Out.ret (.tuple ⟨[(.int .i64 (5:Int)),(.int .i64 (0:Int)),(.int .i64 (7:Int))]⟩) (Hp.mk [Ob.dead,Ob.dead,(Ob.cells c3 true)] 3 [])))))
 none)
 none)):=by kernel_rfl
theorem tree20z (a b d:Option Addr)(n z n2 z2 z3:Nat)(age shear:Int) :
    evC Try.prog (Ans.c fun _=>none) 60 (.call 20 ⟨[.agg ⟨[.slice a n z,.slice b n2 z2,.slice d 0 z3,.int .i64 age,.int .i64 shear]⟩]⟩ ⟨[.dead,.dead,.dead],3,[]⟩) some =
    cond (decide ((6:Int)<(Int.ofNat n))) (some (Out.ret (.tuple ⟨[(.int .i64 (1:Int)),(.int .i64 (0:Int)),(.int .i64 (3:Int))]⟩) (Hp.mk [Ob.dead,Ob.dead,Ob.dead] 3 []))) (cond (decide ((60:Int)<(Int.ofNat n2))) (some (Out.ret (.tuple ⟨[(.int .i64 (1:Int)),(.int .i64 (0:Int)),(.int .i64 (3:Int))]⟩) (Hp.mk [Ob.dead,Ob.dead,Ob.dead] 3 []))) (some (Out.ret (.tuple ⟨[(.int .i64 (1:Int)),(.int .i64 (0:Int)),(.int .i64 (3:Int))]⟩) (Hp.mk [Ob.dead,Ob.dead,Ob.dead] 3 [])))):=by kernel_rfl
theorem srP_eq (a:Option Addr)(H:List Ob):srP a H=srQ (arrOf a H) (offOf a):=rfl
theorem soP_eq (a b:Option Addr)(n:Nat)(H:List Ob):soP a b n H=sdQ (arrOf a H) (offOf a) n (arrOf b H) (offOf b):=rfl
theorem srE_eq (a:Option Addr)(H:List Ob)(k:Nat):srE a H k=srcE (arrOf a H) (offOf a) k:=rfl
theorem soE_eq (a b:Option Addr)(n:Nat)(H:List Ob)(k:Nat):soE a b n H k=sdE (arrOf a H) (offOf a) n (arrOf b H) (offOf b) k:=rfl
theorem fB_zero (p:Nat→Bool):fB p 0 0=false:=rfl
theorem takenM_nil:TakenM []:=fun e h=>by cases h
theorem okM_nil:okM []=true:=dec_iff.2 takenM_nil
theorem sdE_none {c0:Array Value}{off0:Nat}{c:Array Value}{off k:Nat}:sdE c0 off0 0 c off k=4:=by
  unfold sdE
  rw [if_pos]
  unfold inB
  simp only [Bool.and_eq_false_iff,decide_eq_false_iff_not]
  omega
theorem so_none {c0:Array Value}{off0:Nat}{c:Array Value}{off n2:Nat}(h:0<n2):fB (sdQ c0 off0 0 c off) n2 0=true∧fI (sdQ c0 off0 0 c off) n2 0=0:=by
  obtain ⟨m,rfl⟩:∃m,n2=m+1:=⟨n2-1,by omega⟩
  have hp:sdQ c0 off0 0 c off 0=true:=by unfold sdQ;rw [sdE_none];rfl
  exact ⟨fB_hit hp,fI_hit hp⟩
theorem run20r (J3:Task→List Value)(c3:Array Value)(off3:Nat)(a b:Option Addr)(z z2 n3:Nat)(age shear:Int)(sa:sc1 3 (.slice a 0 z)=true)(sb:sc1 3 (.slice b 0 z2)=true)(g3:GoodL L1 c3 off3 n3)(hpos:0<n3) :
    evC Try.prog (sh20c.ans J3).c 60 (.call 20 ⟨[.agg ⟨[.slice a 0 z,.slice b 0 z2,.slice (some ⟨2,off3,none⟩) n3 1,.int .i64 age,.int .i64 shear]⟩]⟩ ⟨[.dead,.dead,.cells c3 true],3,[]⟩) some=some (.ret (.tuple ⟨[.int .i64 (ckR (a) (b) (some ⟨2,off3,none⟩) 0 0 n3 age shear [.dead,.dead,.cells c3 true]).1,.int .i64 (ckR (a) (b) (some ⟨2,off3,none⟩) 0 0 n3 age shear [.dead,.dead,.cells c3 true]).2.1,.int .i64 (ckR (a) (b) (some ⟨2,off3,none⟩) 0 0 n3 age shear [.dead,.dead,.cells c3 true]).2.2]⟩) ⟨[.dead,.dead,.cells c3 true],3,[]⟩):=by
  refine (tree20r ..).trans ?_
  have k4:n3≤20→okA20c c3 off3 n3 a b 0 z 0 z2 .dead .dead (n3:Int) 0 off3 n3 []=true:=fun h3=>dec_iff.2 ⟨rfl,rfl,g3,sa,sb,.inl rfl,.inl rfl,h3,rfl,by omega,takenM_nil⟩
  have p2:arrOf (some ⟨2,off3,none⟩) [.dead,.dead,.cells c3 true]=c3:=rfl
  have p3:offOf (some ⟨2,off3,none⟩)=off3:=rfl
  have q3:=cu_ck c3 off3 n3
  clear sa sb g3
  simp only [Int.ofNat_eq_natCast,eqCode_self,cond_true,Nat.sub_zero]
  unfold ckR
  rw [p2,p3,srP_eq,soP_eq,fB_zero,fB_zero]
  by_cases h4:20<n3
  · have h4':(20:Int)<n3:=by omega
    have h3':¬(n3:Int)<1:=by omega
    simp only [h3',h4,h4',decide_true,decide_false,cond_true,cond_false,or_true,if_true]
  have h4':¬(20:Int)<n3:=by omega
  have h3':¬(n3:Int)<1:=by omega
  have h3:¬n3<1:=by omega
  have h1:¬6<0:=by omega
  have h2:¬60<0:=by omega
  simp only [h1,h2,h3,h4,h3',h4',k4 (by omega),decide_true,decide_false,cond_true,cond_false,or_self,if_false,Bool.false_eq_true]
  clear k4
  rcases q3 with ⟨w1,w2⟩ | ⟨w1,w2,w3,w4⟩
  · simp only [w1,w2,cond_false,Bool.false_eq_true,if_false]
    clear w1 w2
    repeat' refine cond_hd (fun _=>?_) (fun _=>?_)
    all_goals simp_all [inB]
    all_goals (rw [if_pos (by omega)];simp)
  · simp only [w1,w2,w3,w4,cond_true,if_true,Int.ofNat_eq_natCast]
theorem run20q (J3:Task→List Value)(c c3:Array Value)(off off3:Nat)(a:Option Addr)(z n2 n3:Nat)(age shear:Int)(ha:a=none∨∃off0 sp,a=some ⟨0,off0,sp⟩)(g:GoodL L5 c off n2)(hpos:0<n3)(hpos2:0<n2) :
    evC Try.prog (sh20c.ans J3).c 60 (.call 20 ⟨[.agg ⟨[.slice a 0 z,.slice (some ⟨1,off,none⟩) n2 5,.slice (some ⟨2,off3,none⟩) n3 1,.int .i64 age,.int .i64 shear]⟩]⟩ ⟨[.dead,.cells c true,.cells c3 true],3,[]⟩) some=some (.ret (.tuple ⟨[.int .i64 (ckR (a) (some ⟨1,off,none⟩) (some ⟨2,off3,none⟩) 0 n2 n3 age shear [.dead,.cells c true,.cells c3 true]).1,.int .i64 (ckR (a) (some ⟨1,off,none⟩) (some ⟨2,off3,none⟩) 0 n2 n3 age shear [.dead,.cells c true,.cells c3 true]).2.1,.int .i64 (ckR (a) (some ⟨1,off,none⟩) (some ⟨2,off3,none⟩) 0 n2 n3 age shear [.dead,.cells c true,.cells c3 true]).2.2]⟩) ⟨[.dead,.cells c true,.cells c3 true],3,[]⟩):=by
  have hr:rdOk c L5 (off+0)=true:=by
    have:=g.2 0 hpos2
    simpa using this
  have q:=so_none (c0:=arrOf a [.dead,.cells c true,.cells c3 true]) (off0:=offOf a) (c:=c) (off:=off) hpos2
  have p1:arrOf (some ⟨1,off,none⟩) [.dead,.cells c true,.cells c3 true]=c:=rfl
  have p1':offOf (some ⟨1,off,none⟩)=off:=rfl
  have hv:ckR a (some ⟨1,off,none⟩) (some ⟨2,off3,none⟩) 0 n2 n3 age shear [.dead,.cells c true,.cells c3 true]=if 60<n2∨n3<1∨20<n3 then (1,0,3) else (3,0,4):=by
    unfold ckR
    rw [srP_eq,soP_eq,fB_zero,p1,p1',q.1,q.2,soE_eq,sdE_none]
    simp
  rw [hv]
  clear hv q g
  have hn2:(0:Int)<n2:=by omega
  rcases ha with rfl | ⟨off0,sp,rfl⟩
  · refine (tree20q0 ..).trans ?_
    simp only [Int.ofNat_eq_natCast,hn2,hr,decide_true,Bool.and_self,cond_true]
    by_cases h2:60<n2
    · have h2':(60:Int)<n2:=by omega
      simp only [h2,h2',decide_true,cond_true,true_or,if_true]
    have h2':¬(60:Int)<n2:=by omega
    have h3:¬n3<1:=by omega
    have h3':¬(n3:Int)<1:=by omega
    by_cases h4:20<n3
    · have h4':(20:Int)<n3:=by omega
      simp only [h2,h2',h3,h3',h4,h4',decide_true,decide_false,cond_true,cond_false,or_true,if_true]
    have h4':¬(20:Int)<n3:=by omega
    simp only [h2,h2',h3,h3',h4,h4',decide_true,decide_false,cond_true,cond_false,or_self,if_false]
    refine cond_hd (fun _=>rfl) (fun h5=>?_)
    rw [decide_eq_true (by have:=of_decide_eq_false h5;omega)]
    rfl
  · cases sp with
    | none =>
      refine (tree20q1 ..).trans ?_
      simp only [Int.ofNat_eq_natCast,hn2,hr,decide_true,Bool.and_self,cond_true]
      by_cases h2:60<n2
      · have h2':(60:Int)<n2:=by omega
        simp only [h2,h2',decide_true,cond_true,true_or,if_true]
      have h2':¬(60:Int)<n2:=by omega
      have h3:¬n3<1:=by omega
      have h3':¬(n3:Int)<1:=by omega
      by_cases h4:20<n3
      · have h4':(20:Int)<n3:=by omega
        simp only [h2,h2',h3,h3',h4,h4',decide_true,decide_false,cond_true,cond_false,or_true,if_true]
      have h4':¬(20:Int)<n3:=by omega
      simp only [h2,h2',h3,h3',h4,h4',decide_true,decide_false,cond_true,cond_false,or_self,if_false]
      refine cond_hd (fun _=>rfl) (fun h5=>?_)
      rw [decide_eq_true (by have:=of_decide_eq_false h5;omega)]
      rfl
    | some sp =>
      refine (tree20q2 ..).trans ?_
      simp only [Int.ofNat_eq_natCast,hn2,hr,decide_true,Bool.and_self,cond_true]
      by_cases h2:60<n2
      · have h2':(60:Int)<n2:=by omega
        simp only [h2,h2',decide_true,cond_true,true_or,if_true]
      have h2':¬(60:Int)<n2:=by omega
      have h3:¬n3<1:=by omega
      have h3':¬(n3:Int)<1:=by omega
      by_cases h4:20<n3
      · have h4':(20:Int)<n3:=by omega
        simp only [h2,h2',h3,h3',h4,h4',decide_true,decide_false,cond_true,cond_false,or_true,if_true]
      have h4':¬(20:Int)<n3:=by omega
      simp only [h2,h2',h3,h3',h4,h4',decide_true,decide_false,cond_true,cond_false,or_self,if_false]
      refine cond_hd (fun _=>rfl) (fun h5=>?_)
      rw [decide_eq_true (by have:=of_decide_eq_false h5;omega)]
      rfl
theorem run20p (J J3:Task→List Value)(c0 c3:Array Value)(off0 off3:Nat)(b:Option Addr)(n z2 n3:Nat)(age shear:Int)(g0:GoodL L7 c0 off0 n)(sb:sc1 3 (.slice b 0 z2)=true)(g3:GoodL L1 c3 off3 n3)(hpos:0<n3) :
    evC Try.prog ((sh20a.ans J).or (sh20c.ans J3)).c 60 (.call 20 ⟨[.agg ⟨[.slice (some ⟨0,off0,none⟩) n 7,.slice b 0 z2,.slice (some ⟨2,off3,none⟩) n3 1,.int .i64 age,.int .i64 shear]⟩]⟩ ⟨[.cells c0 true,.dead,.cells c3 true],3,[]⟩) some=some (.ret (.tuple ⟨[.int .i64 (ckR (some ⟨0,off0,none⟩) (b) (some ⟨2,off3,none⟩) n 0 n3 age shear [.cells c0 true,.dead,.cells c3 true]).1,.int .i64 (ckR (some ⟨0,off0,none⟩) (b) (some ⟨2,off3,none⟩) n 0 n3 age shear [.cells c0 true,.dead,.cells c3 true]).2.1,.int .i64 (ckR (some ⟨0,off0,none⟩) (b) (some ⟨2,off3,none⟩) n 0 n3 age shear [.cells c0 true,.dead,.cells c3 true]).2.2]⟩) ⟨[.cells c0 true,.dead,.cells c3 true],3,[]⟩):=by
  refine (tree20p ..).trans ?_
  have k1:n≤6→okA20 c0 off0 n b (some ⟨2,off3,none⟩) 0 z2 n3 1 .dead (.cells c3 true) (n:Int) 0 off0 n=true:=fun h1 =>
    dec_iff.2 ⟨rfl,rfl,g0,sb,at2_sc (by decide),.inl rfl,.inr ⟨_,rfl,g3.1⟩,h1,rfl,by omega⟩
  have k4:n3≤20→okA20c c3 off3 n3 (some ⟨0,off0,none⟩) b n 7 0 z2 (.cells c0 true) .dead (n3:Int) 0 off3 n3 (saM c0 off0 n 0 [])=true:=fun h3 =>
    dec_iff.2 ⟨rfl,rfl,g3,rfl,sb,.inr ⟨_,rfl,g0.1⟩,.inl rfl,h3,rfl,by omega,saR_taken takenM_nil⟩
  have p2:arrOf (some ⟨2,off3,none⟩) [.cells c0 true,.dead,.cells c3 true]=c3:=rfl
  have p3:offOf (some ⟨2,off3,none⟩)=off3:=rfl
  have p0:arrOf (some ⟨0,off0,none⟩) [.cells c0 true,.dead,.cells c3 true]=c0:=rfl
  have p0':offOf (some ⟨0,off0,none⟩)=off0:=rfl
  have q1:=sa_ck c0 off0 n
  have q3:=cu_ck c3 off3 n3
  clear g0 sb g3
  simp only [Int.ofNat_eq_natCast,eqCode_self,cond_true,Nat.sub_zero,okM_nil]
  unfold ckR
  rw [p2,p3,srP_eq,soP_eq,p0,p0',fB_zero,srE_eq,p0,p0']
  by_cases h1:6<n
  · have h1':(6:Int)<n:=by omega
    simp only [h1,h1',decide_true,cond_true,true_or,if_true]
  have h1':¬(6:Int)<n:=by omega
  have h3:¬n3<1:=by omega
  have h3':¬(n3:Int)<1:=by omega
  have h2:¬60<0:=by omega
  have h2':True:=trivial
  by_cases h4:20<n3
  · have h4':(20:Int)<n3:=by omega
    simp only [h1',h3',h4,h4',h2',decide_true,decide_false,cond_true,cond_false,or_true,if_true]
  have h4':¬(20:Int)<n3:=by omega
  simp only [h1,h2,h3,h4,h1',h3',h4',k1 (by omega),k4 (by omega),decide_true,decide_false,cond_true,cond_false,or_self,if_false,Bool.false_eq_true]
  clear k1 k4
  rcases q1 with ⟨s1,s2,s3,s4⟩ | ⟨s1,s2,s3,s4⟩
  · simp only [s1,s2,cond_false,Bool.false_eq_true,if_false]
    clear s1 s2 s3 s4
    rcases q3 with ⟨w1,w2⟩ | ⟨w1,w2,w3,w4⟩
    · simp only [w1,w2,cond_false,Bool.false_eq_true,if_false]
      clear w1 w2
      repeat' refine cond_hd (fun _=>?_) (fun _=>?_)
      all_goals simp_all [inB]
      all_goals (rw [if_pos (by omega)];simp)
    · simp only [w1,w2,w3,w4,cond_true,if_true,Int.ofNat_eq_natCast]
  · simp only [s1,s2,s3,s4,cond_true,if_true,Int.ofNat_eq_natCast]
theorem run20m (J J2 J3:Task→List Value)(c0 c c3:Array Value)(off0 off off3 n n2 n3:Nat)(age shear:Int)(g0:GoodL L7 c0 off0 n)(g:GoodL L5 c off n2)(g3:GoodL L1 c3 off3 n3)(hpos:0<n3) :
    evC Try.prog ((sh20a.ans J).or ((sh20b.ans J2).or (sh20c.ans J3))).c 60 (.call 20 ⟨[.agg ⟨[.slice (some ⟨0,off0,none⟩) n 7,.slice (some ⟨1,off,none⟩) n2 5,.slice (some ⟨2,off3,none⟩) n3 1,.int .i64 age,.int .i64 shear]⟩]⟩ ⟨[.cells c0 true,.cells c true,.cells c3 true],3,[]⟩) some=some (.ret (.tuple ⟨[.int .i64 (ckR (some ⟨0,off0,none⟩) (some ⟨1,off,none⟩) (some ⟨2,off3,none⟩) n n2 n3 age shear [.cells c0 true,.cells c true,.cells c3 true]).1,.int .i64 (ckR (some ⟨0,off0,none⟩) (some ⟨1,off,none⟩) (some ⟨2,off3,none⟩) n n2 n3 age shear [.cells c0 true,.cells c true,.cells c3 true]).2.1,.int .i64 (ckR (some ⟨0,off0,none⟩) (some ⟨1,off,none⟩) (some ⟨2,off3,none⟩) n n2 n3 age shear [.cells c0 true,.cells c true,.cells c3 true]).2.2]⟩) ⟨[.cells c0 true,.cells c true,.cells c3 true],3,[]⟩):=by
  refine (tree20m ..).trans ?_
  have k1:n≤6→okA20 c0 off0 n (some ⟨1,off,none⟩) (some ⟨2,off3,none⟩) n2 5 n3 1 (.cells c true) (.cells c3 true) (n:Int) 0 off0 n=true:=fun h1 =>
    dec_iff.2 ⟨rfl,rfl,g0,rfl,at2_sc (by decide),.inr ⟨_,rfl,g.1⟩,.inr ⟨_,rfl,g3.1⟩,h1,rfl,by omega⟩
  have k2:n≤6→n2≤60→okA20b c0 off0 n c off n2 (some ⟨2,off3,none⟩) n3 1 (.cells c3 true) (n2:Int) 0 (saM c0 off0 n 0 [])=true:=fun h1 h2 =>
    dec_iff.2 ⟨g0,g,at2_sc (by decide),.inr ⟨_,rfl,g3.1⟩,h1,h2,rfl,by omega,saR_taken takenM_nil⟩
  have k4:n3≤20→okA20c c3 off3 n3 (some ⟨0,off0,none⟩) (some ⟨1,off,none⟩) n 7 n2 5 (.cells c0 true) (.cells c true) (n3:Int) 0 off3 n3 (sbM c0 off0 n c off n2 0 (saM c0 off0 n 0 []))=true:=fun h3 =>
    dec_iff.2 ⟨rfl,rfl,g3,rfl,rfl,.inr ⟨_,rfl,g0.1⟩,.inr ⟨_,rfl,g.1⟩,h3,rfl,by omega,sbR_taken (saR_taken takenM_nil)⟩
  have p2:arrOf (some ⟨2,off3,none⟩) [.cells c0 true,.cells c true,.cells c3 true]=c3:=rfl
  have p3:offOf (some ⟨2,off3,none⟩)=off3:=rfl
  have p1:arrOf (some ⟨1,off,none⟩) [.cells c0 true,.cells c true,.cells c3 true]=c:=rfl
  have p0:arrOf (some ⟨0,off0,none⟩) [.cells c0 true,.cells c true,.cells c3 true]=c0:=rfl
  have p0':offOf (some ⟨0,off0,none⟩)=off0:=rfl
  have p1':offOf (some ⟨1,off,none⟩)=off:=rfl
  have q1:=sa_ck c0 off0 n
  have q2:=fun es=>sb_ck (c0:=c0) (off0:=off0) (n:=n) (es:=es) c off n2
  have q3:=cu_ck c3 off3 n3
  clear g0 g g3
  simp only [Int.ofNat_eq_natCast,eqCode_self,cond_true,Nat.sub_zero,okM_nil]
  unfold ckR
  rw [p2,p3,srP_eq,soP_eq,srE_eq,soE_eq,p0,p0',p1,p1']
  by_cases h1:6<n
  · have h1':(6:Int)<n:=by omega
    simp only [h1,h1',decide_true,cond_true,true_or,if_true]
  have h1':¬(6:Int)<n:=by omega
  have h3:¬n3<1:=by omega
  have h3':¬(n3:Int)<1:=by omega
  by_cases h2:60<n2
  · have h2':(60:Int)<n2:=by omega
    simp only [h1',h2,h2',decide_true,decide_false,cond_true,cond_false,true_or,or_true,if_true]
  have h2':¬(60:Int)<n2:=by omega
  by_cases h4:20<n3
  · have h4':(20:Int)<n3:=by omega
    simp only [h1',h3',h4,h4',h2',decide_true,decide_false,cond_true,cond_false,or_true,if_true]
  have h4':¬(20:Int)<n3:=by omega
  simp only [h1,h2,h3,h4,h1',h2',h3',h4',k1 (by omega),k2 (by omega) (by omega),k4 (by omega),decide_true,decide_false,cond_true,cond_false,or_self,if_false,Bool.false_eq_true]
  clear k1 k2 k4
  rcases q1 with ⟨s1,s2,s3,s4⟩ | ⟨s1,s2,s3,s4⟩
  · simp only [s1,s2,cond_false,Bool.false_eq_true,if_false]
    rcases q2 _ s3 s4 with ⟨r1,r2⟩ | ⟨r1,r2,r3,r4⟩
    · simp only [r1,r2,cond_false,Bool.false_eq_true,if_false]
      clear s1 s2 s3 s4 r1 r2 q2
      rcases q3 with ⟨w1,w2⟩ | ⟨w1,w2,w3,w4⟩
      · simp only [w1,w2,cond_false,Bool.false_eq_true,if_false]
        clear w1 w2
        repeat' refine cond_hd (fun _=>?_) (fun _=>?_)
        all_goals simp_all [inB]
        all_goals (rw [if_pos (by omega)];simp)
      · simp only [w1,w2,w3,w4,cond_true,if_true,Int.ofNat_eq_natCast]
    · simp only [r1,r2,r3,r4,cond_true,if_true,Int.ofNat_eq_natCast]
  · simp only [s1,s2,s3,s4,cond_true,if_true,Int.ofNat_eq_natCast]
theorem known20:Known Try.prog (p21 20):=by
  obtain ⟨J,hJ⟩:=known20a
  obtain ⟨J2,hJ2⟩:=known20b
  obtain ⟨J3,hJ3⟩:=known20c
  have hK:=hJ.or (hJ2.or hJ3)
  have hK2:=hJ.or hJ3
  intro t xx o h ho
  unfold p21 at h
  split at h
  case h_2=>cases h
  rename_i g a n z b n2 z2 d n3 z3 age shear hp
  split at h
  case h_2=>cases h
  rename_i hgg
  obtain rfl:=Nat.eq_of_beq_eq_true hgg
  simp only [Option.some.injEq]at h
  subst h
  simp only [AT.out]at ho
  obtain ⟨hok,ho⟩:=cond_some ho
  simp only [Option.some.injEq]at ho
  subst ho
  obtain ⟨hs,hs2,hs3,na,nb,nd⟩:=dec_iff.1 hok
  clear hok
  have e0:∀n k,okR0 3 (.slice (atB 0 a) n k)=true:=fun n k=>atB_okR (by decide)
  have e1:∀n k,okR0 3 (.slice (atB 1 b) n k)=true:=fun n k=>atB_okR (by decide)
  have e2:∀n k,okR0 3 (.slice (atB 2 d) n k)=true:=fun n k=>atB_okR (by decide)
  rcases Nat.eq_zero_or_pos n3 with rfl | hpos
  · refine frame3 (args1:=⟨[.agg ⟨[.slice (atB 0 a) n z,.slice (atB 1 b) n2 z2,.slice (atB 2 d) 0 z3,.int .i64 age,.int .i64 shear]⟩]⟩) (blkOf a) (blkOf b) (blkOf d) ((Known.nothing _).fact noNG mixed (n:=60) ?_) rfl
      (.inl rfl) (.inl rfl) (.inl rfl) ?_ ?_
    · refine (tree20z ..).trans ?_
      unfold ckR
      rw [if_pos (by omega)]
      repeat' refine cond_hd (fun _=>?_) (fun _=>?_)
      all_goals rfl
    · simp only [List.map_toArray,List.map_cons,List.map_nil,ren1,ren0]
      rw [atB_ren (by simp),atB_ren (by simp),atB_ren (by simp)]
    · simp only [List.all_cons,List.all_nil,okR1,e0,e1,e2];rfl
  rcases hs3 with rfl | ⟨b2,off3,rfl,rfl,hc3,hgood3⟩
  · omega
  rcases hs with rfl | ⟨b0,off0,rfl,rfl,hc0,hgood0⟩
  · rcases Nat.eq_zero_or_pos n2 with rfl | hpos2
    · refine frame3 (args1:=⟨[.agg ⟨[.slice (atB 0 a) 0 z,.slice (atB 1 b) 0 z2,.slice (some ⟨2,off3,none⟩) n3 1,.int .i64 age,.int .i64 shear]⟩]⟩) (o0:=.dead) (o1:=.dead) (o2:=.cells (cellsAt hp.bl b2) true) (blkOf a) (blkOf b) b2 (hJ3.fact noNG mixed (n:=60) ?_) rfl
        (.inl rfl) (.inl rfl) (.inr ⟨_,rfl,hgood3.1,cells_ok hc3⟩) ?_ ?_
      · refine (run20r J3 _ off3 (atB 0 a) (atB 1 b) z z2 n3 age shear (atB_sc (by decide) na) (atB_sc (by decide) nb) hgood3 hpos).trans ?_
        rw [show ckR (atB 0 a) (atB 1 b) (some ⟨2,off3,none⟩) 0 0 n3 age shear [.dead,.dead,.cells (cellsAt hp.bl b2) true]=ckR a b (some ⟨b2,off3,none⟩) 0 0 n3 age shear hp.bl from
          ckR_congr (.inl rfl) (.inl rfl) rfl (offOf_atB ..) (offOf_atB ..) rfl]
      · simp only [List.map_toArray,List.map_cons,List.map_nil,ren1,ren0]
        rw [atB_ren (by simp),atB_ren (by simp)];rfl
      · simp only [List.all_cons,List.all_nil,okR1,e0,e1];rfl
    · rcases hs2 with rfl | ⟨b1,off,rfl,rfl,hc,hgood⟩
      · omega
      refine frame3 (args1:=⟨[.agg ⟨[.slice (atB 0 a) 0 z,.slice (some ⟨1,off,none⟩) n2 5,.slice (some ⟨2,off3,none⟩) n3 1,.int .i64 age,.int .i64 shear]⟩]⟩) (o0:=.dead) (o1:=.cells (cellsAt hp.bl b1) true) (o2:=.cells (cellsAt hp.bl b2) true) (blkOf a) b1 b2 (hJ3.fact noNG mixed (n:=60) ?_) rfl
        (.inl rfl) (.inr ⟨_,rfl,hgood.1,cells_ok hc⟩) (.inr ⟨_,rfl,hgood3.1,cells_ok hc3⟩) ?_ ?_
      · have ha:atB 0 a=none∨∃off0 sp,atB 0 a=some ⟨0,off0,sp⟩:=by
          rcases a with _ | ⟨b0,off0,sp⟩
          · exact .inl rfl
          · exact .inr ⟨off0,sp,rfl⟩
        refine (run20q J3 _ _ off off3 (atB 0 a) z n2 n3 age shear ha hgood hpos hpos2).trans ?_
        rw [show ckR (atB 0 a) (some ⟨1,off,none⟩) (some ⟨2,off3,none⟩) 0 n2 n3 age shear [.dead,.cells (cellsAt hp.bl b1) true,.cells (cellsAt hp.bl b2) true]=ckR a (some ⟨b1,off,none⟩) (some ⟨b2,off3,none⟩) 0 n2 n3 age shear hp.bl from
          ckR_congr (.inl rfl) (.inr rfl) rfl (offOf_atB ..) rfl rfl]
      · simp only [List.map_toArray,List.map_cons,List.map_nil,ren1,ren0]
        rw [atB_ren (by simp)];rfl
      · simp only [List.all_cons,List.all_nil,okR1,e0];rfl
  rcases Nat.eq_zero_or_pos n2 with rfl | hpos2
  · refine frame3 (args1:=⟨[.agg ⟨[.slice (some ⟨0,off0,none⟩) n 7,.slice (atB 1 b) 0 z2,.slice (some ⟨2,off3,none⟩) n3 1,.int .i64 age,.int .i64 shear]⟩]⟩) (o0:=.cells (cellsAt hp.bl b0) true) (o1:=.dead) (o2:=.cells (cellsAt hp.bl b2) true) b0 (blkOf b) b2 (hK2.fact noNG mixed (n:=60) ?_) rfl
      (.inr ⟨_,rfl,hgood0.1,cells_ok hc0⟩) (.inl rfl) (.inr ⟨_,rfl,hgood3.1,cells_ok hc3⟩) ?_ ?_
    · refine (run20p J J3 _ _ off0 off3 (atB 1 b) n z2 n3 age shear hgood0 (atB_sc (by decide) nb) hgood3 hpos).trans ?_
      rw [show ckR (some ⟨0,off0,none⟩) (atB 1 b) (some ⟨2,off3,none⟩) n 0 n3 age shear [.cells (cellsAt hp.bl b0) true,.dead,.cells (cellsAt hp.bl b2) true]=ckR (some ⟨b0,off0,none⟩) b (some ⟨b2,off3,none⟩) n 0 n3 age shear hp.bl from
        ckR_congr (.inr rfl) (.inl rfl) rfl rfl (offOf_atB ..) rfl]
    · simp only [List.map_toArray,List.map_cons,List.map_nil,ren1,ren0]
      rw [atB_ren (by simp)];rfl
    · simp only [List.all_cons,List.all_nil,okR1,e1];rfl
  · rcases hs2 with rfl | ⟨b1,off,rfl,rfl,hc,hgood⟩
    · omega
    refine frame3 (args1:=⟨[.agg ⟨[.slice (some ⟨0,off0,none⟩) n 7,.slice (some ⟨1,off,none⟩) n2 5,.slice (some ⟨2,off3,none⟩) n3 1,.int .i64 age,.int .i64 shear]⟩]⟩) (o0:=.cells (cellsAt hp.bl b0) true) (o1:=.cells (cellsAt hp.bl b1) true) (o2:=.cells (cellsAt hp.bl b2) true) b0 b1 b2 (hK.fact noNG mixed (n:=60) ?_) rfl
      (.inr ⟨_,rfl,hgood0.1,cells_ok hc0⟩) (.inr ⟨_,rfl,hgood.1,cells_ok hc⟩) (.inr ⟨_,rfl,hgood3.1,cells_ok hc3⟩) (by simp [ren1,ren0,renA]) rfl
    refine (run20m J J2 J3 _ _ _ off0 off off3 n n2 n3 age shear hgood0 hgood hgood3 hpos).trans ?_
    rw [show ckR (some ⟨0,off0,none⟩) (some ⟨1,off,none⟩) (some ⟨2,off3,none⟩) n n2 n3 age shear [.cells (cellsAt hp.bl b0) true,.cells (cellsAt hp.bl b1) true,.cells (cellsAt hp.bl b2) true]=ckR (some ⟨b0,off0,none⟩) (some ⟨b1,off,none⟩) (some ⟨b2,off3,none⟩) n n2 n3 age shear hp.bl from
      ckR_congr (.inr rfl) (.inr rfl) rfl rfl rfl rfl]
def ck1 (a b d:Option Addr)(n n2 n3:Nat)(age shear:Int)(H:List Ob):Int:=(ckR a b d n n2 n3 age shear H).1
def ck2 (a b d:Option Addr)(n n2 n3:Nat)(age shear:Int)(H:List Ob):Int:=(ckR a b d n n2 n3 age shear H).2.1
def ck3 (a b d:Option Addr)(n n2 n3:Nat)(age shear:Int)(H:List Ob):Int:=(ckR a b d n n2 n3 age shear H).2.2
def TaskOn (a b d:Option Addr)(n z n2 z2 n3 z3:Nat)(H:List Ob):Prop :=
  SliceL L7 a n z H∧SliceL L5 b n2 z2 H∧SliceL L1 d n3 z3 H∧sc1 3 (.slice a n z)=true∧sc1 3 (.slice b n2 z2)=true∧sc1 3 (.slice d n3 z3)=true
def okT (a b d:Option Addr)(n z n2 z2 n3 z3:Nat)(H:List Ob):Bool:=dec (TaskOn a b d n z n2 z2 n3 z3 H)
def p20v (f:Nat):Ans
  | .call g ⟨[.agg ⟨[.slice a n z,.slice b n2 z2,.slice d n3 z3,.int .i64 age,.int .i64 shear]⟩]⟩ ⟨o0::o1::o2::G,base,wr⟩=>(match Nat.beq g f with
    | true=>some (.br (okT a b d n z n2 z2 n3 z3 [o0,o1,o2]) (.leaf (.ret (.tuple ⟨[.int .i64 (ck1 a b d n n2 n3 age shear [o0,o1,o2]),.int .i64 (ck2 a b d n n2 n3 age shear [o0,o1,o2]),.int .i64 (ck3 a b d n n2 n3 age shear [o0,o1,o2])]⟩) ⟨o0::o1::o2::G,base,wr⟩)) .no)
    | false=>none)
  | _=>none
theorem p21_at (g:Nat)(a b d:Option Addr)(n z n2 z2 n3 z3:Nat)(age shear:Int)(h:Hp):p21 g (.call g ⟨[.agg ⟨[.slice a n z,.slice b n2 z2,.slice d n3 z3,.int .i64 age,.int .i64 shear]⟩]⟩ h) =
    some (.br (c21 a b d n z n2 z2 n3 z3 h.bl) (.leaf (.ret (.tuple ⟨[.int .i64 (ckR a b d n n2 n3 age shear h.bl).1,.int .i64 (ckR a b d n n2 n3 age shear h.bl).2.1,.int .i64 (ckR a b d n n2 n3 age shear h.bl).2.2]⟩) h)) .no):=by
  have hg:Nat.beq g g=true:=Nat.beq_refl g
  simp only [p21,hg]
theorem known20v {f:Nat}(hk:Known Try.prog (p21 f)):Known Try.prog (p20v f):=by
  intro t xx o h ho
  unfold p20v at h
  split at h
  case h_2=>cases h
  rename_i g a n z b n2 z2 d n3 z3 age shear o0 o1 o2 G base wr
  split at h
  case h_2=>cases h
  rename_i hgg
  obtain rfl:=Nat.eq_of_beq_eq_true hgg
  simp only [Option.some.injEq]at h
  subst h
  simp only [AT.out]at ho
  obtain ⟨hok,ho⟩:=cond_some ho
  obtain ⟨ha,hb,hd,sa,sb,sd⟩:=dec_iff.1 hok
  have e:ckR a b d n n2 n3 age shear (o0::o1::o2::G)=ckR a b d n n2 n3 age shear [o0,o1,o2] :=
    ckR_congr (.inr (arr3 sa)) (.inr (arr3 sb)) (arr3 sd) rfl rfl rfl
  refine hk _ _ o (p21_at ..) ?_
  have hc:c21 a b d n z n2 z2 n3 z3 (o0::o1::o2::G)=true:=dec_iff.2 ⟨sliceL3 sa ha,sliceL3 sb hb,sliceL3 sd hd,nilOk_of sa,nilOk_of sb,nilOk_of sd⟩
  simp only [AT.out,hc,cond_true]
  rw [e]
  exact ho
end
end Go.Proofs.Ytfnogghclaijlaa.Old
namespace Go.Proofs.Ytfnogghclaijlaa
open Go.Gi Go.RowKit Go.Proofs.Ytfnogghclaijlaa.Old
noncomputable section
set_option maxRecDepth 100000
def obF (n:Nat)(c:Array Value):Ob:=if n=0 then .dead else .cells c true
section
variable {P:Program}
theorem melt1 {K:Nat→Prop}{w0 w:World} {φ:Phi}{H:List Ob}(hI:Inv K w0 φ H w) {c:Array Value}{o n z:Nat}{y:Value}(h:VR φ (lstV c o n z) y) :
    ∃x:Nat×Nat×Nat,(y=.slice none 0 0∧n=0∨∀(ψ:Phi) (b:Nat),ψ b=some x→VR ψ (.slice (some ⟨b,o,none⟩) n z) y)∧(n≠0→∀ψ:Phi,ψ.z=φ.z→ObR ψ w (.cells c true) x.1 x.2.1 x.2.2):=by
  cases h with
  | fn hg=>cases hg
  | fz hf =>
    rcases hf.lst_inv with ⟨C,el,fr,cap',B,base,_,rfl,hz,h1,h2,hl,hc⟩ | ⟨a',_,rfl,rfl⟩
    · refine ⟨(B,base,o+cap'*z),.inr fun ψ b hb=>.slice hb hl (Nat.le_refl _),fun _ ψ hψ=>⟨C,el,fr,hI.frz _ _ hz,fun i v hv=>?_,fun h=>by cases h⟩⟩
      have hi:=(Array.getElem?_eq_some_iff.1 hv).1
      have h:=h2 i hi
      rw [Array.getD_eq_getD_getElem?,Array.getD_eq_getD_getElem?,hv,Array.getElem?_eq_getElem (show base+i<C.size by omega)]at h
      exact ⟨_,Array.getElem?_eq_getElem (by simp only;omega),FR.vr (hψ ▸ h)⟩
    · cases a' with
      | none=>exact ⟨(0,0,0),.inl ⟨rfl,rfl⟩,fun h=>absurd rfl h⟩
      | some a=>exact ⟨(0,0,0),.inr fun ψ b hb=>.sliceZ (a:=⟨b,o,none⟩) hb a _,fun h=>absurd rfl h⟩
def Form (i o n z:Nat)(a:Option Addr) (z':Nat):Prop:=(a=some ⟨i,o,none⟩∧z'=z)∨(n=0∧a=none∧z'=0)
theorem melt3 {f:FuncId}{v:Value}{c0 c1 c2:Array Value}{o0 o1 o2 n0 n1 n2 q0 q1 q2:Nat}{age shear:Int}(hv:gr v=true)
    (hf:∀a b d z0 z1 z2,Form 0 o0 n0 q0 a z0→Form 1 o1 n1 q1 b z1→Form 2 o2 n2 q2 d z2 →
      Fact P (.call f ⟨[.agg ⟨[.slice a n0 z0,.slice b n1 z1,.slice d n2 z2,.int .i64 age,.int .i64 shear]⟩]⟩ ⟨[obF n0 c0,obF n1 c1,obF n2 c2],3,[]⟩) (.ret v ⟨[obF n0 c0,obF n1 c1,obF n2 c2],3,[]⟩)) (h:Hp) :
    Fact P (.call f ⟨[.agg ⟨[lstV c0 o0 n0 q0,lstV c1 o1 n1 q1,lstV c2 o2 n2 q2,.int .i64 age,.int .i64 shear]⟩]⟩ h) (.ret v h):=by
  refine ⟨fun hb=>⟨Pres.refl _,?_⟩,trivial⟩
  intro K w0 φ w args' n hI hA
  have hsz:=hA.size
  obtain ⟨l⟩:=args'
  match l,hsz with
  | [y],_ =>
    have hy:=hA 0
    simp only [List.getElem?_toArray,List.getElem?_cons_zero]at hy
    cases hy with
    | some hy =>
      obtain ⟨⟨ys⟩,rfl,hs⟩:=hy.agg_inv
      have hs5:=hs.size
      match ys,hs5 with
      | [y0,y1,y2,y3,y4],_ =>
        have g0:=hs 0
        have g1:=hs 1
        have g2:=hs 2
        have g3:=hs 3
        have g4:=hs 4
        simp only [List.getElem?_toArray,List.getElem?_cons_zero,List.getElem?_cons_succ]at g0 g1 g2 g3 g4
        cases g0 with
        | some g0 =>
        cases g1 with
        | some g1 =>
        cases g2 with
        | some g2 =>
        cases g3 with
        | some g3 =>
        cases g4 with
        | some g4 =>
        cases g3
        cases g4
        obtain ⟨x0,e0,r0⟩:=melt1 hI g0
        obtain ⟨x1,e1,r1⟩:=melt1 hI g1
        obtain ⟨x2,e2,r2⟩:=melt1 hI g2
        let ψ:Phi:=⟨fun i=>match i with | 0=>some x0 | 1=>some x1 | 2=>some x2 | _=>none,φ.z⟩
        have pick:∀{i o m q:Nat} {x:Nat×Nat×Nat} {u:Value},ψ i=some x→(u=.slice none 0 0∧m=0∨∀(ψ:Phi) (b:Nat),ψ b=some x→VR ψ (.slice (some ⟨b,o,none⟩) m q) u)→∃a z,Form i o m q a z∧VR ψ (.slice a m z) u:=by
          intro i o m q x u hx he
          rcases he with ⟨rfl,rfl⟩ | he
          · exact ⟨none,0,.inr ⟨rfl,rfl,rfl⟩,.sliceN⟩
          · exact ⟨_,_,.inl ⟨rfl,rfl⟩,he ψ i hx⟩
        obtain ⟨a,z0,f0,v0⟩:=pick (i:=0) rfl e0
        obtain ⟨b,z1,f1,v1⟩:=pick (i:=1) rfl e1
        obtain ⟨d,z2,f2,v2⟩:=pick (i:=2) rfl e2
        obtain ⟨_,hh⟩:=(hf a b d z0 z1 z2 f0 f1 f2).1 (Nat.le_refl 3)
        have hro:∀{m:Nat} {c:Array Value},(obF m c).rw=false:=by intro m c;unfold obF;split<;>rfl
        have hlv:∀{m:Nat} {c:Array Value},(obF m c).live=true→m≠0∧obF m c=.cells c true:=by
          intro m c h
          unfold obF at h ⊢
          split at h
          · cases h
          · rename_i hm;exact ⟨hm,by rw [if_neg hm]⟩
        have hI1:Inv (fun k=>k<w.heap.size∧φ.z k=none) w ψ [obF n0 c0,obF n1 c1,obF n2 c2] w:=by
          have hget:∀{i:Nat} {ob:Ob},[obF n0 c0,obF n1 c1,obF n2 c2][i]?=some ob→(i=0∧ob=obF n0 c0)∨(i=1∧ob=obF n1 c1)∨(i=2∧ob=obF n2 c2):=by
            intro i ob hi
            match i,hi with
            | 0,hi=>simp at hi;exact .inl ⟨rfl,hi.symm⟩
            | 1,hi=>simp at hi;exact .inr (.inl ⟨rfl,hi.symm⟩)
            | 2,hi=>simp at hi;exact .inr (.inr ⟨rfl,hi.symm⟩)
            | i+3,hi=>simp at hi
          have hnrw:∀{i:Nat} {ob:Ob},[obF n0 c0,obF n1 c1,obF n2 c2][i]?=some ob→ob.rw=false:=by
            intro i ob hi
            rcases hget hi with ⟨_,rfl⟩ | ⟨_,rfl⟩ | ⟨_,rfl⟩<;>exact hro
          refine ⟨?_,fun i j ob ob' x y _ hi _ hr=>?_,fun i ob x hi hr=>?_,fun _ _=>rfl,fun _ h=>h.1,Nat.le_refl _,rfl,rfl,rfl,fun i hi=>?_,hI.frz,fun i ob x hi hr=>?_,fun k hk=>hk.2⟩
          · intro i ob hi hl
            rcases hget hi with ⟨rfl,rfl⟩ | ⟨rfl,rfl⟩ | ⟨rfl,rfl⟩
            · obtain ⟨h1,h2⟩:=hlv hl
              exact ⟨x0.1,x0.2.1,x0.2.2,rfl,by rw [h2];exact r0 h1 ψ rfl⟩
            · obtain ⟨h1,h2⟩:=hlv hl
              exact ⟨x1.1,x1.2.1,x1.2.2,rfl,by rw [h2];exact r1 h1 ψ rfl⟩
            · obtain ⟨h1,h2⟩:=hlv hl
              exact ⟨x2.1,x2.2.1,x2.2.2,rfl,by rw [h2];exact r2 h1 ψ rfl⟩
          · rw [hnrw hi]at hr;cases hr
          · rw [hnrw hi]at hr;cases hr
          · match i,hi with
            | i+3,_=>rfl
          · rw [hnrw hi]at hr;cases hr
        refine (hh _ w ψ w _ n hI1 ((VRs.nil ψ).push (VRs.agg (((((VRs.nil ψ).push v0).push v1).push v2).push (.int _ _) |>.push (.int _ _))))).mono ?_
        intro e w' he
        cases e with
        | returned v' =>
          obtain ⟨φ',hle',hv',hI'⟩:=he
          have hz':∀B o,φ.z B=some o→φ'.z B=some o:=fun B o hB=>hle'.zz B o hB
          have hsame:∀k,k<w.heap.size→w'.heap[k]?=w.heap[k]?:=fun k hk=>by
            cases hz:φ.z k with
            | none=>exact hI'.keep k ⟨hk,hz⟩
            | some o=>rw [hI.frz k o hz,hI'.frz k o (hz' k o hz)]
          refine ⟨φ,le_refl _,by rw [gr_eq hv hv'];exact gr_refl hv,?_⟩
          refine ⟨?_,hI.sep,hI.prot,fun k hk=>?_,hI.klt,Nat.le_trans hI.size hI'.size,hI'.os.trans hI.os,hI'.tape.trans hI.tape,hI'.output.trans hI.output,hI.top,fun B o hB=>hI'.frz B o (hz' B o hB),hI.zsep,hI.zk⟩
          · intro b ob hb' hl
            obtain ⟨B,base,tot,h1,h2⟩:=hI.obs b ob hb' hl
            exact ⟨B,base,tot,h1,h2.keep (le_refl _) (hsame B (h2.lt hl))⟩
          · have:=hI.klt k hk
            have:=hI.size
            rw [hsame k (by omega)];exact hI.keep k hk
        | panicked ch=>exact he.elim
        | outgrown=>exact he.elim
end
theorem ckR_congr2 {a b d a' b' d':Option Addr}{n n2 n3:Nat}{age shear:Int} {H H':List Ob}(hA:n=0∨(arrOf a' H'=arrOf a H∧offOf a'=offOf a)) (hB:n2=0∨(arrOf b' H'=arrOf b H∧offOf b'=offOf b)) (hD0:n3=0∨(arrOf d' H'=arrOf d H∧offOf d'=offOf d)):ckR a' b' d' n n2 n3 age shear H'=ckR a b d n n2 n3 age shear H:=by
  have f0:∀p,fB p 0 0=false:=fun _=>rfl
  unfold ckR
  rcases hD0 with rfl | ⟨hD,oD⟩
  · rw [if_pos (by omega),if_pos (by omega)]
  rw [hD,oD]
  have key:n2=0∨soE a' b' n H'=soE a b n H:=by
    rcases hB with h | ⟨hB,oB⟩
    · exact .inl h
    · refine .inr (funext fun k=>?_)
      unfold soE
      rcases hA with rfl | ⟨hA,oA⟩
      · rw [sdE_zero,sdE_zero]
      · rw [hA,hB,oA,oB]
  have key2:n=0∨srE a' H'=srE a H:=by
    rcases hA with h | ⟨hA,oA⟩
    · exact .inl h
    · refine .inr (funext fun k=>?_)
      unfold srE
      rw [hA,oA]
  have kp:n2=0∨soP a' b' n H'=soP a b n H:=by
    rcases key with h | h
    · exact .inl h
    · refine .inr (funext fun k=>?_)
      unfold soP;rw [h]
  have kp2:n=0∨srP a' H'=srP a H:=by
    rcases key2 with h | h
    · exact .inl h
    · refine .inr (funext fun k=>?_)
      unfold srP;rw [h]
  rcases key2 with rfl | h2
  · simp only [f0,Bool.false_eq_true,if_false]
    rcases key with rfl | h1
    · simp only [f0,Bool.false_eq_true,if_false]
    · rcases kp with rfl | h3
      · simp only [f0,Bool.false_eq_true,if_false]
      · rw [h1,h3]
  · rcases kp2 with rfl | h4
    · simp only [f0,Bool.false_eq_true,if_false]
      rcases key with rfl | h1
      · simp only [f0,Bool.false_eq_true,if_false]
      · rcases kp with rfl | h3
        · simp only [f0,Bool.false_eq_true,if_false]
        · rw [h1,h3]
    · rw [h2,h4]
      rcases key with rfl | h1
      · simp only [f0,Bool.false_eq_true,if_false]
      · rcases kp with rfl | h3
        · simp only [f0,Bool.false_eq_true,if_false]
        · rw [h1,h3]
def F20_ok (c0:Array Value)(o0 n0:Nat)(c1:Array Value)(o1 n1:Nat)(c2:Array Value)(o2 n2:Nat)(age shear:Int):Bool :=
  dec ((n0=0∨GoodL L7 c0 o0 n0)∧(n1=0∨GoodL L5 c1 o1 n1)∧(n2=0∨GoodL L1 c2 o2 n2))
def ck20 (c0:Array Value)(o0 n0:Nat)(c1:Array Value)(o1 n1:Nat)(c2:Array Value)(o2 n2:Nat)(age shear:Int):Int×Int×Int :=
  ckR (some ⟨0,o0,none⟩) (some ⟨1,o1,none⟩) (some ⟨2,o2,none⟩) n0 n1 n2 age shear [obF n0 c0,obF n1 c1,obF n2 c2]
section
variable (c0:Array Value) (o0 n0:Nat) (c1:Array Value) (o1 n1:Nat) (c2:Array Value) (o2 n2:Nat) (age shear:Int)
def F20_0:Int:=(ck20 c0 o0 n0 c1 o1 n1 c2 o2 n2 age shear).1
def F20_1:Int:=(ck20 c0 o0 n0 c1 o1 n1 c2 o2 n2 age shear).2.1
def F20_2:Int:=(ck20 c0 o0 n0 c1 o1 n1 c2 o2 n2 age shear).2.2
end
def p20V (f:Nat):Ans
  | .call g ⟨[.agg ⟨[.func (.via 0 ⟨[]⟩ 0 true) c0 ⟨[.slice (some ⟨0,o0,none⟩) n0 7]⟩,.func (.via 0 ⟨[]⟩ 0 true) c1 ⟨[.slice (some ⟨0,o1,none⟩) n1 5]⟩,.func (.via 0 ⟨[]⟩ 0 true) c2 ⟨[.slice (some ⟨0,o2,none⟩) n2 1]⟩,.int .i64 age,.int .i64 shear]⟩]⟩ h=>(match Nat.beq g f with
    | true=>some (.br (F20_ok c0 o0 n0 c1 o1 n1 c2 o2 n2 age shear) (.leaf (.ret (.tuple ⟨[.int .i64 (F20_0 c0 o0 n0 c1 o1 n1 c2 o2 n2 age shear),.int .i64 (F20_1 c0 o0 n0 c1 o1 n1 c2 o2 n2 age shear),.int .i64 (F20_2 c0 o0 n0 c1 o1 n1 c2 o2 n2 age shear)]⟩) h)) .no)
    | false=>none)
  | _=>none
theorem known20V {f:Nat}(hk:Known Try.prog (p20v f)):Known Try.prog (p20V f):=by
  intro t xx o hh ho
  unfold p20V at hh
  split at hh
  case h_2=>cases hh
  rename_i g c0 o0 n0 c1 o1 n1 c2 o2 n2 age shear h
  split at hh
  case h_2=>cases hh
  rename_i hgg
  obtain rfl:=Nat.eq_of_beq_eq_true hgg
  simp only [Option.some.injEq]at hh
  subst hh
  simp only [AT.out]at ho
  obtain ⟨hok,ho⟩:=cond_some ho
  simp only [Option.some.injEq]at ho
  subst ho
  obtain ⟨k0,k1,k2⟩:=dec_iff.1 hok
  refine melt3 rfl ?_ h
  intro a b d z0 z1 z2 f0 f1 f2
  have hS:∀{L:List Leaf} {i o n q:Nat} {a:Option Addr} {z:Nat} {c:Array Value},q=L.length→i<3→[obF n0 c0,obF n1 c1,obF n2 c2][i]?=some (obF n c)→Form i o n q a z→(n=0∨GoodL L c o n) →
      SliceL L a n z [obF n0 c0,obF n1 c1,obF n2 c2]∧sc1 3 (.slice a n z)=true∧(n=0∨(arrOf a [obF n0 c0,obF n1 c1,obF n2 c2]=arrOf (some ⟨i,o,none⟩) [obF n0 c0,obF n1 c1,obF n2 c2]∧offOf a=offOf (some ⟨i,o,none⟩))):=by
    intro L i o n q a z c hq hi hob hf hg
    rcases hf with ⟨rfl,rfl⟩ | ⟨rfl,rfl,rfl⟩
    · refine ⟨?_,?_,.inr ⟨rfl,rfl⟩⟩
      · rcases Nat.eq_zero_or_pos n with rfl | hn
        · exact .inl rfl
        · have hne:n≠0:=by omega
          have hc:nthO [obF n0 c0,obF n1 c1,obF n2 c2] i=some (.cells c true):=by rw [nthO_eq,hob];unfold obF;rw [if_neg hne]
          refine .inr ⟨i,o,rfl,hq,?_,?_⟩
          · unfold isCells;rw [hc]
          · unfold cellsAt;rw [hc];exact hg.resolve_left hne
      · simp only [sc1,sc0,decide_eq_true_eq];exact hi
    · exact ⟨.inl rfl,rfl,.inl rfl⟩
  obtain ⟨s0,t0,u0⟩:=hS (L:=L7) rfl (by decide) rfl f0 k0
  obtain ⟨s1,t1,u1⟩:=hS (L:=L5) rfl (by decide) rfl f1 k1
  obtain ⟨s2,t2,u2⟩:=hS (L:=L1) rfl (by decide) rfl f2 k2
  have hfact:=hk (.call g ⟨[.agg ⟨[.slice a n0 z0,.slice b n1 z1,.slice d n2 z2,.int .i64 age,.int .i64 shear]⟩]⟩ ⟨[obF n0 c0,obF n1 c1,obF n2 c2],3,[]⟩)
  simp only [p20v,show Nat.beq g g=true from Nat.beq_refl g]at hfact
  have hokT:okT a b d n0 z0 n1 z1 n2 z2 [obF n0 c0,obF n1 c1,obF n2 c2]=true:=dec_iff.2 ⟨s0,s1,s2,t0,t1,t2⟩
  have e:ckR a b d n0 n1 n2 age shear [obF n0 c0,obF n1 c1,obF n2 c2]=ck20 c0 o0 n0 c1 o1 n1 c2 o2 n2 age shear:=ckR_congr2 u0 u1 u2
  have h3:=hfact _ (.ret (.tuple ⟨[.int .i64 (F20_0 c0 o0 n0 c1 o1 n1 c2 o2 n2 age shear),.int .i64 (F20_1 c0 o0 n0 c1 o1 n1 c2 o2 n2 age shear),.int .i64 (F20_2 c0 o0 n0 c1 o1 n1 c2 o2 n2 age shear)]⟩) ⟨[obF n0 c0,obF n1 c1,obF n2 c2],3,[]⟩) rfl (by
    simp only [AT.out,hokT,cond_true,ck1,ck2,ck3,e,F20_0,F20_1,F20_2])
  exact h3
end
end Go.Proofs.Ytfnogghclaijlaa
namespace Go.Gi
open Go.RowKit
noncomputable section
section
variable {P:Program}
theorem Fact.melt {f:FuncId}{A:Array Value}{H0:List Ob}{u:Value}{zs:List Nat}(hro:∀(i:Nat) (ob:Ob),H0[i]?=some ob→ob.rw=false)
    (hm:∀(K:Nat→Prop) (w0:World) (φ:Phi) (H:List Ob) (w:World) (args':Array Value),Inv K w0 φ H w→VRs φ A args'→∃(B:Array Value) (v:Value) (h1:Hp) (ψ:Phi),
      Fact P (.call f B ⟨H0,H0.length,[]⟩) (.ret v h1)∧frzK zs (.ret v h1)=some (.ret u ⟨[],0,[]⟩)∧ψ.z=φ.z∧VRs ψ B args' ∧
      (∀(i:Nat) (ob:Ob),H0[i]?=some ob→ob.live=true→∃B bs tot,ψ i=some (B,bs,tot)∧ObR ψ w ob B bs tot)∧∀b,H0.length≤b→ψ b=none) (h:Hp) :
    Fact P (.call f A h) (.ret u h):=by
  refine ⟨fun hb=>⟨Pres.refl _,?_⟩,trivial⟩
  intro K w0 φ w args' n hI hA
  obtain ⟨B,v,h1,ψ,hf,hfz,hz,hB,hob,htop⟩:=hm K w0 φ h.bl w args' hI hA
  obtain ⟨_,hh⟩:=hf.1 (Nat.le_refl _)
  have hI1:Inv (fun k=>k<w.heap.size∧φ.z k=none) w ψ H0 w:=by
    refine ⟨hob,fun i j ob ob' x y _ hi _ hr=>?_,fun i ob x hi hr=>?_,fun _ _=>rfl,fun _ h=>h.1,Nat.le_refl _,rfl,rfl,rfl,htop,fun B o hB=>hI.frz B o (hz ▸ hB),fun i ob x hi hr=>?_,fun k hk=>by rw [hz];exact hk.2⟩
    · rw [hro i ob hi]at hr;cases hr
    · rw [hro i ob hi]at hr;cases hr
    · rw [hro i ob hi]at hr;cases hr
  refine (hh _ w ψ w _ n hI1 hB).mono ?_
  intro e w' he
  cases e with
  | returned v' =>
    obtain ⟨φ',hle,hv',hF⟩:=he
    have hfz':frzV zs h1.bl v (fun v=>some (.ret v ⟨[],0,[]⟩))=some (.ret u ⟨[],0,[]⟩):=hfz
    have hM:=zF_made hF 0
    obtain ⟨u',k1,k2⟩:=frzV_ok (ψ:=⟨φ.f,zF φ' h1.bl 0 w'⟩) hM hfz' hv'
    simp only [Option.some.injEq,Out.ret.injEq,and_true]at k2
    subst k2
    have hzz:∀B o,φ.z B=some o→zF φ' h1.bl 0 w' B=some o:=fun B o hB=>hM.le B o (hle.zz B o (hz ▸ hB))
    have hle2:le φ ⟨φ.f,zF φ' h1.bl 0 w'⟩:=⟨fun b x hx=>hx,hzz⟩
    have hsame:∀k,k<w.heap.size→w'.heap[k]?=w.heap[k]?:=fun k hk=>by
      cases hq:φ.z k with
      | none=>exact hF.keep k ⟨hk,hq⟩
      | some o=>rw [hI.frz k o hq,hF.frz k o (hle.zz k o (hz ▸ hq))]
    refine ⟨⟨φ.f,zF φ' h1.bl 0 w'⟩,hle2,k1,?_⟩
    refine ⟨?_,hI.sep,hI.prot,fun k hk=>?_,hI.klt,Nat.le_trans hI.size hF.size,hF.os.trans hI.os,hF.tape.trans hI.tape,hF.output.trans hI.output,hI.top,fun B o hB=>?_,fun b ob x hb hrw hx=>?_,fun k hk=>?_⟩
    · intro b ob hb' hl
      obtain ⟨B,base,tot,h1,h2⟩:=hI.obs b ob hb' hl
      exact ⟨B,base,tot,h1,h2.keep hle2 (hsame B (h2.lt hl))⟩
    · have:=hI.klt k hk
      have:=hI.size
      rw [hsame k (by omega)];exact hI.keep k hk
    · have hB':zF φ' h1.bl 0 w' B=some o:=hB
      unfold zF at hB'
      split at hB'
      · exact hB'
      · exact hF.frz B o hB'
    · obtain ⟨B,base,tot,q1,q2⟩:=hI.obs b ob hb (Ob.live_of_rw hrw)
      rw [q1]at hx;cases hx
      exact zF_k hF 0 ⟨q2.lt (Ob.live_of_rw hrw),hI.zsep b ob _ hb hrw q1⟩
    · have h1':=hI.klt k hk
      have h2':=hI.size
      exact zF_k hF 0 ⟨by omega,hI.zk k hk⟩
  | panicked ch=>exact he.elim
  | outgrown=>exact he.elim
end
end
end Go.Gi
