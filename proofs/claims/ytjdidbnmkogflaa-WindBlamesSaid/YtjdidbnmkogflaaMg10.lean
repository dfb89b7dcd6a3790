/- Part 10 of the texts below the claim. Conditions: none. -/
import Derived.Test.YtjdidbnmkogflaaMg9
namespace Go.Proofs.Ytjdidbnmkogflaa.Old
open Go.Gi Go.RowKit
noncomputable section
set_option maxRecDepth 100000
set_option linter.unusedSimpArgs false
set_option linter.unusedVariables false
theorem tree20a (J : Task → List Value) (c : Array Value) (off : Nat) (o1 o2 : Ob) (b d : Option Addr) (n n2 z2 n3 z3 : Nat) (es : Es) (m k age shear : Int) (M : Nat) (y : List Value) :
    evS Try.prog (((sh20a.ans J).below mes20a M).or (p22 22)) 60 (.code none (.loop (theLoop Try.prog 20 0)) ⟨sets (junkF 96 y) [(1, pp 3), (5, .map (some 4)), (39, .slice (some ⟨0, off, none⟩) n 7), (40, .int .i64 m), (41, .int .i64 k)], [], ⟨[.cells c true, o1, o2, .cells ⟨[.slice (some ⟨0, off, none⟩) n 7, .slice b n2 z2, .slice d n3 z3, .int .i64 age, .int .i64 shear]⟩ false, .map es], 3, []⟩⟩) (sumK 5 96 (pick20 [1, 5])) =
    cond (decide (k < m))
 (cond (and (decide ((0 : Int) ≤ k)) (decide (k < (Int.ofNat n))))
 (cond (and true (rdOk c [Leaf.str, (Leaf.int .i64), (Leaf.int .i64), (Leaf.int .i64), (Leaf.int .i64), (Leaf.int .i64), (Leaf.int .i64)] (off + ((Int.toNat k) * 7))))
 (cond (not (nm (getStr c (off + ((Int.toNat k) * 7)))))
 (some (Out.ex Ex.ret (St.mk [(.int .i64 (2 : Int)), (.int .i64 k), (.int .i64 (6 : Int))] [] (Hp.mk [(Ob.cells c true), o1, o2, (Ob.cells ⟨[(.slice (some (Addr.mk 0 off none)) n 7), (.slice b n2 z2), (.slice d n3 z3), (.int .i64 age), (.int .i64 shear)]⟩ false), (Ob.map es)] 96 []))))
 (cond (lkIs Try.prog 105 (.agg ⟨[(.string (getStr c (off + ((Int.toNat k) * 7)))), (.int .i64 (0 : Int)), (.int .i64 (0 : Int)), (.int .i64 (0 : Int))]⟩) es)
 (cond (lkOf Try.prog 105 (.agg ⟨[(.string (getStr c (off + ((Int.toNat k) * 7)))), (.int .i64 (0 : Int)), (.int .i64 (0 : Int)), (.int .i64 (0 : Int))]⟩) es)
 (some (Out.ex Ex.ret (St.mk [(.int .i64 (2 : Int)), (.int .i64 k), (.int .i64 (5 : Int))] [] (Hp.mk [(Ob.cells c true), o1, o2, (Ob.cells ⟨[(.slice (some (Addr.mk 0 off none)) n 7), (.slice b n2 z2), (.slice d n3 z3), (.int .i64 age), (.int .i64 shear)]⟩ false), (Ob.map es)] 96 []))))
 (cond (upIs Try.prog 105 (.agg ⟨[(.string (getStr c (off + ((Int.toNat k) * 7)))), (.int .i64 (0 : Int)), (.int .i64 (0 : Int)), (.int .i64 (0 : Int))]⟩) (.bool true) es)
 (cond (mapSc ((((((1 + 1) + 1) + 1) + 1) + 1) + 1) (upOf Try.prog 105 (.agg ⟨[(.string (getStr c (off + ((Int.toNat k) * 7)))), (.int .i64 (0 : Int)), (.int .i64 (0 : Int)), (.int .i64 (0 : Int))]⟩) (.bool true) es))
 (cond (not (decide ((getInt c ((off + ((Int.toNat k) * 7)) + 1)) = (1 : Int))))
 (cond (not (decide ((getInt c ((off + ((Int.toNat k) * 7)) + 1)) = (2 : Int))))
 (cond (not (decide ((getInt c ((off + ((Int.toNat k) * 7)) + 1)) = (3 : Int))))
 (cond (mapSc (((((1 + 1) + 1) + 1) + 1) + 1) (upOf Try.prog 105 (.agg ⟨[(.string (getStr c (off + ((Int.toNat k) * 7)))), (.int .i64 (0 : Int)), (.int .i64 (0 : Int)), (.int .i64 (0 : Int))]⟩) (.bool true) es))
 (some (Out.ex Ex.ret (St.mk [(.int .i64 (2 : Int)), (.int .i64 k), (.int .i64 (2 : Int))] [] (Hp.mk [(Ob.cells c true), o1, o2, (Ob.cells ⟨[(.slice (some (Addr.mk 0 off none)) n 7), (.slice b n2 z2), (.slice d n3 z3), (.int .i64 age), (.int .i64 shear)]⟩ false), (Ob.map (upOf Try.prog 105 (.agg ⟨[(.string (getStr c (off + ((Int.toNat k) * 7)))), (.int .i64 (0 : Int)), (.int .i64 (0 : Int)), (.int .i64 (0 : Int))]⟩) (.bool true) es))] 96 []))))
 (none))
 (cond (decide ((getInt c (((off + ((Int.toNat k) * 7)) + 1) + 1)) < (0 : Int)))
 (cond (mapSc (((((1 + 1) + 1) + 1) + 1) + 1) (upOf Try.prog 105 (.agg ⟨[(.string (getStr c (off + ((Int.toNat k) * 7)))), (.int .i64 (0 : Int)), (.int .i64 (0 : Int)), (.int .i64 (0 : Int))]⟩) (.bool true) es))
 (some (Out.ex Ex.ret (St.mk [(.int .i64 (2 : Int)), (.int .i64 k), (.int .i64 (7 : Int))] [] (Hp.mk [(Ob.cells c true), o1, o2, (Ob.cells ⟨[(.slice (some (Addr.mk 0 off none)) n 7), (.slice b n2 z2), (.slice d n3 z3), (.int .i64 age), (.int .i64 shear)]⟩ false), (Ob.map (upOf Try.prog 105 (.agg ⟨[(.string (getStr c (off + ((Int.toNat k) * 7)))), (.int .i64 (0 : Int)), (.int .i64 (0 : Int)), (.int .i64 (0 : Int))]⟩) (.bool true) es))] 96 []))))
 (none))
 (cond (decide ((5000 : Int) < (getInt c (((off + ((Int.toNat k) * 7)) + 1) + 1))))
 (cond (mapSc (((((1 + 1) + 1) + 1) + 1) + 1) (upOf Try.prog 105 (.agg ⟨[(.string (getStr c (off + ((Int.toNat k) * 7)))), (.int .i64 (0 : Int)), (.int .i64 (0 : Int)), (.int .i64 (0 : Int))]⟩) (.bool true) es))
 (some (Out.ex Ex.ret (St.mk [(.int .i64 (2 : Int)), (.int .i64 k), (.int .i64 (7 : Int))] [] (Hp.mk [(Ob.cells c true), o1, o2, (Ob.cells ⟨[(.slice (some (Addr.mk 0 off none)) n 7), (.slice b n2 z2), (.slice d n3 z3), (.int .i64 age), (.int .i64 shear)]⟩ false), (Ob.map (upOf Try.prog 105 (.agg ⟨[(.string (getStr c (off + ((Int.toNat k) * 7)))), (.int .i64 (0 : Int)), (.int .i64 (0 : Int)), (.int .i64 (0 : Int))]⟩) (.bool true) es))] 96 []))))
 (none))
 (cond (decide ((getInt c ((((off + ((Int.toNat k) * 7)) + 1) + 1) + 1)) < (0 : Int)))
 (cond (mapSc (((((1 + 1) + 1) + 1) + 1) + 1) (upOf Try.prog 105 (.agg ⟨[(.string (getStr c (off + ((Int.toNat k) * 7)))), (.int .i64 (0 : Int)), (.int .i64 (0 : Int)), (.int .i64 (0 : Int))]⟩) (.bool true) es))
 (some (Out.ex Ex.ret (St.mk [(.int .i64 (2 : Int)), (.int .i64 k), (.int .i64 (7 : Int))] [] (Hp.mk [(Ob.cells c true), o1, o2, (Ob.cells ⟨[(.slice (some (Addr.mk 0 off none)) n 7), (.slice b n2 z2), (.slice d n3 z3), (.int .i64 age), (.int .i64 shear)]⟩ false), (Ob.map (upOf Try.prog 105 (.agg ⟨[(.string (getStr c (off + ((Int.toNat k) * 7)))), (.int .i64 (0 : Int)), (.int .i64 (0 : Int)), (.int .i64 (0 : Int))]⟩) (.bool true) es))] 96 []))))
 (none))
 (cond (decide ((6000 : Int) < (getInt c ((((off + ((Int.toNat k) * 7)) + 1) + 1) + 1))))
 (cond (mapSc (((((1 + 1) + 1) + 1) + 1) + 1) (upOf Try.prog 105 (.agg ⟨[(.string (getStr c (off + ((Int.toNat k) * 7)))), (.int .i64 (0 : Int)), (.int .i64 (0 : Int)), (.int .i64 (0 : Int))]⟩) (.bool true) es))
 (some (Out.ex Ex.ret (St.mk [(.int .i64 (2 : Int)), (.int .i64 k), (.int .i64 (7 : Int))] [] (Hp.mk [(Ob.cells c true), o1, o2, (Ob.cells ⟨[(.slice (some (Addr.mk 0 off none)) n 7), (.slice b n2 z2), (.slice d n3 z3), (.int .i64 age), (.int .i64 shear)]⟩ false), (Ob.map (upOf Try.prog 105 (.agg ⟨[(.string (getStr c (off + ((Int.toNat k) * 7)))), (.int .i64 (0 : Int)), (.int .i64 (0 : Int)), (.int .i64 (0 : Int))]⟩) (.bool true) es))] 96 []))))
 (none))
 (cond (decide ((getInt c (((((off + ((Int.toNat k) * 7)) + 1) + 1) + 1) + 1)) < (1 : Int)))
 (cond (mapSc (((((1 + 1) + 1) + 1) + 1) + 1) (upOf Try.prog 105 (.agg ⟨[(.string (getStr c (off + ((Int.toNat k) * 7)))), (.int .i64 (0 : Int)), (.int .i64 (0 : Int)), (.int .i64 (0 : Int))]⟩) (.bool true) es))
 (some (Out.ex Ex.ret (St.mk [(.int .i64 (2 : Int)), (.int .i64 k), (.int .i64 (7 : Int))] [] (Hp.mk [(Ob.cells c true), o1, o2, (Ob.cells ⟨[(.slice (some (Addr.mk 0 off none)) n 7), (.slice b n2 z2), (.slice d n3 z3), (.int .i64 age), (.int .i64 shear)]⟩ false), (Ob.map (upOf Try.prog 105 (.agg ⟨[(.string (getStr c (off + ((Int.toNat k) * 7)))), (.int .i64 (0 : Int)), (.int .i64 (0 : Int)), (.int .i64 (0 : Int))]⟩) (.bool true) es))] 96 []))))
 (none))
 (cond (decide ((60000 : Int) < (getInt c (((((off + ((Int.toNat k) * 7)) + 1) + 1) + 1) + 1))))
 (cond (mapSc (((((1 + 1) + 1) + 1) + 1) + 1) (upOf Try.prog 105 (.agg ⟨[(.string (getStr c (off + ((Int.toNat k) * 7)))), (.int .i64 (0 : Int)), (.int .i64 (0 : Int)), (.int .i64 (0 : Int))]⟩) (.bool true) es))
 (some (Out.ex Ex.ret (St.mk [(.int .i64 (2 : Int)), (.int .i64 k), (.int .i64 (7 : Int))] [] (Hp.mk [(Ob.cells c true), o1, o2, (Ob.cells ⟨[(.slice (some (Addr.mk 0 off none)) n 7), (.slice b n2 z2), (.slice d n3 z3), (.int .i64 age), (.int .i64 shear)]⟩ false), (Ob.map (upOf Try.prog 105 (.agg ⟨[(.string (getStr c (off + ((Int.toNat k) * 7)))), (.int .i64 (0 : Int)), (.int .i64 (0 : Int)), (.int .i64 (0 : Int))]⟩) (.bool true) es))] 96 []))))
 (none))
 (cond (decide ((0 : Int) ≤ (getInt c ((((((off + ((Int.toNat k) * 7)) + 1) + 1) + 1) + 1) + 1))))
 (cond (not (decide ((getInt c ((((((off + ((Int.toNat k) * 7)) + 1) + 1) + 1) + 1) + 1)) < (100000000 : Int))))
 (cond (mapSc (((((1 + 1) + 1) + 1) + 1) + 1) (upOf Try.prog 105 (.agg ⟨[(.string (getStr c (off + ((Int.toNat k) * 7)))), (.int .i64 (0 : Int)), (.int .i64 (0 : Int)), (.int .i64 (0 : Int))]⟩) (.bool true) es))
 (some (Out.ex Ex.ret (St.mk [(.int .i64 (2 : Int)), (.int .i64 k), (.int .i64 (7 : Int))] [] (Hp.mk [(Ob.cells c true), o1, o2, (Ob.cells ⟨[(.slice (some (Addr.mk 0 off none)) n 7), (.slice b n2 z2), (.slice d n3 z3), (.int .i64 age), (.int .i64 shear)]⟩ false), (Ob.map (upOf Try.prog 105 (.agg ⟨[(.string (getStr c (off + ((Int.toNat k) * 7)))), (.int .i64 (0 : Int)), (.int .i64 (0 : Int)), (.int .i64 (0 : Int))]⟩) (.bool true) es))] 96 []))))
 (none))
 (cond (decide ((0 : Int) ≤ (getInt c (((((((off + ((Int.toNat k) * 7)) + 1) + 1) + 1) + 1) + 1) + 1))))
 (cond (not (decide ((getInt c (((((((off + ((Int.toNat k) * 7)) + 1) + 1) + 1) + 1) + 1) + 1)) < (100000000 : Int))))
 (cond (mapSc (((((1 + 1) + 1) + 1) + 1) + 1) (upOf Try.prog 105 (.agg ⟨[(.string (getStr c (off + ((Int.toNat k) * 7)))), (.int .i64 (0 : Int)), (.int .i64 (0 : Int)), (.int .i64 (0 : Int))]⟩) (.bool true) es))
 (some (Out.ex Ex.ret (St.mk [(.int .i64 (2 : Int)), (.int .i64 k), (.int .i64 (7 : Int))] [] (Hp.mk [(Ob.cells c true), o1, o2, (Ob.cells ⟨[(.slice (some (Addr.mk 0 off none)) n 7), (.slice b n2 z2), (.slice d n3 z3), (.int .i64 age), (.int .i64 shear)]⟩ false), (Ob.map (upOf Try.prog 105 (.agg ⟨[(.string (getStr c (off + ((Int.toNat k) * 7)))), (.int .i64 (0 : Int)), (.int .i64 (0 : Int)), (.int .i64 (0 : Int))]⟩) (.bool true) es))] 96 []))))
 (none))
 (cond (decide ((getInt c (((((((off + ((Int.toNat k) * 7)) + 1) + 1) + 1) + 1) + 1) + 1)) < (getInt c ((((((off + ((Int.toNat k) * 7)) + 1) + 1) + 1) + 1) + 1))))
 (cond (mapSc (((((1 + 1) + 1) + 1) + 1) + 1) (upOf Try.prog 105 (.agg ⟨[(.string (getStr c (off + ((Int.toNat k) * 7)))), (.int .i64 (0 : Int)), (.int .i64 (0 : Int)), (.int .i64 (0 : Int))]⟩) (.bool true) es))
 (some (Out.ex Ex.ret (St.mk [(.int .i64 (2 : Int)), (.int .i64 k), (.int .i64 (7 : Int))] [] (Hp.mk [(Ob.cells c true), o1, o2, (Ob.cells ⟨[(.slice (some (Addr.mk 0 off none)) n 7), (.slice b n2 z2), (.slice d n3 z3), (.int .i64 age), (.int .i64 shear)]⟩ false), (Ob.map (upOf Try.prog 105 (.agg ⟨[(.string (getStr c (off + ((Int.toNat k) * 7)))), (.int .i64 (0 : Int)), (.int .i64 (0 : Int)), (.int .i64 (0 : Int))]⟩) (.bool true) es))] 96 []))))
 (none))
 (cond (mapSc (((((1 + 1) + 1) + 1) + 1) + 1) (upOf Try.prog 105 (.agg ⟨[(.string (getStr c (off + ((Int.toNat k) * 7)))), (.int .i64 (0 : Int)), (.int .i64 (0 : Int)), (.int .i64 (0 : Int))]⟩) (.bool true) es))
 (cond (Nat.blt (Nat.sub (Int.toNat m) (Int.toNat (IntKind.wrap .i64 (k + (1 : Int))))) M)
 (cond (eqCode (theLoop Try.prog 20 0) (theLoop Try.prog 20 0))
 (cond (okA20 c off n b d n2 z2 n3 z3 o1 o2 m (IntKind.wrap .i64 (k + (1 : Int))) off n)
 (cond (okM (upOf Try.prog 105 (.agg ⟨[(.string (getStr c (off + ((Int.toNat k) * 7)))), (.int .i64 (0 : Int)), (.int .i64 (0 : Int)), (.int .i64 (0 : Int))]⟩) (.bool true) es))
 (cond (saB c off (n - (Int.toNat (IntKind.wrap .i64 (k + (1 : Int))))) (Int.toNat (IntKind.wrap .i64 (k + (1 : Int)))) (upOf Try.prog 105 (.agg ⟨[(.string (getStr c (off + ((Int.toNat k) * 7)))), (.int .i64 (0 : Int)), (.int .i64 (0 : Int)), (.int .i64 (0 : Int))]⟩) (.bool true) es))
 (some (Out.ex Ex.ret (St.mk [(.int .i64 (2 : Int)), (.int .i64 (Int.ofNat (saI c off (n - (Int.toNat (IntKind.wrap .i64 (k + (1 : Int))))) (Int.toNat (IntKind.wrap .i64 (k + (1 : Int)))) (upOf Try.prog 105 (.agg ⟨[(.string (getStr c (off + ((Int.toNat k) * 7)))), (.int .i64 (0 : Int)), (.int .i64 (0 : Int)), (.int .i64 (0 : Int))]⟩) (.bool true) es)))), (.int .i64 (saE c off (n - (Int.toNat (IntKind.wrap .i64 (k + (1 : Int))))) (Int.toNat (IntKind.wrap .i64 (k + (1 : Int)))) (upOf Try.prog 105 (.agg ⟨[(.string (getStr c (off + ((Int.toNat k) * 7)))), (.int .i64 (0 : Int)), (.int .i64 (0 : Int)), (.int .i64 (0 : Int))]⟩) (.bool true) es)))] [] (Hp.mk [(Ob.cells c true), o1, o2, (Ob.cells ⟨[(.slice (some (Addr.mk 0 off none)) n 7), (.slice b n2 z2), (.slice d n3 z3), (.int .i64 age), (.int .i64 shear)]⟩ false), (Ob.map (saM c off (n - (Int.toNat (IntKind.wrap .i64 (k + (1 : Int))))) (Int.toNat (IntKind.wrap .i64 (k + (1 : Int)))) (upOf Try.prog 105 (.agg ⟨[(.string (getStr c (off + ((Int.toNat k) * 7)))), (.int .i64 (0 : Int)), (.int .i64 (0 : Int)), (.int .i64 (0 : Int))]⟩) (.bool true) es)))] 96 []))))
 (some (Out.ex (Ex.exit 0) (St.mk [(.pointer (some (Addr.mk 3 0 none))), (.map (some 4))] [] (Hp.mk [(Ob.cells c true), o1, o2, (Ob.cells ⟨[(.slice (some (Addr.mk 0 off none)) n 7), (.slice b n2 z2), (.slice d n3 z3), (.int .i64 age), (.int .i64 shear)]⟩ false), (Ob.map (saM c off (n - (Int.toNat (IntKind.wrap .i64 (k + (1 : Int))))) (Int.toNat (IntKind.wrap .i64 (k + (1 : Int)))) (upOf Try.prog 105 (.agg ⟨[(.string (getStr c (off + ((Int.toNat k) * 7)))), (.int .i64 (0 : Int)), (.int .i64 (0 : Int)), (.int .i64 (0 : Int))]⟩) (.bool true) es)))] 96 [])))))
 (none))
 (none))
 (none))
 (none))
 (none))))
 (cond (mapSc (((((1 + 1) + 1) + 1) + 1) + 1) (upOf Try.prog 105 (.agg ⟨[(.string (getStr c (off + ((Int.toNat k) * 7)))), (.int .i64 (0 : Int)), (.int .i64 (0 : Int)), (.int .i64 (0 : Int))]⟩) (.bool true) es))
 (some (Out.ex Ex.ret (St.mk [(.int .i64 (2 : Int)), (.int .i64 k), (.int .i64 (7 : Int))] [] (Hp.mk [(Ob.cells c true), o1, o2, (Ob.cells ⟨[(.slice (some (Addr.mk 0 off none)) n 7), (.slice b n2 z2), (.slice d n3 z3), (.int .i64 age), (.int .i64 shear)]⟩ false), (Ob.map (upOf Try.prog 105 (.agg ⟨[(.string (getStr c (off + ((Int.toNat k) * 7)))), (.int .i64 (0 : Int)), (.int .i64 (0 : Int)), (.int .i64 (0 : Int))]⟩) (.bool true) es))] 96 []))))
 (none))))
 (cond (mapSc (((((1 + 1) + 1) + 1) + 1) + 1) (upOf Try.prog 105 (.agg ⟨[(.string (getStr c (off + ((Int.toNat k) * 7)))), (.int .i64 (0 : Int)), (.int .i64 (0 : Int)), (.int .i64 (0 : Int))]⟩) (.bool true) es))
 (some (Out.ex Ex.ret (St.mk [(.int .i64 (2 : Int)), (.int .i64 k), (.int .i64 (7 : Int))] [] (Hp.mk [(Ob.cells c true), o1, o2, (Ob.cells ⟨[(.slice (some (Addr.mk 0 off none)) n 7), (.slice b n2 z2), (.slice d n3 z3), (.int .i64 age), (.int .i64 shear)]⟩ false), (Ob.map (upOf Try.prog 105 (.agg ⟨[(.string (getStr c (off + ((Int.toNat k) * 7)))), (.int .i64 (0 : Int)), (.int .i64 (0 : Int)), (.int .i64 (0 : Int))]⟩) (.bool true) es))] 96 []))))
 (none))))))))))
 (cond (decide ((getInt c (((off + ((Int.toNat k) * 7)) + 1) + 1)) < (0 : Int)))
 (cond (mapSc (((((1 + 1) + 1) + 1) + 1) + 1) (upOf Try.prog 105 (.agg ⟨[(.string (getStr c (off + ((Int.toNat k) * 7)))), (.int .i64 (0 : Int)), (.int .i64 (0 : Int)), (.int .i64 (0 : Int))]⟩) (.bool true) es))
 (some (Out.ex Ex.ret (St.mk [(.int .i64 (2 : Int)), (.int .i64 k), (.int .i64 (7 : Int))] [] (Hp.mk [(Ob.cells c true), o1, o2, (Ob.cells ⟨[(.slice (some (Addr.mk 0 off none)) n 7), (.slice b n2 z2), (.slice d n3 z3), (.int .i64 age), (.int .i64 shear)]⟩ false), (Ob.map (upOf Try.prog 105 (.agg ⟨[(.string (getStr c (off + ((Int.toNat k) * 7)))), (.int .i64 (0 : Int)), (.int .i64 (0 : Int)), (.int .i64 (0 : Int))]⟩) (.bool true) es))] 96 []))))
 (none))
 (cond (decide ((5000 : Int) < (getInt c (((off + ((Int.toNat k) * 7)) + 1) + 1))))
 (cond (mapSc (((((1 + 1) + 1) + 1) + 1) + 1) (upOf Try.prog 105 (.agg ⟨[(.string (getStr c (off + ((Int.toNat k) * 7)))), (.int .i64 (0 : Int)), (.int .i64 (0 : Int)), (.int .i64 (0 : Int))]⟩) (.bool true) es))
 (some (Out.ex Ex.ret (St.mk [(.int .i64 (2 : Int)), (.int .i64 k), (.int .i64 (7 : Int))] [] (Hp.mk [(Ob.cells c true), o1, o2, (Ob.cells ⟨[(.slice (some (Addr.mk 0 off none)) n 7), (.slice b n2 z2), (.slice d n3 z3), (.int .i64 age), (.int .i64 shear)]⟩ false), (Ob.map (upOf Try.prog 105 (.agg ⟨[(.string (getStr c (off + ((Int.toNat k) * 7)))), (.int .i64 (0 : Int)), (.int .i64 (0 : Int)), (.int .i64 (0 : Int))]⟩) (.bool true) es))] 96 []))))
 (none))
 (cond (decide ((getInt c ((((off + ((Int.toNat k) * 7)) + 1) + 1) + 1)) < (0 : Int)))
 (cond (mapSc (((((1 + 1) + 1) + 1) + 1) + 1) (upOf Try.prog 105 (.agg ⟨[(.string (getStr c (off + ((Int.toNat k) * 7)))), (.int .i64 (0 : Int)), (.int .i64 (0 : Int)), (.int .i64 (0 : Int))]⟩) (.bool true) es))
 (some (Out.ex Ex.ret (St.mk [(.int .i64 (2 : Int)), (.int .i64 k), (.int .i64 (7 : Int))] [] (Hp.mk [(Ob.cells c true), o1, o2, (Ob.cells ⟨[(.slice (some (Addr.mk 0 off none)) n 7), (.slice b n2 z2), (.slice d n3 z3), (.int .i64 age), (.int .i64 shear)]⟩ false), (Ob.map (upOf Try.prog 105 (.agg ⟨[(.string (getStr c (off + ((Int.toNat k) * 7)))), (.int .i64 (0 : Int)), (.int .i64 (0 : Int)), (.int .i64 (0 : Int))]⟩) (.bool true) es))] 96 []))))
 (none))
 (cond (decide ((6000 : Int) < (getInt c ((((off + ((Int.toNat k) * 7)) + 1) + 1) + 1))))
 (cond (mapSc (((((1 + 1) + 1) + 1) + 1) + 1) (upOf Try.prog 105 (.agg ⟨[(.string (getStr c (off + ((Int.toNat k) * 7)))), (.int .i64 (0 : Int)), (.int .i64 (0 : Int)), (.int .i64 (0 : Int))]⟩) (.bool true) es))
 (some (Out.ex Ex.ret (St.mk [(.int .i64 (2 : Int)), (.int .i64 k), (.int .i64 (7 : Int))] [] (Hp.mk [(Ob.cells c true), o1, o2, (Ob.cells ⟨[(.slice (some (Addr.mk 0 off none)) n 7), (.slice b n2 z2), (.slice d n3 z3), (.int .i64 age), (.int .i64 shear)]⟩ false), (Ob.map (upOf Try.prog 105 (.agg ⟨[(.string (getStr c (off + ((Int.toNat k) * 7)))), (.int .i64 (0 : Int)), (.int .i64 (0 : Int)), (.int .i64 (0 : Int))]⟩) (.bool true) es))] 96 []))))
 (none))
 (cond (decide ((getInt c (((((off + ((Int.toNat k) * 7)) + 1) + 1) + 1) + 1)) < (1 : Int)))
 (cond (mapSc (((((1 + 1) + 1) + 1) + 1) + 1) (upOf Try.prog 105 (.agg ⟨[(.string (getStr c (off + ((Int.toNat k) * 7)))), (.int .i64 (0 : Int)), (.int .i64 (0 : Int)), (.int .i64 (0 : Int))]⟩) (.bool true) es))
 (some (Out.ex Ex.ret (St.mk [(.int .i64 (2 : Int)), (.int .i64 k), (.int .i64 (7 : Int))] [] (Hp.mk [(Ob.cells c true), o1, o2, (Ob.cells ⟨[(.slice (some (Addr.mk 0 off none)) n 7), (.slice b n2 z2), (.slice d n3 z3), (.int .i64 age), (.int .i64 shear)]⟩ false), (Ob.map (upOf Try.prog 105 (.agg ⟨[(.string (getStr c (off + ((Int.toNat k) * 7)))), (.int .i64 (0 : Int)), (.int .i64 (0 : Int)), (.int .i64 (0 : Int))]⟩) (.bool true) es))] 96 []))))
 (none))
 (cond (decide ((60000 : Int) < (getInt c (((((off + ((Int.toNat k) * 7)) + 1) + 1) + 1) + 1))))
 (cond (mapSc (((((1 + 1) + 1) + 1) + 1) + 1) (upOf Try.prog 105 (.agg ⟨[(.string (getStr c (off + ((Int.toNat k) * 7)))), (.int .i64 (0 : Int)), (.int .i64 (0 : Int)), (.int .i64 (0 : Int))]⟩) (.bool true) es))
 (some (Out.ex Ex.ret (St.mk [(.int .i64 (2 : Int)), (.int .i64 k), (.int .i64 (7 : Int))] [] (Hp.mk [(Ob.cells c true), o1, o2, (Ob.cells ⟨[(.slice (some (Addr.mk 0 off none)) n 7), (.slice b n2 z2), (.slice d n3 z3), (.int .i64 age), (.int .i64 shear)]⟩ false), (Ob.map (upOf Try.prog 105 (.agg ⟨[(.string (getStr c (off + ((Int.toNat k) * 7)))), (.int .i64 (0 : Int)), (.int .i64 (0 : Int)), (.int .i64 (0 : Int))]⟩) (.bool true) es))] 96 []))))
 (none))
 (cond (decide ((0 : Int) ≤ (getInt c ((((((off + ((Int.toNat k) * 7)) + 1) + 1) + 1) + 1) + 1))))
 (cond (not (decide ((getInt c ((((((off + ((Int.toNat k) * 7)) + 1) + 1) + 1) + 1) + 1)) < (100000000 : Int))))
 (cond (mapSc (((((1 + 1) + 1) + 1) + 1) + 1) (upOf Try.prog 105 (.agg ⟨[(.string (getStr c (off + ((Int.toNat k) * 7)))), (.int .i64 (0 : Int)), (.int .i64 (0 : Int)), (.int .i64 (0 : Int))]⟩) (.bool true) es))
 (some (Out.ex Ex.ret (St.mk [(.int .i64 (2 : Int)), (.int .i64 k), (.int .i64 (7 : Int))] [] (Hp.mk [(Ob.cells c true), o1, o2, (Ob.cells ⟨[(.slice (some (Addr.mk 0 off none)) n 7), (.slice b n2 z2), (.slice d n3 z3), (.int .i64 age), (.int .i64 shear)]⟩ false), (Ob.map (upOf Try.prog 105 (.agg ⟨[(.string (getStr c (off + ((Int.toNat k) * 7)))), (.int .i64 (0 : Int)), (.int .i64 (0 : Int)), (.int .i64 (0 : Int))]⟩) (.bool true) es))] 96 []))))
 (none))
 (cond (decide ((0 : Int) ≤ (getInt c (((((((off + ((Int.toNat k) * 7)) + 1) + 1) + 1) + 1) + 1) + 1))))
 (cond (not (decide ((getInt c (((((((off + ((Int.toNat k) * 7)) + 1) + 1) + 1) + 1) + 1) + 1)) < (100000000 : Int))))
 (cond (mapSc (((((1 + 1) + 1) + 1) + 1) + 1) (upOf Try.prog 105 (.agg ⟨[(.string (getStr c (off + ((Int.toNat k) * 7)))), (.int .i64 (0 : Int)), (.int .i64 (0 : Int)), (.int .i64 (0 : Int))]⟩) (.bool true) es))
 (some (Out.ex Ex.ret (St.mk [(.int .i64 (2 : Int)), (.int .i64 k), (.int .i64 (7 : Int))] [] (Hp.mk [(Ob.cells c true), o1, o2, (Ob.cells ⟨[(.slice (some (Addr.mk 0 off none)) n 7), (.slice b n2 z2), (.slice d n3 z3), (.int .i64 age), (.int .i64 shear)]⟩ false), (Ob.map (upOf Try.prog 105 (.agg ⟨[(.string (getStr c (off + ((Int.toNat k) * 7)))), (.int .i64 (0 : Int)), (.int .i64 (0 : Int)), (.int .i64 (0 : Int))]⟩) (.bool true) es))] 96 []))))
 (none))
 (cond (decide ((getInt c (((((((off + ((Int.toNat k) * 7)) + 1) + 1) + 1) + 1) + 1) + 1)) < (getInt c ((((((off + ((Int.toNat k) * 7)) + 1) + 1) + 1) + 1) + 1))))
 (cond (mapSc (((((1 + 1) + 1) + 1) + 1) + 1) (upOf Try.prog 105 (.agg ⟨[(.string (getStr c (off + ((Int.toNat k) * 7)))), (.int .i64 (0 : Int)), (.int .i64 (0 : Int)), (.int .i64 (0 : Int))]⟩) (.bool true) es))
 (some (Out.ex Ex.ret (St.mk [(.int .i64 (2 : Int)), (.int .i64 k), (.int .i64 (7 : Int))] [] (Hp.mk [(Ob.cells c true), o1, o2, (Ob.cells ⟨[(.slice (some (Addr.mk 0 off none)) n 7), (.slice b n2 z2), (.slice d n3 z3), (.int .i64 age), (.int .i64 shear)]⟩ false), (Ob.map (upOf Try.prog 105 (.agg ⟨[(.string (getStr c (off + ((Int.toNat k) * 7)))), (.int .i64 (0 : Int)), (.int .i64 (0 : Int)), (.int .i64 (0 : Int))]⟩) (.bool true) es))] 96 []))))
 (none))
 (cond (mapSc (((((1 + 1) + 1) + 1) + 1) + 1) (upOf Try.prog 105 (.agg ⟨[(.string (getStr c (off + ((Int.toNat k) * 7)))), (.int .i64 (0 : Int)), (.int .i64 (0 : Int)), (.int .i64 (0 : Int))]⟩) (.bool true) es))
 (cond (Nat.blt (Nat.sub (Int.toNat m) (Int.toNat (IntKind.wrap .i64 (k + (1 : Int))))) M)
 (cond (eqCode (theLoop Try.prog 20 0) (theLoop Try.prog 20 0))
 (cond (okA20 c off n b d n2 z2 n3 z3 o1 o2 m (IntKind.wrap .i64 (k + (1 : Int))) off n)
 (cond (okM (upOf Try.prog 105 (.agg ⟨[(.string (getStr c (off + ((Int.toNat k) * 7)))), (.int .i64 (0 : Int)), (.int .i64 (0 : Int)), (.int .i64 (0 : Int))]⟩) (.bool true) es))
 (cond (saB c off (n - (Int.toNat (IntKind.wrap .i64 (k + (1 : Int))))) (Int.toNat (IntKind.wrap .i64 (k + (1 : Int)))) (upOf Try.prog 105 (.agg ⟨[(.string (getStr c (off + ((Int.toNat k) * 7)))), (.int .i64 (0 : Int)), (.int .i64 (0 : Int)), (.int .i64 (0 : Int))]⟩) (.bool true) es))
 (some (Out.ex Ex.ret (St.mk [(.int .i64 (2 : Int)), (.int .i64 (Int.ofNat (saI c off (n - (Int.toNat (IntKind.wrap .i64 (k + (1 : Int))))) (Int.toNat (IntKind.wrap .i64 (k + (1 : Int)))) (upOf Try.prog 105 (.agg ⟨[(.string (getStr c (off + ((Int.toNat k) * 7)))), (.int .i64 (0 : Int)), (.int .i64 (0 : Int)), (.int .i64 (0 : Int))]⟩) (.bool true) es)))), (.int .i64 (saE c off (n - (Int.toNat (IntKind.wrap .i64 (k + (1 : Int))))) (Int.toNat (IntKind.wrap .i64 (k + (1 : Int)))) (upOf Try.prog 105 (.agg ⟨[(.string (getStr c (off + ((Int.toNat k) * 7)))), (.int .i64 (0 : Int)), (.int .i64 (0 : Int)), (.int .i64 (0 : Int))]⟩) (.bool true) es)))] [] (Hp.mk [(Ob.cells c true), o1, o2, (Ob.cells ⟨[(.slice (some (Addr.mk 0 off none)) n 7), (.slice b n2 z2), (.slice d n3 z3), (.int .i64 age), (.int .i64 shear)]⟩ false), (Ob.map (saM c off (n - (Int.toNat (IntKind.wrap .i64 (k + (1 : Int))))) (Int.toNat (IntKind.wrap .i64 (k + (1 : Int)))) (upOf Try.prog 105 (.agg ⟨[(.string (getStr c (off + ((Int.toNat k) * 7)))), (.int .i64 (0 : Int)), (.int .i64 (0 : Int)), (.int .i64 (0 : Int))]⟩) (.bool true) es)))] 96 []))))
 (some (Out.ex (Ex.exit 0) (St.mk [(.pointer (some (Addr.mk 3 0 none))), (.map (some 4))] [] (Hp.mk [(Ob.cells c true), o1, o2, (Ob.cells ⟨[(.slice (some (Addr.mk 0 off none)) n 7), (.slice b n2 z2), (.slice d n3 z3), (.int .i64 age), (.int .i64 shear)]⟩ false), (Ob.map (saM c off (n - (Int.toNat (IntKind.wrap .i64 (k + (1 : Int))))) (Int.toNat (IntKind.wrap .i64 (k + (1 : Int)))) (upOf Try.prog 105 (.agg ⟨[(.string (getStr c (off + ((Int.toNat k) * 7)))), (.int .i64 (0 : Int)), (.int .i64 (0 : Int)), (.int .i64 (0 : Int))]⟩) (.bool true) es)))] 96 [])))))
 (none))
 (none))
 (none))
 (none))
 (none))))
 (cond (mapSc (((((1 + 1) + 1) + 1) + 1) + 1) (upOf Try.prog 105 (.agg ⟨[(.string (getStr c (off + ((Int.toNat k) * 7)))), (.int .i64 (0 : Int)), (.int .i64 (0 : Int)), (.int .i64 (0 : Int))]⟩) (.bool true) es))
 (some (Out.ex Ex.ret (St.mk [(.int .i64 (2 : Int)), (.int .i64 k), (.int .i64 (7 : Int))] [] (Hp.mk [(Ob.cells c true), o1, o2, (Ob.cells ⟨[(.slice (some (Addr.mk 0 off none)) n 7), (.slice b n2 z2), (.slice d n3 z3), (.int .i64 age), (.int .i64 shear)]⟩ false), (Ob.map (upOf Try.prog 105 (.agg ⟨[(.string (getStr c (off + ((Int.toNat k) * 7)))), (.int .i64 (0 : Int)), (.int .i64 (0 : Int)), (.int .i64 (0 : Int))]⟩) (.bool true) es))] 96 []))))
 (none))))
 (cond (mapSc (((((1 + 1) + 1) + 1) + 1) + 1) (upOf Try.prog 105 (.agg ⟨[(.string (getStr c (off + ((Int.toNat k) * 7)))), (.int .i64 (0 : Int)), (.int .i64 (0 : Int)), (.int .i64 (0 : Int))]⟩) (.bool true) es))
 (some (Out.ex Ex.ret (St.mk [(.int .i64 (2 : Int)), (.int .i64 k), (.int .i64 (7 : Int))] [] (Hp.mk [(Ob.cells c true), o1, o2, (Ob.cells ⟨[(.slice (some (Addr.mk 0 off none)) n 7), (.slice b n2 z2), (.slice d n3 z3), (.int .i64 age), (.int .i64 shear)]⟩ false), (Ob.map (upOf Try.prog 105 (.agg ⟨[(.string (getStr c (off + ((Int.toNat k) * 7)))), (.int .i64 (0 : Int)), (.int .i64 (0 : Int)), (.int .i64 (0 : Int))]⟩) (.bool true) es))] 96 []))))
 (none))))))))))
 (cond (decide ((getInt c (((off + ((Int.toNat k) * 7)) + 1) + 1)) < (0 : Int)))
 (cond (mapSc (((((1 + 1) + 1) + 1) + 1) + 1) (upOf Try.prog 105 (.agg ⟨[(.string (getStr c (off + ((Int.toNat k) * 7)))), (.int .i64 (0 : Int)), (.int .i64 (0 : Int)), (.int .i64 (0 : Int))]⟩) (.bool true) es))
 (some (Out.ex Ex.ret (St.mk [(.int .i64 (2 : Int)), (.int .i64 k), (.int .i64 (7 : Int))] [] (Hp.mk [(Ob.cells c true), o1, o2, (Ob.cells ⟨[(.slice (some (Addr.mk 0 off none)) n 7), (.slice b n2 z2), (.slice d n3 z3), (.int .i64 age), (.int .i64 shear)]⟩ false), (Ob.map (upOf Try.prog 105 (.agg ⟨[(.string (getStr c (off + ((Int.toNat k) * 7)))), (.int .i64 (0 : Int)), (.int .i64 (0 : Int)), (.int .i64 (0 : Int))]⟩) (.bool true) es))] 96 []))))
 (none))
 (cond (decide ((5000 : Int) < (getInt c (((off + ((Int.toNat k) * 7)) + 1) + 1))))
 (cond (mapSc (((((1 + 1) + 1) + 1) + 1) + 1) (upOf Try.prog 105 (.agg ⟨[(.string (getStr c (off + ((Int.toNat k) * 7)))), (.int .i64 (0 : Int)), (.int .i64 (0 : Int)), (.int .i64 (0 : Int))]⟩) (.bool true) es))
 (some (Out.ex Ex.ret (St.mk [(.int .i64 (2 : Int)), (.int .i64 k), (.int .i64 (7 : Int))] [] (Hp.mk [(Ob.cells c true), o1, o2, (Ob.cells ⟨[(.slice (some (Addr.mk 0 off none)) n 7), (.slice b n2 z2), (.slice d n3 z3), (.int .i64 age), (.int .i64 shear)]⟩ false), (Ob.map (upOf Try.prog 105 (.agg ⟨[(.string (getStr c (off + ((Int.toNat k) * 7)))), (.int .i64 (0 : Int)), (.int .i64 (0 : Int)), (.int .i64 (0 : Int))]⟩) (.bool true) es))] 96 []))))
 (none))
 (cond (decide ((getInt c ((((off + ((Int.toNat k) * 7)) + 1) + 1) + 1)) < (0 : Int)))
 (cond (mapSc (((((1 + 1) + 1) + 1) + 1) + 1) (upOf Try.prog 105 (.agg ⟨[(.string (getStr c (off + ((Int.toNat k) * 7)))), (.int .i64 (0 : Int)), (.int .i64 (0 : Int)), (.int .i64 (0 : Int))]⟩) (.bool true) es))
 (some (Out.ex Ex.ret (St.mk [(.int .i64 (2 : Int)), (.int .i64 k), (.int .i64 (7 : Int))] [] (Hp.mk [(Ob.cells c true), o1, o2, (Ob.cells ⟨[(.slice (some (Addr.mk 0 off none)) n 7), (.slice b n2 z2), (.slice d n3 z3), (.int .i64 age), (.int .i64 shear)]⟩ false), (Ob.map (upOf Try.prog 105 (.agg ⟨[(.string (getStr c (off + ((Int.toNat k) * 7)))), (.int .i64 (0 : Int)), (.int .i64 (0 : Int)), (.int .i64 (0 : Int))]⟩) (.bool true) es))] 96 []))))
 (none))
 (cond (decide ((6000 : Int) < (getInt c ((((off + ((Int.toNat k) * 7)) + 1) + 1) + 1))))
 (cond (mapSc (((((1 + 1) + 1) + 1) + 1) + 1) (upOf Try.prog 105 (.agg ⟨[(.string (getStr c (off + ((Int.toNat k) * 7)))), (.int .i64 (0 : Int)), (.int .i64 (0 : Int)), (.int .i64 (0 : Int))]⟩) (.bool true) es))
 (some (Out.ex Ex.ret (St.mk [(.int .i64 (2 : Int)), (.int .i64 k), (.int .i64 (7 : Int))] [] (Hp.mk [(Ob.cells c true), o1, o2, (Ob.cells ⟨[(.slice (some (Addr.mk 0 off none)) n 7), (.slice b n2 z2), (.slice d n3 z3), (.int .i64 age), (.int .i64 shear)]⟩ false), (Ob.map (upOf Try.prog 105 (.agg ⟨[(.string (getStr c (off + ((Int.toNat k) * 7)))), (.int .i64 (0 : Int)), (.int .i64 (0 : Int)), (.int .i64 (0 : Int))]⟩) (.bool true) es))] 96 []))))
 (none))
 (cond (decide ((getInt c (((((off + ((Int.toNat k) * 7)) + 1) + 1) + 1) + 1)) < (1 : Int)))
 (cond (mapSc (((((1 + 1) + 1) + 1) + 1) + 1) (upOf Try.prog 105 (.agg ⟨[(.string (getStr c (off + ((Int.toNat k) * 7)))), (.int .i64 (0 : Int)), (.int .i64 (0 : Int)), (.int .i64 (0 : Int))]⟩) (.bool true) es))
 (some (Out.ex Ex.ret (St.mk [(.int .i64 (2 : Int)), (.int .i64 k), (.int .i64 (7 : Int))] [] (Hp.mk [(Ob.cells c true), o1, o2, (Ob.cells ⟨[(.slice (some (Addr.mk 0 off none)) n 7), (.slice b n2 z2), (.slice d n3 z3), (.int .i64 age), (.int .i64 shear)]⟩ false), (Ob.map (upOf Try.prog 105 (.agg ⟨[(.string (getStr c (off + ((Int.toNat k) * 7)))), (.int .i64 (0 : Int)), (.int .i64 (0 : Int)), (.int .i64 (0 : Int))]⟩) (.bool true) es))] 96 []))))
 (none))
 (cond (decide ((60000 : Int) < (getInt c (((((off + ((Int.toNat k) * 7)) + 1) + 1) + 1) + 1))))
 (cond (mapSc (((((1 + 1) + 1) + 1) + 1) + 1) (upOf Try.prog 105 (.agg ⟨[(.string (getStr c (off + ((Int.toNat k) * 7)))), (.int .i64 (0 : Int)), (.int .i64 (0 : Int)), (.int .i64 (0 : Int))]⟩) (.bool true) es))
 (some (Out.ex Ex.ret (St.mk [(.int .i64 (2 : Int)), (.int .i64 k), (.int .i64 (7 : Int))] [] (Hp.mk [(Ob.cells c true), o1, o2, (Ob.cells ⟨[(.slice (some (Addr.mk 0 off none)) n 7), (.slice b n2 z2), (.slice d n3 z3), (.int .i64 age), (.int .i64 shear)]⟩ false), (Ob.map (upOf Try.prog 105 (.agg ⟨[(.string (getStr c (off + ((Int.toNat k) * 7)))), (.int .i64 (0 : Int)), (.int .i64 (0 : Int)), (.int .i64 (0 : Int))]⟩) (.bool true) es))] 96 []))))
 (none))
 (cond (decide ((0 : Int) ≤ (getInt c ((((((off + ((Int.toNat k) * 7)) + 1) + 1) + 1) + 1) + 1))))
 (cond (not (decide ((getInt c ((((((off + ((Int.toNat k) * 7)) + 1) + 1) + 1) + 1) + 1)) < (100000000 : Int))))
 (cond (mapSc (((((1 + 1) + 1) + 1) + 1) + 1) (upOf Try.prog 105 (.agg ⟨[(.string (getStr c (off + ((Int.toNat k) * 7)))), (.int .i64 (0 : Int)), (.int .i64 (0 : Int)), (.int .i64 (0 : Int))]⟩) (.bool true) es))
 (some (Out.ex Ex.ret (St.mk [(.int .i64 (2 : Int)), (.int .i64 k), (.int .i64 (7 : Int))] [] (Hp.mk [(Ob.cells c true), o1, o2, (Ob.cells ⟨[(.slice (some (Addr.mk 0 off none)) n 7), (.slice b n2 z2), (.slice d n3 z3), (.int .i64 age), (.int .i64 shear)]⟩ false), (Ob.map (upOf Try.prog 105 (.agg ⟨[(.string (getStr c (off + ((Int.toNat k) * 7)))), (.int .i64 (0 : Int)), (.int .i64 (0 : Int)), (.int .i64 (0 : Int))]⟩) (.bool true) es))] 96 []))))
 (none))
 (cond (decide ((0 : Int) ≤ (getInt c (((((((off + ((Int.toNat k) * 7)) + 1) + 1) + 1) + 1) + 1) + 1))))
 (cond (not (decide ((getInt c (((((((off + ((Int.toNat k) * 7)) + 1) + 1) + 1) + 1) + 1) + 1)) < (100000000 : Int))))
 (cond (mapSc (((((1 + 1) + 1) + 1) + 1) + 1) (upOf Try.prog 105 (.agg ⟨[(.string (getStr c (off + ((Int.toNat k) * 7)))), (.int .i64 (0 : Int)), (.int .i64 (0 : Int)), (.int .i64 (0 : Int))]⟩) (.bool true) es))
 (some (Out.ex Ex.ret (St.mk [(.int .i64 (2 : Int)), (.int .i64 k), (.int .i64 (7 : Int))] [] (Hp.mk [(Ob.cells c true), o1, o2, (Ob.cells ⟨[(.slice (some (Addr.mk 0 off none)) n 7), (.slice b n2 z2), (.slice d n3 z3), (.int .i64 age), (.int .i64 shear)]⟩ false), (Ob.map (upOf Try.prog 105 (.agg ⟨[(.string (getStr c (off + ((Int.toNat k) * 7)))), (.int .i64 (0 : Int)), (.int .i64 (0 : Int)), (.int .i64 (0 : Int))]⟩) (.bool true) es))] 96 []))))
 (none))
 (cond (decide ((getInt c (((((((off + ((Int.toNat k) * 7)) + 1) + 1) + 1) + 1) + 1) + 1)) < (getInt c ((((((off + ((Int.toNat k) * 7)) + 1) + 1) + 1) + 1) + 1))))
 (cond (mapSc (((((1 + 1) + 1) + 1) + 1) + 1) (upOf Try.prog 105 (.agg ⟨[(.string (getStr c (off + ((Int.toNat k) * 7)))), (.int .i64 (0 : Int)), (.int .i64 (0 : Int)), (.int .i64 (0 : Int))]⟩) (.bool true) es))
 (some (Out.ex Ex.ret (St.mk [(.int .i64 (2 : Int)), (.int .i64 k), (.int .i64 (7 : Int))] [] (Hp.mk [(Ob.cells c true), o1, o2, (Ob.cells ⟨[(.slice (some (Addr.mk 0 off none)) n 7), (.slice b n2 z2), (.slice d n3 z3), (.int .i64 age), (.int .i64 shear)]⟩ false), (Ob.map (upOf Try.prog 105 (.agg ⟨[(.string (getStr c (off + ((Int.toNat k) * 7)))), (.int .i64 (0 : Int)), (.int .i64 (0 : Int)), (.int .i64 (0 : Int))]⟩) (.bool true) es))] 96 []))))
 (none))
 (cond (mapSc (((((1 + 1) + 1) + 1) + 1) + 1) (upOf Try.prog 105 (.agg ⟨[(.string (getStr c (off + ((Int.toNat k) * 7)))), (.int .i64 (0 : Int)), (.int .i64 (0 : Int)), (.int .i64 (0 : Int))]⟩) (.bool true) es))
 (cond (Nat.blt (Nat.sub (Int.toNat m) (Int.toNat (IntKind.wrap .i64 (k + (1 : Int))))) M)
 (cond (eqCode (theLoop Try.prog 20 0) (theLoop Try.prog 20 0))
 (cond (okA20 c off n b d n2 z2 n3 z3 o1 o2 m (IntKind.wrap .i64 (k + (1 : Int))) off n)
 (cond (okM (upOf Try.prog 105 (.agg ⟨[(.string (getStr c (off + ((Int.toNat k) * 7)))), (.int .i64 (0 : Int)), (.int .i64 (0 : Int)), (.int .i64 (0 : Int))]⟩) (.bool true) es))
 (cond (saB c off (n - (Int.toNat (IntKind.wrap .i64 (k + (1 : Int))))) (Int.toNat (IntKind.wrap .i64 (k + (1 : Int)))) (upOf Try.prog 105 (.agg ⟨[(.string (getStr c (off + ((Int.toNat k) * 7)))), (.int .i64 (0 : Int)), (.int .i64 (0 : Int)), (.int .i64 (0 : Int))]⟩) (.bool true) es))
 (some (Out.ex Ex.ret (St.mk [(.int .i64 (2 : Int)), (.int .i64 (Int.ofNat (saI c off (n - (Int.toNat (IntKind.wrap .i64 (k + (1 : Int))))) (Int.toNat (IntKind.wrap .i64 (k + (1 : Int)))) (upOf Try.prog 105 (.agg ⟨[(.string (getStr c (off + ((Int.toNat k) * 7)))), (.int .i64 (0 : Int)), (.int .i64 (0 : Int)), (.int .i64 (0 : Int))]⟩) (.bool true) es)))), (.int .i64 (saE c off (n - (Int.toNat (IntKind.wrap .i64 (k + (1 : Int))))) (Int.toNat (IntKind.wrap .i64 (k + (1 : Int)))) (upOf Try.prog 105 (.agg ⟨[(.string (getStr c (off + ((Int.toNat k) * 7)))), (.int .i64 (0 : Int)), (.int .i64 (0 : Int)), (.int .i64 (0 : Int))]⟩) (.bool true) es)))] [] (Hp.mk [(Ob.cells c true), o1, o2, (Ob.cells ⟨[(.slice (some (Addr.mk 0 off none)) n 7), (.slice b n2 z2), (.slice d n3 z3), (.int .i64 age), (.int .i64 shear)]⟩ false), (Ob.map (saM c off (n - (Int.toNat (IntKind.wrap .i64 (k + (1 : Int))))) (Int.toNat (IntKind.wrap .i64 (k + (1 : Int)))) (upOf Try.prog 105 (.agg ⟨[(.string (getStr c (off + ((Int.toNat k) * 7)))), (.int .i64 (0 : Int)), (.int .i64 (0 : Int)), (.int .i64 (0 : Int))]⟩) (.bool true) es)))] 96 []))))
 (some (Out.ex (Ex.exit 0) (St.mk [(.pointer (some (Addr.mk 3 0 none))), (.map (some 4))] [] (Hp.mk [(Ob.cells c true), o1, o2, (Ob.cells ⟨[(.slice (some (Addr.mk 0 off none)) n 7), (.slice b n2 z2), (.slice d n3 z3), (.int .i64 age), (.int .i64 shear)]⟩ false), (Ob.map (saM c off (n - (Int.toNat (IntKind.wrap .i64 (k + (1 : Int))))) (Int.toNat (IntKind.wrap .i64 (k + (1 : Int)))) (upOf Try.prog 105 (.agg ⟨[(.string (getStr c (off + ((Int.toNat k) * 7)))), (.int .i64 (0 : Int)), (.int .i64 (0 : Int)), (.int .i64 (0 : Int))]⟩) (.bool true) es)))] 96 [])))))
 (none))
 (none))
 (none))
 (none))
 (none))))
 (cond (mapSc (((((1 + 1) + 1) + 1) + 1) + 1) (upOf Try.prog 105 (.agg ⟨[(.string (getStr c (off + ((Int.toNat k) * 7)))), (.int .i64 (0 : Int)), (.int .i64 (0 : Int)), (.int .i64 (0 : Int))]⟩) (.bool true) es))
 (some (Out.ex Ex.ret (St.mk [(.int .i64 (2 : Int)), (.int .i64 k), (.int .i64 (7 : Int))] [] (Hp.mk [(Ob.cells c true), o1, o2, (Ob.cells ⟨[(.slice (some (Addr.mk 0 off none)) n 7), (.slice b n2 z2), (.slice d n3 z3), (.int .i64 age), (.int .i64 shear)]⟩ false), (Ob.map (upOf Try.prog 105 (.agg ⟨[(.string (getStr c (off + ((Int.toNat k) * 7)))), (.int .i64 (0 : Int)), (.int .i64 (0 : Int)), (.int .i64 (0 : Int))]⟩) (.bool true) es))] 96 []))))
 (none))))
 (cond (mapSc (((((1 + 1) + 1) + 1) + 1) + 1) (upOf Try.prog 105 (.agg ⟨[(.string (getStr c (off + ((Int.toNat k) * 7)))), (.int .i64 (0 : Int)), (.int .i64 (0 : Int)), (.int .i64 (0 : Int))]⟩) (.bool true) es))
 (some (Out.ex Ex.ret (St.mk [(.int .i64 (2 : Int)), (.int .i64 k), (.int .i64 (7 : Int))] [] (Hp.mk [(Ob.cells c true), o1, o2, (Ob.cells ⟨[(.slice (some (Addr.mk 0 off none)) n 7), (.slice b n2 z2), (.slice d n3 z3), (.int .i64 age), (.int .i64 shear)]⟩ false), (Ob.map (upOf Try.prog 105 (.agg ⟨[(.string (getStr c (off + ((Int.toNat k) * 7)))), (.int .i64 (0 : Int)), (.int .i64 (0 : Int)), (.int .i64 (0 : Int))]⟩) (.bool true) es))] 96 []))))
 (none))))))))))
 (none))
 (none)))
 (none)))
 (none))
 (none))
 (some (Out.ex (Ex.exit 0) (St.mk [(.pointer (some (Addr.mk 3 0 none))), (.map (some 4))] [] (Hp.mk [(Ob.cells c true), o1, o2, (Ob.cells ⟨[(.slice (some (Addr.mk 0 off none)) n 7), (.slice b n2 z2), (.slice d n3 z3), (.int .i64 age), (.int .i64 shear)]⟩ false), (Ob.map es)] 96 [])))) := by kernel_rfl
theorem nmK_mk (c : Array Value) (x : Nat) : isMk (nmK c x) := ⟨_, _, _, _, rfl⟩
theorem dec_false {p : Prop} (h : ¬ p) : dec p = false := by cases hd : dec p with | true => exact absurd (dec_iff.1 hd) h | false => rfl
theorem taken_add {es : Es} {k : Value} (h : TakenM es) (hk : isMk k) : TakenM (es ++ [(k, .bool true)]) := by
  intro e he
  rcases List.mem_append.1 he with h1 | h1
  · exact h e h1
  · rw [List.mem_singleton] at h1; subst h1; exact ⟨hk, rfl⟩
theorem mapSc_taken {es : Es} (h : TakenM es) (n : Nat) : mapSc n es = true := by
  unfold mapSc
  rw [List.all_eq_true]
  intro e he
  rw [(h e he).2]; rfl
theorem obSc_map {es : Es} (h : TakenM es) (n : Nat) : obSc n (.map es) = true := mapSc_taken h n
theorem saR_taken {c : Array Value} {off : Nat} : ∀ {m k : Nat} {es : Es}, TakenM es → TakenM (saR c off m k es).es
  | 0, _, _, h => h
  | m + 1, k, es, h => by
    have h2 : TakenM (seM c (off + k * 7) es) := by
      unfold seM
      split
      · exact h
      · split
        · exact h
        · exact taken_add h (nmK_mk ..)
    simp only [saR]
    split
    · exact saR_taken h2
    · exact h2
theorem known20a : ∃ J, Known Try.prog (sh20a.ans J) := by
  refine Known.junk known22c mes20a sh20a ?_
  intro J t f hs hkn
  unfold sh20a at hs
  split at hs
  case h_2 => cases hs
  rename_i code t c o1 o2 off n b n2 z2 d n3 z3 age shear es G
  split at hs
  case h_2 => cases hs
  rename_i off' n' m k er e1 e5 e39 e40 e41
  simp only [Option.some.injEq] at hs
  subst hs
  refine ex_guard fun h1 => ex_guard fun h2 => ex_guard fun h3 => ex_guard fun h4 => ?_
  obtain rfl := eqCode_eq h1
  have hl : t.length = 96 := Nat.eq_of_beq_eq_true h2
  obtain ⟨rfl, rfl, hg, hb, hd, q1, q2, hn, rfl, hk0⟩ := dec_iff.1 h3
  have tk : TakenM es := dec_iff.1 h4
  obtain ⟨k, rfl⟩ := Int.eq_ofNat_of_zero_le hk0
  have scs := And.intro (allsc (n := 5) hg.1) (And.intro (slice_sc hb (show 3 ≤ 5 by decide)) (And.intro (slice_sc hd (show 3 ≤ 5 by decide)) (And.intro (grOb_sc (n := 5) q1) (And.intro (grOb_sc (n := 5) q2) (obSc_map tk 5)))))
  have hsc2 : (([.cells c true, o1, o2, .cells ⟨[.slice (some ⟨0, off', none⟩) n' 7, .slice b n2 z2, .slice d n3 z3, .int .i64 age, .int .i64 shear]⟩ false, .map es] : List Ob).all (obSc ([.cells c true, o1, o2, .cells ⟨[.slice (some ⟨0, off', none⟩) n' 7, .slice b n2 z2, .slice d n3 z3, .int .i64 age, .int .i64 shear]⟩ false, .map es] : List Ob).length)) = true := by
    simp [obSc_cells, scs, int_sc, at0_sc]
  have hk2 : ∀ es', TakenM es' → ObsKept 5 [.cells c true, o1, o2, .cells ⟨[.slice (some ⟨0, off', none⟩) n' 7, .slice b n2 z2, .slice d n3 z3, .int .i64 age, .int .i64 shear]⟩ false, .map es] [.cells c true, o1, o2, .cells ⟨[.slice (some ⟨0, off', none⟩) n' 7, .slice b n2 z2, .slice d n3 z3, .int .i64 age, .int .i64 shear]⟩ false, .map es'] := by
    intro es' ht
    have hs := keptSelf hsc2
    cases hs with
    | cons h r => cases r with
      | cons h' r => cases r with
        | cons h'' r => cases r with
          | cons h''' r => exact .cons h (.cons h' (.cons h'' (.cons h''' (.cons (by
              show ((!(Ob.map es').live || (Ob.map es).live) && (!(Ob.map es').rw || (Ob.map es).rw) && (obSc 5 (.map es'))) = true
              rw [obSc_map ht]; rfl) .nil))))
  have use := fun es' (ht : TakenM es') e' vs hev he hvs => hkn.loopLeaf (G := G) noNG mixed (n := 60) (N0 := 96) (N := 96) (live := [(1, pp 3), (5, .map (some 4)), (39, .slice (some ⟨0, off', none⟩) n' 7), (40, .int .i64 (Int.ofNat n')), (41, .int .i64 (Int.ofNat k))])
    (H0 := [.cells c true, o1, o2, .cells ⟨[.slice (some ⟨0, off', none⟩) n' 7, .slice b n2 z2, .slice d n3 z3, .int .i64 age, .int .i64 shear]⟩ false, .map es])
    (H1 := [.cells c true, o1, o2, .cells ⟨[.slice (some ⟨0, off', none⟩) n' 7, .slice b n2 z2, .slice d n3 z3, .int .i64 age, .int .i64 shear]⟩ false, .map es']) (pick := pick20 [1, 5]) (e := e') (vs := vs)
    (base := 3) (wr := []) (wr1 := []) (c := theLoop Try.prog 20 0) (t := t) hev hl (by
      intro kv hm
      simp only [List.mem_cons, List.not_mem_nil, or_false] at hm
      rcases hm with rfl | rfl | rfl | rfl | rfl
      · exact ⟨e1, rfl, rfl⟩
      · exact ⟨e5, rfl, rfl⟩
      · exact ⟨e39, rfl, rfl⟩
      · exact ⟨e40, rfl, rfl⟩
      · exact ⟨e41, rfl, rfl⟩) (by simp) hsc2 (hk2 es' ht) he hvs
  simp only [List.length_cons, List.length_nil, Nat.zero_add, Nat.reduceAdd] at use
  rw [tree20a] at use
  simp only [Int.ofNat_eq_natCast, Int.toNat_natCast] at use ⊢
  by_cases hin : (k : Int) < (n' : Int)
  · obtain ⟨m, hm⟩ : ∃ m, n' - k = m + 1 := ⟨n' - k - 1, by omega⟩
    have hw : IntKind.i64.wrap ((k : Int) + 1) = ((k + 1 : Nat) : Int) := by rw [wrap64_id (by omega) (by omega)]; rfl
    rw [hm]
    have hm' : n' - (k + 1) = m := by omega
    have hme : (Nat.sub n' (k + 1)).blt (mes20a (.code none (.loop (theLoop Try.prog 20 0)) ⟨t, [], ⟨.cells c true :: o1 :: o2 :: .cells ⟨[.slice (some ⟨0, off', none⟩) n' 7, .slice b n2 z2, .slice d n3 z3, .int .i64 age, .int .i64 shear]⟩ false :: .map es :: G, 3, []⟩⟩)) = true := by
      simp only [mes20a, e40, e41, Nat.blt_eq, Int.toNat_natCast]
      show n' - (k + 1) < n' - k
      omega
    have hok : okA20 c off' n' b d n2 z2 n3 z3 o1 o2 (n' : Int) ↑(k + 1) off' n' = true := dec_iff.2 ⟨rfl, rfl, hg, hb, hd, q1, q2, hn, rfl, by omega⟩
    have x0 := hg.2 k (by omega)
    simp only [show L7.length = 7 from rfl] at x0
    simp only [hw, Int.toNat_natCast, hm', hin, decide_true, cond_true, Bool.true_and, Bool.and_self, Int.natCast_nonneg, eqCode_self, hme, hok, Nat.add_zero, x0] at use
    have kk := nmK_mk c (off' + k * 7)
    have hlk := lkL_mark kk tk
    cases hnm : nm (getStr c (off' + k * 7)) with
    | false =>
      have e : saR c off' (m + 1) k es = ⟨true, k, 6, es⟩ := by simp [saR, seE, seM, hnm]
      simp only [saB, saI, saE, saM, e]
      refine use es tk .ret [.int .i64 2, .int .i64 k, .int .i64 6] ?_ rfl rfl
      rw [hnm]; rfl
    | true =>
      have l1 : lkIs Try.prog 105 (nmK c (off' + k * 7)) es = true := by unfold lkIs; rw [hlk]
      have l2 : lkOf Try.prog 105 (nmK c (off' + k * 7)) es = dec (nmK c (off' + k * 7) ∈ keysM es) := by unfold lkOf; rw [hlk]
      simp only [show Value.agg ⟨[.string (getStr c (off' + k * 7)), .int .i64 0, .int .i64 0, .int .i64 0]⟩ = nmK c (off' + k * 7) from rfl, hnm, Bool.not_true, cond_false, cond_true, l1, l2] at use
      by_cases hmem : nmK c (off' + k * 7) ∈ keysM es
      · have e : saR c off' (m + 1) k es = ⟨true, k, 5, es⟩ := by simp [saR, seE, seM, hnm, tkL, dec_iff.2 hmem]
        simp only [saB, saI, saE, saM, e]
        refine use es tk .ret [.int .i64 2, .int .i64 k, .int .i64 5] ?_ rfl rfl
        rw [dec_iff.2 hmem]; rfl
      · have hup := upL_mark kk tk hmem
        have u1 : upIs Try.prog 105 (nmK c (off' + k * 7)) (.bool true) es = true := by unfold upIs; rw [hup]; rfl
        have u2 : upOf Try.prog 105 (nmK c (off' + k * 7)) (.bool true) es = tkU es (nmK c (off' + k * 7)) := by unfold upOf; rw [hup]; rfl
        have tk2 : TakenM (tkU es (nmK c (off' + k * 7))) := taken_add tk kk
        have u3 := mapSc_taken tk2
        have u4 : okM (tkU es (nmK c (off' + k * 7))) = true := dec_iff.2 tk2
        simp only [dec_false hmem, u1, u2, u3, u4, cond_false, cond_true] at use
        have hseE : seE c (off' + k * 7) es = rgE c (off' + k * 7) := by simp [seE, hnm, tkL, dec_false hmem]
        have hseM : seM c (off' + k * 7) es = tkU es (nmK c (off' + k * 7)) := by simp [seM, hnm, tkL, dec_false hmem]
        have hE := rgE.eq_1 c (off' + k * 7)
        simp only [inB] at hE
        simp only [Nat.add_assoc, Nat.reduceAdd] at use hE
        by_cases hr : rgE c (off' + k * 7) = 0
        · have e : saR c off' (m + 1) k es = saR c off' m (k + 1) (tkU es (nmK c (off' + k * 7))) := by simp only [saR, hseE, hr, if_true, hseM]
          simp only [saB, saI, saE, saM, e]
          have tk3 : TakenM (saR c off' m (k + 1) (tkU es (nmK c (off' + k * 7)))).es := saR_taken tk2
          simp only [saB, saI, saE, saM] at use
          cases hbb : (saR c off' m (k + 1) (tkU es (nmK c (off' + k * 7)))).bad with
          | true =>
            rw [hbb] at use
            refine use _ tk3 .ret [.int .i64 2, .int .i64 (Int.ofNat (saR c off' m (k + 1) (tkU es (nmK c (off' + k * 7)))).ix), .int .i64 (saR c off' m (k + 1) (tkU es (nmK c (off' + k * 7)))).err] ?_ rfl rfl
            clear use hkn hk2 hsc2 hme hok h1 h2 h3 h4 er hg q1 q2 hl e1 e5 e39 e40 e41 x0 scs hlk l1 l2 hup u1 u2 u3 u4 hseE hseM kk tk tk2 hmem e tk3 hbb
            repeat' refine cond_hd (fun _ => ?_) (fun _ => ?_)
            all_goals grind
          | false =>
            rw [hbb] at use
            refine use _ tk3 (.exit 0) [pp 3, .map (some 4)] ?_ rfl rfl
            clear use hkn hk2 hsc2 hme hok h1 h2 h3 h4 er hg q1 q2 hl e1 e5 e39 e40 e41 x0 scs hlk l1 l2 hup u1 u2 u3 u4 hseE hseM kk tk tk2 hmem e tk3 hbb
            repeat' refine cond_hd (fun _ => ?_) (fun _ => ?_)
            all_goals grind [pp]
        · have e : saR c off' (m + 1) k es = ⟨true, k, rgE c (off' + k * 7), tkU es (nmK c (off' + k * 7))⟩ := by simp only [saR, hseE, hr, if_false, hseM]
          simp only [saB, saI, saE, saM, e]
          refine use _ tk2 .ret [.int .i64 2, .int .i64 k, .int .i64 (rgE c (off' + k * 7))] ?_ rfl rfl
          clear use hkn hk2 hsc2 hme hok h1 h2 h3 h4 er hg q1 q2 hl e1 e5 e39 e40 e41 x0 scs hlk l1 l2 hup u1 u2 u3 u4 hseE hseM kk tk tk2 hmem e
          repeat' refine cond_hd (fun _ => ?_) (fun _ => ?_)
          all_goals first
            | (have h7 : rgE c (off' + k * 7) = 2 := by
                 simp only [Bool.not_eq_true', Bool.not_eq_false', decide_eq_true_eq, decide_eq_false_iff_not, Bool.and_eq_false_iff] at *
                 rw [hE, if_pos (by omega)]
               rw [h7]; done)
            | (have h7 : rgE c (off' + k * 7) = 7 := by
                 simp only [Bool.not_eq_true', Bool.not_eq_false', decide_eq_true_eq, decide_eq_false_iff_not, Bool.and_eq_false_iff] at *
                 rw [hE, if_neg (by omega), if_pos (by omega)]
               rw [h7]; done)
            | (exfalso
               refine hr ?_
               clear hr
               simp only [Bool.not_eq_true', Bool.not_eq_false', decide_eq_true_eq, decide_eq_false_iff_not, Bool.and_eq_false_iff] at *
               rw [hE, if_neg (by omega), if_neg (by omega)])
  · have h0 : n' - k = 0 := by omega
    rw [h0]
    refine use es tk (.exit 0) [pp 3, .map (some 4)] ?_ rfl rfl
    simp only [hin, decide_false, cond_false]
    try rfl
end
end Go.Proofs.Ytjdidbnmkogflaa.Old

namespace Go.Proofs.Ytjdidbnmkogflaa.Old
open Go.Gi Go.RowKit
noncomputable section
noncomputable def cuE (c : Array Value) (off k : Nat) (fr : Int) : Int :=
  if inB (getInt c (off + k)) 1 100000000 = false then 7 else if getInt c (off + k) ≤ fr then 2 else 0
structure Cu where
  bad : Bool
  ix : Nat
  err : Int
noncomputable def cuR (c : Array Value) (off : Nat) : Nat → Nat → Int → Cu
  | 0, _, _ => ⟨false, 0, 0⟩
  | m + 1, k, fr => if cuE c off k fr = 0 then cuR c off m (k + 1) (getInt c (off + k)) else ⟨true, k, cuE c off k fr⟩
noncomputable def cuB (c : Array Value) (off m k : Nat) (fr : Int) : Bool := (cuR c off m k fr).bad
noncomputable def cuI (c : Array Value) (off m k : Nat) (fr : Int) : Nat := (cuR c off m k fr).ix
noncomputable def cuX (c : Array Value) (off m k : Nat) (fr : Int) : Int := (cuR c off m k fr).err
noncomputable def okA20c (c : Array Value) (off n3 : Nat) (a b : Option Addr) (n z n2 z2 : Nat) (o0 o1 : Ob) (m k : Int) (off' n' : Nat) (es : Es) : Bool :=
  dec (off' = off ∧ n' = n3 ∧ GoodL L1 c off n3 ∧ sc1 3 (.slice a n z) = true ∧ sc1 3 (.slice b n2 z2) = true ∧ grOb o0 ∧ grOb o1 ∧ n3 ≤ 20 ∧ m = n3 ∧ 0 ≤ k ∧ TakenM es)
noncomputable def sh20c : Shape
  | .code none (.loop code) ⟨t, [], ⟨o0 :: o1 :: .cells c true :: .cells ⟨[.slice a n z, .slice b n2 z2, .slice (some ⟨2, off, none⟩) n3 1, .int .i64 age, .int .i64 shear]⟩ false :: .map es :: G, 3, []⟩⟩ =>
    match Nat.beq (firstReg code) 20, lget t 1, lget t 11, lget t 70, lget t 71, lget t 72 with
    | true, .pointer (some ⟨3, 0, none⟩), .int .i64 fr, .slice (some ⟨2, off', none⟩) n' 1, .int .i64 m, .int .i64 k => some fun j =>
      .br (eqCode code (theLoop Try.prog 20 2)) (.br (Nat.beq t.length 96) (.br (okA20c c off n3 a b n z n2 z2 o0 o1 m k off' n' es)
 (.br (cuB c off (n3 - k.toNat) k.toNat fr)
          (loopEnd 96 .ret [(2, .int .i64 4), (3, .int .i64 (Int.ofNat (cuI c off (n3 - k.toNat) k.toNat fr))), (4, .int .i64 (cuX c off (n3 - k.toNat) k.toNat fr))]
            ⟨o0 :: o1 :: .cells c true :: .cells ⟨[.slice a n z, .slice b n2 z2, .slice (some ⟨2, off, none⟩) n3 1, .int .i64 age, .int .i64 shear]⟩ false :: .map es :: G, 3, []⟩ j)
          (loopEnd 96 (.exit 4) [(1, pp 3)]
            ⟨o0 :: o1 :: .cells c true :: .cells ⟨[.slice a n z, .slice b n2 z2, .slice (some ⟨2, off, none⟩) n3 1, .int .i64 age, .int .i64 shear]⟩ false :: .map es :: G, 3, []⟩ j)) .no) .no) .no
    | _, _, _, _, _, _ => none
  | _ => none
noncomputable def mes20c : Task → Nat
  | .code _ _ s => match lget s.t 71, lget s.t 72 with
    | .int _ n, .int _ i => Nat.sub n.toNat i.toNat
    | _, _ => 0
  | _ => 0
end
end Go.Proofs.Ytjdidbnmkogflaa.Old

namespace Go.Proofs.Ytjdidbnmkogflaa.Old
open Go.Gi Go.RowKit
noncomputable section
set_option maxRecDepth 100000
set_option linter.unusedSimpArgs false
set_option linter.unusedVariables false
theorem tree20c (J : Task → List Value) (c : Array Value) (off : Nat) (o0 o1 : Ob) (a b : Option Addr) (n z n2 z2 n3 : Nat) (es : Es) (m k fr age shear : Int) (M : Nat) (y : List Value) :
    evS Try.prog (((sh20c.ans J).below mes20c M).or (fun _ => none)) 60 (.code none (.loop (theLoop Try.prog 20 2)) ⟨sets (junkF 96 y) [(1, pp 3), (11, .int .i64 fr), (70, .slice (some ⟨2, off, none⟩) n3 1), (71, .int .i64 m), (72, .int .i64 k)], [], ⟨[o0, o1, .cells c true, .cells ⟨[.slice a n z, .slice b n2 z2, .slice (some ⟨2, off, none⟩) n3 1, .int .i64 age, .int .i64 shear]⟩ false, .map es], 3, []⟩⟩) (sumK 5 96 (pick20 [1])) =
    cond (decide (k < m))
 (cond (and (decide ((0 : Int) ≤ k)) (decide (k < (Int.ofNat n3))))
 (cond (and true (isInt .i64 c (off + ((Int.toNat k) * 1))))
 (cond (decide ((getInt c (off + ((Int.toNat k) * 1))) < (1 : Int)))
 (some (Out.ex Ex.ret (St.mk [(.int .i64 (4 : Int)), (.int .i64 k), (.int .i64 (7 : Int))] [] (Hp.mk [o0, o1, (Ob.cells c true), (Ob.cells ⟨[(.slice a n z), (.slice b n2 z2), (.slice (some (Addr.mk 2 off none)) n3 1), (.int .i64 age), (.int .i64 shear)]⟩ false), (Ob.map es)] 96 []))))
 (cond (decide ((100000000 : Int) < (getInt c (off + ((Int.toNat k) * 1)))))
 (some (Out.ex Ex.ret (St.mk [(.int .i64 (4 : Int)), (.int .i64 k), (.int .i64 (7 : Int))] [] (Hp.mk [o0, o1, (Ob.cells c true), (Ob.cells ⟨[(.slice a n z), (.slice b n2 z2), (.slice (some (Addr.mk 2 off none)) n3 1), (.int .i64 age), (.int .i64 shear)]⟩ false), (Ob.map es)] 96 []))))
 (cond (decide ((getInt c (off + ((Int.toNat k) * 1))) ≤ fr))
 (some (Out.ex Ex.ret (St.mk [(.int .i64 (4 : Int)), (.int .i64 k), (.int .i64 (2 : Int))] [] (Hp.mk [o0, o1, (Ob.cells c true), (Ob.cells ⟨[(.slice a n z), (.slice b n2 z2), (.slice (some (Addr.mk 2 off none)) n3 1), (.int .i64 age), (.int .i64 shear)]⟩ false), (Ob.map es)] 96 []))))
 (cond (Nat.blt (Nat.sub (Int.toNat m) (Int.toNat (IntKind.wrap .i64 (k + (1 : Int))))) M)
 (cond (eqCode (theLoop Try.prog 20 2) (theLoop Try.prog 20 2))
 (cond (okA20c c off n3 a b n z n2 z2 o0 o1 m (IntKind.wrap .i64 (k + (1 : Int))) off n3 es)
 (cond (cuB c off (n3 - (Int.toNat (IntKind.wrap .i64 (k + (1 : Int))))) (Int.toNat (IntKind.wrap .i64 (k + (1 : Int)))) (getInt c (off + ((Int.toNat k) * 1))))
 (some (Out.ex Ex.ret (St.mk [(.int .i64 (4 : Int)), (.int .i64 (Int.ofNat (cuI c off (n3 - (Int.toNat (IntKind.wrap .i64 (k + (1 : Int))))) (Int.toNat (IntKind.wrap .i64 (k + (1 : Int)))) (getInt c (off + ((Int.toNat k) * 1)))))), (.int .i64 (cuX c off (n3 - (Int.toNat (IntKind.wrap .i64 (k + (1 : Int))))) (Int.toNat (IntKind.wrap .i64 (k + (1 : Int)))) (getInt c (off + ((Int.toNat k) * 1)))))] [] (Hp.mk [o0, o1, (Ob.cells c true), (Ob.cells ⟨[(.slice a n z), (.slice b n2 z2), (.slice (some (Addr.mk 2 off none)) n3 1), (.int .i64 age), (.int .i64 shear)]⟩ false), (Ob.map es)] 96 []))))
 (some (Out.ex (Ex.exit 4) (St.mk [(.pointer (some (Addr.mk 3 0 none)))] [] (Hp.mk [o0, o1, (Ob.cells c true), (Ob.cells ⟨[(.slice a n z), (.slice b n2 z2), (.slice (some (Addr.mk 2 off none)) n3 1), (.int .i64 age), (.int .i64 shear)]⟩ false), (Ob.map es)] 96 [])))))
 (none))
 (none))
 (none)))))
 (none))
 (none))
 (some (Out.ex (Ex.exit 4) (St.mk [(.pointer (some (Addr.mk 3 0 none)))] [] (Hp.mk [o0, o1, (Ob.cells c true), (Ob.cells ⟨[(.slice a n z), (.slice b n2 z2), (.slice (some (Addr.mk 2 off none)) n3 1), (.int .i64 age), (.int .i64 shear)]⟩ false), (Ob.map es)] 96 [])))) := by kernel_rfl
theorem known20c : ∃ J, Known Try.prog (sh20c.ans J) := by
  refine Known.junk (Known.nothing _) mes20c sh20c ?_
  intro J t f hs hkn
  unfold sh20c at hs
  split at hs
  case h_2 => cases hs
  rename_i code t o0 o1 c a n z b n2 z2 off n3 age shear es G
  split at hs
  case h_2 => cases hs
  rename_i fr off' n' m k er e1 e11 e70 e71 e72
  simp only [Option.some.injEq] at hs
  subst hs
  refine ex_guard fun h1 => ex_guard fun h2 => ex_guard fun h3 => ?_
  obtain rfl := eqCode_eq h1
  have hl : t.length = 96 := Nat.eq_of_beq_eq_true h2
  obtain ⟨rfl, rfl, hg, ha, hb, q1, q2, hn, rfl, hk0, tk⟩ := dec_iff.1 h3
  obtain ⟨k, rfl⟩ := Int.eq_ofNat_of_zero_le hk0
  have scs := And.intro (allsc (n := 5) hg.1) (And.intro (slice_sc ha (show 3 ≤ 5 by decide)) (And.intro (slice_sc hb (show 3 ≤ 5 by decide)) (And.intro (grOb_sc (n := 5) q1) (And.intro (grOb_sc (n := 5) q2) (And.intro (obSc_map tk 5) (fun l z => at2_sc (l := l) (z := z) (off := off') (show 2 < 5 by decide)))))))
  have hsc2 : (([o0, o1, .cells c true, .cells ⟨[.slice a n z, .slice b n2 z2, .slice (some ⟨2, off', none⟩) n' 1, .int .i64 age, .int .i64 shear]⟩ false, .map es] : List Ob).all (obSc ([o0, o1, .cells c true, .cells ⟨[.slice a n z, .slice b n2 z2, .slice (some ⟨2, off', none⟩) n' 1, .int .i64 age, .int .i64 shear]⟩ false, .map es] : List Ob).length)) = true := by
    simp [obSc_cells, scs, int_sc]
  have hk2 := keptSelf hsc2
  have use := fun e' vs hev he hvs => hkn.loopLeaf (G := G) noNG mixed (n := 60) (N0 := 96) (N := 96) (live := [(1, pp 3), (11, .int .i64 fr), (70, .slice (some ⟨2, off', none⟩) n' 1), (71, .int .i64 (Int.ofNat n')), (72, .int .i64 (Int.ofNat k))])
    (H0 := [o0, o1, .cells c true, .cells ⟨[.slice a n z, .slice b n2 z2, .slice (some ⟨2, off', none⟩) n' 1, .int .i64 age, .int .i64 shear]⟩ false, .map es]) (pick := pick20 [1]) (e := e') (vs := vs)
    (base := 3) (wr := []) (wr1 := []) (c := theLoop Try.prog 20 2) (t := t) hev hl (by
      intro kv hm
      simp only [List.mem_cons, List.not_mem_nil, or_false] at hm
      rcases hm with rfl | rfl | rfl | rfl | rfl
      · exact ⟨e1, rfl, rfl⟩
      · exact ⟨e11, rfl, rfl⟩
      · exact ⟨e70, rfl, rfl⟩
      · exact ⟨e71, rfl, rfl⟩
      · exact ⟨e72, rfl, rfl⟩) (by simp) hsc2 hk2 he hvs
  simp only [List.length_cons, List.length_nil, Nat.zero_add, Nat.reduceAdd] at use
  rw [tree20c] at use
  simp only [Int.ofNat_eq_natCast, Int.toNat_natCast, Nat.mul_one] at use ⊢
  by_cases hin : (k : Int) < (n' : Int)
  · obtain ⟨m, hm⟩ : ∃ m, n' - k = m + 1 := ⟨n' - k - 1, by omega⟩
    have hw : IntKind.i64.wrap ((k : Int) + 1) = ((k + 1 : Nat) : Int) := by rw [wrap64_id (by omega) (by omega)]; rfl
    rw [hm]
    have hm' : n' - (k + 1) = m := by omega
    have hme : (Nat.sub n' (k + 1)).blt (mes20c (.code none (.loop (theLoop Try.prog 20 2)) ⟨t, [], ⟨o0 :: o1 :: .cells c true :: .cells ⟨[.slice a n z, .slice b n2 z2, .slice (some ⟨2, off', none⟩) n' 1, .int .i64 age, .int .i64 shear]⟩ false :: .map es :: G, 3, []⟩⟩)) = true := by
      simp only [mes20c, e71, e72, Nat.blt_eq, Int.toNat_natCast]
      show n' - (k + 1) < n' - k
      omega
    have hok : okA20c c off' n' a b n z n2 z2 o0 o1 (n' : Int) ↑(k + 1) off' n' es = true := dec_iff.2 ⟨rfl, rfl, hg, ha, hb, q1, q2, hn, rfl, by omega, tk⟩
    have x0 : isInt .i64 c (off' + k) = true := isInt1 (hg.2 k (by omega))
    simp only [hw, Int.toNat_natCast, hm', hin, decide_true, cond_true, Bool.true_and, Bool.and_self, Int.natCast_nonneg, eqCode_self, hme, hok, Nat.add_zero, x0] at use
    have hE := cuE.eq_1 c off' k fr
    simp only [inB] at hE
    by_cases hr : cuE c off' k fr = 0
    · have e : cuR c off' (m + 1) k fr = cuR c off' m (k + 1) (getInt c (off' + k)) := by simp only [cuR, hr, if_true]
      simp only [cuB, cuI, cuX, e] at use ⊢
      cases hbb : (cuR c off' m (k + 1) (getInt c (off' + k))).bad with
      | true =>
        rw [hbb] at use
        refine use .ret [.int .i64 4, .int .i64 (Int.ofNat (cuR c off' m (k + 1) (getInt c (off' + k))).ix), .int .i64 (cuR c off' m (k + 1) (getInt c (off' + k))).err] ?_ rfl rfl
        clear use hkn hk2 hsc2 hme hok h1 h2 h3 er hg q1 q2 hl e1 e11 e70 e71 e72 x0 scs e tk ha hb
        repeat' refine cond_hd (fun _ => ?_) (fun _ => ?_)
        all_goals grind
      | false =>
        rw [hbb] at use
        refine use (.exit 4) [pp 3] ?_ rfl rfl
        clear use hkn hk2 hsc2 hme hok h1 h2 h3 er hg q1 q2 hl e1 e11 e70 e71 e72 x0 scs e tk ha hb
        repeat' refine cond_hd (fun _ => ?_) (fun _ => ?_)
        all_goals grind [pp]
    · have e : cuR c off' (m + 1) k fr = ⟨true, k, cuE c off' k fr⟩ := by simp only [cuR, hr, if_false]
      simp only [cuB, cuI, cuX, e] at use ⊢
      refine use .ret [.int .i64 4, .int .i64 k, .int .i64 (cuE c off' k fr)] ?_ rfl rfl
      clear use hkn hk2 hsc2 hme hok h1 h2 h3 er hg q1 q2 hl e1 e11 e70 e71 e72 x0 scs e tk ha hb
      repeat' refine cond_hd (fun _ => ?_) (fun _ => ?_)
      all_goals first
        | (have h7 : cuE c off' k fr = 7 := by
             simp only [Bool.not_eq_true', Bool.not_eq_false', decide_eq_true_eq, decide_eq_false_iff_not, Bool.and_eq_false_iff] at *
             rw [hE, if_pos (by omega)]
           rw [h7]; done)
        | (have h7 : cuE c off' k fr = 2 := by
             simp only [Bool.not_eq_true', Bool.not_eq_false', decide_eq_true_eq, decide_eq_false_iff_not, Bool.and_eq_false_iff] at *
             rw [hE, if_neg (by omega), if_pos (by omega)]
           rw [h7]; done)
        | (exfalso
           refine hr ?_
           clear hr
           simp only [Bool.not_eq_true', Bool.not_eq_false', decide_eq_true_eq, decide_eq_false_iff_not, Bool.and_eq_false_iff] at *
           rw [hE, if_neg (by omega), if_neg (by omega)])
  · have h0 : n' - k = 0 := by omega
    rw [h0]
    refine use (.exit 4) [pp 3] ?_ rfl rfl
    simp only [hin, decide_false, cond_false]
    try rfl
end
end Go.Proofs.Ytjdidbnmkogflaa.Old

namespace Go.Proofs.Ytjdidbnmkogflaa.Old
open Go.Gi Go.RowKit
noncomputable section
noncomputable def soK (c : Array Value) (x : Nat) : Value := mkV ByteArray.empty (getInt c x) (getInt c (x + 1)) (getInt c (x + 2))
noncomputable def sqR (c0 : Array Value) (off0 n : Nat) (c : Array Value) (x : Nat) : Int :=
  if inB (getInt c x) 0 ((n : Int) - 1) = false then 4
  else if inB (getInt c (x + 1)) 0 100000 = false ∨
    inB (getInt c (x + 2)) (getInt c0 (off0 + (getInt c x).toNat * 7 + 5)) (getInt c0 (off0 + (getInt c x).toNat * 7 + 6)) = false ∨
    inB (getInt c (x + 3)) (-20000) 20000 = false ∨ inB (getInt c (x + 4)) (-20000) 20000 = false then 7 else 0
noncomputable def sqF (c0 : Array Value) (off0 : Nat) (c : Array Value) (off k : Nat) : Int :=
  if getInt c0 (off0 + (getInt c (off + k * 5)).toNat * 7 + 1) = 2 ∧ flS c off (getInt c (off + k * 5)) (getInt c (off + k * 5 + 1)) (getInt c (off + k * 5 + 2)) k = true then 2 else 0
noncomputable def sqE (c0 : Array Value) (off0 n : Nat) (c : Array Value) (off k : Nat) (es : Es) : Int :=
  if sqR c0 off0 n c (off + k * 5) = 0 then (if tkL es (soK c (off + k * 5)) = true then 5 else sqF c0 off0 c off k) else sqR c0 off0 n c (off + k * 5)
noncomputable def sqM (c0 : Array Value) (off0 n : Nat) (c : Array Value) (off k : Nat) (es : Es) : Es :=
  if sqR c0 off0 n c (off + k * 5) = 0 then (if tkL es (soK c (off + k * 5)) = true then es else tkU es (soK c (off + k * 5))) else es
noncomputable def sbR (c0 : Array Value) (off0 n : Nat) (c : Array Value) (off : Nat) : Nat → Nat → Es → Sa
  | 0, _, es => ⟨false, 0, 0, es⟩
  | m + 1, k, es => if sqE c0 off0 n c off k es = 0 then sbR c0 off0 n c off m (k + 1) (sqM c0 off0 n c off k es) else ⟨true, k, sqE c0 off0 n c off k es, sqM c0 off0 n c off k es⟩
noncomputable def sbB (c0 : Array Value) (off0 n : Nat) (c : Array Value) (off m k : Nat) (es : Es) : Bool := (sbR c0 off0 n c off m k es).bad
noncomputable def sbI (c0 : Array Value) (off0 n : Nat) (c : Array Value) (off m k : Nat) (es : Es) : Nat := (sbR c0 off0 n c off m k es).ix
noncomputable def sbE (c0 : Array Value) (off0 n : Nat) (c : Array Value) (off m k : Nat) (es : Es) : Int := (sbR c0 off0 n c off m k es).err
noncomputable def sbM (c0 : Array Value) (off0 n : Nat) (c : Array Value) (off m k : Nat) (es : Es) : Es := (sbR c0 off0 n c off m k es).es
noncomputable def okA20b (c0 : Array Value) (off0 n : Nat) (c : Array Value) (off n2 : Nat) (d : Option Addr) (n3 z3 : Nat) (o2 : Ob) (m k : Int) (es : Es) : Bool :=
  dec (GoodL L7 c0 off0 n ∧ GoodL L5 c off n2 ∧ sc1 3 (.slice d n3 z3) = true ∧ grOb o2 ∧ n ≤ 6 ∧ n2 ≤ 60 ∧ m = n2 ∧ 0 ≤ k ∧ TakenM es)
noncomputable def sh20b : Shape
  | .code none (.loop code) ⟨t, [], ⟨.cells c0 true :: .cells c true :: o2 :: .cells ⟨[.slice (some ⟨0, off0, none⟩) n 7, .slice (some ⟨1, off, none⟩) n2 5, .slice d n3 z3, .int .i64 age, .int .i64 shear]⟩ false :: .map es :: G, 3, []⟩⟩ =>
    match Nat.beq (firstReg code) 12, lget t 1, lget t 5, lget t 56, lget t 57 with
    | true, .pointer (some ⟨3, 0, none⟩), .map (some 4), .int .i64 m, .int .i64 k => some fun j =>
      .br (eqCode code (theLoop Try.prog 20 1)) (.br (Nat.beq t.length 96) (.br (okA20b c0 off0 n c off n2 d n3 z3 o2 m k es)
 (.br (sbB c0 off0 n c off (n2 - k.toNat) k.toNat es)
          (loopEnd 96 .ret [(2, .int .i64 3), (3, .int .i64 (Int.ofNat (sbI c0 off0 n c off (n2 - k.toNat) k.toNat es))), (4, .int .i64 (sbE c0 off0 n c off (n2 - k.toNat) k.toNat es))]
            ⟨.cells c0 true :: .cells c true :: o2 :: .cells ⟨[.slice (some ⟨0, off0, none⟩) n 7, .slice (some ⟨1, off, none⟩) n2 5, .slice d n3 z3, .int .i64 age, .int .i64 shear]⟩ false :: .map (sbM c0 off0 n c off (n2 - k.toNat) k.toNat es) :: G, 3, []⟩ j)
          (loopEnd 96 (.exit 2) [(1, pp 3)]
            ⟨.cells c0 true :: .cells c true :: o2 :: .cells ⟨[.slice (some ⟨0, off0, none⟩) n 7, .slice (some ⟨1, off, none⟩) n2 5, .slice d n3 z3, .int .i64 age, .int .i64 shear]⟩ false :: .map (sbM c0 off0 n c off (n2 - k.toNat) k.toNat es) :: G, 3, []⟩ j)) .no) .no) .no
    | _, _, _, _, _ => none
  | _ => none
noncomputable def mes20b : Task → Nat
  | .code _ _ s => match lget s.t 56, lget s.t 57 with
    | .int _ n, .int _ i => Nat.sub n.toNat i.toNat
    | _, _ => 0
  | _ => 0
end
end Go.Proofs.Ytjdidbnmkogflaa.Old

namespace Go.Proofs.Ytjdidbnmkogflaa.Old
open Go.Gi Go.RowKit
noncomputable section
set_option maxRecDepth 100000
set_option linter.unusedSimpArgs false
set_option linter.unusedVariables false
theorem tree20b (J : Task → List Value) (c0 c : Array Value) (off0 off : Nat) (o2 : Ob) (d : Option Addr) (n n2 n3 z3 : Nat) (es : Es) (m k age shear : Int) (M : Nat) (y : List Value) :
    evS Try.prog (((sh20b.ans J).below mes20b M).or p106) 60 (.code none (.loop (theLoop Try.prog 20 1)) ⟨sets (junkF 96 y) [(1, pp 3), (5, .map (some 4)), (56, .int .i64 m), (57, .int .i64 k)], [], ⟨[.cells c0 true, .cells c true, o2, .cells ⟨[.slice (some ⟨0, off0, none⟩) n 7, .slice (some ⟨1, off, none⟩) n2 5, .slice d n3 z3, .int .i64 age, .int .i64 shear]⟩ false, .map es], 3, []⟩⟩) (sumK 5 96 (pick20 [1])) =
    cond (decide (k < m))
 (cond (and (decide ((0 : Int) ≤ k)) (decide (k < (Int.ofNat n2))))
 (cond (and true (rdOk c [(Leaf.int .i64), (Leaf.int .i64), (Leaf.int .i64), (Leaf.int .i64), (Leaf.int .i64)] (off + ((Int.toNat k) * 5))))
 (cond (decide ((getInt c (off + ((Int.toNat k) * 5))) < (0 : Int)))
 (some (Out.ex Ex.ret (St.mk [(.int .i64 (3 : Int)), (.int .i64 k), (.int .i64 (4 : Int))] [] (Hp.mk [(Ob.cells c0 true), (Ob.cells c true), o2, (Ob.cells ⟨[(.slice (some (Addr.mk 0 off0 none)) n 7), (.slice (some (Addr.mk 1 off none)) n2 5), (.slice d n3 z3), (.int .i64 age), (.int .i64 shear)]⟩ false), (Ob.map es)] 96 []))))
 (cond (decide ((Int.ofNat n) ≤ (getInt c (off + ((Int.toNat k) * 5)))))
 (some (Out.ex Ex.ret (St.mk [(.int .i64 (3 : Int)), (.int .i64 k), (.int .i64 (4 : Int))] [] (Hp.mk [(Ob.cells c0 true), (Ob.cells c true), o2, (Ob.cells ⟨[(.slice (some (Addr.mk 0 off0 none)) n 7), (.slice (some (Addr.mk 1 off none)) n2 5), (.slice d n3 z3), (.int .i64 age), (.int .i64 shear)]⟩ false), (Ob.map es)] 96 []))))
 (cond (and (decide ((0 : Int) ≤ (getInt c (off + ((Int.toNat k) * 5))))) (decide ((getInt c (off + ((Int.toNat k) * 5))) < (Int.ofNat n))))
 (cond (and true (rdOk c0 [Leaf.str, (Leaf.int .i64), (Leaf.int .i64), (Leaf.int .i64), (Leaf.int .i64), (Leaf.int .i64), (Leaf.int .i64)] (off0 + ((Int.toNat (getInt c (off + ((Int.toNat k) * 5)))) * 7))))
 (cond (decide ((0 : Int) ≤ (getInt c ((off + ((Int.toNat k) * 5)) + 1))))
 (cond (not (decide ((getInt c ((off + ((Int.toNat k) * 5)) + 1)) ≤ (100000 : Int))))
 (some (Out.ex Ex.ret (St.mk [(.int .i64 (3 : Int)), (.int .i64 k), (.int .i64 (7 : Int))] [] (Hp.mk [(Ob.cells c0 true), (Ob.cells c true), o2, (Ob.cells ⟨[(.slice (some (Addr.mk 0 off0 none)) n 7), (.slice (some (Addr.mk 1 off none)) n2 5), (.slice d n3 z3), (.int .i64 age), (.int .i64 shear)]⟩ false), (Ob.map es)] 96 []))))
 (cond (decide ((getInt c (((off + ((Int.toNat k) * 5)) + 1) + 1)) < (getInt c0 ((((((off0 + ((Int.toNat (getInt c (off + ((Int.toNat k) * 5)))) * 7)) + 1) + 1) + 1) + 1) + 1))))
 (some (Out.ex Ex.ret (St.mk [(.int .i64 (3 : Int)), (.int .i64 k), (.int .i64 (7 : Int))] [] (Hp.mk [(Ob.cells c0 true), (Ob.cells c true), o2, (Ob.cells ⟨[(.slice (some (Addr.mk 0 off0 none)) n 7), (.slice (some (Addr.mk 1 off none)) n2 5), (.slice d n3 z3), (.int .i64 age), (.int .i64 shear)]⟩ false), (Ob.map es)] 96 []))))
 (cond (decide ((getInt c0 (((((((off0 + ((Int.toNat (getInt c (off + ((Int.toNat k) * 5)))) * 7)) + 1) + 1) + 1) + 1) + 1) + 1)) < (getInt c (((off + ((Int.toNat k) * 5)) + 1) + 1))))
 (some (Out.ex Ex.ret (St.mk [(.int .i64 (3 : Int)), (.int .i64 k), (.int .i64 (7 : Int))] [] (Hp.mk [(Ob.cells c0 true), (Ob.cells c true), o2, (Ob.cells ⟨[(.slice (some (Addr.mk 0 off0 none)) n 7), (.slice (some (Addr.mk 1 off none)) n2 5), (.slice d n3 z3), (.int .i64 age), (.int .i64 shear)]⟩ false), (Ob.map es)] 96 []))))
 (cond (decide ((-20000 : Int) ≤ (getInt c ((((off + ((Int.toNat k) * 5)) + 1) + 1) + 1))))
 (cond (not (decide ((getInt c ((((off + ((Int.toNat k) * 5)) + 1) + 1) + 1)) ≤ (20000 : Int))))
 (some (Out.ex Ex.ret (St.mk [(.int .i64 (3 : Int)), (.int .i64 k), (.int .i64 (7 : Int))] [] (Hp.mk [(Ob.cells c0 true), (Ob.cells c true), o2, (Ob.cells ⟨[(.slice (some (Addr.mk 0 off0 none)) n 7), (.slice (some (Addr.mk 1 off none)) n2 5), (.slice d n3 z3), (.int .i64 age), (.int .i64 shear)]⟩ false), (Ob.map es)] 96 []))))
 (cond (decide ((-20000 : Int) ≤ (getInt c (((((off + ((Int.toNat k) * 5)) + 1) + 1) + 1) + 1))))
 (cond (not (decide ((getInt c (((((off + ((Int.toNat k) * 5)) + 1) + 1) + 1) + 1)) ≤ (20000 : Int))))
 (some (Out.ex Ex.ret (St.mk [(.int .i64 (3 : Int)), (.int .i64 k), (.int .i64 (7 : Int))] [] (Hp.mk [(Ob.cells c0 true), (Ob.cells c true), o2, (Ob.cells ⟨[(.slice (some (Addr.mk 0 off0 none)) n 7), (.slice (some (Addr.mk 1 off none)) n2 5), (.slice d n3 z3), (.int .i64 age), (.int .i64 shear)]⟩ false), (Ob.map es)] 96 []))))
 (cond (lkIs Try.prog 105 (.agg ⟨[(.string ByteArray.empty), (.int .i64 (getInt c (off + ((Int.toNat k) * 5)))), (.int .i64 (getInt c ((off + ((Int.toNat k) * 5)) + 1))), (.int .i64 (getInt c (((off + ((Int.toNat k) * 5)) + 1) + 1)))]⟩) es)
 (cond (lkOf Try.prog 105 (.agg ⟨[(.string ByteArray.empty), (.int .i64 (getInt c (off + ((Int.toNat k) * 5)))), (.int .i64 (getInt c ((off + ((Int.toNat k) * 5)) + 1))), (.int .i64 (getInt c (((off + ((Int.toNat k) * 5)) + 1) + 1)))]⟩) es)
 (some (Out.ex Ex.ret (St.mk [(.int .i64 (3 : Int)), (.int .i64 k), (.int .i64 (5 : Int))] [] (Hp.mk [(Ob.cells c0 true), (Ob.cells c true), o2, (Ob.cells ⟨[(.slice (some (Addr.mk 0 off0 none)) n 7), (.slice (some (Addr.mk 1 off none)) n2 5), (.slice d n3 z3), (.int .i64 age), (.int .i64 shear)]⟩ false), (Ob.map es)] 96 []))))
 (cond (upIs Try.prog 105 (.agg ⟨[(.string ByteArray.empty), (.int .i64 (getInt c (off + ((Int.toNat k) * 5)))), (.int .i64 (getInt c ((off + ((Int.toNat k) * 5)) + 1))), (.int .i64 (getInt c (((off + ((Int.toNat k) * 5)) + 1) + 1)))]⟩) (.bool true) es)
 (cond (mapSc (((((((1 + 1) + 1) + 1) + 1) + 1) + 1) + 1) (upOf Try.prog 105 (.agg ⟨[(.string ByteArray.empty), (.int .i64 (getInt c (off + ((Int.toNat k) * 5)))), (.int .i64 (getInt c ((off + ((Int.toNat k) * 5)) + 1))), (.int .i64 (getInt c (((off + ((Int.toNat k) * 5)) + 1) + 1)))]⟩) (.bool true) es))
 (cond (decide ((getInt c0 ((off0 + ((Int.toNat (getInt c (off + ((Int.toNat k) * 5)))) * 7)) + 1)) = (2 : Int)))
 (cond (and true (and (decide ((0 : Int) ≤ k)) (and (decide (0 ≤ (Int.toNat k))) (decide ((Int.toNat k) ≤ n2)))))
 (cond (c106 (some (Addr.mk 1 (off + 0) none)) ((Int.toNat k) - 0) 5 [(Ob.cells c0 true), (Ob.cells c true), o2, (Ob.cells ⟨[(.slice (some (Addr.mk 0 off0 none)) n 7), (.slice (some (Addr.mk 1 off none)) n2 5), (.slice d n3 z3), (.int .i64 age), (.int .i64 shear)]⟩ false), (Ob.map (upOf Try.prog 105 (.agg ⟨[(.string ByteArray.empty), (.int .i64 (getInt c (off + ((Int.toNat k) * 5)))), (.int .i64 (getInt c ((off + ((Int.toNat k) * 5)) + 1))), (.int .i64 (getInt c (((off + ((Int.toNat k) * 5)) + 1) + 1)))]⟩) (.bool true) es)), (Ob.cells ⟨[(.slice (some (Addr.mk 0 off0 none)) n 7), (.slice (some (Addr.mk 1 off none)) n2 5), (.slice d n3 z3), (.int .i64 age), (.int .i64 shear)]⟩ false), (Ob.cells ⟨[(.int .i64 (getInt c (off + ((Int.toNat k) * 5)))), (.int .i64 (getInt c ((off + ((Int.toNat k) * 5)) + 1))), (.int .i64 (getInt c (((off + ((Int.toNat k) * 5)) + 1) + 1))), (.int .i64 (getInt c ((((off + ((Int.toNat k) * 5)) + 1) + 1) + 1))), (.int .i64 (getInt c (((((off + ((Int.toNat k) * 5)) + 1) + 1) + 1) + 1)))]⟩ false), (Ob.cells ⟨[(.string (getStr c0 (off0 + ((Int.toNat (getInt c (off + ((Int.toNat k) * 5)))) * 7)))), (.int .i64 (getInt c0 ((off0 + ((Int.toNat (getInt c (off + ((Int.toNat k) * 5)))) * 7)) + 1))), (.int .i64 (getInt c0 (((off0 + ((Int.toNat (getInt c (off + ((Int.toNat k) * 5)))) * 7)) + 1) + 1))), (.int .i64 (getInt c0 ((((off0 + ((Int.toNat (getInt c (off + ((Int.toNat k) * 5)))) * 7)) + 1) + 1) + 1))), (.int .i64 (getInt c0 (((((off0 + ((Int.toNat (getInt c (off + ((Int.toNat k) * 5)))) * 7)) + 1) + 1) + 1) + 1))), (.int .i64 (getInt c0 ((((((off0 + ((Int.toNat (getInt c (off + ((Int.toNat k) * 5)))) * 7)) + 1) + 1) + 1) + 1) + 1))), (.int .i64 (getInt c0 (((((((off0 + ((Int.toNat (getInt c (off + ((Int.toNat k) * 5)))) * 7)) + 1) + 1) + 1) + 1) + 1) + 1)))]⟩ false)])
 (cond (flS c (off + 0) (getInt c (off + ((Int.toNat k) * 5))) (getInt c ((off + ((Int.toNat k) * 5)) + 1)) (getInt c (((off + ((Int.toNat k) * 5)) + 1) + 1)) ((Int.toNat k) - 0))
 (cond (mapSc ((((1 + 1) + 1) + 1) + 1) (upOf Try.prog 105 (.agg ⟨[(.string ByteArray.empty), (.int .i64 (getInt c (off + ((Int.toNat k) * 5)))), (.int .i64 (getInt c ((off + ((Int.toNat k) * 5)) + 1))), (.int .i64 (getInt c (((off + ((Int.toNat k) * 5)) + 1) + 1)))]⟩) (.bool true) es))
 (some (Out.ex Ex.ret (St.mk [(.int .i64 (3 : Int)), (.int .i64 k), (.int .i64 (2 : Int))] [] (Hp.mk [(Ob.cells c0 true), (Ob.cells c true), o2, (Ob.cells ⟨[(.slice (some (Addr.mk 0 off0 none)) n 7), (.slice (some (Addr.mk 1 off none)) n2 5), (.slice d n3 z3), (.int .i64 age), (.int .i64 shear)]⟩ false), (Ob.map (upOf Try.prog 105 (.agg ⟨[(.string ByteArray.empty), (.int .i64 (getInt c (off + ((Int.toNat k) * 5)))), (.int .i64 (getInt c ((off + ((Int.toNat k) * 5)) + 1))), (.int .i64 (getInt c (((off + ((Int.toNat k) * 5)) + 1) + 1)))]⟩) (.bool true) es))] 96 []))))
 (none))
 (cond (mapSc ((((1 + 1) + 1) + 1) + 1) (upOf Try.prog 105 (.agg ⟨[(.string ByteArray.empty), (.int .i64 (getInt c (off + ((Int.toNat k) * 5)))), (.int .i64 (getInt c ((off + ((Int.toNat k) * 5)) + 1))), (.int .i64 (getInt c (((off + ((Int.toNat k) * 5)) + 1) + 1)))]⟩) (.bool true) es))
 (cond (Nat.blt (Nat.sub (Int.toNat m) (Int.toNat (IntKind.wrap .i64 (k + (1 : Int))))) M)
 (cond (eqCode (theLoop Try.prog 20 1) (theLoop Try.prog 20 1))
 (cond (okA20b c0 off0 n c off n2 d n3 z3 o2 m (IntKind.wrap .i64 (k + (1 : Int))) (upOf Try.prog 105 (.agg ⟨[(.string ByteArray.empty), (.int .i64 (getInt c (off + ((Int.toNat k) * 5)))), (.int .i64 (getInt c ((off + ((Int.toNat k) * 5)) + 1))), (.int .i64 (getInt c (((off + ((Int.toNat k) * 5)) + 1) + 1)))]⟩) (.bool true) es))
 (cond (sbB c0 off0 n c off (n2 - (Int.toNat (IntKind.wrap .i64 (k + (1 : Int))))) (Int.toNat (IntKind.wrap .i64 (k + (1 : Int)))) (upOf Try.prog 105 (.agg ⟨[(.string ByteArray.empty), (.int .i64 (getInt c (off + ((Int.toNat k) * 5)))), (.int .i64 (getInt c ((off + ((Int.toNat k) * 5)) + 1))), (.int .i64 (getInt c (((off + ((Int.toNat k) * 5)) + 1) + 1)))]⟩) (.bool true) es))
 (some (Out.ex Ex.ret (St.mk [(.int .i64 (3 : Int)), (.int .i64 (Int.ofNat (sbI c0 off0 n c off (n2 - (Int.toNat (IntKind.wrap .i64 (k + (1 : Int))))) (Int.toNat (IntKind.wrap .i64 (k + (1 : Int)))) (upOf Try.prog 105 (.agg ⟨[(.string ByteArray.empty), (.int .i64 (getInt c (off + ((Int.toNat k) * 5)))), (.int .i64 (getInt c ((off + ((Int.toNat k) * 5)) + 1))), (.int .i64 (getInt c (((off + ((Int.toNat k) * 5)) + 1) + 1)))]⟩) (.bool true) es)))), (.int .i64 (sbE c0 off0 n c off (n2 - (Int.toNat (IntKind.wrap .i64 (k + (1 : Int))))) (Int.toNat (IntKind.wrap .i64 (k + (1 : Int)))) (upOf Try.prog 105 (.agg ⟨[(.string ByteArray.empty), (.int .i64 (getInt c (off + ((Int.toNat k) * 5)))), (.int .i64 (getInt c ((off + ((Int.toNat k) * 5)) + 1))), (.int .i64 (getInt c (((off + ((Int.toNat k) * 5)) + 1) + 1)))]⟩) (.bool true) es)))] [] (Hp.mk [(Ob.cells c0 true), (Ob.cells c true), o2, (Ob.cells ⟨[(.slice (some (Addr.mk 0 off0 none)) n 7), (.slice (some (Addr.mk 1 off none)) n2 5), (.slice d n3 z3), (.int .i64 age), (.int .i64 shear)]⟩ false), (Ob.map (sbM c0 off0 n c off (n2 - (Int.toNat (IntKind.wrap .i64 (k + (1 : Int))))) (Int.toNat (IntKind.wrap .i64 (k + (1 : Int)))) (upOf Try.prog 105 (.agg ⟨[(.string ByteArray.empty), (.int .i64 (getInt c (off + ((Int.toNat k) * 5)))), (.int .i64 (getInt c ((off + ((Int.toNat k) * 5)) + 1))), (.int .i64 (getInt c (((off + ((Int.toNat k) * 5)) + 1) + 1)))]⟩) (.bool true) es)))] 96 []))))
 (some (Out.ex (Ex.exit 2) (St.mk [(.pointer (some (Addr.mk 3 0 none)))] [] (Hp.mk [(Ob.cells c0 true), (Ob.cells c true), o2, (Ob.cells ⟨[(.slice (some (Addr.mk 0 off0 none)) n 7), (.slice (some (Addr.mk 1 off none)) n2 5), (.slice d n3 z3), (.int .i64 age), (.int .i64 shear)]⟩ false), (Ob.map (sbM c0 off0 n c off (n2 - (Int.toNat (IntKind.wrap .i64 (k + (1 : Int))))) (Int.toNat (IntKind.wrap .i64 (k + (1 : Int)))) (upOf Try.prog 105 (.agg ⟨[(.string ByteArray.empty), (.int .i64 (getInt c (off + ((Int.toNat k) * 5)))), (.int .i64 (getInt c ((off + ((Int.toNat k) * 5)) + 1))), (.int .i64 (getInt c (((off + ((Int.toNat k) * 5)) + 1) + 1)))]⟩) (.bool true) es)))] 96 [])))))
 (none))
 (none))
 (none))
 (none)))
 (none))
 (none))
 (cond (mapSc ((((1 + 1) + 1) + 1) + 1) (upOf Try.prog 105 (.agg ⟨[(.string ByteArray.empty), (.int .i64 (getInt c (off + ((Int.toNat k) * 5)))), (.int .i64 (getInt c ((off + ((Int.toNat k) * 5)) + 1))), (.int .i64 (getInt c (((off + ((Int.toNat k) * 5)) + 1) + 1)))]⟩) (.bool true) es))
 (cond (Nat.blt (Nat.sub (Int.toNat m) (Int.toNat (IntKind.wrap .i64 (k + (1 : Int))))) M)
 (cond (eqCode (theLoop Try.prog 20 1) (theLoop Try.prog 20 1))
 (cond (okA20b c0 off0 n c off n2 d n3 z3 o2 m (IntKind.wrap .i64 (k + (1 : Int))) (upOf Try.prog 105 (.agg ⟨[(.string ByteArray.empty), (.int .i64 (getInt c (off + ((Int.toNat k) * 5)))), (.int .i64 (getInt c ((off + ((Int.toNat k) * 5)) + 1))), (.int .i64 (getInt c (((off + ((Int.toNat k) * 5)) + 1) + 1)))]⟩) (.bool true) es))
 (cond (sbB c0 off0 n c off (n2 - (Int.toNat (IntKind.wrap .i64 (k + (1 : Int))))) (Int.toNat (IntKind.wrap .i64 (k + (1 : Int)))) (upOf Try.prog 105 (.agg ⟨[(.string ByteArray.empty), (.int .i64 (getInt c (off + ((Int.toNat k) * 5)))), (.int .i64 (getInt c ((off + ((Int.toNat k) * 5)) + 1))), (.int .i64 (getInt c (((off + ((Int.toNat k) * 5)) + 1) + 1)))]⟩) (.bool true) es))
 (some (Out.ex Ex.ret (St.mk [(.int .i64 (3 : Int)), (.int .i64 (Int.ofNat (sbI c0 off0 n c off (n2 - (Int.toNat (IntKind.wrap .i64 (k + (1 : Int))))) (Int.toNat (IntKind.wrap .i64 (k + (1 : Int)))) (upOf Try.prog 105 (.agg ⟨[(.string ByteArray.empty), (.int .i64 (getInt c (off + ((Int.toNat k) * 5)))), (.int .i64 (getInt c ((off + ((Int.toNat k) * 5)) + 1))), (.int .i64 (getInt c (((off + ((Int.toNat k) * 5)) + 1) + 1)))]⟩) (.bool true) es)))), (.int .i64 (sbE c0 off0 n c off (n2 - (Int.toNat (IntKind.wrap .i64 (k + (1 : Int))))) (Int.toNat (IntKind.wrap .i64 (k + (1 : Int)))) (upOf Try.prog 105 (.agg ⟨[(.string ByteArray.empty), (.int .i64 (getInt c (off + ((Int.toNat k) * 5)))), (.int .i64 (getInt c ((off + ((Int.toNat k) * 5)) + 1))), (.int .i64 (getInt c (((off + ((Int.toNat k) * 5)) + 1) + 1)))]⟩) (.bool true) es)))] [] (Hp.mk [(Ob.cells c0 true), (Ob.cells c true), o2, (Ob.cells ⟨[(.slice (some (Addr.mk 0 off0 none)) n 7), (.slice (some (Addr.mk 1 off none)) n2 5), (.slice d n3 z3), (.int .i64 age), (.int .i64 shear)]⟩ false), (Ob.map (sbM c0 off0 n c off (n2 - (Int.toNat (IntKind.wrap .i64 (k + (1 : Int))))) (Int.toNat (IntKind.wrap .i64 (k + (1 : Int)))) (upOf Try.prog 105 (.agg ⟨[(.string ByteArray.empty), (.int .i64 (getInt c (off + ((Int.toNat k) * 5)))), (.int .i64 (getInt c ((off + ((Int.toNat k) * 5)) + 1))), (.int .i64 (getInt c (((off + ((Int.toNat k) * 5)) + 1) + 1)))]⟩) (.bool true) es)))] 96 []))))
 (some (Out.ex (Ex.exit 2) (St.mk [(.pointer (some (Addr.mk 3 0 none)))] [] (Hp.mk [(Ob.cells c0 true), (Ob.cells c true), o2, (Ob.cells ⟨[(.slice (some (Addr.mk 0 off0 none)) n 7), (.slice (some (Addr.mk 1 off none)) n2 5), (.slice d n3 z3), (.int .i64 age), (.int .i64 shear)]⟩ false), (Ob.map (sbM c0 off0 n c off (n2 - (Int.toNat (IntKind.wrap .i64 (k + (1 : Int))))) (Int.toNat (IntKind.wrap .i64 (k + (1 : Int)))) (upOf Try.prog 105 (.agg ⟨[(.string ByteArray.empty), (.int .i64 (getInt c (off + ((Int.toNat k) * 5)))), (.int .i64 (getInt c ((off + ((Int.toNat k) * 5)) + 1))), (.int .i64 (getInt c (((off + ((Int.toNat k) * 5)) + 1) + 1)))]⟩) (.bool true) es)))] 96 [])))))
 (none))
 (none))
 (none))
 (none)))
 (none))
 (none)))
 (none)))
 (some (Out.ex Ex.ret (St.mk [(.int .i64 (3 : Int)), (.int .i64 k), (.int .i64 (7 : Int))] [] (Hp.mk [(Ob.cells c0 true), (Ob.cells c true), o2, (Ob.cells ⟨[(.slice (some (Addr.mk 0 off0 none)) n 7), (.slice (some (Addr.mk 1 off none)) n2 5), (.slice d n3 z3), (.int .i64 age), (.int .i64 shear)]⟩ false), (Ob.map es)] 96 []))))))
 (some (Out.ex Ex.ret (St.mk [(.int .i64 (3 : Int)), (.int .i64 k), (.int .i64 (7 : Int))] [] (Hp.mk [(Ob.cells c0 true), (Ob.cells c true), o2, (Ob.cells ⟨[(.slice (some (Addr.mk 0 off0 none)) n 7), (.slice (some (Addr.mk 1 off none)) n2 5), (.slice d n3 z3), (.int .i64 age), (.int .i64 shear)]⟩ false), (Ob.map es)] 96 []))))))))
 (some (Out.ex Ex.ret (St.mk [(.int .i64 (3 : Int)), (.int .i64 k), (.int .i64 (7 : Int))] [] (Hp.mk [(Ob.cells c0 true), (Ob.cells c true), o2, (Ob.cells ⟨[(.slice (some (Addr.mk 0 off0 none)) n 7), (.slice (some (Addr.mk 1 off none)) n2 5), (.slice d n3 z3), (.int .i64 age), (.int .i64 shear)]⟩ false), (Ob.map es)] 96 [])))))
 (none))
 (none))))
 (none))
 (none))
 (some (Out.ex (Ex.exit 2) (St.mk [(.pointer (some (Addr.mk 3 0 none)))] [] (Hp.mk [(Ob.cells c0 true), (Ob.cells c true), o2, (Ob.cells ⟨[(.slice (some (Addr.mk 0 off0 none)) n 7), (.slice (some (Addr.mk 1 off none)) n2 5), (.slice d n3 z3), (.int .i64 age), (.int .i64 shear)]⟩ false), (Ob.map es)] 96 [])))) := by kernel_rfl
theorem soK_mk (c : Array Value) (x : Nat) : isMk (soK c x) := ⟨_, _, _, _, rfl⟩
theorem sbR_taken {c0 : Array Value} {off0 n : Nat} {c : Array Value} {off : Nat} : ∀ {m k : Nat} {es : Es}, TakenM es → TakenM (sbR c0 off0 n c off m k es).es
  | 0, _, _, h => h
  | m + 1, k, es, h => by
    have h2 : TakenM (sqM c0 off0 n c off k es) := by
      unfold sqM
      split
      · split
        · exact h
        · exact taken_add h (soK_mk ..)
      · exact h
    simp only [sbR]
    split
    · exact sbR_taken h2
    · exact h2
theorem known20b : ∃ J, Known Try.prog (sh20b.ans J) := by
  refine Known.junk known106c mes20b sh20b ?_
  intro J t f hs hkn
  unfold sh20b at hs
  split at hs
  case h_2 => cases hs
  rename_i code t c0 c o2 off0 n off n2 d n3 z3 age shear es G
  split at hs
  case h_2 => cases hs
  rename_i m k er e1 e5 e56 e57
  simp only [Option.some.injEq] at hs
  subst hs
  refine ex_guard fun h1 => ex_guard fun h2 => ex_guard fun h3 => ?_
  obtain rfl := eqCode_eq h1
  have hl : t.length = 96 := Nat.eq_of_beq_eq_true h2
  obtain ⟨hg0, hg, hd, q2, hn, hn2, rfl, hk0, tk⟩ := dec_iff.1 h3
  obtain ⟨k, rfl⟩ := Int.eq_ofNat_of_zero_le hk0
  have scs := And.intro (allsc (n := 5) hg0.1) (And.intro (allsc (n := 5) hg.1) (And.intro (slice_sc hd (show 3 ≤ 5 by decide)) (And.intro (grOb_sc (n := 5) q2) (And.intro (obSc_map tk 5) (And.intro (fun l z => at0_sc (l := l) (z := z) (off := off0) (show 0 < 5 by decide)) (fun l z => at1_sc (l := l) (z := z) (off := off) (show 1 < 5 by decide)))))))
  have hsc2 : (([.cells c0 true, .cells c true, o2, .cells ⟨[.slice (some ⟨0, off0, none⟩) n 7, .slice (some ⟨1, off, none⟩) n2 5, .slice d n3 z3, .int .i64 age, .int .i64 shear]⟩ false, .map es] : List Ob).all (obSc ([.cells c0 true, .cells c true, o2, .cells ⟨[.slice (some ⟨0, off0, none⟩) n 7, .slice (some ⟨1, off, none⟩) n2 5, .slice d n3 z3, .int .i64 age, .int .i64 shear]⟩ false, .map es] : List Ob).length)) = true := by
    simp [obSc_cells, scs, int_sc]
  have hk2 : ∀ es', TakenM es' → ObsKept 5 [.cells c0 true, .cells c true, o2, .cells ⟨[.slice (some ⟨0, off0, none⟩) n 7, .slice (some ⟨1, off, none⟩) n2 5, .slice d n3 z3, .int .i64 age, .int .i64 shear]⟩ false, .map es] [.cells c0 true, .cells c true, o2, .cells ⟨[.slice (some ⟨0, off0, none⟩) n 7, .slice (some ⟨1, off, none⟩) n2 5, .slice d n3 z3, .int .i64 age, .int .i64 shear]⟩ false, .map es'] := by
    intro es' ht
    have hs := keptSelf hsc2
    cases hs with
    | cons h r => cases r with
      | cons h' r => cases r with
        | cons h'' r => cases r with
          | cons h''' r => exact .cons h (.cons h' (.cons h'' (.cons h''' (.cons (by
              show ((!(Ob.map es').live || (Ob.map es).live) && (!(Ob.map es').rw || (Ob.map es).rw) && (obSc 5 (.map es'))) = true
              rw [obSc_map ht]; rfl) .nil))))
  have use := fun es' (ht : TakenM es') e' vs hev he hvs => hkn.loopLeaf (G := G) noNG mixed (n := 60) (N0 := 96) (N := 96) (live := [(1, pp 3), (5, .map (some 4)), (56, .int .i64 (Int.ofNat n2)), (57, .int .i64 (Int.ofNat k))])
    (H0 := [.cells c0 true, .cells c true, o2, .cells ⟨[.slice (some ⟨0, off0, none⟩) n 7, .slice (some ⟨1, off, none⟩) n2 5, .slice d n3 z3, .int .i64 age, .int .i64 shear]⟩ false, .map es])
    (H1 := [.cells c0 true, .cells c true, o2, .cells ⟨[.slice (some ⟨0, off0, none⟩) n 7, .slice (some ⟨1, off, none⟩) n2 5, .slice d n3 z3, .int .i64 age, .int .i64 shear]⟩ false, .map es']) (pick := pick20 [1]) (e := e') (vs := vs)
    (base := 3) (wr := []) (wr1 := []) (c := theLoop Try.prog 20 1) (t := t) hev hl (by
      intro kv hm
      simp only [List.mem_cons, List.not_mem_nil, or_false] at hm
      rcases hm with rfl | rfl | rfl | rfl
      · exact ⟨e1, rfl, rfl⟩
      · exact ⟨e5, rfl, rfl⟩
      · exact ⟨e56, rfl, rfl⟩
      · exact ⟨e57, rfl, rfl⟩) (by simp) hsc2 (hk2 es' ht) he hvs
  simp only [List.length_cons, List.length_nil, Nat.zero_add, Nat.reduceAdd] at use
  rw [tree20b] at use
  simp only [Int.ofNat_eq_natCast, Int.toNat_natCast] at use ⊢
  by_cases hin : (k : Int) < (n2 : Int)
  · obtain ⟨m, hm⟩ : ∃ m, n2 - k = m + 1 := ⟨n2 - k - 1, by omega⟩
    have hw : IntKind.i64.wrap ((k : Int) + 1) = ((k + 1 : Nat) : Int) := by rw [wrap64_id (by omega) (by omega)]; rfl
    rw [hm]
    have hm' : n2 - (k + 1) = m := by omega
    have hme : (Nat.sub n2 (k + 1)).blt (mes20b (.code none (.loop (theLoop Try.prog 20 1)) ⟨t, [], ⟨.cells c0 true :: .cells c true :: o2 :: .cells ⟨[.slice (some ⟨0, off0, none⟩) n 7, .slice (some ⟨1, off, none⟩) n2 5, .slice d n3 z3, .int .i64 age, .int .i64 shear]⟩ false :: .map es :: G, 3, []⟩⟩)) = true := by
      simp only [mes20b, e56, e57, Nat.blt_eq, Int.toNat_natCast]
      show n2 - (k + 1) < n2 - k
      omega
    have hok : ∀ es', TakenM es' → okA20b c0 off0 n c off n2 d n3 z3 o2 (n2 : Int) ↑(k + 1) es' = true := fun es' ht => dec_iff.2 ⟨hg0, hg, hd, q2, hn, hn2, rfl, by omega, ht⟩
    have hkle : k ≤ n2 := by omega
    have x0 := hg.2 k (by omega)
    simp only [show L5.length = 5 from rfl] at x0
    have hcc : ∀ X : List Ob, c106 (some ⟨1, off, none⟩) k 5 (.cells c0 true :: .cells c true :: X) = true := fun X => dec_iff.2 ⟨.inr ⟨1, off, rfl, rfl, rfl, hg.1, fun q hq => hg.2 q (by omega)⟩, by omega⟩
    have kR : ∀ v : Int, 0 ≤ v → v < n → rdOk c0 L7 (off0 + v.toNat * 7) = true := fun v h1 h2 => hg0.2 v.toNat (by omega)
    have kk := soK_mk c (off + k * 5)
    have hlk := lkL_mark kk tk
    have l1 : lkIs Try.prog 105 (soK c (off + k * 5)) es = true := by unfold lkIs; rw [hlk]
    have l2 : lkOf Try.prog 105 (soK c (off + k * 5)) es = tkL es (soK c (off + k * 5)) := by unfold lkOf; rw [hlk]; rfl
    simp only [show Value.agg ⟨[.string ByteArray.empty, .int .i64 (getInt c (off + k * 5)), .int .i64 (getInt c (off + k * 5 + 1)), .int .i64 (getInt c (off + k * 5 + 1 + 1))]⟩ = soK c (off + k * 5) from rfl, l1, l2, hw, Int.toNat_natCast, hm', hin, decide_true, cond_true, Bool.true_and, Bool.and_self, Int.natCast_nonneg, eqCode_self, hme, Nat.add_zero, Nat.sub_zero, x0, hcc, hkle, Nat.zero_le] at use
    have hE := sqR.eq_1 c0 off0 n c (off + k * 5)
    simp only [inB] at hE
    simp only [Nat.add_assoc, Nat.reduceAdd] at use hE
    by_cases hR : sqR c0 off0 n c (off + k * 5) = 0
    · have hF : 0 ≤ getInt c (off + k * 5) ∧ getInt c (off + k * 5) < n ∧ 0 ≤ getInt c (off + (k * 5 + 1)) ∧ getInt c (off + (k * 5 + 1)) ≤ 100000 ∧ getInt c0 (off0 + ((getInt c (off + k * 5)).toNat * 7 + 5)) ≤ getInt c (off + (k * 5 + 2)) ∧ getInt c (off + (k * 5 + 2)) ≤ getInt c0 (off0 + ((getInt c (off + k * 5)).toNat * 7 + 6)) ∧ -20000 ≤ getInt c (off + (k * 5 + 3)) ∧ getInt c (off + (k * 5 + 3)) ≤ 20000 ∧ -20000 ≤ getInt c (off + (k * 5 + 4)) ∧ getInt c (off + (k * 5 + 4)) ≤ 20000 := by
        have hR2 := hR
        rw [hE] at hR2
        clear use hkn hk2 hsc2 hme hok h1 h2 h3 er hg0 hg hd q2 hl e1 e5 e56 e57 x0 scs hlk l1 l2 hcc kk hE
        split at hR2
        · cases hR2
        · split at hR2
          · cases hR2
          · simp only [Bool.not_eq_true', Bool.not_eq_false', decide_eq_true_eq, decide_eq_false_iff_not, Bool.and_eq_false_iff, Bool.and_eq_true] at *
            omega
      obtain ⟨f1, f2, f3, f4, f5, f6, f7, f8, f9, f10⟩ := hF
      have g1 : ¬ getInt c (off + k * 5) < 0 := by omega
      have g2 : ¬ (n : Int) ≤ getInt c (off + k * 5) := by omega
      have g3 : ¬ getInt c (off + (k * 5 + 2)) < getInt c0 (off0 + ((getInt c (off + k * 5)).toNat * 7 + 5)) := by omega
      have g4 : ¬ getInt c0 (off0 + ((getInt c (off + k * 5)).toNat * 7 + 6)) < getInt c (off + (k * 5 + 2)) := by omega
      have hrd := kR _ f1 f2
      simp only [f1, f2, f3, f4, f7, f8, f9, f10, g1, g2, g3, g4, hrd, decide_true, decide_false, Bool.and_self, Bool.not_true, cond_true, cond_false] at use
      have hsqE : sqE c0 off0 n c off k es = if tkL es (soK c (off + k * 5)) = true then 5 else sqF c0 off0 c off k := by unfold sqE; rw [if_pos hR]
      have hsqM : sqM c0 off0 n c off k es = if tkL es (soK c (off + k * 5)) = true then es else tkU es (soK c (off + k * 5)) := by unfold sqM; rw [if_pos hR]
      by_cases hmem : soK c (off + k * 5) ∈ keysM es
      · have ht : tkL es (soK c (off + k * 5)) = true := dec_iff.2 hmem
        have e : sbR c0 off0 n c off (m + 1) k es = ⟨true, k, 5, es⟩ := by simp [sbR, hsqE, hsqM, ht]
        simp only [sbB, sbI, sbE, sbM, e]
        refine use es tk .ret [.int .i64 3, .int .i64 k, .int .i64 5] ?_ rfl rfl
        rw [ht]; rfl
      · have ht : tkL es (soK c (off + k * 5)) = false := dec_false hmem
        have hup := upL_mark kk tk hmem
        have u1 : upIs Try.prog 105 (soK c (off + k * 5)) (.bool true) es = true := by unfold upIs; rw [hup]; rfl
        have u2 : upOf Try.prog 105 (soK c (off + k * 5)) (.bool true) es = tkU es (soK c (off + k * 5)) := by unfold upOf; rw [hup]; rfl
        have tk2 : TakenM (tkU es (soK c (off + k * 5))) := taken_add tk kk
        have u3 := mapSc_taken tk2
        simp only [ht, Bool.false_eq_true, if_false] at hsqE hsqM
        simp only [ht, u1, u2, u3, hok _ tk2, cond_false, cond_true] at use
        have hFE := sqF.eq_1 c0 off0 c off k
        simp only [Nat.add_assoc, Nat.reduceAdd] at hFE
        by_cases hr : sqF c0 off0 c off k = 0
        · have e : sbR c0 off0 n c off (m + 1) k es = sbR c0 off0 n c off m (k + 1) (tkU es (soK c (off + k * 5))) := by simp only [sbR, hsqE, hr, if_true, hsqM]
          simp only [sbB, sbI, sbE, sbM, e] at use ⊢
          have tk3 : TakenM (sbR c0 off0 n c off m (k + 1) (tkU es (soK c (off + k * 5)))).es := sbR_taken tk2
          have hno : ¬ (getInt c0 (off0 + ((getInt c (off + k * 5)).toNat * 7 + 1)) = 2 ∧ flS c off (getInt c (off + k * 5)) (getInt c (off + (k * 5 + 1))) (getInt c (off + (k * 5 + 2))) k = true) := by
            intro hh
            rw [hFE, if_pos hh] at hr
            cases hr
          cases hbb : (sbR c0 off0 n c off m (k + 1) (tkU es (soK c (off + k * 5)))).bad with
          | true =>
            rw [hbb] at use
            refine use _ tk3 .ret [.int .i64 3, .int .i64 (Int.ofNat (sbR c0 off0 n c off m (k + 1) (tkU es (soK c (off + k * 5)))).ix), .int .i64 (sbR c0 off0 n c off m (k + 1) (tkU es (soK c (off + k * 5)))).err] ?_ rfl rfl
            by_cases hk2' : getInt c0 (off0 + ((getInt c (off + k * 5)).toNat * 7 + 1)) = 2
            · have hfl : flS c off (getInt c (off + k * 5)) (getInt c (off + (k * 5 + 1))) (getInt c (off + (k * 5 + 2))) k = false := by cases hq : flS c off (getInt c (off + k * 5)) (getInt c (off + (k * 5 + 1))) (getInt c (off + (k * 5 + 2))) k with | true => exact absurd ⟨hk2', hq⟩ hno | false => rfl
              simp only [hk2', hfl, decide_true, cond_true, cond_false]; rfl
            · simp only [hk2', decide_false, cond_true, cond_false]; rfl
          | false =>
            rw [hbb] at use
            refine use _ tk3 (.exit 2) [pp 3] ?_ rfl rfl
            by_cases hk2' : getInt c0 (off0 + ((getInt c (off + k * 5)).toNat * 7 + 1)) = 2
            · have hfl : flS c off (getInt c (off + k * 5)) (getInt c (off + (k * 5 + 1))) (getInt c (off + (k * 5 + 2))) k = false := by cases hq : flS c off (getInt c (off + k * 5)) (getInt c (off + (k * 5 + 1))) (getInt c (off + (k * 5 + 2))) k with | true => exact absurd ⟨hk2', hq⟩ hno | false => rfl
              simp only [hk2', hfl, decide_true, cond_true, cond_false]; rfl
            · simp only [hk2', decide_false, cond_true, cond_false]; rfl
        · have hyes : getInt c0 (off0 + ((getInt c (off + k * 5)).toNat * 7 + 1)) = 2 ∧ flS c off (getInt c (off + k * 5)) (getInt c (off + (k * 5 + 1))) (getInt c (off + (k * 5 + 2))) k = true := by
            by_cases hh : getInt c0 (off0 + ((getInt c (off + k * 5)).toNat * 7 + 1)) = 2 ∧ flS c off (getInt c (off + k * 5)) (getInt c (off + (k * 5 + 1))) (getInt c (off + (k * 5 + 2))) k = true
            · exact hh
            · rw [hFE, if_neg hh] at hr; exact absurd rfl hr
          have h2v : sqF c0 off0 c off k = 2 := by rw [hFE, if_pos hyes]
          have e : sbR c0 off0 n c off (m + 1) k es = ⟨true, k, 2, tkU es (soK c (off + k * 5))⟩ := by simp only [sbR, hsqE, h2v, hsqM]; rfl
          simp only [sbB, sbI, sbE, sbM, e]
          refine use _ tk2 .ret [.int .i64 3, .int .i64 k, .int .i64 2] ?_ rfl rfl
          simp only [hyes.1, hyes.2, decide_true, cond_true]
    · have e : sbR c0 off0 n c off (m + 1) k es = ⟨true, k, sqR c0 off0 n c (off + k * 5), es⟩ := by simp only [sbR, sqE, sqM, hR, if_false]
      simp only [sbB, sbI, sbE, sbM, e]
      refine use es tk .ret [.int .i64 3, .int .i64 k, .int .i64 (sqR c0 off0 n c (off + k * 5))] ?_ rfl rfl
      clear use hkn hk2 hsc2 hme hok h1 h2 h3 er hg0 hg hd q2 hl e1 e5 e56 e57 x0 scs hlk l1 l2 hcc kk hin hm hw hm' hkle hk0 tk e
      repeat' refine cond_hd (fun _ => ?_) (fun _ => ?_)
      all_goals first
        | (exfalso
           have h9 := kR (getInt c (off + k * 5)) (by simp only [Bool.not_eq_true', Bool.not_eq_false', decide_eq_true_eq, decide_eq_false_iff_not, Bool.and_eq_false_iff, Bool.and_eq_true] at *; omega) (by simp only [Bool.not_eq_true', Bool.not_eq_false', decide_eq_true_eq, decide_eq_false_iff_not, Bool.and_eq_false_iff, Bool.and_eq_true] at *; omega)
           simp_all; done)
        | (have h7 : sqR c0 off0 n c (off + k * 5) = 4 := by
             simp only [Bool.not_eq_true', Bool.not_eq_false', decide_eq_true_eq, decide_eq_false_iff_not, Bool.and_eq_false_iff, Bool.and_eq_true] at *
             rw [hE, if_pos (by omega)]
           rw [h7]; done)
        | (have h7 : sqR c0 off0 n c (off + k * 5) = 7 := by
             simp only [Bool.not_eq_true', Bool.not_eq_false', decide_eq_true_eq, decide_eq_false_iff_not, Bool.and_eq_false_iff, Bool.and_eq_true] at *
             rw [hE, if_neg (by omega), if_pos (by omega)]
           rw [h7]; done)
        | (exfalso
           refine hR ?_
           clear hR
           simp only [Bool.not_eq_true', Bool.not_eq_false', decide_eq_true_eq, decide_eq_false_iff_not, Bool.and_eq_false_iff, Bool.and_eq_true] at *
           rw [hE, if_neg (by omega), if_neg (by omega)])
  · have h0 : n2 - k = 0 := by omega
    rw [h0]
    refine use es tk (.exit 2) [pp 3] ?_ rfl rfl
    simp only [hin, decide_false, cond_false]
    try rfl
end
end Go.Proofs.Ytjdidbnmkogflaa.Old

