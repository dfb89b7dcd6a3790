/- Part 14 of the texts below the claim. Conditions: none. -/
import Derived.Test.YtohpmnfplglbdaaMg13
import Derived.Test.YtohpmnfplglbdaaMg6
import Derived.Below
import Derived.Test.YtohpmnfplglbdaaMg10
import Derived.Test.YtohpmnfplglbdaaRows
import Derived.WalkKit
import Derived.ProofKit
import Derived.OpenShut
import Derived.ChangeOld
import Derived.Deep.Strs
import Derived.ChangeMaps5
/- hangfireref01.Says: what it returns. Conditions: none. -/
namespace Go.Proofs.Ytohpmnfplglbdaa
open Go.Gh Go.RowKit
noncomputable section
set_option maxRecDepth 100000
set_option linter.unusedSimpArgs false
set_option linter.unusedVariables false
theorem tree37f (o0 o1 o2 : Ob) (a b d : Option Addr) (n z n2 z2 n3 z3 : Nat) (age shear src band tick now : Int) :
    evC Try.prog ((p20v 21).or (pNo 84)).c 60 (.call 37 ⟨[.agg ⟨[.slice a n z, .slice b n2 z2, .slice d n3 z3, .int .i64 age, .int .i64 shear]⟩, .int .i64 src, .int .i64 band, .int .i64 tick, .int .i64 now]⟩ ⟨[o0, o1, o2], 3, []⟩) some =
    cond (okT a b d n z n2 z2 n3 z3 [o0, o1, o2])
    (cond (decide ((ck3 a b d n n2 n3 age shear [o0, o1, o2]) = (0 : Int)))
     (cond (decide ((0 : Int) ≤ src))
      (cond (not (decide (src ≤ (IntKind.wrap .i64 ((Int.ofNat n) - (1 : Int))))))
       (some (Out.ret (Value.tuple ⟨[(Value.agg ⟨[(Value.int .i64 (0 : Int)), (Value.int .i64 (0 : Int))]⟩), (Value.agg ⟨[(Value.int .i64 (0 : Int)), (Value.int .i64 (0 : Int))]⟩), (Value.int .i64 (4 : Int))]⟩) (Hp.mk [o0, o1, o2] 3 [])))
       (cond (decide ((0 : Int) ≤ band))
        (cond (not (decide (band ≤ (IntKind.wrap .i64 ((Int.ofNat n3) - (1 : Int))))))
         (some (Out.ret (Value.tuple ⟨[(Value.agg ⟨[(Value.int .i64 (0 : Int)), (Value.int .i64 (0 : Int))]⟩), (Value.agg ⟨[(Value.int .i64 (0 : Int)), (Value.int .i64 (0 : Int))]⟩), (Value.int .i64 (4 : Int))]⟩) (Hp.mk [o0, o1, o2] 3 [])))
         (cond (decide ((ck3 a b d n n2 n3 age shear [o0, o1, o2]) = (0 : Int)))
          (cond (decide ((0 : Int) ≤ tick))
           (cond (not (decide (tick ≤ (100000 : Int))))
            (some (Out.ret (Value.tuple ⟨[(Value.agg ⟨[(Value.int .i64 (0 : Int)), (Value.int .i64 (0 : Int))]⟩), (Value.agg ⟨[(Value.int .i64 (0 : Int)), (Value.int .i64 (0 : Int))]⟩), (Value.int .i64 (7 : Int))]⟩) (Hp.mk [o0, o1, o2] 3 [])))
            (cond (decide ((0 : Int) ≤ now))
             (cond (not (decide (now ≤ (100000 : Int))))
              (some (Out.ret (Value.tuple ⟨[(Value.agg ⟨[(Value.int .i64 (0 : Int)), (Value.int .i64 (0 : Int))]⟩), (Value.agg ⟨[(Value.int .i64 (0 : Int)), (Value.int .i64 (0 : Int))]⟩), (Value.int .i64 (7 : Int))]⟩) (Hp.mk [o0, o1, o2] 3 [])))
              (cond (not (decide ((ck3 a b d n n2 n3 age shear [o0, o1, o2]) = (0 : Int))))
               (some (Out.ret (Value.tuple ⟨[(Value.agg ⟨[(Value.int .i64 (0 : Int)), (Value.int .i64 (0 : Int))]⟩), (Value.agg ⟨[(Value.int .i64 (0 : Int)), (Value.int .i64 (0 : Int))]⟩), (Value.int .i64 (ck3 a b d n n2 n3 age shear [o0, o1, o2]))]⟩) (Hp.mk [o0, o1, o2] 3 [])))
               (none)))
             (some (Out.ret (Value.tuple ⟨[(Value.agg ⟨[(Value.int .i64 (0 : Int)), (Value.int .i64 (0 : Int))]⟩), (Value.agg ⟨[(Value.int .i64 (0 : Int)), (Value.int .i64 (0 : Int))]⟩), (Value.int .i64 (7 : Int))]⟩) (Hp.mk [o0, o1, o2] 3 [])))))
           (some (Out.ret (Value.tuple ⟨[(Value.agg ⟨[(Value.int .i64 (0 : Int)), (Value.int .i64 (0 : Int))]⟩), (Value.agg ⟨[(Value.int .i64 (0 : Int)), (Value.int .i64 (0 : Int))]⟩), (Value.int .i64 (7 : Int))]⟩) (Hp.mk [o0, o1, o2] 3 []))))
          (cond (not (decide ((ck3 a b d n n2 n3 age shear [o0, o1, o2]) = (0 : Int))))
           (some (Out.ret (Value.tuple ⟨[(Value.agg ⟨[(Value.int .i64 (0 : Int)), (Value.int .i64 (0 : Int))]⟩), (Value.agg ⟨[(Value.int .i64 (0 : Int)), (Value.int .i64 (0 : Int))]⟩), (Value.int .i64 (ck3 a b d n n2 n3 age shear [o0, o1, o2]))]⟩) (Hp.mk [o0, o1, o2] 3 [])))
           (none))))
        (some (Out.ret (Value.tuple ⟨[(Value.agg ⟨[(Value.int .i64 (0 : Int)), (Value.int .i64 (0 : Int))]⟩), (Value.agg ⟨[(Value.int .i64 (0 : Int)), (Value.int .i64 (0 : Int))]⟩), (Value.int .i64 (4 : Int))]⟩) (Hp.mk [o0, o1, o2] 3 [])))))
      (some (Out.ret (Value.tuple ⟨[(Value.agg ⟨[(Value.int .i64 (0 : Int)), (Value.int .i64 (0 : Int))]⟩), (Value.agg ⟨[(Value.int .i64 (0 : Int)), (Value.int .i64 (0 : Int))]⟩), (Value.int .i64 (4 : Int))]⟩) (Hp.mk [o0, o1, o2] 3 []))))
     (cond (decide ((ck3 a b d n n2 n3 age shear [o0, o1, o2]) = (0 : Int)))
      (cond (decide ((0 : Int) ≤ tick))
       (cond (not (decide (tick ≤ (100000 : Int))))
        (some (Out.ret (Value.tuple ⟨[(Value.agg ⟨[(Value.int .i64 (0 : Int)), (Value.int .i64 (0 : Int))]⟩), (Value.agg ⟨[(Value.int .i64 (0 : Int)), (Value.int .i64 (0 : Int))]⟩), (Value.int .i64 (7 : Int))]⟩) (Hp.mk [o0, o1, o2] 3 [])))
        (cond (decide ((0 : Int) ≤ now))
         (cond (not (decide (now ≤ (100000 : Int))))
          (some (Out.ret (Value.tuple ⟨[(Value.agg ⟨[(Value.int .i64 (0 : Int)), (Value.int .i64 (0 : Int))]⟩), (Value.agg ⟨[(Value.int .i64 (0 : Int)), (Value.int .i64 (0 : Int))]⟩), (Value.int .i64 (7 : Int))]⟩) (Hp.mk [o0, o1, o2] 3 [])))
          (cond (not (decide ((ck3 a b d n n2 n3 age shear [o0, o1, o2]) = (0 : Int))))
           (some (Out.ret (Value.tuple ⟨[(Value.agg ⟨[(Value.int .i64 (0 : Int)), (Value.int .i64 (0 : Int))]⟩), (Value.agg ⟨[(Value.int .i64 (0 : Int)), (Value.int .i64 (0 : Int))]⟩), (Value.int .i64 (ck3 a b d n n2 n3 age shear [o0, o1, o2]))]⟩) (Hp.mk [o0, o1, o2] 3 [])))
           (none)))
         (some (Out.ret (Value.tuple ⟨[(Value.agg ⟨[(Value.int .i64 (0 : Int)), (Value.int .i64 (0 : Int))]⟩), (Value.agg ⟨[(Value.int .i64 (0 : Int)), (Value.int .i64 (0 : Int))]⟩), (Value.int .i64 (7 : Int))]⟩) (Hp.mk [o0, o1, o2] 3 [])))))
       (some (Out.ret (Value.tuple ⟨[(Value.agg ⟨[(Value.int .i64 (0 : Int)), (Value.int .i64 (0 : Int))]⟩), (Value.agg ⟨[(Value.int .i64 (0 : Int)), (Value.int .i64 (0 : Int))]⟩), (Value.int .i64 (7 : Int))]⟩) (Hp.mk [o0, o1, o2] 3 []))))
      (cond (not (decide ((ck3 a b d n n2 n3 age shear [o0, o1, o2]) = (0 : Int))))
       (some (Out.ret (Value.tuple ⟨[(Value.agg ⟨[(Value.int .i64 (0 : Int)), (Value.int .i64 (0 : Int))]⟩), (Value.agg ⟨[(Value.int .i64 (0 : Int)), (Value.int .i64 (0 : Int))]⟩), (Value.int .i64 (ck3 a b d n n2 n3 age shear [o0, o1, o2]))]⟩) (Hp.mk [o0, o1, o2] 3 [])))
       (none))))
    (none) := by kernel_rfl
theorem tree37p (o0 o1 : Ob) (c3 : Array Value) (off0 off off3 n z n2 z2 n3 : Nat) (sp : Option Nat) (age shear src band tick now : Int) :
    evC Try.prog ((p20v 21).or p85).c 60 (.call 37 ⟨[.agg ⟨[.slice (some ⟨0, off0, none⟩) n z, .slice (some ⟨1, off, sp⟩) n2 z2, .slice (some ⟨2, off3, none⟩) n3 1, .int .i64 age, .int .i64 shear]⟩, .int .i64 src, .int .i64 band, .int .i64 tick, .int .i64 now]⟩ ⟨[o0, o1, .cells c3 true], 3, []⟩) some =
    cond (okT (Option.some (Addr.mk 0 off0 Option.none)) (Option.some (Addr.mk 1 off sp)) (Option.some (Addr.mk 2 off3 Option.none)) n z n2 z2 n3 1 [o0, o1, (Ob.cells c3 true)])
    (cond (decide ((ck3 (Option.some (Addr.mk 0 off0 Option.none)) (Option.some (Addr.mk 1 off sp)) (Option.some (Addr.mk 2 off3 Option.none)) n n2 n3 age shear [o0, o1, (Ob.cells c3 true)]) = (0 : Int)))
     (cond (decide ((0 : Int) ≤ src))
      (cond (not (decide (src ≤ (IntKind.wrap .i64 ((Int.ofNat n) - (1 : Int))))))
       (some (Out.ret (Value.tuple ⟨[(Value.agg ⟨[(Value.int .i64 (0 : Int)), (Value.int .i64 (0 : Int))]⟩), (Value.agg ⟨[(Value.int .i64 (0 : Int)), (Value.int .i64 (0 : Int))]⟩), (Value.int .i64 (4 : Int))]⟩) (Hp.mk [o0, o1, (Ob.cells c3 true)] 3 [])))
       (cond (decide ((0 : Int) ≤ band))
        (cond (not (decide (band ≤ (IntKind.wrap .i64 ((Int.ofNat n3) - (1 : Int))))))
         (some (Out.ret (Value.tuple ⟨[(Value.agg ⟨[(Value.int .i64 (0 : Int)), (Value.int .i64 (0 : Int))]⟩), (Value.agg ⟨[(Value.int .i64 (0 : Int)), (Value.int .i64 (0 : Int))]⟩), (Value.int .i64 (4 : Int))]⟩) (Hp.mk [o0, o1, (Ob.cells c3 true)] 3 [])))
         (cond (decide ((ck3 (Option.some (Addr.mk 0 off0 Option.none)) (Option.some (Addr.mk 1 off sp)) (Option.some (Addr.mk 2 off3 Option.none)) n n2 n3 age shear [o0, o1, (Ob.cells c3 true)]) = (0 : Int)))
          (cond (decide ((0 : Int) ≤ tick))
           (cond (not (decide (tick ≤ (100000 : Int))))
            (some (Out.ret (Value.tuple ⟨[(Value.agg ⟨[(Value.int .i64 (0 : Int)), (Value.int .i64 (0 : Int))]⟩), (Value.agg ⟨[(Value.int .i64 (0 : Int)), (Value.int .i64 (0 : Int))]⟩), (Value.int .i64 (7 : Int))]⟩) (Hp.mk [o0, o1, (Ob.cells c3 true)] 3 [])))
            (cond (decide ((0 : Int) ≤ now))
             (cond (not (decide (now ≤ (100000 : Int))))
              (some (Out.ret (Value.tuple ⟨[(Value.agg ⟨[(Value.int .i64 (0 : Int)), (Value.int .i64 (0 : Int))]⟩), (Value.agg ⟨[(Value.int .i64 (0 : Int)), (Value.int .i64 (0 : Int))]⟩), (Value.int .i64 (7 : Int))]⟩) (Hp.mk [o0, o1, (Ob.cells c3 true)] 3 [])))
              (cond (not (decide ((ck3 (Option.some (Addr.mk 0 off0 Option.none)) (Option.some (Addr.mk 1 off sp)) (Option.some (Addr.mk 2 off3 Option.none)) n n2 n3 age shear [o0, o1, (Ob.cells c3 true)]) = (0 : Int))))
               (some (Out.ret (Value.tuple ⟨[(Value.agg ⟨[(Value.int .i64 (0 : Int)), (Value.int .i64 (0 : Int))]⟩), (Value.agg ⟨[(Value.int .i64 (0 : Int)), (Value.int .i64 (0 : Int))]⟩), (Value.int .i64 (ck3 (Option.some (Addr.mk 0 off0 Option.none)) (Option.some (Addr.mk 1 off sp)) (Option.some (Addr.mk 2 off3 Option.none)) n n2 n3 age shear [o0, o1, (Ob.cells c3 true)]))]⟩) (Hp.mk [o0, o1, (Ob.cells c3 true)] 3 [])))
               (cond (decide ((0 : Int) < band))
                (cond (and (decide ((0 : Int) ≤ (IntKind.wrap .i64 (band - (1 : Int))))) (decide ((IntKind.wrap .i64 (band - (1 : Int))) < (Int.ofNat n3))))
                 (cond (and true (isInt .i64 c3 (off3 + ((Int.toNat (IntKind.wrap .i64 (band - (1 : Int)))) * 1))))
                  (cond (and (decide ((0 : Int) ≤ band)) (decide (band < (Int.ofNat n3))))
                   (cond (and true (isInt .i64 c3 (off3 + ((Int.toNat band) * 1))))
                    (cond (okLv (Option.some (Addr.mk 0 off0 Option.none)) (Option.some (Addr.mk 1 off sp)) (Option.some (Addr.mk 2 off3 Option.none)) n z n2 z2 n3 1 age shear (getInt c3 (off3 + ((Int.toNat (IntKind.wrap .i64 (band - (1 : Int)))) * 1))) (IntKind.wrap .i64 ((getInt c3 (off3 + ((Int.toNat band) * 1))) - (1 : Int))) tick now o0 o1 (Ob.cells c3 true))
                     (cond (not (lvSm (Option.some (Addr.mk 0 off0 Option.none)) (Option.some (Addr.mk 1 off sp)) n n2 age shear (getInt c3 (off3 + ((Int.toNat (IntKind.wrap .i64 (band - (1 : Int)))) * 1))) (IntKind.wrap .i64 ((getInt c3 (off3 + ((Int.toNat band) * 1))) - (1 : Int))) tick now 117 src [o0, o1, (Ob.cells c3 true)]))
                      (some (Out.ret (Value.tuple ⟨[(Value.agg ⟨[(Value.int .i64 (0 : Int)), (Value.int .i64 (0 : Int))]⟩), (Value.agg ⟨[(Value.int .i64 (0 : Int)), (Value.int .i64 (0 : Int))]⟩), (Value.int .i64 (4 : Int))]⟩) (Hp.mk [o0, o1, (Ob.cells c3 true)] 3 [])))
                      (cond (decide ((lvXh (Option.some (Addr.mk 0 off0 Option.none)) (Option.some (Addr.mk 1 off sp)) n n2 age shear (getInt c3 (off3 + ((Int.toNat (IntKind.wrap .i64 (band - (1 : Int)))) * 1))) (IntKind.wrap .i64 ((getInt c3 (off3 + ((Int.toNat band) * 1))) - (1 : Int))) tick now 117 src [o0, o1, (Ob.cells c3 true)]) < (lvXl (Option.some (Addr.mk 0 off0 Option.none)) (Option.some (Addr.mk 1 off sp)) n n2 age shear (getInt c3 (off3 + ((Int.toNat (IntKind.wrap .i64 (band - (1 : Int)))) * 1))) (IntKind.wrap .i64 ((getInt c3 (off3 + ((Int.toNat band) * 1))) - (1 : Int))) tick now 117 src [o0, o1, (Ob.cells c3 true)])))
                       (some (Out.ret (Value.tuple ⟨[(Value.agg ⟨[(Value.int .i64 (0 : Int)), (Value.int .i64 (0 : Int))]⟩), (Value.agg ⟨[(Value.int .i64 (0 : Int)), (Value.int .i64 (0 : Int))]⟩), (Value.int .i64 (9 : Int))]⟩) (Hp.mk [o0, o1, (Ob.cells c3 true)] 3 [])))
                       (cond (decide ((lvYh (Option.some (Addr.mk 0 off0 Option.none)) (Option.some (Addr.mk 1 off sp)) n n2 age shear (getInt c3 (off3 + ((Int.toNat (IntKind.wrap .i64 (band - (1 : Int)))) * 1))) (IntKind.wrap .i64 ((getInt c3 (off3 + ((Int.toNat band) * 1))) - (1 : Int))) tick now 117 src [o0, o1, (Ob.cells c3 true)]) < (lvYl (Option.some (Addr.mk 0 off0 Option.none)) (Option.some (Addr.mk 1 off sp)) n n2 age shear (getInt c3 (off3 + ((Int.toNat (IntKind.wrap .i64 (band - (1 : Int)))) * 1))) (IntKind.wrap .i64 ((getInt c3 (off3 + ((Int.toNat band) * 1))) - (1 : Int))) tick now 117 src [o0, o1, (Ob.cells c3 true)])))
                        (some (Out.ret (Value.tuple ⟨[(Value.agg ⟨[(Value.int .i64 (0 : Int)), (Value.int .i64 (0 : Int))]⟩), (Value.agg ⟨[(Value.int .i64 (0 : Int)), (Value.int .i64 (0 : Int))]⟩), (Value.int .i64 (9 : Int))]⟩) (Hp.mk [o0, o1, (Ob.cells c3 true)] 3 [])))
                        (cond (decide ((lvYl (Option.some (Addr.mk 0 off0 Option.none)) (Option.some (Addr.mk 1 off sp)) n n2 age shear (getInt c3 (off3 + ((Int.toNat (IntKind.wrap .i64 (band - (1 : Int)))) * 1))) (IntKind.wrap .i64 ((getInt c3 (off3 + ((Int.toNat band) * 1))) - (1 : Int))) tick now 117 src [o0, o1, (Ob.cells c3 true)]) = (lvYl (Option.some (Addr.mk 0 off0 Option.none)) (Option.some (Addr.mk 1 off sp)) n n2 age shear (getInt c3 (off3 + ((Int.toNat (IntKind.wrap .i64 (band - (1 : Int)))) * 1))) (IntKind.wrap .i64 ((getInt c3 (off3 + ((Int.toNat band) * 1))) - (1 : Int))) tick now 117 src [o0, o1, (Ob.cells c3 true)])))
                         (cond (decide ((lvYh (Option.some (Addr.mk 0 off0 Option.none)) (Option.some (Addr.mk 1 off sp)) n n2 age shear (getInt c3 (off3 + ((Int.toNat (IntKind.wrap .i64 (band - (1 : Int)))) * 1))) (IntKind.wrap .i64 ((getInt c3 (off3 + ((Int.toNat band) * 1))) - (1 : Int))) tick now 117 src [o0, o1, (Ob.cells c3 true)]) = (lvYh (Option.some (Addr.mk 0 off0 Option.none)) (Option.some (Addr.mk 1 off sp)) n n2 age shear (getInt c3 (off3 + ((Int.toNat (IntKind.wrap .i64 (band - (1 : Int)))) * 1))) (IntKind.wrap .i64 ((getInt c3 (off3 + ((Int.toNat band) * 1))) - (1 : Int))) tick now 117 src [o0, o1, (Ob.cells c3 true)])))
                          (cond (decide ((lvYl (Option.some (Addr.mk 0 off0 Option.none)) (Option.some (Addr.mk 1 off sp)) n n2 age shear (getInt c3 (off3 + ((Int.toNat (IntKind.wrap .i64 (band - (1 : Int)))) * 1))) (IntKind.wrap .i64 ((getInt c3 (off3 + ((Int.toNat band) * 1))) - (1 : Int))) tick now 117 src [o0, o1, (Ob.cells c3 true)]) = (lvYl (Option.some (Addr.mk 0 off0 Option.none)) (Option.some (Addr.mk 1 off sp)) n n2 age shear (getInt c3 (off3 + ((Int.toNat (IntKind.wrap .i64 (band - (1 : Int)))) * 1))) (IntKind.wrap .i64 ((getInt c3 (off3 + ((Int.toNat band) * 1))) - (1 : Int))) tick now 117 src [o0, o1, (Ob.cells c3 true)])))
                           (cond (decide ((lvYh (Option.some (Addr.mk 0 off0 Option.none)) (Option.some (Addr.mk 1 off sp)) n n2 age shear (getInt c3 (off3 + ((Int.toNat (IntKind.wrap .i64 (band - (1 : Int)))) * 1))) (IntKind.wrap .i64 ((getInt c3 (off3 + ((Int.toNat band) * 1))) - (1 : Int))) tick now 117 src [o0, o1, (Ob.cells c3 true)]) = (lvYh (Option.some (Addr.mk 0 off0 Option.none)) (Option.some (Addr.mk 1 off sp)) n n2 age shear (getInt c3 (off3 + ((Int.toNat (IntKind.wrap .i64 (band - (1 : Int)))) * 1))) (IntKind.wrap .i64 ((getInt c3 (off3 + ((Int.toNat band) * 1))) - (1 : Int))) tick now 117 src [o0, o1, (Ob.cells c3 true)])))
                            (some (Out.ret (Value.tuple ⟨[(Value.agg ⟨[(Value.int .i64 (lvXl (Option.some (Addr.mk 0 off0 Option.none)) (Option.some (Addr.mk 1 off sp)) n n2 age shear (getInt c3 (off3 + ((Int.toNat (IntKind.wrap .i64 (band - (1 : Int)))) * 1))) (IntKind.wrap .i64 ((getInt c3 (off3 + ((Int.toNat band) * 1))) - (1 : Int))) tick now 117 src [o0, o1, (Ob.cells c3 true)])), (Value.int .i64 (lvXh (Option.some (Addr.mk 0 off0 Option.none)) (Option.some (Addr.mk 1 off sp)) n n2 age shear (getInt c3 (off3 + ((Int.toNat (IntKind.wrap .i64 (band - (1 : Int)))) * 1))) (IntKind.wrap .i64 ((getInt c3 (off3 + ((Int.toNat band) * 1))) - (1 : Int))) tick now 117 src [o0, o1, (Ob.cells c3 true)]))]⟩), (Value.agg ⟨[(Value.int .i64 (lvYl (Option.some (Addr.mk 0 off0 Option.none)) (Option.some (Addr.mk 1 off sp)) n n2 age shear (getInt c3 (off3 + ((Int.toNat (IntKind.wrap .i64 (band - (1 : Int)))) * 1))) (IntKind.wrap .i64 ((getInt c3 (off3 + ((Int.toNat band) * 1))) - (1 : Int))) tick now 117 src [o0, o1, (Ob.cells c3 true)])), (Value.int .i64 (lvYh (Option.some (Addr.mk 0 off0 Option.none)) (Option.some (Addr.mk 1 off sp)) n n2 age shear (getInt c3 (off3 + ((Int.toNat (IntKind.wrap .i64 (band - (1 : Int)))) * 1))) (IntKind.wrap .i64 ((getInt c3 (off3 + ((Int.toNat band) * 1))) - (1 : Int))) tick now 117 src [o0, o1, (Ob.cells c3 true)]))]⟩), (Value.int .i64 (0 : Int))]⟩) (Hp.mk [o0, o1, (Ob.cells c3 true)] 3 [])))
                            (none))
                           (none))
                          (none))
                         (none)))))
                     (none))
                    (none))
                   (none))
                  (none))
                 (none))
                (cond (and (decide ((0 : Int) ≤ band)) (decide (band < (Int.ofNat n3))))
                 (cond (and true (isInt .i64 c3 (off3 + ((Int.toNat band) * 1))))
                  (cond (okLv (Option.some (Addr.mk 0 off0 Option.none)) (Option.some (Addr.mk 1 off sp)) (Option.some (Addr.mk 2 off3 Option.none)) n z n2 z2 n3 1 age shear (0 : Int) (IntKind.wrap .i64 ((getInt c3 (off3 + ((Int.toNat band) * 1))) - (1 : Int))) tick now o0 o1 (Ob.cells c3 true))
                   (cond (not (lvSm (Option.some (Addr.mk 0 off0 Option.none)) (Option.some (Addr.mk 1 off sp)) n n2 age shear (0 : Int) (IntKind.wrap .i64 ((getInt c3 (off3 + ((Int.toNat band) * 1))) - (1 : Int))) tick now 117 src [o0, o1, (Ob.cells c3 true)]))
                    (some (Out.ret (Value.tuple ⟨[(Value.agg ⟨[(Value.int .i64 (0 : Int)), (Value.int .i64 (0 : Int))]⟩), (Value.agg ⟨[(Value.int .i64 (0 : Int)), (Value.int .i64 (0 : Int))]⟩), (Value.int .i64 (4 : Int))]⟩) (Hp.mk [o0, o1, (Ob.cells c3 true)] 3 [])))
                    (cond (decide ((lvXh (Option.some (Addr.mk 0 off0 Option.none)) (Option.some (Addr.mk 1 off sp)) n n2 age shear (0 : Int) (IntKind.wrap .i64 ((getInt c3 (off3 + ((Int.toNat band) * 1))) - (1 : Int))) tick now 117 src [o0, o1, (Ob.cells c3 true)]) < (lvXl (Option.some (Addr.mk 0 off0 Option.none)) (Option.some (Addr.mk 1 off sp)) n n2 age shear (0 : Int) (IntKind.wrap .i64 ((getInt c3 (off3 + ((Int.toNat band) * 1))) - (1 : Int))) tick now 117 src [o0, o1, (Ob.cells c3 true)])))
                     (some (Out.ret (Value.tuple ⟨[(Value.agg ⟨[(Value.int .i64 (0 : Int)), (Value.int .i64 (0 : Int))]⟩), (Value.agg ⟨[(Value.int .i64 (0 : Int)), (Value.int .i64 (0 : Int))]⟩), (Value.int .i64 (9 : Int))]⟩) (Hp.mk [o0, o1, (Ob.cells c3 true)] 3 [])))
                     (cond (decide ((lvYh (Option.some (Addr.mk 0 off0 Option.none)) (Option.some (Addr.mk 1 off sp)) n n2 age shear (0 : Int) (IntKind.wrap .i64 ((getInt c3 (off3 + ((Int.toNat band) * 1))) - (1 : Int))) tick now 117 src [o0, o1, (Ob.cells c3 true)]) < (lvYl (Option.some (Addr.mk 0 off0 Option.none)) (Option.some (Addr.mk 1 off sp)) n n2 age shear (0 : Int) (IntKind.wrap .i64 ((getInt c3 (off3 + ((Int.toNat band) * 1))) - (1 : Int))) tick now 117 src [o0, o1, (Ob.cells c3 true)])))
                      (some (Out.ret (Value.tuple ⟨[(Value.agg ⟨[(Value.int .i64 (0 : Int)), (Value.int .i64 (0 : Int))]⟩), (Value.agg ⟨[(Value.int .i64 (0 : Int)), (Value.int .i64 (0 : Int))]⟩), (Value.int .i64 (9 : Int))]⟩) (Hp.mk [o0, o1, (Ob.cells c3 true)] 3 [])))
                      (cond (decide ((lvYl (Option.some (Addr.mk 0 off0 Option.none)) (Option.some (Addr.mk 1 off sp)) n n2 age shear (0 : Int) (IntKind.wrap .i64 ((getInt c3 (off3 + ((Int.toNat band) * 1))) - (1 : Int))) tick now 117 src [o0, o1, (Ob.cells c3 true)]) = (lvYl (Option.some (Addr.mk 0 off0 Option.none)) (Option.some (Addr.mk 1 off sp)) n n2 age shear (0 : Int) (IntKind.wrap .i64 ((getInt c3 (off3 + ((Int.toNat band) * 1))) - (1 : Int))) tick now 117 src [o0, o1, (Ob.cells c3 true)])))
                       (cond (decide ((lvYh (Option.some (Addr.mk 0 off0 Option.none)) (Option.some (Addr.mk 1 off sp)) n n2 age shear (0 : Int) (IntKind.wrap .i64 ((getInt c3 (off3 + ((Int.toNat band) * 1))) - (1 : Int))) tick now 117 src [o0, o1, (Ob.cells c3 true)]) = (lvYh (Option.some (Addr.mk 0 off0 Option.none)) (Option.some (Addr.mk 1 off sp)) n n2 age shear (0 : Int) (IntKind.wrap .i64 ((getInt c3 (off3 + ((Int.toNat band) * 1))) - (1 : Int))) tick now 117 src [o0, o1, (Ob.cells c3 true)])))
                        (cond (decide ((lvYl (Option.some (Addr.mk 0 off0 Option.none)) (Option.some (Addr.mk 1 off sp)) n n2 age shear (0 : Int) (IntKind.wrap .i64 ((getInt c3 (off3 + ((Int.toNat band) * 1))) - (1 : Int))) tick now 117 src [o0, o1, (Ob.cells c3 true)]) = (lvYl (Option.some (Addr.mk 0 off0 Option.none)) (Option.some (Addr.mk 1 off sp)) n n2 age shear (0 : Int) (IntKind.wrap .i64 ((getInt c3 (off3 + ((Int.toNat band) * 1))) - (1 : Int))) tick now 117 src [o0, o1, (Ob.cells c3 true)])))
                         (cond (decide ((lvYh (Option.some (Addr.mk 0 off0 Option.none)) (Option.some (Addr.mk 1 off sp)) n n2 age shear (0 : Int) (IntKind.wrap .i64 ((getInt c3 (off3 + ((Int.toNat band) * 1))) - (1 : Int))) tick now 117 src [o0, o1, (Ob.cells c3 true)]) = (lvYh (Option.some (Addr.mk 0 off0 Option.none)) (Option.some (Addr.mk 1 off sp)) n n2 age shear (0 : Int) (IntKind.wrap .i64 ((getInt c3 (off3 + ((Int.toNat band) * 1))) - (1 : Int))) tick now 117 src [o0, o1, (Ob.cells c3 true)])))
                          (some (Out.ret (Value.tuple ⟨[(Value.agg ⟨[(Value.int .i64 (lvXl (Option.some (Addr.mk 0 off0 Option.none)) (Option.some (Addr.mk 1 off sp)) n n2 age shear (0 : Int) (IntKind.wrap .i64 ((getInt c3 (off3 + ((Int.toNat band) * 1))) - (1 : Int))) tick now 117 src [o0, o1, (Ob.cells c3 true)])), (Value.int .i64 (lvXh (Option.some (Addr.mk 0 off0 Option.none)) (Option.some (Addr.mk 1 off sp)) n n2 age shear (0 : Int) (IntKind.wrap .i64 ((getInt c3 (off3 + ((Int.toNat band) * 1))) - (1 : Int))) tick now 117 src [o0, o1, (Ob.cells c3 true)]))]⟩), (Value.agg ⟨[(Value.int .i64 (lvYl (Option.some (Addr.mk 0 off0 Option.none)) (Option.some (Addr.mk 1 off sp)) n n2 age shear (0 : Int) (IntKind.wrap .i64 ((getInt c3 (off3 + ((Int.toNat band) * 1))) - (1 : Int))) tick now 117 src [o0, o1, (Ob.cells c3 true)])), (Value.int .i64 (lvYh (Option.some (Addr.mk 0 off0 Option.none)) (Option.some (Addr.mk 1 off sp)) n n2 age shear (0 : Int) (IntKind.wrap .i64 ((getInt c3 (off3 + ((Int.toNat band) * 1))) - (1 : Int))) tick now 117 src [o0, o1, (Ob.cells c3 true)]))]⟩), (Value.int .i64 (0 : Int))]⟩) (Hp.mk [o0, o1, (Ob.cells c3 true)] 3 [])))
                          (none))
                         (none))
                        (none))
                       (none)))))
                   (none))
                  (none))
                 (none)))))
             (some (Out.ret (Value.tuple ⟨[(Value.agg ⟨[(Value.int .i64 (0 : Int)), (Value.int .i64 (0 : Int))]⟩), (Value.agg ⟨[(Value.int .i64 (0 : Int)), (Value.int .i64 (0 : Int))]⟩), (Value.int .i64 (7 : Int))]⟩) (Hp.mk [o0, o1, (Ob.cells c3 true)] 3 [])))))
           (some (Out.ret (Value.tuple ⟨[(Value.agg ⟨[(Value.int .i64 (0 : Int)), (Value.int .i64 (0 : Int))]⟩), (Value.agg ⟨[(Value.int .i64 (0 : Int)), (Value.int .i64 (0 : Int))]⟩), (Value.int .i64 (7 : Int))]⟩) (Hp.mk [o0, o1, (Ob.cells c3 true)] 3 []))))
          (cond (not (decide ((ck3 (Option.some (Addr.mk 0 off0 Option.none)) (Option.some (Addr.mk 1 off sp)) (Option.some (Addr.mk 2 off3 Option.none)) n n2 n3 age shear [o0, o1, (Ob.cells c3 true)]) = (0 : Int))))
           (some (Out.ret (Value.tuple ⟨[(Value.agg ⟨[(Value.int .i64 (0 : Int)), (Value.int .i64 (0 : Int))]⟩), (Value.agg ⟨[(Value.int .i64 (0 : Int)), (Value.int .i64 (0 : Int))]⟩), (Value.int .i64 (ck3 (Option.some (Addr.mk 0 off0 Option.none)) (Option.some (Addr.mk 1 off sp)) (Option.some (Addr.mk 2 off3 Option.none)) n n2 n3 age shear [o0, o1, (Ob.cells c3 true)]))]⟩) (Hp.mk [o0, o1, (Ob.cells c3 true)] 3 [])))
           (cond (decide ((0 : Int) < band))
            (cond (and (decide ((0 : Int) ≤ (IntKind.wrap .i64 (band - (1 : Int))))) (decide ((IntKind.wrap .i64 (band - (1 : Int))) < (Int.ofNat n3))))
             (cond (and true (isInt .i64 c3 (off3 + ((Int.toNat (IntKind.wrap .i64 (band - (1 : Int)))) * 1))))
              (cond (and (decide ((0 : Int) ≤ band)) (decide (band < (Int.ofNat n3))))
               (cond (and true (isInt .i64 c3 (off3 + ((Int.toNat band) * 1))))
                (cond (okLv (Option.some (Addr.mk 0 off0 Option.none)) (Option.some (Addr.mk 1 off sp)) (Option.some (Addr.mk 2 off3 Option.none)) n z n2 z2 n3 1 age shear (getInt c3 (off3 + ((Int.toNat (IntKind.wrap .i64 (band - (1 : Int)))) * 1))) (IntKind.wrap .i64 ((getInt c3 (off3 + ((Int.toNat band) * 1))) - (1 : Int))) tick now o0 o1 (Ob.cells c3 true))
                 (cond (not (lvSm (Option.some (Addr.mk 0 off0 Option.none)) (Option.some (Addr.mk 1 off sp)) n n2 age shear (getInt c3 (off3 + ((Int.toNat (IntKind.wrap .i64 (band - (1 : Int)))) * 1))) (IntKind.wrap .i64 ((getInt c3 (off3 + ((Int.toNat band) * 1))) - (1 : Int))) tick now 117 src [o0, o1, (Ob.cells c3 true)]))
                  (some (Out.ret (Value.tuple ⟨[(Value.agg ⟨[(Value.int .i64 (0 : Int)), (Value.int .i64 (0 : Int))]⟩), (Value.agg ⟨[(Value.int .i64 (0 : Int)), (Value.int .i64 (0 : Int))]⟩), (Value.int .i64 (4 : Int))]⟩) (Hp.mk [o0, o1, (Ob.cells c3 true)] 3 [])))
                  (cond (decide ((lvXh (Option.some (Addr.mk 0 off0 Option.none)) (Option.some (Addr.mk 1 off sp)) n n2 age shear (getInt c3 (off3 + ((Int.toNat (IntKind.wrap .i64 (band - (1 : Int)))) * 1))) (IntKind.wrap .i64 ((getInt c3 (off3 + ((Int.toNat band) * 1))) - (1 : Int))) tick now 117 src [o0, o1, (Ob.cells c3 true)]) < (lvXl (Option.some (Addr.mk 0 off0 Option.none)) (Option.some (Addr.mk 1 off sp)) n n2 age shear (getInt c3 (off3 + ((Int.toNat (IntKind.wrap .i64 (band - (1 : Int)))) * 1))) (IntKind.wrap .i64 ((getInt c3 (off3 + ((Int.toNat band) * 1))) - (1 : Int))) tick now 117 src [o0, o1, (Ob.cells c3 true)])))
                   (some (Out.ret (Value.tuple ⟨[(Value.agg ⟨[(Value.int .i64 (0 : Int)), (Value.int .i64 (0 : Int))]⟩), (Value.agg ⟨[(Value.int .i64 (0 : Int)), (Value.int .i64 (0 : Int))]⟩), (Value.int .i64 (9 : Int))]⟩) (Hp.mk [o0, o1, (Ob.cells c3 true)] 3 [])))
                   (cond (decide ((lvYh (Option.some (Addr.mk 0 off0 Option.none)) (Option.some (Addr.mk 1 off sp)) n n2 age shear (getInt c3 (off3 + ((Int.toNat (IntKind.wrap .i64 (band - (1 : Int)))) * 1))) (IntKind.wrap .i64 ((getInt c3 (off3 + ((Int.toNat band) * 1))) - (1 : Int))) tick now 117 src [o0, o1, (Ob.cells c3 true)]) < (lvYl (Option.some (Addr.mk 0 off0 Option.none)) (Option.some (Addr.mk 1 off sp)) n n2 age shear (getInt c3 (off3 + ((Int.toNat (IntKind.wrap .i64 (band - (1 : Int)))) * 1))) (IntKind.wrap .i64 ((getInt c3 (off3 + ((Int.toNat band) * 1))) - (1 : Int))) tick now 117 src [o0, o1, (Ob.cells c3 true)])))
                    (some (Out.ret (Value.tuple ⟨[(Value.agg ⟨[(Value.int .i64 (0 : Int)), (Value.int .i64 (0 : Int))]⟩), (Value.agg ⟨[(Value.int .i64 (0 : Int)), (Value.int .i64 (0 : Int))]⟩), (Value.int .i64 (9 : Int))]⟩) (Hp.mk [o0, o1, (Ob.cells c3 true)] 3 [])))
                    (cond (decide ((lvYl (Option.some (Addr.mk 0 off0 Option.none)) (Option.some (Addr.mk 1 off sp)) n n2 age shear (getInt c3 (off3 + ((Int.toNat (IntKind.wrap .i64 (band - (1 : Int)))) * 1))) (IntKind.wrap .i64 ((getInt c3 (off3 + ((Int.toNat band) * 1))) - (1 : Int))) tick now 117 src [o0, o1, (Ob.cells c3 true)]) = (lvYl (Option.some (Addr.mk 0 off0 Option.none)) (Option.some (Addr.mk 1 off sp)) n n2 age shear (getInt c3 (off3 + ((Int.toNat (IntKind.wrap .i64 (band - (1 : Int)))) * 1))) (IntKind.wrap .i64 ((getInt c3 (off3 + ((Int.toNat band) * 1))) - (1 : Int))) tick now 117 src [o0, o1, (Ob.cells c3 true)])))
                     (cond (decide ((lvYh (Option.some (Addr.mk 0 off0 Option.none)) (Option.some (Addr.mk 1 off sp)) n n2 age shear (getInt c3 (off3 + ((Int.toNat (IntKind.wrap .i64 (band - (1 : Int)))) * 1))) (IntKind.wrap .i64 ((getInt c3 (off3 + ((Int.toNat band) * 1))) - (1 : Int))) tick now 117 src [o0, o1, (Ob.cells c3 true)]) = (lvYh (Option.some (Addr.mk 0 off0 Option.none)) (Option.some (Addr.mk 1 off sp)) n n2 age shear (getInt c3 (off3 + ((Int.toNat (IntKind.wrap .i64 (band - (1 : Int)))) * 1))) (IntKind.wrap .i64 ((getInt c3 (off3 + ((Int.toNat band) * 1))) - (1 : Int))) tick now 117 src [o0, o1, (Ob.cells c3 true)])))
                      (cond (decide ((lvYl (Option.some (Addr.mk 0 off0 Option.none)) (Option.some (Addr.mk 1 off sp)) n n2 age shear (getInt c3 (off3 + ((Int.toNat (IntKind.wrap .i64 (band - (1 : Int)))) * 1))) (IntKind.wrap .i64 ((getInt c3 (off3 + ((Int.toNat band) * 1))) - (1 : Int))) tick now 117 src [o0, o1, (Ob.cells c3 true)]) = (lvYl (Option.some (Addr.mk 0 off0 Option.none)) (Option.some (Addr.mk 1 off sp)) n n2 age shear (getInt c3 (off3 + ((Int.toNat (IntKind.wrap .i64 (band - (1 : Int)))) * 1))) (IntKind.wrap .i64 ((getInt c3 (off3 + ((Int.toNat band) * 1))) - (1 : Int))) tick now 117 src [o0, o1, (Ob.cells c3 true)])))
                       (cond (decide ((lvYh (Option.some (Addr.mk 0 off0 Option.none)) (Option.some (Addr.mk 1 off sp)) n n2 age shear (getInt c3 (off3 + ((Int.toNat (IntKind.wrap .i64 (band - (1 : Int)))) * 1))) (IntKind.wrap .i64 ((getInt c3 (off3 + ((Int.toNat band) * 1))) - (1 : Int))) tick now 117 src [o0, o1, (Ob.cells c3 true)]) = (lvYh (Option.some (Addr.mk 0 off0 Option.none)) (Option.some (Addr.mk 1 off sp)) n n2 age shear (getInt c3 (off3 + ((Int.toNat (IntKind.wrap .i64 (band - (1 : Int)))) * 1))) (IntKind.wrap .i64 ((getInt c3 (off3 + ((Int.toNat band) * 1))) - (1 : Int))) tick now 117 src [o0, o1, (Ob.cells c3 true)])))
                        (some (Out.ret (Value.tuple ⟨[(Value.agg ⟨[(Value.int .i64 (lvXl (Option.some (Addr.mk 0 off0 Option.none)) (Option.some (Addr.mk 1 off sp)) n n2 age shear (getInt c3 (off3 + ((Int.toNat (IntKind.wrap .i64 (band - (1 : Int)))) * 1))) (IntKind.wrap .i64 ((getInt c3 (off3 + ((Int.toNat band) * 1))) - (1 : Int))) tick now 117 src [o0, o1, (Ob.cells c3 true)])), (Value.int .i64 (lvXh (Option.some (Addr.mk 0 off0 Option.none)) (Option.some (Addr.mk 1 off sp)) n n2 age shear (getInt c3 (off3 + ((Int.toNat (IntKind.wrap .i64 (band - (1 : Int)))) * 1))) (IntKind.wrap .i64 ((getInt c3 (off3 + ((Int.toNat band) * 1))) - (1 : Int))) tick now 117 src [o0, o1, (Ob.cells c3 true)]))]⟩), (Value.agg ⟨[(Value.int .i64 (lvYl (Option.some (Addr.mk 0 off0 Option.none)) (Option.some (Addr.mk 1 off sp)) n n2 age shear (getInt c3 (off3 + ((Int.toNat (IntKind.wrap .i64 (band - (1 : Int)))) * 1))) (IntKind.wrap .i64 ((getInt c3 (off3 + ((Int.toNat band) * 1))) - (1 : Int))) tick now 117 src [o0, o1, (Ob.cells c3 true)])), (Value.int .i64 (lvYh (Option.some (Addr.mk 0 off0 Option.none)) (Option.some (Addr.mk 1 off sp)) n n2 age shear (getInt c3 (off3 + ((Int.toNat (IntKind.wrap .i64 (band - (1 : Int)))) * 1))) (IntKind.wrap .i64 ((getInt c3 (off3 + ((Int.toNat band) * 1))) - (1 : Int))) tick now 117 src [o0, o1, (Ob.cells c3 true)]))]⟩), (Value.int .i64 (0 : Int))]⟩) (Hp.mk [o0, o1, (Ob.cells c3 true)] 3 [])))
                        (none))
                       (none))
                      (none))
                     (none)))))
                 (none))
                (none))
               (none))
              (none))
             (none))
            (cond (and (decide ((0 : Int) ≤ band)) (decide (band < (Int.ofNat n3))))
             (cond (and true (isInt .i64 c3 (off3 + ((Int.toNat band) * 1))))
              (cond (okLv (Option.some (Addr.mk 0 off0 Option.none)) (Option.some (Addr.mk 1 off sp)) (Option.some (Addr.mk 2 off3 Option.none)) n z n2 z2 n3 1 age shear (0 : Int) (IntKind.wrap .i64 ((getInt c3 (off3 + ((Int.toNat band) * 1))) - (1 : Int))) tick now o0 o1 (Ob.cells c3 true))
               (cond (not (lvSm (Option.some (Addr.mk 0 off0 Option.none)) (Option.some (Addr.mk 1 off sp)) n n2 age shear (0 : Int) (IntKind.wrap .i64 ((getInt c3 (off3 + ((Int.toNat band) * 1))) - (1 : Int))) tick now 117 src [o0, o1, (Ob.cells c3 true)]))
                (some (Out.ret (Value.tuple ⟨[(Value.agg ⟨[(Value.int .i64 (0 : Int)), (Value.int .i64 (0 : Int))]⟩), (Value.agg ⟨[(Value.int .i64 (0 : Int)), (Value.int .i64 (0 : Int))]⟩), (Value.int .i64 (4 : Int))]⟩) (Hp.mk [o0, o1, (Ob.cells c3 true)] 3 [])))
                (cond (decide ((lvXh (Option.some (Addr.mk 0 off0 Option.none)) (Option.some (Addr.mk 1 off sp)) n n2 age shear (0 : Int) (IntKind.wrap .i64 ((getInt c3 (off3 + ((Int.toNat band) * 1))) - (1 : Int))) tick now 117 src [o0, o1, (Ob.cells c3 true)]) < (lvXl (Option.some (Addr.mk 0 off0 Option.none)) (Option.some (Addr.mk 1 off sp)) n n2 age shear (0 : Int) (IntKind.wrap .i64 ((getInt c3 (off3 + ((Int.toNat band) * 1))) - (1 : Int))) tick now 117 src [o0, o1, (Ob.cells c3 true)])))
                 (some (Out.ret (Value.tuple ⟨[(Value.agg ⟨[(Value.int .i64 (0 : Int)), (Value.int .i64 (0 : Int))]⟩), (Value.agg ⟨[(Value.int .i64 (0 : Int)), (Value.int .i64 (0 : Int))]⟩), (Value.int .i64 (9 : Int))]⟩) (Hp.mk [o0, o1, (Ob.cells c3 true)] 3 [])))
                 (cond (decide ((lvYh (Option.some (Addr.mk 0 off0 Option.none)) (Option.some (Addr.mk 1 off sp)) n n2 age shear (0 : Int) (IntKind.wrap .i64 ((getInt c3 (off3 + ((Int.toNat band) * 1))) - (1 : Int))) tick now 117 src [o0, o1, (Ob.cells c3 true)]) < (lvYl (Option.some (Addr.mk 0 off0 Option.none)) (Option.some (Addr.mk 1 off sp)) n n2 age shear (0 : Int) (IntKind.wrap .i64 ((getInt c3 (off3 + ((Int.toNat band) * 1))) - (1 : Int))) tick now 117 src [o0, o1, (Ob.cells c3 true)])))
                  (some (Out.ret (Value.tuple ⟨[(Value.agg ⟨[(Value.int .i64 (0 : Int)), (Value.int .i64 (0 : Int))]⟩), (Value.agg ⟨[(Value.int .i64 (0 : Int)), (Value.int .i64 (0 : Int))]⟩), (Value.int .i64 (9 : Int))]⟩) (Hp.mk [o0, o1, (Ob.cells c3 true)] 3 [])))
                  (cond (decide ((lvYl (Option.some (Addr.mk 0 off0 Option.none)) (Option.some (Addr.mk 1 off sp)) n n2 age shear (0 : Int) (IntKind.wrap .i64 ((getInt c3 (off3 + ((Int.toNat band) * 1))) - (1 : Int))) tick now 117 src [o0, o1, (Ob.cells c3 true)]) = (lvYl (Option.some (Addr.mk 0 off0 Option.none)) (Option.some (Addr.mk 1 off sp)) n n2 age shear (0 : Int) (IntKind.wrap .i64 ((getInt c3 (off3 + ((Int.toNat band) * 1))) - (1 : Int))) tick now 117 src [o0, o1, (Ob.cells c3 true)])))
                   (cond (decide ((lvYh (Option.some (Addr.mk 0 off0 Option.none)) (Option.some (Addr.mk 1 off sp)) n n2 age shear (0 : Int) (IntKind.wrap .i64 ((getInt c3 (off3 + ((Int.toNat band) * 1))) - (1 : Int))) tick now 117 src [o0, o1, (Ob.cells c3 true)]) = (lvYh (Option.some (Addr.mk 0 off0 Option.none)) (Option.some (Addr.mk 1 off sp)) n n2 age shear (0 : Int) (IntKind.wrap .i64 ((getInt c3 (off3 + ((Int.toNat band) * 1))) - (1 : Int))) tick now 117 src [o0, o1, (Ob.cells c3 true)])))
                    (cond (decide ((lvYl (Option.some (Addr.mk 0 off0 Option.none)) (Option.some (Addr.mk 1 off sp)) n n2 age shear (0 : Int) (IntKind.wrap .i64 ((getInt c3 (off3 + ((Int.toNat band) * 1))) - (1 : Int))) tick now 117 src [o0, o1, (Ob.cells c3 true)]) = (lvYl (Option.some (Addr.mk 0 off0 Option.none)) (Option.some (Addr.mk 1 off sp)) n n2 age shear (0 : Int) (IntKind.wrap .i64 ((getInt c3 (off3 + ((Int.toNat band) * 1))) - (1 : Int))) tick now 117 src [o0, o1, (Ob.cells c3 true)])))
                     (cond (decide ((lvYh (Option.some (Addr.mk 0 off0 Option.none)) (Option.some (Addr.mk 1 off sp)) n n2 age shear (0 : Int) (IntKind.wrap .i64 ((getInt c3 (off3 + ((Int.toNat band) * 1))) - (1 : Int))) tick now 117 src [o0, o1, (Ob.cells c3 true)]) = (lvYh (Option.some (Addr.mk 0 off0 Option.none)) (Option.some (Addr.mk 1 off sp)) n n2 age shear (0 : Int) (IntKind.wrap .i64 ((getInt c3 (off3 + ((Int.toNat band) * 1))) - (1 : Int))) tick now 117 src [o0, o1, (Ob.cells c3 true)])))
                      (some (Out.ret (Value.tuple ⟨[(Value.agg ⟨[(Value.int .i64 (lvXl (Option.some (Addr.mk 0 off0 Option.none)) (Option.some (Addr.mk 1 off sp)) n n2 age shear (0 : Int) (IntKind.wrap .i64 ((getInt c3 (off3 + ((Int.toNat band) * 1))) - (1 : Int))) tick now 117 src [o0, o1, (Ob.cells c3 true)])), (Value.int .i64 (lvXh (Option.some (Addr.mk 0 off0 Option.none)) (Option.some (Addr.mk 1 off sp)) n n2 age shear (0 : Int) (IntKind.wrap .i64 ((getInt c3 (off3 + ((Int.toNat band) * 1))) - (1 : Int))) tick now 117 src [o0, o1, (Ob.cells c3 true)]))]⟩), (Value.agg ⟨[(Value.int .i64 (lvYl (Option.some (Addr.mk 0 off0 Option.none)) (Option.some (Addr.mk 1 off sp)) n n2 age shear (0 : Int) (IntKind.wrap .i64 ((getInt c3 (off3 + ((Int.toNat band) * 1))) - (1 : Int))) tick now 117 src [o0, o1, (Ob.cells c3 true)])), (Value.int .i64 (lvYh (Option.some (Addr.mk 0 off0 Option.none)) (Option.some (Addr.mk 1 off sp)) n n2 age shear (0 : Int) (IntKind.wrap .i64 ((getInt c3 (off3 + ((Int.toNat band) * 1))) - (1 : Int))) tick now 117 src [o0, o1, (Ob.cells c3 true)]))]⟩), (Value.int .i64 (0 : Int))]⟩) (Hp.mk [o0, o1, (Ob.cells c3 true)] 3 [])))
                      (none))
                     (none))
                    (none))
                   (none)))))
               (none))
              (none))
             (none))))))
        (some (Out.ret (Value.tuple ⟨[(Value.agg ⟨[(Value.int .i64 (0 : Int)), (Value.int .i64 (0 : Int))]⟩), (Value.agg ⟨[(Value.int .i64 (0 : Int)), (Value.int .i64 (0 : Int))]⟩), (Value.int .i64 (4 : Int))]⟩) (Hp.mk [o0, o1, (Ob.cells c3 true)] 3 [])))))
      (some (Out.ret (Value.tuple ⟨[(Value.agg ⟨[(Value.int .i64 (0 : Int)), (Value.int .i64 (0 : Int))]⟩), (Value.agg ⟨[(Value.int .i64 (0 : Int)), (Value.int .i64 (0 : Int))]⟩), (Value.int .i64 (4 : Int))]⟩) (Hp.mk [o0, o1, (Ob.cells c3 true)] 3 []))))
     (cond (decide ((ck3 (Option.some (Addr.mk 0 off0 Option.none)) (Option.some (Addr.mk 1 off sp)) (Option.some (Addr.mk 2 off3 Option.none)) n n2 n3 age shear [o0, o1, (Ob.cells c3 true)]) = (0 : Int)))
      (cond (decide ((0 : Int) ≤ tick))
       (cond (not (decide (tick ≤ (100000 : Int))))
        (some (Out.ret (Value.tuple ⟨[(Value.agg ⟨[(Value.int .i64 (0 : Int)), (Value.int .i64 (0 : Int))]⟩), (Value.agg ⟨[(Value.int .i64 (0 : Int)), (Value.int .i64 (0 : Int))]⟩), (Value.int .i64 (7 : Int))]⟩) (Hp.mk [o0, o1, (Ob.cells c3 true)] 3 [])))
        (cond (decide ((0 : Int) ≤ now))
         (cond (not (decide (now ≤ (100000 : Int))))
          (some (Out.ret (Value.tuple ⟨[(Value.agg ⟨[(Value.int .i64 (0 : Int)), (Value.int .i64 (0 : Int))]⟩), (Value.agg ⟨[(Value.int .i64 (0 : Int)), (Value.int .i64 (0 : Int))]⟩), (Value.int .i64 (7 : Int))]⟩) (Hp.mk [o0, o1, (Ob.cells c3 true)] 3 [])))
          (cond (not (decide ((ck3 (Option.some (Addr.mk 0 off0 Option.none)) (Option.some (Addr.mk 1 off sp)) (Option.some (Addr.mk 2 off3 Option.none)) n n2 n3 age shear [o0, o1, (Ob.cells c3 true)]) = (0 : Int))))
           (some (Out.ret (Value.tuple ⟨[(Value.agg ⟨[(Value.int .i64 (0 : Int)), (Value.int .i64 (0 : Int))]⟩), (Value.agg ⟨[(Value.int .i64 (0 : Int)), (Value.int .i64 (0 : Int))]⟩), (Value.int .i64 (ck3 (Option.some (Addr.mk 0 off0 Option.none)) (Option.some (Addr.mk 1 off sp)) (Option.some (Addr.mk 2 off3 Option.none)) n n2 n3 age shear [o0, o1, (Ob.cells c3 true)]))]⟩) (Hp.mk [o0, o1, (Ob.cells c3 true)] 3 [])))
           (cond (decide ((0 : Int) < band))
            (cond (and (decide ((0 : Int) ≤ (IntKind.wrap .i64 (band - (1 : Int))))) (decide ((IntKind.wrap .i64 (band - (1 : Int))) < (Int.ofNat n3))))
             (cond (and true (isInt .i64 c3 (off3 + ((Int.toNat (IntKind.wrap .i64 (band - (1 : Int)))) * 1))))
              (cond (and (decide ((0 : Int) ≤ band)) (decide (band < (Int.ofNat n3))))
               (cond (and true (isInt .i64 c3 (off3 + ((Int.toNat band) * 1))))
                (cond (okLv (Option.some (Addr.mk 0 off0 Option.none)) (Option.some (Addr.mk 1 off sp)) (Option.some (Addr.mk 2 off3 Option.none)) n z n2 z2 n3 1 age shear (getInt c3 (off3 + ((Int.toNat (IntKind.wrap .i64 (band - (1 : Int)))) * 1))) (IntKind.wrap .i64 ((getInt c3 (off3 + ((Int.toNat band) * 1))) - (1 : Int))) tick now o0 o1 (Ob.cells c3 true))
                 (cond (not (lvSm (Option.some (Addr.mk 0 off0 Option.none)) (Option.some (Addr.mk 1 off sp)) n n2 age shear (getInt c3 (off3 + ((Int.toNat (IntKind.wrap .i64 (band - (1 : Int)))) * 1))) (IntKind.wrap .i64 ((getInt c3 (off3 + ((Int.toNat band) * 1))) - (1 : Int))) tick now 117 src [o0, o1, (Ob.cells c3 true)]))
                  (some (Out.ret (Value.tuple ⟨[(Value.agg ⟨[(Value.int .i64 (0 : Int)), (Value.int .i64 (0 : Int))]⟩), (Value.agg ⟨[(Value.int .i64 (0 : Int)), (Value.int .i64 (0 : Int))]⟩), (Value.int .i64 (4 : Int))]⟩) (Hp.mk [o0, o1, (Ob.cells c3 true)] 3 [])))
                  (cond (decide ((lvXh (Option.some (Addr.mk 0 off0 Option.none)) (Option.some (Addr.mk 1 off sp)) n n2 age shear (getInt c3 (off3 + ((Int.toNat (IntKind.wrap .i64 (band - (1 : Int)))) * 1))) (IntKind.wrap .i64 ((getInt c3 (off3 + ((Int.toNat band) * 1))) - (1 : Int))) tick now 117 src [o0, o1, (Ob.cells c3 true)]) < (lvXl (Option.some (Addr.mk 0 off0 Option.none)) (Option.some (Addr.mk 1 off sp)) n n2 age shear (getInt c3 (off3 + ((Int.toNat (IntKind.wrap .i64 (band - (1 : Int)))) * 1))) (IntKind.wrap .i64 ((getInt c3 (off3 + ((Int.toNat band) * 1))) - (1 : Int))) tick now 117 src [o0, o1, (Ob.cells c3 true)])))
                   (some (Out.ret (Value.tuple ⟨[(Value.agg ⟨[(Value.int .i64 (0 : Int)), (Value.int .i64 (0 : Int))]⟩), (Value.agg ⟨[(Value.int .i64 (0 : Int)), (Value.int .i64 (0 : Int))]⟩), (Value.int .i64 (9 : Int))]⟩) (Hp.mk [o0, o1, (Ob.cells c3 true)] 3 [])))
                   (cond (decide ((lvYh (Option.some (Addr.mk 0 off0 Option.none)) (Option.some (Addr.mk 1 off sp)) n n2 age shear (getInt c3 (off3 + ((Int.toNat (IntKind.wrap .i64 (band - (1 : Int)))) * 1))) (IntKind.wrap .i64 ((getInt c3 (off3 + ((Int.toNat band) * 1))) - (1 : Int))) tick now 117 src [o0, o1, (Ob.cells c3 true)]) < (lvYl (Option.some (Addr.mk 0 off0 Option.none)) (Option.some (Addr.mk 1 off sp)) n n2 age shear (getInt c3 (off3 + ((Int.toNat (IntKind.wrap .i64 (band - (1 : Int)))) * 1))) (IntKind.wrap .i64 ((getInt c3 (off3 + ((Int.toNat band) * 1))) - (1 : Int))) tick now 117 src [o0, o1, (Ob.cells c3 true)])))
                    (some (Out.ret (Value.tuple ⟨[(Value.agg ⟨[(Value.int .i64 (0 : Int)), (Value.int .i64 (0 : Int))]⟩), (Value.agg ⟨[(Value.int .i64 (0 : Int)), (Value.int .i64 (0 : Int))]⟩), (Value.int .i64 (9 : Int))]⟩) (Hp.mk [o0, o1, (Ob.cells c3 true)] 3 [])))
                    (cond (decide ((lvYl (Option.some (Addr.mk 0 off0 Option.none)) (Option.some (Addr.mk 1 off sp)) n n2 age shear (getInt c3 (off3 + ((Int.toNat (IntKind.wrap .i64 (band - (1 : Int)))) * 1))) (IntKind.wrap .i64 ((getInt c3 (off3 + ((Int.toNat band) * 1))) - (1 : Int))) tick now 117 src [o0, o1, (Ob.cells c3 true)]) = (lvYl (Option.some (Addr.mk 0 off0 Option.none)) (Option.some (Addr.mk 1 off sp)) n n2 age shear (getInt c3 (off3 + ((Int.toNat (IntKind.wrap .i64 (band - (1 : Int)))) * 1))) (IntKind.wrap .i64 ((getInt c3 (off3 + ((Int.toNat band) * 1))) - (1 : Int))) tick now 117 src [o0, o1, (Ob.cells c3 true)])))
                     (cond (decide ((lvYh (Option.some (Addr.mk 0 off0 Option.none)) (Option.some (Addr.mk 1 off sp)) n n2 age shear (getInt c3 (off3 + ((Int.toNat (IntKind.wrap .i64 (band - (1 : Int)))) * 1))) (IntKind.wrap .i64 ((getInt c3 (off3 + ((Int.toNat band) * 1))) - (1 : Int))) tick now 117 src [o0, o1, (Ob.cells c3 true)]) = (lvYh (Option.some (Addr.mk 0 off0 Option.none)) (Option.some (Addr.mk 1 off sp)) n n2 age shear (getInt c3 (off3 + ((Int.toNat (IntKind.wrap .i64 (band - (1 : Int)))) * 1))) (IntKind.wrap .i64 ((getInt c3 (off3 + ((Int.toNat band) * 1))) - (1 : Int))) tick now 117 src [o0, o1, (Ob.cells c3 true)])))
                      (cond (decide ((lvYl (Option.some (Addr.mk 0 off0 Option.none)) (Option.some (Addr.mk 1 off sp)) n n2 age shear (getInt c3 (off3 + ((Int.toNat (IntKind.wrap .i64 (band - (1 : Int)))) * 1))) (IntKind.wrap .i64 ((getInt c3 (off3 + ((Int.toNat band) * 1))) - (1 : Int))) tick now 117 src [o0, o1, (Ob.cells c3 true)]) = (lvYl (Option.some (Addr.mk 0 off0 Option.none)) (Option.some (Addr.mk 1 off sp)) n n2 age shear (getInt c3 (off3 + ((Int.toNat (IntKind.wrap .i64 (band - (1 : Int)))) * 1))) (IntKind.wrap .i64 ((getInt c3 (off3 + ((Int.toNat band) * 1))) - (1 : Int))) tick now 117 src [o0, o1, (Ob.cells c3 true)])))
                       (cond (decide ((lvYh (Option.some (Addr.mk 0 off0 Option.none)) (Option.some (Addr.mk 1 off sp)) n n2 age shear (getInt c3 (off3 + ((Int.toNat (IntKind.wrap .i64 (band - (1 : Int)))) * 1))) (IntKind.wrap .i64 ((getInt c3 (off3 + ((Int.toNat band) * 1))) - (1 : Int))) tick now 117 src [o0, o1, (Ob.cells c3 true)]) = (lvYh (Option.some (Addr.mk 0 off0 Option.none)) (Option.some (Addr.mk 1 off sp)) n n2 age shear (getInt c3 (off3 + ((Int.toNat (IntKind.wrap .i64 (band - (1 : Int)))) * 1))) (IntKind.wrap .i64 ((getInt c3 (off3 + ((Int.toNat band) * 1))) - (1 : Int))) tick now 117 src [o0, o1, (Ob.cells c3 true)])))
                        (some (Out.ret (Value.tuple ⟨[(Value.agg ⟨[(Value.int .i64 (lvXl (Option.some (Addr.mk 0 off0 Option.none)) (Option.some (Addr.mk 1 off sp)) n n2 age shear (getInt c3 (off3 + ((Int.toNat (IntKind.wrap .i64 (band - (1 : Int)))) * 1))) (IntKind.wrap .i64 ((getInt c3 (off3 + ((Int.toNat band) * 1))) - (1 : Int))) tick now 117 src [o0, o1, (Ob.cells c3 true)])), (Value.int .i64 (lvXh (Option.some (Addr.mk 0 off0 Option.none)) (Option.some (Addr.mk 1 off sp)) n n2 age shear (getInt c3 (off3 + ((Int.toNat (IntKind.wrap .i64 (band - (1 : Int)))) * 1))) (IntKind.wrap .i64 ((getInt c3 (off3 + ((Int.toNat band) * 1))) - (1 : Int))) tick now 117 src [o0, o1, (Ob.cells c3 true)]))]⟩), (Value.agg ⟨[(Value.int .i64 (lvYl (Option.some (Addr.mk 0 off0 Option.none)) (Option.some (Addr.mk 1 off sp)) n n2 age shear (getInt c3 (off3 + ((Int.toNat (IntKind.wrap .i64 (band - (1 : Int)))) * 1))) (IntKind.wrap .i64 ((getInt c3 (off3 + ((Int.toNat band) * 1))) - (1 : Int))) tick now 117 src [o0, o1, (Ob.cells c3 true)])), (Value.int .i64 (lvYh (Option.some (Addr.mk 0 off0 Option.none)) (Option.some (Addr.mk 1 off sp)) n n2 age shear (getInt c3 (off3 + ((Int.toNat (IntKind.wrap .i64 (band - (1 : Int)))) * 1))) (IntKind.wrap .i64 ((getInt c3 (off3 + ((Int.toNat band) * 1))) - (1 : Int))) tick now 117 src [o0, o1, (Ob.cells c3 true)]))]⟩), (Value.int .i64 (0 : Int))]⟩) (Hp.mk [o0, o1, (Ob.cells c3 true)] 3 [])))
                        (none))
                       (none))
                      (none))
                     (none)))))
                 (none))
                (none))
               (none))
              (none))
             (none))
            (cond (and (decide ((0 : Int) ≤ band)) (decide (band < (Int.ofNat n3))))
             (cond (and true (isInt .i64 c3 (off3 + ((Int.toNat band) * 1))))
              (cond (okLv (Option.some (Addr.mk 0 off0 Option.none)) (Option.some (Addr.mk 1 off sp)) (Option.some (Addr.mk 2 off3 Option.none)) n z n2 z2 n3 1 age shear (0 : Int) (IntKind.wrap .i64 ((getInt c3 (off3 + ((Int.toNat band) * 1))) - (1 : Int))) tick now o0 o1 (Ob.cells c3 true))
               (cond (not (lvSm (Option.some (Addr.mk 0 off0 Option.none)) (Option.some (Addr.mk 1 off sp)) n n2 age shear (0 : Int) (IntKind.wrap .i64 ((getInt c3 (off3 + ((Int.toNat band) * 1))) - (1 : Int))) tick now 117 src [o0, o1, (Ob.cells c3 true)]))
                (some (Out.ret (Value.tuple ⟨[(Value.agg ⟨[(Value.int .i64 (0 : Int)), (Value.int .i64 (0 : Int))]⟩), (Value.agg ⟨[(Value.int .i64 (0 : Int)), (Value.int .i64 (0 : Int))]⟩), (Value.int .i64 (4 : Int))]⟩) (Hp.mk [o0, o1, (Ob.cells c3 true)] 3 [])))
                (cond (decide ((lvXh (Option.some (Addr.mk 0 off0 Option.none)) (Option.some (Addr.mk 1 off sp)) n n2 age shear (0 : Int) (IntKind.wrap .i64 ((getInt c3 (off3 + ((Int.toNat band) * 1))) - (1 : Int))) tick now 117 src [o0, o1, (Ob.cells c3 true)]) < (lvXl (Option.some (Addr.mk 0 off0 Option.none)) (Option.some (Addr.mk 1 off sp)) n n2 age shear (0 : Int) (IntKind.wrap .i64 ((getInt c3 (off3 + ((Int.toNat band) * 1))) - (1 : Int))) tick now 117 src [o0, o1, (Ob.cells c3 true)])))
                 (some (Out.ret (Value.tuple ⟨[(Value.agg ⟨[(Value.int .i64 (0 : Int)), (Value.int .i64 (0 : Int))]⟩), (Value.agg ⟨[(Value.int .i64 (0 : Int)), (Value.int .i64 (0 : Int))]⟩), (Value.int .i64 (9 : Int))]⟩) (Hp.mk [o0, o1, (Ob.cells c3 true)] 3 [])))
                 (cond (decide ((lvYh (Option.some (Addr.mk 0 off0 Option.none)) (Option.some (Addr.mk 1 off sp)) n n2 age shear (0 : Int) (IntKind.wrap .i64 ((getInt c3 (off3 + ((Int.toNat band) * 1))) - (1 : Int))) tick now 117 src [o0, o1, (Ob.cells c3 true)]) < (lvYl (Option.some (Addr.mk 0 off0 Option.none)) (Option.some (Addr.mk 1 off sp)) n n2 age shear (0 : Int) (IntKind.wrap .i64 ((getInt c3 (off3 + ((Int.toNat band) * 1))) - (1 : Int))) tick now 117 src [o0, o1, (Ob.cells c3 true)])))
                  (some (Out.ret (Value.tuple ⟨[(Value.agg ⟨[(Value.int .i64 (0 : Int)), (Value.int .i64 (0 : Int))]⟩), (Value.agg ⟨[(Value.int .i64 (0 : Int)), (Value.int .i64 (0 : Int))]⟩), (Value.int .i64 (9 : Int))]⟩) (Hp.mk [o0, o1, (Ob.cells c3 true)] 3 [])))
                  (cond (decide ((lvYl (Option.some (Addr.mk 0 off0 Option.none)) (Option.some (Addr.mk 1 off sp)) n n2 age shear (0 : Int) (IntKind.wrap .i64 ((getInt c3 (off3 + ((Int.toNat band) * 1))) - (1 : Int))) tick now 117 src [o0, o1, (Ob.cells c3 true)]) = (lvYl (Option.some (Addr.mk 0 off0 Option.none)) (Option.some (Addr.mk 1 off sp)) n n2 age shear (0 : Int) (IntKind.wrap .i64 ((getInt c3 (off3 + ((Int.toNat band) * 1))) - (1 : Int))) tick now 117 src [o0, o1, (Ob.cells c3 true)])))
                   (cond (decide ((lvYh (Option.some (Addr.mk 0 off0 Option.none)) (Option.some (Addr.mk 1 off sp)) n n2 age shear (0 : Int) (IntKind.wrap .i64 ((getInt c3 (off3 + ((Int.toNat band) * 1))) - (1 : Int))) tick now 117 src [o0, o1, (Ob.cells c3 true)]) = (lvYh (Option.some (Addr.mk 0 off0 Option.none)) (Option.some (Addr.mk 1 off sp)) n n2 age shear (0 : Int) (IntKind.wrap .i64 ((getInt c3 (off3 + ((Int.toNat band) * 1))) - (1 : Int))) tick now 117 src [o0, o1, (Ob.cells c3 true)])))
                    (cond (decide ((lvYl (Option.some (Addr.mk 0 off0 Option.none)) (Option.some (Addr.mk 1 off sp)) n n2 age shear (0 : Int) (IntKind.wrap .i64 ((getInt c3 (off3 + ((Int.toNat band) * 1))) - (1 : Int))) tick now 117 src [o0, o1, (Ob.cells c3 true)]) = (lvYl (Option.some (Addr.mk 0 off0 Option.none)) (Option.some (Addr.mk 1 off sp)) n n2 age shear (0 : Int) (IntKind.wrap .i64 ((getInt c3 (off3 + ((Int.toNat band) * 1))) - (1 : Int))) tick now 117 src [o0, o1, (Ob.cells c3 true)])))
                     (cond (decide ((lvYh (Option.some (Addr.mk 0 off0 Option.none)) (Option.some (Addr.mk 1 off sp)) n n2 age shear (0 : Int) (IntKind.wrap .i64 ((getInt c3 (off3 + ((Int.toNat band) * 1))) - (1 : Int))) tick now 117 src [o0, o1, (Ob.cells c3 true)]) = (lvYh (Option.some (Addr.mk 0 off0 Option.none)) (Option.some (Addr.mk 1 off sp)) n n2 age shear (0 : Int) (IntKind.wrap .i64 ((getInt c3 (off3 + ((Int.toNat band) * 1))) - (1 : Int))) tick now 117 src [o0, o1, (Ob.cells c3 true)])))
                      (some (Out.ret (Value.tuple ⟨[(Value.agg ⟨[(Value.int .i64 (lvXl (Option.some (Addr.mk 0 off0 Option.none)) (Option.some (Addr.mk 1 off sp)) n n2 age shear (0 : Int) (IntKind.wrap .i64 ((getInt c3 (off3 + ((Int.toNat band) * 1))) - (1 : Int))) tick now 117 src [o0, o1, (Ob.cells c3 true)])), (Value.int .i64 (lvXh (Option.some (Addr.mk 0 off0 Option.none)) (Option.some (Addr.mk 1 off sp)) n n2 age shear (0 : Int) (IntKind.wrap .i64 ((getInt c3 (off3 + ((Int.toNat band) * 1))) - (1 : Int))) tick now 117 src [o0, o1, (Ob.cells c3 true)]))]⟩), (Value.agg ⟨[(Value.int .i64 (lvYl (Option.some (Addr.mk 0 off0 Option.none)) (Option.some (Addr.mk 1 off sp)) n n2 age shear (0 : Int) (IntKind.wrap .i64 ((getInt c3 (off3 + ((Int.toNat band) * 1))) - (1 : Int))) tick now 117 src [o0, o1, (Ob.cells c3 true)])), (Value.int .i64 (lvYh (Option.some (Addr.mk 0 off0 Option.none)) (Option.some (Addr.mk 1 off sp)) n n2 age shear (0 : Int) (IntKind.wrap .i64 ((getInt c3 (off3 + ((Int.toNat band) * 1))) - (1 : Int))) tick now 117 src [o0, o1, (Ob.cells c3 true)]))]⟩), (Value.int .i64 (0 : Int))]⟩) (Hp.mk [o0, o1, (Ob.cells c3 true)] 3 [])))
                      (none))
                     (none))
                    (none))
                   (none)))))
               (none))
              (none))
             (none)))))
         (some (Out.ret (Value.tuple ⟨[(Value.agg ⟨[(Value.int .i64 (0 : Int)), (Value.int .i64 (0 : Int))]⟩), (Value.agg ⟨[(Value.int .i64 (0 : Int)), (Value.int .i64 (0 : Int))]⟩), (Value.int .i64 (7 : Int))]⟩) (Hp.mk [o0, o1, (Ob.cells c3 true)] 3 [])))))
       (some (Out.ret (Value.tuple ⟨[(Value.agg ⟨[(Value.int .i64 (0 : Int)), (Value.int .i64 (0 : Int))]⟩), (Value.agg ⟨[(Value.int .i64 (0 : Int)), (Value.int .i64 (0 : Int))]⟩), (Value.int .i64 (7 : Int))]⟩) (Hp.mk [o0, o1, (Ob.cells c3 true)] 3 []))))
      (cond (not (decide ((ck3 (Option.some (Addr.mk 0 off0 Option.none)) (Option.some (Addr.mk 1 off sp)) (Option.some (Addr.mk 2 off3 Option.none)) n n2 n3 age shear [o0, o1, (Ob.cells c3 true)]) = (0 : Int))))
       (some (Out.ret (Value.tuple ⟨[(Value.agg ⟨[(Value.int .i64 (0 : Int)), (Value.int .i64 (0 : Int))]⟩), (Value.agg ⟨[(Value.int .i64 (0 : Int)), (Value.int .i64 (0 : Int))]⟩), (Value.int .i64 (ck3 (Option.some (Addr.mk 0 off0 Option.none)) (Option.some (Addr.mk 1 off sp)) (Option.some (Addr.mk 2 off3 Option.none)) n n2 n3 age shear [o0, o1, (Ob.cells c3 true)]))]⟩) (Hp.mk [o0, o1, (Ob.cells c3 true)] 3 [])))
       (cond (decide ((0 : Int) < band))
        (cond (and (decide ((0 : Int) ≤ (IntKind.wrap .i64 (band - (1 : Int))))) (decide ((IntKind.wrap .i64 (band - (1 : Int))) < (Int.ofNat n3))))
         (cond (and true (isInt .i64 c3 (off3 + ((Int.toNat (IntKind.wrap .i64 (band - (1 : Int)))) * 1))))
          (cond (and (decide ((0 : Int) ≤ band)) (decide (band < (Int.ofNat n3))))
           (cond (and true (isInt .i64 c3 (off3 + ((Int.toNat band) * 1))))
            (cond (okLv (Option.some (Addr.mk 0 off0 Option.none)) (Option.some (Addr.mk 1 off sp)) (Option.some (Addr.mk 2 off3 Option.none)) n z n2 z2 n3 1 age shear (getInt c3 (off3 + ((Int.toNat (IntKind.wrap .i64 (band - (1 : Int)))) * 1))) (IntKind.wrap .i64 ((getInt c3 (off3 + ((Int.toNat band) * 1))) - (1 : Int))) tick now o0 o1 (Ob.cells c3 true))
             (cond (not (lvSm (Option.some (Addr.mk 0 off0 Option.none)) (Option.some (Addr.mk 1 off sp)) n n2 age shear (getInt c3 (off3 + ((Int.toNat (IntKind.wrap .i64 (band - (1 : Int)))) * 1))) (IntKind.wrap .i64 ((getInt c3 (off3 + ((Int.toNat band) * 1))) - (1 : Int))) tick now 117 src [o0, o1, (Ob.cells c3 true)]))
              (some (Out.ret (Value.tuple ⟨[(Value.agg ⟨[(Value.int .i64 (0 : Int)), (Value.int .i64 (0 : Int))]⟩), (Value.agg ⟨[(Value.int .i64 (0 : Int)), (Value.int .i64 (0 : Int))]⟩), (Value.int .i64 (4 : Int))]⟩) (Hp.mk [o0, o1, (Ob.cells c3 true)] 3 [])))
              (cond (decide ((lvXh (Option.some (Addr.mk 0 off0 Option.none)) (Option.some (Addr.mk 1 off sp)) n n2 age shear (getInt c3 (off3 + ((Int.toNat (IntKind.wrap .i64 (band - (1 : Int)))) * 1))) (IntKind.wrap .i64 ((getInt c3 (off3 + ((Int.toNat band) * 1))) - (1 : Int))) tick now 117 src [o0, o1, (Ob.cells c3 true)]) < (lvXl (Option.some (Addr.mk 0 off0 Option.none)) (Option.some (Addr.mk 1 off sp)) n n2 age shear (getInt c3 (off3 + ((Int.toNat (IntKind.wrap .i64 (band - (1 : Int)))) * 1))) (IntKind.wrap .i64 ((getInt c3 (off3 + ((Int.toNat band) * 1))) - (1 : Int))) tick now 117 src [o0, o1, (Ob.cells c3 true)])))
               (some (Out.ret (Value.tuple ⟨[(Value.agg ⟨[(Value.int .i64 (0 : Int)), (Value.int .i64 (0 : Int))]⟩), (Value.agg ⟨[(Value.int .i64 (0 : Int)), (Value.int .i64 (0 : Int))]⟩), (Value.int .i64 (9 : Int))]⟩) (Hp.mk [o0, o1, (Ob.cells c3 true)] 3 [])))
               (cond (decide ((lvYh (Option.some (Addr.mk 0 off0 Option.none)) (Option.some (Addr.mk 1 off sp)) n n2 age shear (getInt c3 (off3 + ((Int.toNat (IntKind.wrap .i64 (band - (1 : Int)))) * 1))) (IntKind.wrap .i64 ((getInt c3 (off3 + ((Int.toNat band) * 1))) - (1 : Int))) tick now 117 src [o0, o1, (Ob.cells c3 true)]) < (lvYl (Option.some (Addr.mk 0 off0 Option.none)) (Option.some (Addr.mk 1 off sp)) n n2 age shear (getInt c3 (off3 + ((Int.toNat (IntKind.wrap .i64 (band - (1 : Int)))) * 1))) (IntKind.wrap .i64 ((getInt c3 (off3 + ((Int.toNat band) * 1))) - (1 : Int))) tick now 117 src [o0, o1, (Ob.cells c3 true)])))
                (some (Out.ret (Value.tuple ⟨[(Value.agg ⟨[(Value.int .i64 (0 : Int)), (Value.int .i64 (0 : Int))]⟩), (Value.agg ⟨[(Value.int .i64 (0 : Int)), (Value.int .i64 (0 : Int))]⟩), (Value.int .i64 (9 : Int))]⟩) (Hp.mk [o0, o1, (Ob.cells c3 true)] 3 [])))
                (cond (decide ((lvYl (Option.some (Addr.mk 0 off0 Option.none)) (Option.some (Addr.mk 1 off sp)) n n2 age shear (getInt c3 (off3 + ((Int.toNat (IntKind.wrap .i64 (band - (1 : Int)))) * 1))) (IntKind.wrap .i64 ((getInt c3 (off3 + ((Int.toNat band) * 1))) - (1 : Int))) tick now 117 src [o0, o1, (Ob.cells c3 true)]) = (lvYl (Option.some (Addr.mk 0 off0 Option.none)) (Option.some (Addr.mk 1 off sp)) n n2 age shear (getInt c3 (off3 + ((Int.toNat (IntKind.wrap .i64 (band - (1 : Int)))) * 1))) (IntKind.wrap .i64 ((getInt c3 (off3 + ((Int.toNat band) * 1))) - (1 : Int))) tick now 117 src [o0, o1, (Ob.cells c3 true)])))
                 (cond (decide ((lvYh (Option.some (Addr.mk 0 off0 Option.none)) (Option.some (Addr.mk 1 off sp)) n n2 age shear (getInt c3 (off3 + ((Int.toNat (IntKind.wrap .i64 (band - (1 : Int)))) * 1))) (IntKind.wrap .i64 ((getInt c3 (off3 + ((Int.toNat band) * 1))) - (1 : Int))) tick now 117 src [o0, o1, (Ob.cells c3 true)]) = (lvYh (Option.some (Addr.mk 0 off0 Option.none)) (Option.some (Addr.mk 1 off sp)) n n2 age shear (getInt c3 (off3 + ((Int.toNat (IntKind.wrap .i64 (band - (1 : Int)))) * 1))) (IntKind.wrap .i64 ((getInt c3 (off3 + ((Int.toNat band) * 1))) - (1 : Int))) tick now 117 src [o0, o1, (Ob.cells c3 true)])))
                  (cond (decide ((lvYl (Option.some (Addr.mk 0 off0 Option.none)) (Option.some (Addr.mk 1 off sp)) n n2 age shear (getInt c3 (off3 + ((Int.toNat (IntKind.wrap .i64 (band - (1 : Int)))) * 1))) (IntKind.wrap .i64 ((getInt c3 (off3 + ((Int.toNat band) * 1))) - (1 : Int))) tick now 117 src [o0, o1, (Ob.cells c3 true)]) = (lvYl (Option.some (Addr.mk 0 off0 Option.none)) (Option.some (Addr.mk 1 off sp)) n n2 age shear (getInt c3 (off3 + ((Int.toNat (IntKind.wrap .i64 (band - (1 : Int)))) * 1))) (IntKind.wrap .i64 ((getInt c3 (off3 + ((Int.toNat band) * 1))) - (1 : Int))) tick now 117 src [o0, o1, (Ob.cells c3 true)])))
                   (cond (decide ((lvYh (Option.some (Addr.mk 0 off0 Option.none)) (Option.some (Addr.mk 1 off sp)) n n2 age shear (getInt c3 (off3 + ((Int.toNat (IntKind.wrap .i64 (band - (1 : Int)))) * 1))) (IntKind.wrap .i64 ((getInt c3 (off3 + ((Int.toNat band) * 1))) - (1 : Int))) tick now 117 src [o0, o1, (Ob.cells c3 true)]) = (lvYh (Option.some (Addr.mk 0 off0 Option.none)) (Option.some (Addr.mk 1 off sp)) n n2 age shear (getInt c3 (off3 + ((Int.toNat (IntKind.wrap .i64 (band - (1 : Int)))) * 1))) (IntKind.wrap .i64 ((getInt c3 (off3 + ((Int.toNat band) * 1))) - (1 : Int))) tick now 117 src [o0, o1, (Ob.cells c3 true)])))
                    (some (Out.ret (Value.tuple ⟨[(Value.agg ⟨[(Value.int .i64 (lvXl (Option.some (Addr.mk 0 off0 Option.none)) (Option.some (Addr.mk 1 off sp)) n n2 age shear (getInt c3 (off3 + ((Int.toNat (IntKind.wrap .i64 (band - (1 : Int)))) * 1))) (IntKind.wrap .i64 ((getInt c3 (off3 + ((Int.toNat band) * 1))) - (1 : Int))) tick now 117 src [o0, o1, (Ob.cells c3 true)])), (Value.int .i64 (lvXh (Option.some (Addr.mk 0 off0 Option.none)) (Option.some (Addr.mk 1 off sp)) n n2 age shear (getInt c3 (off3 + ((Int.toNat (IntKind.wrap .i64 (band - (1 : Int)))) * 1))) (IntKind.wrap .i64 ((getInt c3 (off3 + ((Int.toNat band) * 1))) - (1 : Int))) tick now 117 src [o0, o1, (Ob.cells c3 true)]))]⟩), (Value.agg ⟨[(Value.int .i64 (lvYl (Option.some (Addr.mk 0 off0 Option.none)) (Option.some (Addr.mk 1 off sp)) n n2 age shear (getInt c3 (off3 + ((Int.toNat (IntKind.wrap .i64 (band - (1 : Int)))) * 1))) (IntKind.wrap .i64 ((getInt c3 (off3 + ((Int.toNat band) * 1))) - (1 : Int))) tick now 117 src [o0, o1, (Ob.cells c3 true)])), (Value.int .i64 (lvYh (Option.some (Addr.mk 0 off0 Option.none)) (Option.some (Addr.mk 1 off sp)) n n2 age shear (getInt c3 (off3 + ((Int.toNat (IntKind.wrap .i64 (band - (1 : Int)))) * 1))) (IntKind.wrap .i64 ((getInt c3 (off3 + ((Int.toNat band) * 1))) - (1 : Int))) tick now 117 src [o0, o1, (Ob.cells c3 true)]))]⟩), (Value.int .i64 (0 : Int))]⟩) (Hp.mk [o0, o1, (Ob.cells c3 true)] 3 [])))
                    (none))
                   (none))
                  (none))
                 (none)))))
             (none))
            (none))
           (none))
          (none))
         (none))
        (cond (and (decide ((0 : Int) ≤ band)) (decide (band < (Int.ofNat n3))))
         (cond (and true (isInt .i64 c3 (off3 + ((Int.toNat band) * 1))))
          (cond (okLv (Option.some (Addr.mk 0 off0 Option.none)) (Option.some (Addr.mk 1 off sp)) (Option.some (Addr.mk 2 off3 Option.none)) n z n2 z2 n3 1 age shear (0 : Int) (IntKind.wrap .i64 ((getInt c3 (off3 + ((Int.toNat band) * 1))) - (1 : Int))) tick now o0 o1 (Ob.cells c3 true))
           (cond (not (lvSm (Option.some (Addr.mk 0 off0 Option.none)) (Option.some (Addr.mk 1 off sp)) n n2 age shear (0 : Int) (IntKind.wrap .i64 ((getInt c3 (off3 + ((Int.toNat band) * 1))) - (1 : Int))) tick now 117 src [o0, o1, (Ob.cells c3 true)]))
            (some (Out.ret (Value.tuple ⟨[(Value.agg ⟨[(Value.int .i64 (0 : Int)), (Value.int .i64 (0 : Int))]⟩), (Value.agg ⟨[(Value.int .i64 (0 : Int)), (Value.int .i64 (0 : Int))]⟩), (Value.int .i64 (4 : Int))]⟩) (Hp.mk [o0, o1, (Ob.cells c3 true)] 3 [])))
            (cond (decide ((lvXh (Option.some (Addr.mk 0 off0 Option.none)) (Option.some (Addr.mk 1 off sp)) n n2 age shear (0 : Int) (IntKind.wrap .i64 ((getInt c3 (off3 + ((Int.toNat band) * 1))) - (1 : Int))) tick now 117 src [o0, o1, (Ob.cells c3 true)]) < (lvXl (Option.some (Addr.mk 0 off0 Option.none)) (Option.some (Addr.mk 1 off sp)) n n2 age shear (0 : Int) (IntKind.wrap .i64 ((getInt c3 (off3 + ((Int.toNat band) * 1))) - (1 : Int))) tick now 117 src [o0, o1, (Ob.cells c3 true)])))
             (some (Out.ret (Value.tuple ⟨[(Value.agg ⟨[(Value.int .i64 (0 : Int)), (Value.int .i64 (0 : Int))]⟩), (Value.agg ⟨[(Value.int .i64 (0 : Int)), (Value.int .i64 (0 : Int))]⟩), (Value.int .i64 (9 : Int))]⟩) (Hp.mk [o0, o1, (Ob.cells c3 true)] 3 [])))
             (cond (decide ((lvYh (Option.some (Addr.mk 0 off0 Option.none)) (Option.some (Addr.mk 1 off sp)) n n2 age shear (0 : Int) (IntKind.wrap .i64 ((getInt c3 (off3 + ((Int.toNat band) * 1))) - (1 : Int))) tick now 117 src [o0, o1, (Ob.cells c3 true)]) < (lvYl (Option.some (Addr.mk 0 off0 Option.none)) (Option.some (Addr.mk 1 off sp)) n n2 age shear (0 : Int) (IntKind.wrap .i64 ((getInt c3 (off3 + ((Int.toNat band) * 1))) - (1 : Int))) tick now 117 src [o0, o1, (Ob.cells c3 true)])))
              (some (Out.ret (Value.tuple ⟨[(Value.agg ⟨[(Value.int .i64 (0 : Int)), (Value.int .i64 (0 : Int))]⟩), (Value.agg ⟨[(Value.int .i64 (0 : Int)), (Value.int .i64 (0 : Int))]⟩), (Value.int .i64 (9 : Int))]⟩) (Hp.mk [o0, o1, (Ob.cells c3 true)] 3 [])))
              (cond (decide ((lvYl (Option.some (Addr.mk 0 off0 Option.none)) (Option.some (Addr.mk 1 off sp)) n n2 age shear (0 : Int) (IntKind.wrap .i64 ((getInt c3 (off3 + ((Int.toNat band) * 1))) - (1 : Int))) tick now 117 src [o0, o1, (Ob.cells c3 true)]) = (lvYl (Option.some (Addr.mk 0 off0 Option.none)) (Option.some (Addr.mk 1 off sp)) n n2 age shear (0 : Int) (IntKind.wrap .i64 ((getInt c3 (off3 + ((Int.toNat band) * 1))) - (1 : Int))) tick now 117 src [o0, o1, (Ob.cells c3 true)])))
               (cond (decide ((lvYh (Option.some (Addr.mk 0 off0 Option.none)) (Option.some (Addr.mk 1 off sp)) n n2 age shear (0 : Int) (IntKind.wrap .i64 ((getInt c3 (off3 + ((Int.toNat band) * 1))) - (1 : Int))) tick now 117 src [o0, o1, (Ob.cells c3 true)]) = (lvYh (Option.some (Addr.mk 0 off0 Option.none)) (Option.some (Addr.mk 1 off sp)) n n2 age shear (0 : Int) (IntKind.wrap .i64 ((getInt c3 (off3 + ((Int.toNat band) * 1))) - (1 : Int))) tick now 117 src [o0, o1, (Ob.cells c3 true)])))
                (cond (decide ((lvYl (Option.some (Addr.mk 0 off0 Option.none)) (Option.some (Addr.mk 1 off sp)) n n2 age shear (0 : Int) (IntKind.wrap .i64 ((getInt c3 (off3 + ((Int.toNat band) * 1))) - (1 : Int))) tick now 117 src [o0, o1, (Ob.cells c3 true)]) = (lvYl (Option.some (Addr.mk 0 off0 Option.none)) (Option.some (Addr.mk 1 off sp)) n n2 age shear (0 : Int) (IntKind.wrap .i64 ((getInt c3 (off3 + ((Int.toNat band) * 1))) - (1 : Int))) tick now 117 src [o0, o1, (Ob.cells c3 true)])))
                 (cond (decide ((lvYh (Option.some (Addr.mk 0 off0 Option.none)) (Option.some (Addr.mk 1 off sp)) n n2 age shear (0 : Int) (IntKind.wrap .i64 ((getInt c3 (off3 + ((Int.toNat band) * 1))) - (1 : Int))) tick now 117 src [o0, o1, (Ob.cells c3 true)]) = (lvYh (Option.some (Addr.mk 0 off0 Option.none)) (Option.some (Addr.mk 1 off sp)) n n2 age shear (0 : Int) (IntKind.wrap .i64 ((getInt c3 (off3 + ((Int.toNat band) * 1))) - (1 : Int))) tick now 117 src [o0, o1, (Ob.cells c3 true)])))
                  (some (Out.ret (Value.tuple ⟨[(Value.agg ⟨[(Value.int .i64 (lvXl (Option.some (Addr.mk 0 off0 Option.none)) (Option.some (Addr.mk 1 off sp)) n n2 age shear (0 : Int) (IntKind.wrap .i64 ((getInt c3 (off3 + ((Int.toNat band) * 1))) - (1 : Int))) tick now 117 src [o0, o1, (Ob.cells c3 true)])), (Value.int .i64 (lvXh (Option.some (Addr.mk 0 off0 Option.none)) (Option.some (Addr.mk 1 off sp)) n n2 age shear (0 : Int) (IntKind.wrap .i64 ((getInt c3 (off3 + ((Int.toNat band) * 1))) - (1 : Int))) tick now 117 src [o0, o1, (Ob.cells c3 true)]))]⟩), (Value.agg ⟨[(Value.int .i64 (lvYl (Option.some (Addr.mk 0 off0 Option.none)) (Option.some (Addr.mk 1 off sp)) n n2 age shear (0 : Int) (IntKind.wrap .i64 ((getInt c3 (off3 + ((Int.toNat band) * 1))) - (1 : Int))) tick now 117 src [o0, o1, (Ob.cells c3 true)])), (Value.int .i64 (lvYh (Option.some (Addr.mk 0 off0 Option.none)) (Option.some (Addr.mk 1 off sp)) n n2 age shear (0 : Int) (IntKind.wrap .i64 ((getInt c3 (off3 + ((Int.toNat band) * 1))) - (1 : Int))) tick now 117 src [o0, o1, (Ob.cells c3 true)]))]⟩), (Value.int .i64 (0 : Int))]⟩) (Hp.mk [o0, o1, (Ob.cells c3 true)] 3 [])))
                  (none))
                 (none))
                (none))
               (none)))))
           (none))
          (none))
         (none))))))
    (none) := by kernel_rfl
theorem tree37n (o0 o1 : Ob) (c3 : Array Value) (off0 off3 n z n3 : Nat) (age shear src band tick now : Int) :
    evC Try.prog ((p20v 21).or p85).c 60 (.call 37 ⟨[.agg ⟨[.slice (some ⟨0, off0, none⟩) n z, .slice none 0 0, .slice (some ⟨2, off3, none⟩) n3 1, .int .i64 age, .int .i64 shear]⟩, .int .i64 src, .int .i64 band, .int .i64 tick, .int .i64 now]⟩ ⟨[o0, o1, .cells c3 true], 3, []⟩) some =
    cond (okT (Option.some (Addr.mk 0 off0 Option.none)) Option.none (Option.some (Addr.mk 2 off3 Option.none)) n z 0 0 n3 1 [o0, o1, (Ob.cells c3 true)])
    (cond (decide ((ck3 (Option.some (Addr.mk 0 off0 Option.none)) Option.none (Option.some (Addr.mk 2 off3 Option.none)) n 0 n3 age shear [o0, o1, (Ob.cells c3 true)]) = (0 : Int)))
     (cond (decide ((0 : Int) ≤ src))
      (cond (not (decide (src ≤ (IntKind.wrap .i64 ((Int.ofNat n) - (1 : Int))))))
       (some (Out.ret (Value.tuple ⟨[(Value.agg ⟨[(Value.int .i64 (0 : Int)), (Value.int .i64 (0 : Int))]⟩), (Value.agg ⟨[(Value.int .i64 (0 : Int)), (Value.int .i64 (0 : Int))]⟩), (Value.int .i64 (4 : Int))]⟩) (Hp.mk [o0, o1, (Ob.cells c3 true)] 3 [])))
       (cond (decide ((0 : Int) ≤ band))
        (cond (not (decide (band ≤ (IntKind.wrap .i64 ((Int.ofNat n3) - (1 : Int))))))
         (some (Out.ret (Value.tuple ⟨[(Value.agg ⟨[(Value.int .i64 (0 : Int)), (Value.int .i64 (0 : Int))]⟩), (Value.agg ⟨[(Value.int .i64 (0 : Int)), (Value.int .i64 (0 : Int))]⟩), (Value.int .i64 (4 : Int))]⟩) (Hp.mk [o0, o1, (Ob.cells c3 true)] 3 [])))
         (cond (decide ((ck3 (Option.some (Addr.mk 0 off0 Option.none)) Option.none (Option.some (Addr.mk 2 off3 Option.none)) n 0 n3 age shear [o0, o1, (Ob.cells c3 true)]) = (0 : Int)))
          (cond (decide ((0 : Int) ≤ tick))
           (cond (not (decide (tick ≤ (100000 : Int))))
            (some (Out.ret (Value.tuple ⟨[(Value.agg ⟨[(Value.int .i64 (0 : Int)), (Value.int .i64 (0 : Int))]⟩), (Value.agg ⟨[(Value.int .i64 (0 : Int)), (Value.int .i64 (0 : Int))]⟩), (Value.int .i64 (7 : Int))]⟩) (Hp.mk [o0, o1, (Ob.cells c3 true)] 3 [])))
            (cond (decide ((0 : Int) ≤ now))
             (cond (not (decide (now ≤ (100000 : Int))))
              (some (Out.ret (Value.tuple ⟨[(Value.agg ⟨[(Value.int .i64 (0 : Int)), (Value.int .i64 (0 : Int))]⟩), (Value.agg ⟨[(Value.int .i64 (0 : Int)), (Value.int .i64 (0 : Int))]⟩), (Value.int .i64 (7 : Int))]⟩) (Hp.mk [o0, o1, (Ob.cells c3 true)] 3 [])))
              (cond (not (decide ((ck3 (Option.some (Addr.mk 0 off0 Option.none)) Option.none (Option.some (Addr.mk 2 off3 Option.none)) n 0 n3 age shear [o0, o1, (Ob.cells c3 true)]) = (0 : Int))))
               (some (Out.ret (Value.tuple ⟨[(Value.agg ⟨[(Value.int .i64 (0 : Int)), (Value.int .i64 (0 : Int))]⟩), (Value.agg ⟨[(Value.int .i64 (0 : Int)), (Value.int .i64 (0 : Int))]⟩), (Value.int .i64 (ck3 (Option.some (Addr.mk 0 off0 Option.none)) Option.none (Option.some (Addr.mk 2 off3 Option.none)) n 0 n3 age shear [o0, o1, (Ob.cells c3 true)]))]⟩) (Hp.mk [o0, o1, (Ob.cells c3 true)] 3 [])))
               (cond (decide ((0 : Int) < band))
                (cond (and (decide ((0 : Int) ≤ (IntKind.wrap .i64 (band - (1 : Int))))) (decide ((IntKind.wrap .i64 (band - (1 : Int))) < (Int.ofNat n3))))
                 (cond (and true (isInt .i64 c3 (off3 + ((Int.toNat (IntKind.wrap .i64 (band - (1 : Int)))) * 1))))
                  (cond (and (decide ((0 : Int) ≤ band)) (decide (band < (Int.ofNat n3))))
                   (cond (and true (isInt .i64 c3 (off3 + ((Int.toNat band) * 1))))
                    (cond (okLv (Option.some (Addr.mk 0 off0 Option.none)) Option.none (Option.some (Addr.mk 2 off3 Option.none)) n z 0 0 n3 1 age shear (getInt c3 (off3 + ((Int.toNat (IntKind.wrap .i64 (band - (1 : Int)))) * 1))) (IntKind.wrap .i64 ((getInt c3 (off3 + ((Int.toNat band) * 1))) - (1 : Int))) tick now o0 o1 (Ob.cells c3 true))
                     (some (Out.ret (Value.tuple ⟨[(Value.agg ⟨[(Value.int .i64 (0 : Int)), (Value.int .i64 (0 : Int))]⟩), (Value.agg ⟨[(Value.int .i64 (0 : Int)), (Value.int .i64 (0 : Int))]⟩), (Value.int .i64 (4 : Int))]⟩) (Hp.mk [o0, o1, (Ob.cells c3 true)] 3 [])))
                     (none))
                    (none))
                   (none))
                  (none))
                 (none))
                (cond (and (decide ((0 : Int) ≤ band)) (decide (band < (Int.ofNat n3))))
                 (cond (and true (isInt .i64 c3 (off3 + ((Int.toNat band) * 1))))
                  (cond (okLv (Option.some (Addr.mk 0 off0 Option.none)) Option.none (Option.some (Addr.mk 2 off3 Option.none)) n z 0 0 n3 1 age shear (0 : Int) (IntKind.wrap .i64 ((getInt c3 (off3 + ((Int.toNat band) * 1))) - (1 : Int))) tick now o0 o1 (Ob.cells c3 true))
                   (some (Out.ret (Value.tuple ⟨[(Value.agg ⟨[(Value.int .i64 (0 : Int)), (Value.int .i64 (0 : Int))]⟩), (Value.agg ⟨[(Value.int .i64 (0 : Int)), (Value.int .i64 (0 : Int))]⟩), (Value.int .i64 (4 : Int))]⟩) (Hp.mk [o0, o1, (Ob.cells c3 true)] 3 [])))
                   (none))
                  (none))
                 (none)))))
             (some (Out.ret (Value.tuple ⟨[(Value.agg ⟨[(Value.int .i64 (0 : Int)), (Value.int .i64 (0 : Int))]⟩), (Value.agg ⟨[(Value.int .i64 (0 : Int)), (Value.int .i64 (0 : Int))]⟩), (Value.int .i64 (7 : Int))]⟩) (Hp.mk [o0, o1, (Ob.cells c3 true)] 3 [])))))
           (some (Out.ret (Value.tuple ⟨[(Value.agg ⟨[(Value.int .i64 (0 : Int)), (Value.int .i64 (0 : Int))]⟩), (Value.agg ⟨[(Value.int .i64 (0 : Int)), (Value.int .i64 (0 : Int))]⟩), (Value.int .i64 (7 : Int))]⟩) (Hp.mk [o0, o1, (Ob.cells c3 true)] 3 []))))
          (cond (not (decide ((ck3 (Option.some (Addr.mk 0 off0 Option.none)) Option.none (Option.some (Addr.mk 2 off3 Option.none)) n 0 n3 age shear [o0, o1, (Ob.cells c3 true)]) = (0 : Int))))
           (some (Out.ret (Value.tuple ⟨[(Value.agg ⟨[(Value.int .i64 (0 : Int)), (Value.int .i64 (0 : Int))]⟩), (Value.agg ⟨[(Value.int .i64 (0 : Int)), (Value.int .i64 (0 : Int))]⟩), (Value.int .i64 (ck3 (Option.some (Addr.mk 0 off0 Option.none)) Option.none (Option.some (Addr.mk 2 off3 Option.none)) n 0 n3 age shear [o0, o1, (Ob.cells c3 true)]))]⟩) (Hp.mk [o0, o1, (Ob.cells c3 true)] 3 [])))
           (cond (decide ((0 : Int) < band))
            (cond (and (decide ((0 : Int) ≤ (IntKind.wrap .i64 (band - (1 : Int))))) (decide ((IntKind.wrap .i64 (band - (1 : Int))) < (Int.ofNat n3))))
             (cond (and true (isInt .i64 c3 (off3 + ((Int.toNat (IntKind.wrap .i64 (band - (1 : Int)))) * 1))))
              (cond (and (decide ((0 : Int) ≤ band)) (decide (band < (Int.ofNat n3))))
               (cond (and true (isInt .i64 c3 (off3 + ((Int.toNat band) * 1))))
                (cond (okLv (Option.some (Addr.mk 0 off0 Option.none)) Option.none (Option.some (Addr.mk 2 off3 Option.none)) n z 0 0 n3 1 age shear (getInt c3 (off3 + ((Int.toNat (IntKind.wrap .i64 (band - (1 : Int)))) * 1))) (IntKind.wrap .i64 ((getInt c3 (off3 + ((Int.toNat band) * 1))) - (1 : Int))) tick now o0 o1 (Ob.cells c3 true))
                 (some (Out.ret (Value.tuple ⟨[(Value.agg ⟨[(Value.int .i64 (0 : Int)), (Value.int .i64 (0 : Int))]⟩), (Value.agg ⟨[(Value.int .i64 (0 : Int)), (Value.int .i64 (0 : Int))]⟩), (Value.int .i64 (4 : Int))]⟩) (Hp.mk [o0, o1, (Ob.cells c3 true)] 3 [])))
                 (none))
                (none))
               (none))
              (none))
             (none))
            (cond (and (decide ((0 : Int) ≤ band)) (decide (band < (Int.ofNat n3))))
             (cond (and true (isInt .i64 c3 (off3 + ((Int.toNat band) * 1))))
              (cond (okLv (Option.some (Addr.mk 0 off0 Option.none)) Option.none (Option.some (Addr.mk 2 off3 Option.none)) n z 0 0 n3 1 age shear (0 : Int) (IntKind.wrap .i64 ((getInt c3 (off3 + ((Int.toNat band) * 1))) - (1 : Int))) tick now o0 o1 (Ob.cells c3 true))
               (some (Out.ret (Value.tuple ⟨[(Value.agg ⟨[(Value.int .i64 (0 : Int)), (Value.int .i64 (0 : Int))]⟩), (Value.agg ⟨[(Value.int .i64 (0 : Int)), (Value.int .i64 (0 : Int))]⟩), (Value.int .i64 (4 : Int))]⟩) (Hp.mk [o0, o1, (Ob.cells c3 true)] 3 [])))
               (none))
              (none))
             (none))))))
        (some (Out.ret (Value.tuple ⟨[(Value.agg ⟨[(Value.int .i64 (0 : Int)), (Value.int .i64 (0 : Int))]⟩), (Value.agg ⟨[(Value.int .i64 (0 : Int)), (Value.int .i64 (0 : Int))]⟩), (Value.int .i64 (4 : Int))]⟩) (Hp.mk [o0, o1, (Ob.cells c3 true)] 3 [])))))
      (some (Out.ret (Value.tuple ⟨[(Value.agg ⟨[(Value.int .i64 (0 : Int)), (Value.int .i64 (0 : Int))]⟩), (Value.agg ⟨[(Value.int .i64 (0 : Int)), (Value.int .i64 (0 : Int))]⟩), (Value.int .i64 (4 : Int))]⟩) (Hp.mk [o0, o1, (Ob.cells c3 true)] 3 []))))
     (cond (decide ((ck3 (Option.some (Addr.mk 0 off0 Option.none)) Option.none (Option.some (Addr.mk 2 off3 Option.none)) n 0 n3 age shear [o0, o1, (Ob.cells c3 true)]) = (0 : Int)))
      (cond (decide ((0 : Int) ≤ tick))
       (cond (not (decide (tick ≤ (100000 : Int))))
        (some (Out.ret (Value.tuple ⟨[(Value.agg ⟨[(Value.int .i64 (0 : Int)), (Value.int .i64 (0 : Int))]⟩), (Value.agg ⟨[(Value.int .i64 (0 : Int)), (Value.int .i64 (0 : Int))]⟩), (Value.int .i64 (7 : Int))]⟩) (Hp.mk [o0, o1, (Ob.cells c3 true)] 3 [])))
        (cond (decide ((0 : Int) ≤ now))
         (cond (not (decide (now ≤ (100000 : Int))))
          (some (Out.ret (Value.tuple ⟨[(Value.agg ⟨[(Value.int .i64 (0 : Int)), (Value.int .i64 (0 : Int))]⟩), (Value.agg ⟨[(Value.int .i64 (0 : Int)), (Value.int .i64 (0 : Int))]⟩), (Value.int .i64 (7 : Int))]⟩) (Hp.mk [o0, o1, (Ob.cells c3 true)] 3 [])))
          (cond (not (decide ((ck3 (Option.some (Addr.mk 0 off0 Option.none)) Option.none (Option.some (Addr.mk 2 off3 Option.none)) n 0 n3 age shear [o0, o1, (Ob.cells c3 true)]) = (0 : Int))))
           (some (Out.ret (Value.tuple ⟨[(Value.agg ⟨[(Value.int .i64 (0 : Int)), (Value.int .i64 (0 : Int))]⟩), (Value.agg ⟨[(Value.int .i64 (0 : Int)), (Value.int .i64 (0 : Int))]⟩), (Value.int .i64 (ck3 (Option.some (Addr.mk 0 off0 Option.none)) Option.none (Option.some (Addr.mk 2 off3 Option.none)) n 0 n3 age shear [o0, o1, (Ob.cells c3 true)]))]⟩) (Hp.mk [o0, o1, (Ob.cells c3 true)] 3 [])))
           (cond (decide ((0 : Int) < band))
            (cond (and (decide ((0 : Int) ≤ (IntKind.wrap .i64 (band - (1 : Int))))) (decide ((IntKind.wrap .i64 (band - (1 : Int))) < (Int.ofNat n3))))
             (cond (and true (isInt .i64 c3 (off3 + ((Int.toNat (IntKind.wrap .i64 (band - (1 : Int)))) * 1))))
              (cond (and (decide ((0 : Int) ≤ band)) (decide (band < (Int.ofNat n3))))
               (cond (and true (isInt .i64 c3 (off3 + ((Int.toNat band) * 1))))
                (cond (okLv (Option.some (Addr.mk 0 off0 Option.none)) Option.none (Option.some (Addr.mk 2 off3 Option.none)) n z 0 0 n3 1 age shear (getInt c3 (off3 + ((Int.toNat (IntKind.wrap .i64 (band - (1 : Int)))) * 1))) (IntKind.wrap .i64 ((getInt c3 (off3 + ((Int.toNat band) * 1))) - (1 : Int))) tick now o0 o1 (Ob.cells c3 true))
                 (some (Out.ret (Value.tuple ⟨[(Value.agg ⟨[(Value.int .i64 (0 : Int)), (Value.int .i64 (0 : Int))]⟩), (Value.agg ⟨[(Value.int .i64 (0 : Int)), (Value.int .i64 (0 : Int))]⟩), (Value.int .i64 (4 : Int))]⟩) (Hp.mk [o0, o1, (Ob.cells c3 true)] 3 [])))
                 (none))
                (none))
               (none))
              (none))
             (none))
            (cond (and (decide ((0 : Int) ≤ band)) (decide (band < (Int.ofNat n3))))
             (cond (and true (isInt .i64 c3 (off3 + ((Int.toNat band) * 1))))
              (cond (okLv (Option.some (Addr.mk 0 off0 Option.none)) Option.none (Option.some (Addr.mk 2 off3 Option.none)) n z 0 0 n3 1 age shear (0 : Int) (IntKind.wrap .i64 ((getInt c3 (off3 + ((Int.toNat band) * 1))) - (1 : Int))) tick now o0 o1 (Ob.cells c3 true))
               (some (Out.ret (Value.tuple ⟨[(Value.agg ⟨[(Value.int .i64 (0 : Int)), (Value.int .i64 (0 : Int))]⟩), (Value.agg ⟨[(Value.int .i64 (0 : Int)), (Value.int .i64 (0 : Int))]⟩), (Value.int .i64 (4 : Int))]⟩) (Hp.mk [o0, o1, (Ob.cells c3 true)] 3 [])))
               (none))
              (none))
             (none)))))
         (some (Out.ret (Value.tuple ⟨[(Value.agg ⟨[(Value.int .i64 (0 : Int)), (Value.int .i64 (0 : Int))]⟩), (Value.agg ⟨[(Value.int .i64 (0 : Int)), (Value.int .i64 (0 : Int))]⟩), (Value.int .i64 (7 : Int))]⟩) (Hp.mk [o0, o1, (Ob.cells c3 true)] 3 [])))))
       (some (Out.ret (Value.tuple ⟨[(Value.agg ⟨[(Value.int .i64 (0 : Int)), (Value.int .i64 (0 : Int))]⟩), (Value.agg ⟨[(Value.int .i64 (0 : Int)), (Value.int .i64 (0 : Int))]⟩), (Value.int .i64 (7 : Int))]⟩) (Hp.mk [o0, o1, (Ob.cells c3 true)] 3 []))))
      (cond (not (decide ((ck3 (Option.some (Addr.mk 0 off0 Option.none)) Option.none (Option.some (Addr.mk 2 off3 Option.none)) n 0 n3 age shear [o0, o1, (Ob.cells c3 true)]) = (0 : Int))))
       (some (Out.ret (Value.tuple ⟨[(Value.agg ⟨[(Value.int .i64 (0 : Int)), (Value.int .i64 (0 : Int))]⟩), (Value.agg ⟨[(Value.int .i64 (0 : Int)), (Value.int .i64 (0 : Int))]⟩), (Value.int .i64 (ck3 (Option.some (Addr.mk 0 off0 Option.none)) Option.none (Option.some (Addr.mk 2 off3 Option.none)) n 0 n3 age shear [o0, o1, (Ob.cells c3 true)]))]⟩) (Hp.mk [o0, o1, (Ob.cells c3 true)] 3 [])))
       (cond (decide ((0 : Int) < band))
        (cond (and (decide ((0 : Int) ≤ (IntKind.wrap .i64 (band - (1 : Int))))) (decide ((IntKind.wrap .i64 (band - (1 : Int))) < (Int.ofNat n3))))
         (cond (and true (isInt .i64 c3 (off3 + ((Int.toNat (IntKind.wrap .i64 (band - (1 : Int)))) * 1))))
          (cond (and (decide ((0 : Int) ≤ band)) (decide (band < (Int.ofNat n3))))
           (cond (and true (isInt .i64 c3 (off3 + ((Int.toNat band) * 1))))
            (cond (okLv (Option.some (Addr.mk 0 off0 Option.none)) Option.none (Option.some (Addr.mk 2 off3 Option.none)) n z 0 0 n3 1 age shear (getInt c3 (off3 + ((Int.toNat (IntKind.wrap .i64 (band - (1 : Int)))) * 1))) (IntKind.wrap .i64 ((getInt c3 (off3 + ((Int.toNat band) * 1))) - (1 : Int))) tick now o0 o1 (Ob.cells c3 true))
             (some (Out.ret (Value.tuple ⟨[(Value.agg ⟨[(Value.int .i64 (0 : Int)), (Value.int .i64 (0 : Int))]⟩), (Value.agg ⟨[(Value.int .i64 (0 : Int)), (Value.int .i64 (0 : Int))]⟩), (Value.int .i64 (4 : Int))]⟩) (Hp.mk [o0, o1, (Ob.cells c3 true)] 3 [])))
             (none))
            (none))
           (none))
          (none))
         (none))
        (cond (and (decide ((0 : Int) ≤ band)) (decide (band < (Int.ofNat n3))))
         (cond (and true (isInt .i64 c3 (off3 + ((Int.toNat band) * 1))))
          (cond (okLv (Option.some (Addr.mk 0 off0 Option.none)) Option.none (Option.some (Addr.mk 2 off3 Option.none)) n z 0 0 n3 1 age shear (0 : Int) (IntKind.wrap .i64 ((getInt c3 (off3 + ((Int.toNat band) * 1))) - (1 : Int))) tick now o0 o1 (Ob.cells c3 true))
           (some (Out.ret (Value.tuple ⟨[(Value.agg ⟨[(Value.int .i64 (0 : Int)), (Value.int .i64 (0 : Int))]⟩), (Value.agg ⟨[(Value.int .i64 (0 : Int)), (Value.int .i64 (0 : Int))]⟩), (Value.int .i64 (4 : Int))]⟩) (Hp.mk [o0, o1, (Ob.cells c3 true)] 3 [])))
           (none))
          (none))
         (none))))))
    (none) := by kernel_rfl

theorem err37 {a b d : Option Addr} {n z n2 z2 n3 z3 : Nat} {age shear src band tick now : Int} {o0 o1 o2 : Ob} (ht : TaskAt a b d n z n2 z2 n3 z3 o0 o1 o2) (h : ¬ (ck3 a b d n n2 n3 age shear [o0, o1, o2] = 0 ∧ 0 ≤ src ∧ src < n ∧ 0 ≤ band ∧ band < n3 ∧ 0 ≤ tick ∧ tick ≤ 100000 ∧ 0 ≤ now ∧ now ≤ 100000)) :
    Fact Try.prog (.call 37 ⟨[.agg ⟨[.slice a n z, .slice b n2 z2, .slice d n3 z3, .int .i64 age, .int .i64 shear]⟩, .int .i64 src, .int .i64 band, .int .i64 tick, .int .i64 now]⟩ ⟨[o0, o1, o2], 3, []⟩) (.ret (syT a b d n n2 n3 age shear src band tick now [o0, o1, o2]) ⟨[o0, o1, o2], 3, []⟩) := by
  refine ((known20v known21).or (knownNo 84)).fact noNG mixed (n := 60) ((tree37f ..).trans ?_)
  have hk : okT a b d n z n2 z2 n3 z3 [o0, o1, o2] = true := dec_iff.2 ht.on
  by_cases hc : ck3 a b d n n2 n3 age shear [o0, o1, o2] = 0
  · have hz := ck_zero hc
    have hf3 := hz.few3
    have hf := hz.few
    have hcd := decide_eq_true hc
    have wn : IntKind.i64.wrap ((n : Int) - 1) = (n : Int) - 1 := wrap64_id (by omega) (by omega)
    have wn3 : IntKind.i64.wrap ((n3 : Int) - 1) = (n3 : Int) - 1 := wrap64_id (by omega) (by omega)
    by_cases h1 : 0 ≤ src ∧ src < n ∧ 0 ≤ band ∧ band < n3
    · have h2 : ¬ (0 ≤ tick ∧ tick ≤ 100000 ∧ 0 ≤ now ∧ now ≤ 100000) := fun h2 => h ⟨hc, h1.1, h1.2.1, h1.2.2.1, h1.2.2.2, h2⟩
      rw [syT_err (e := 7) (by unfold syE; rw [if_neg (not_not_intro hc), if_neg (not_not_intro h1), if_pos h2]) (by decide)]
      simp only [Int.ofNat_eq_natCast, hk, hcd, wn, wn3, Bool.not_true, cond_true, cond_false]
      clear ht hk hz hcd hc h
      repeat' refine cond_hd (fun _ => ?_) (fun _ => ?_)
      all_goals first
      | rfl
      | (exfalso; simp only [Bool.not_eq_true', Bool.not_eq_false', Bool.and_eq_true, Bool.and_eq_false_iff, decide_eq_true_eq, decide_eq_false_iff_not, Bool.true_and, reduceCtorEq] at *; omega)
    · rw [syT_err (e := 4) (by unfold syE; rw [if_neg (not_not_intro hc), if_pos h1]) (by decide)]
      simp only [Int.ofNat_eq_natCast, hk, hcd, wn, wn3, Bool.not_true, cond_true, cond_false]
      clear ht hk hz hcd hc h
      repeat' refine cond_hd (fun _ => ?_) (fun _ => ?_)
      all_goals first
      | rfl
      | (exfalso; simp only [Bool.not_eq_true', Bool.not_eq_false', Bool.and_eq_true, Bool.and_eq_false_iff, decide_eq_true_eq, decide_eq_false_iff_not, Bool.true_and, reduceCtorEq] at *; omega)
  · rw [syT_err (e := ck3 a b d n n2 n3 age shear [o0, o1, o2]) (by unfold syE; rw [if_pos hc]) hc]
    simp only [hk, decide_eq_false hc, Bool.not_false, cond_true, cond_false]

theorem main37 {a b d : Option Addr} {n z n2 z2 n3 z3 : Nat} {age shear src band tick now : Int} {o0 o1 o2 : Ob} (ht : TaskAt a b d n z n2 z2 n3 z3 o0 o1 o2) (hc : ck3 a b d n n2 n3 age shear [o0, o1, o2] = 0) (h1 : 0 ≤ src ∧ src < n ∧ 0 ≤ band ∧ band < n3) (h2 : 0 ≤ tick ∧ tick ≤ 100000 ∧ 0 ≤ now ∧ now ≤ 100000) :
    Fact Try.prog (.call 37 ⟨[.agg ⟨[.slice a n z, .slice b n2 z2, .slice d n3 z3, .int .i64 age, .int .i64 shear]⟩, .int .i64 src, .int .i64 band, .int .i64 tick, .int .i64 now]⟩ ⟨[o0, o1, o2], 3, []⟩) (.ret (syT a b d n n2 n3 age shear src band tick now [o0, o1, o2]) ⟨[o0, o1, o2], 3, []⟩) := by
  have hk : okT a b d n z n2 z2 n3 z3 [o0, o1, o2] = true := dec_iff.2 ht.on
  have hz := ck_zero hc
  have hf3 := hz.few3
  have hf := hz.few
  obtain ⟨off3, c3, rfl, rfl, rfl, hg3, hcut⟩ := cut_at ht hc
  have hI := cutI hg3
  have hcd := decide_eq_true hc
  have hE := syE_main hc h1 h2
  obtain ⟨i1, i2, i3, i4⟩ := h1
  obtain ⟨k1, k2, k3, k4⟩ := h2
  have i1' : ¬ src < 0 := by omega
  have i2' : ¬ (n : Int) ≤ src := by omega
  have i3' : ¬ band < 0 := by omega
  have i4' : ¬ (n3 : Int) ≤ band := by omega
  have hb := hI band.toNat (by omega)
  have wn : IntKind.i64.wrap ((n : Int) - 1) = (n : Int) - 1 := wrap64_id (by omega) (by omega)
  have wn3 : IntKind.i64.wrap ((n3 : Int) - 1) = (n3 : Int) - 1 := wrap64_id (by omega) (by omega)
  have i5 : src ≤ (n : Int) - 1 := by omega
  have i6 : band ≤ (n3 : Int) - 1 := by omega
  have hcb : 1 ≤ getInt c3 (off3 + band.toNat * 1) ∧ getInt c3 (off3 + band.toNat * 1) ≤ 100000000 := by
    have := hcut band.toNat (by omega)
    simpa using this
  have wh : IntKind.i64.wrap (getInt c3 (off3 + band.toNat * 1) - 1) = getInt c3 (off3 + band.toNat * 1) - 1 := wrap64_id (by omega) (by omega)
  have eH : syHi (some ⟨2, off3, none⟩) band [o0, o1, .cells c3 true] = getInt c3 (off3 + band.toNat * 1) - 1 := rfl
  have hqs : ∀ lo, 0 ≤ lo → lo ≤ 100000000 → Qst lo (getInt c3 (off3 + band.toNat * 1) - 1) tick now := fun lo l0 l1 => ⟨⟨l0, l1⟩, by omega, ⟨k1, k2⟩, ⟨k3, k4⟩⟩
  have hok : ∀ lo, 0 ≤ lo → lo ≤ 100000000 → okLv a b (some ⟨2, off3, none⟩) n z n2 z2 n3 1 age shear lo (getInt c3 (off3 + band.toNat * 1) - 1) tick now o0 o1 (.cells c3 true) = true := fun lo l0 l1 => dec_iff.2 ⟨ht, hc, hqs lo l0 l1⟩
  obtain ⟨hs, _, _, _, sb, _⟩ := ht.on
  rcases hs with rfl | ⟨b0, off0, rfl, rfl, hc0, hg0⟩
  · omega
  obtain rfl : b0 = 0 := ht.a0 _ rfl
  have hlo : (0 < band → syLo (some ⟨2, off3, none⟩) band [o0, o1, .cells c3 true] = getInt c3 (off3 + (band - 1).toNat * 1)) ∧ (¬ 0 < band → syLo (some ⟨2, off3, none⟩) band [o0, o1, .cells c3 true] = 0) :=
    ⟨fun h => if_pos h, fun h => if_neg h⟩
  have hfin : ∀ lo, syLo (some ⟨2, off3, none⟩) band [o0, o1, .cells c3 true] = lo →
      (cond (not (lvSm (some ⟨0, off0, none⟩) b n n2 age shear lo (getInt c3 (off3 + band.toNat * 1) - 1) tick now 117 src [o0, o1, .cells c3 true]))
        (some (Out.ret (.tuple ⟨[.agg ⟨[.int .i64 0, .int .i64 0]⟩, .agg ⟨[.int .i64 0, .int .i64 0]⟩, .int .i64 4]⟩) ⟨[o0, o1, .cells c3 true], 3, []⟩))
        (cond (decide (lvXh (some ⟨0, off0, none⟩) b n n2 age shear lo (getInt c3 (off3 + band.toNat * 1) - 1) tick now 117 src [o0, o1, .cells c3 true] < lvXl (some ⟨0, off0, none⟩) b n n2 age shear lo (getInt c3 (off3 + band.toNat * 1) - 1) tick now 117 src [o0, o1, .cells c3 true]))
          (some (Out.ret (.tuple ⟨[.agg ⟨[.int .i64 0, .int .i64 0]⟩, .agg ⟨[.int .i64 0, .int .i64 0]⟩, .int .i64 9]⟩) ⟨[o0, o1, .cells c3 true], 3, []⟩))
          (cond (decide (lvYh (some ⟨0, off0, none⟩) b n n2 age shear lo (getInt c3 (off3 + band.toNat * 1) - 1) tick now 117 src [o0, o1, .cells c3 true] < lvYl (some ⟨0, off0, none⟩) b n n2 age shear lo (getInt c3 (off3 + band.toNat * 1) - 1) tick now 117 src [o0, o1, .cells c3 true]))
            (some (Out.ret (.tuple ⟨[.agg ⟨[.int .i64 0, .int .i64 0]⟩, .agg ⟨[.int .i64 0, .int .i64 0]⟩, .int .i64 9]⟩) ⟨[o0, o1, .cells c3 true], 3, []⟩))
            (some (Out.ret (.tuple ⟨[.agg ⟨[.int .i64 (lvXl (some ⟨0, off0, none⟩) b n n2 age shear lo (getInt c3 (off3 + band.toNat * 1) - 1) tick now 117 src [o0, o1, .cells c3 true]), .int .i64 (lvXh (some ⟨0, off0, none⟩) b n n2 age shear lo (getInt c3 (off3 + band.toNat * 1) - 1) tick now 117 src [o0, o1, .cells c3 true])]⟩, .agg ⟨[.int .i64 (lvYl (some ⟨0, off0, none⟩) b n n2 age shear lo (getInt c3 (off3 + band.toNat * 1) - 1) tick now 117 src [o0, o1, .cells c3 true]), .int .i64 (lvYh (some ⟨0, off0, none⟩) b n n2 age shear lo (getInt c3 (off3 + band.toNat * 1) - 1) tick now 117 src [o0, o1, .cells c3 true])]⟩, .int .i64 0]⟩) ⟨[o0, o1, .cells c3 true], 3, []⟩))))) =
      some (Out.ret (syT (some ⟨0, off0, none⟩) b (some ⟨2, off3, none⟩) n n2 n3 age shear src band tick now [o0, o1, .cells c3 true]) ⟨[o0, o1, .cells c3 true], 3, []⟩) := by
    intro lo hl
    rw [hl, eH] at hE
    cases e1 : lvSm (some ⟨0, off0, none⟩) b n n2 age shear lo (getInt c3 (off3 + band.toNat * 1) - 1) tick now 117 src [o0, o1, .cells c3 true] with
    | false =>
      rw [e1, if_pos rfl] at hE
      rw [syT_err hE (by decide)]
      rfl
    | true =>
      rw [e1, if_neg (by decide)] at hE
      by_cases e2 : lvXh (some ⟨0, off0, none⟩) b n n2 age shear lo (getInt c3 (off3 + band.toNat * 1) - 1) tick now 117 src [o0, o1, .cells c3 true] < lvXl (some ⟨0, off0, none⟩) b n n2 age shear lo (getInt c3 (off3 + band.toNat * 1) - 1) tick now 117 src [o0, o1, .cells c3 true]
      · rw [if_pos (.inl e2)] at hE
        rw [syT_err hE (by decide), decide_eq_true e2]
        rfl
      · by_cases e3 : lvYh (some ⟨0, off0, none⟩) b n n2 age shear lo (getInt c3 (off3 + band.toNat * 1) - 1) tick now 117 src [o0, o1, .cells c3 true] < lvYl (some ⟨0, off0, none⟩) b n n2 age shear lo (getInt c3 (off3 + band.toNat * 1) - 1) tick now 117 src [o0, o1, .cells c3 true]
        · rw [if_pos (.inr e3)] at hE
          rw [syT_err hE (by decide), decide_eq_false e2, decide_eq_true e3]
          rfl
        · rw [if_neg (by omega)] at hE
          rw [syT_ok hE, decide_eq_false e2, decide_eq_false e3, hl, eH]
          rfl
  clear hE eH
  rcases b with _ | ⟨b1, off, sp⟩
  · obtain ⟨rfl, rfl⟩ : n2 = 0 ∧ z2 = 0 := nilOk_of sb rfl
    refine ((known20v known21).or known85p).fact noNG mixed (n := 60) ((tree37n ..).trans ?_)
    simp only [Int.ofNat_eq_natCast, hk, hcd, i1', i2', i3', i4', i1, i2, i3, i4, i5, i6, k1, k2, k3, k4, hb, wn, wn3, wh, decide_true, decide_false, Bool.not_true, Bool.not_false, Bool.and_self, Bool.true_and, cond_true, cond_false]
    by_cases hb0 : 0 < band
    · have hw : IntKind.i64.wrap (band - 1) = band - 1 := wrap64_id (by omega) (by omega)
      have hb1 := hI (band - 1).toNat (by omega)
      have j1 : 0 ≤ band - 1 := by omega
      have j2 : band - 1 < n3 := by omega
      have hcc := hcut (band - 1).toNat (by omega)
      have hok' := hok (getInt c3 (off3 + (band - 1).toNat * 1)) (by rw [Nat.mul_one]; omega) (by rw [Nat.mul_one]; omega)
      simp only [hb0, hw, hb1, j1, j2, hok', decide_true, Bool.and_self, cond_true]
      exact hfin _ (hlo.1 hb0)
    · have hok' := hok 0 (by omega) (by omega)
      simp only [hb0, hok', decide_false, decide_true, Bool.and_self, cond_false, cond_true]
      exact hfin _ (hlo.2 hb0)
  · obtain rfl : b1 = 1 := ht.b1 _ rfl
    refine ((known20v known21).or known85p).fact noNG mixed (n := 60) ((tree37p ..).trans ?_)
    simp only [Int.ofNat_eq_natCast, hk, hcd, i1', i2', i3', i4', i1, i2, i3, i4, i5, i6, k1, k2, k3, k4, hb, wn, wn3, wh, decide_true, decide_false, Bool.not_true, Bool.not_false, Bool.and_self, Bool.true_and, cond_true, cond_false]
    by_cases hb0 : 0 < band
    · have hw : IntKind.i64.wrap (band - 1) = band - 1 := wrap64_id (by omega) (by omega)
      have hb1 := hI (band - 1).toNat (by omega)
      have j1 : 0 ≤ band - 1 := by omega
      have j2 : band - 1 < n3 := by omega
      have hcc := hcut (band - 1).toNat (by omega)
      have hok' := hok (getInt c3 (off3 + (band - 1).toNat * 1)) (by rw [Nat.mul_one]; omega) (by rw [Nat.mul_one]; omega)
      simp only [hb0, hw, hb1, j1, j2, hok', decide_true, Bool.and_self, cond_true]
      exact hfin _ (hlo.1 hb0)
    · have hok' := hok 0 (by omega) (by omega)
      simp only [hb0, hok', decide_false, decide_true, Bool.and_self, cond_false, cond_true]
      exact hfin _ (hlo.2 hb0)
end
end Go.Proofs.Ytohpmnfplglbdaa

/- Says, on both sides, as answers; the law WindSays over three blocks. Conditions: none. -/
namespace Go.Proofs.Ytohpmnfplglbdaa
open Go.Gh Go.RowKit
noncomputable section
set_option maxRecDepth 100000
set_option linter.unusedSimpArgs false
set_option linter.unusedVariables false
def okTA (a b d : Option Addr) (n z n2 z2 n3 z3 : Nat) (o0 o1 o2 : Ob) : Bool := dec (TaskAt a b d n z n2 z2 n3 z3 o0 o1 o2)
def p36 (f : Nat) : Ans
  | .call g ⟨[.agg ⟨[.slice a n z, .slice b n2 z2, .slice d n3 z3, .int .i64 age, .int .i64 shear]⟩, .int .i64 src, .int .i64 band, .int .i64 tick, .int .i64 now]⟩ ⟨o0 :: o1 :: o2 :: G, base, wr⟩ => (match Nat.beq g f with
    | true => some (.br (okTA a b d n z n2 z2 n3 z3 o0 o1 o2) (.leaf (.ret (.tuple ⟨[.agg ⟨[.int .i64 (syXl a b d n n2 n3 age shear src band tick now [o0, o1, o2]), .int .i64 (syXh a b d n n2 n3 age shear src band tick now [o0, o1, o2])]⟩, .agg ⟨[.int .i64 (syYl a b d n n2 n3 age shear src band tick now [o0, o1, o2]), .int .i64 (syYh a b d n n2 n3 age shear src band tick now [o0, o1, o2])]⟩, .int .i64 (syE a b d n n2 n3 age shear src band tick now [o0, o1, o2])]⟩) ⟨o0 :: o1 :: o2 :: G, base, wr⟩)) .no)
    | false => none)
  | _ => none
theorem known36v {f : Nat} (key : ∀ (a b d : Option Addr) (n z n2 z2 n3 z3 : Nat) (age shear src band tick now : Int) (o0 o1 o2 : Ob), TaskAt a b d n z n2 z2 n3 z3 o0 o1 o2 → Fact Try.prog (.call f ⟨[.agg ⟨[.slice a n z, .slice b n2 z2, .slice d n3 z3, .int .i64 age, .int .i64 shear]⟩, .int .i64 src, .int .i64 band, .int .i64 tick, .int .i64 now]⟩ ⟨[o0, o1, o2], 3, []⟩)
    (.ret (syT a b d n n2 n3 age shear src band tick now [o0, o1, o2]) ⟨[o0, o1, o2], 3, []⟩)) : Known Try.prog (p36 f) := by
  intro t xx o hh ho
  unfold p36 at hh
  split at hh
  case h_2 => cases hh
  rename_i g a n z b n2 z2 d n3 z3 age shear src band tick now o0 o1 o2 G base wr
  split at hh
  case h_2 => cases hh
  rename_i hgg
  obtain rfl := Nat.eq_of_beq_eq_true hgg
  simp only [Option.some.injEq] at hh
  subst hh
  simp only [AT.out] at ho
  obtain ⟨hok, ho⟩ := cond_some ho
  simp only [Option.some.injEq] at ho
  subst ho
  have ht := dec_iff.1 hok
  obtain ⟨ra, oa⟩ := ren_at (n := n) (z := z) (by decide) ht.a0
  obtain ⟨rb, ob⟩ := ren_at (n := n2) (z := z2) (by decide) ht.b1
  obtain ⟨rd, od⟩ := ren_at (n := n3) (z := z3) (by decide) ht.d2
  refine frame3 (args1 := ⟨[.agg ⟨[.slice a n z, .slice b n2 z2, .slice d n3 z3, .int .i64 age, .int .i64 shear]⟩, .int .i64 src, .int .i64 band, .int .i64 tick, .int .i64 now]⟩) (o0 := o0) (o1 := o1) (o2 := o2) 0 1 2 (key a b d n z n2 z2 n3 z3 age shear src band tick now o0 o1 o2 ht) rfl
    (obAt_of ht.g0 rfl) (obAt_of ht.g1 rfl) (obAt_of ht.g2 rfl) ?_ ?_
  · simp only [List.map_toArray, List.map_cons, List.map_nil, ren1, ra, rb, rd]
    rfl
  · simp only [List.all_cons, List.all_nil, okR1, oa, ob, od]; rfl
theorem known36c : Known Try.prog (p36 36) := known36v fun a b d n z n2 z2 n3 z3 age shear src band tick now o0 o1 o2 ht => by
  by_cases hc : ck3 a b d n n2 n3 age shear [o0, o1, o2] = 0
  · by_cases h : 0 ≤ src ∧ src < n ∧ 0 ≤ band ∧ band < n3 ∧ 0 ≤ tick ∧ tick ≤ 100000 ∧ 0 ≤ now ∧ now ≤ 100000
    · exact main36 ht hc ⟨h.1, h.2.1, h.2.2.1, h.2.2.2.1⟩ h.2.2.2.2
    · exact inv36 ht hc h
  · exact err36 ht hc
theorem known37c : Known Try.prog (p36 37) := known36v fun a b d n z n2 z2 n3 z3 age shear src band tick now o0 o1 o2 ht => by
  by_cases h : ck3 a b d n n2 n3 age shear [o0, o1, o2] = 0 ∧ 0 ≤ src ∧ src < n ∧ 0 ≤ band ∧ band < n3 ∧ 0 ≤ tick ∧ tick ≤ 100000 ∧ 0 ≤ now ∧ now ≤ 100000
  · exact main37 ht h.1 ⟨h.2.1, h.2.2.1, h.2.2.2.1, h.2.2.2.2.1⟩ h.2.2.2.2.2
  · exact err37 ht h
end
end Go.Proofs.Ytohpmnfplglbdaa

/- A call whose arguments are read from the world. Conditions: none. -/
namespace Go.Gh
open Go.RowKit
noncomputable section

def phiOf (l : List (Ob × Option (Nat × Nat × Nat))) : Phi := fun i => (l[i]?).bind (·.2)
theorem inv_args {w : World} {l : List (Ob × Option (Nat × Nat × Nat))} (h : ∀ p ∈ l, (p.1.live = true → ∃ B bs tot, p.2 = some (B, bs, tot) ∧ ∀ φ : Phi, ObR φ w p.1 B bs tot) ∧ p.1.rw = false) :
    Inv (· < w.heap.size) w (phiOf l) (l.map (·.1)) w := by
  have hget : ∀ {b : Nat} {ob : Ob}, (l.map (·.1))[b]? = some ob → ∃ p, l[b]? = some p ∧ p.1 = ob ∧ p ∈ l := by
    intro b ob hb
    rw [List.getElem?_map, Option.map_eq_some_iff] at hb
    obtain ⟨p, h1, h2⟩ := hb
    exact ⟨p, h1, h2, List.mem_of_getElem? h1⟩
  refine ⟨?_, ?_, ?_, fun _ _ => rfl, fun _ h => h, Nat.le_refl _, rfl, rfl, rfl, ?_⟩
  · intro b ob hb hl
    obtain ⟨p, h1, rfl, hm⟩ := hget hb
    obtain ⟨B, bs, tot, h2, h3⟩ := (h p hm).1 hl
    exact ⟨B, bs, tot, by unfold phiOf; rw [h1]; exact h2, h3 _⟩
  · intro b b' ob ob' x y _ hb _ hrw
    obtain ⟨p, _, rfl, hm⟩ := hget hb
    rw [(h p hm).2] at hrw; cases hrw
  · intro b ob x hb hrw
    obtain ⟨p, _, rfl, hm⟩ := hget hb
    rw [(h p hm).2] at hrw; cases hrw
  · intro b hb
    unfold phiOf
    rw [List.getElem?_eq_none (by simpa using hb)]; rfl

theorem calls_of_fact {P : Program} {w : World} {l : List (Ob × Option (Nat × Nat × Nat))} {f : FuncId} {args args' : Array Value} {base : Nat} {wr : List Nat} {v : Value} {h' : Hp}
    (hf : Fact P (.call f args ⟨l.map (·.1), base, wr⟩) (.ret v h')) (hb : base ≤ (l.map (·.1)).length) (hg : gr v = true)
    (h : ∀ p ∈ l, (p.1.live = true → ∃ B bs tot, p.2 = some (B, bs, tot) ∧ ∀ φ : Phi, ObR φ w p.1 B bs tot) ∧ p.1.rw = false) (hA : VRs (phiOf l) args args') :
    Calls P f args' w fun e w' => e = .returned v ∧ Below w.heap.size w w' := by
  obtain ⟨_, hh⟩ := hf.1 hb
  refine callsIn_wide.1 ((hh (· < w.heap.size) w (phiOf l) w args' 0 (inv_args h) hA).mono ?_)
  intro e w' he
  cases e with
  | returned v' =>
    obtain ⟨φ', _, hv, hI⟩ := he
    exact ⟨by rw [gr_eq hg hv], hI.below⟩
  | panicked ch => exact he.elim
  | outgrown => exact he.elim
end
end Go.Gh

/- A task as an argument: three blocks that stand for its lists. Conditions: none. -/
namespace Go.Proofs.Ytohpmnfplglbdaa
open Go.ChangeShapes Go.WideShapes Go.ChangeAt Go.RowKit Go.Gh
set_option linter.unusedVariables false

theorem own : ownKnob Try.prog.godebug = none := by kernel_rfl
theorem laidOut : laidOutB Try.prog = true := by kernel_rfl
theorem flat107 : flatT Try.prog 20 107 = true := by kernel_rfl
theorem leaves107 : leaves Try.prog 20 107 = L7 := by kernel_rfl
theorem cells107 : Try.prog.cellsOf 107 = (leaves Try.prog 20 107).length := by kernel_rfl
theorem flat89 : flatT Try.prog 20 89 = true := by kernel_rfl
theorem leaves89 : leaves Try.prog 20 89 = L5 := by kernel_rfl
theorem cells89 : Try.prog.cellsOf 89 = (leaves Try.prog 20 89).length := by kernel_rfl
theorem flat3 : flatT Try.prog 20 3 = true := by kernel_rfl
theorem leaves3 : leaves Try.prog 20 3 = L1 := by kernel_rfl
theorem cells3 : Try.prog.cellsOf 3 = (leaves Try.prog 20 3).length := by kernel_rfl
theorem cells26 : Try.prog.cellsOf 26 = 5 := by kernel_rfl
theorem cells22 : Try.prog.cellsOf 22 = 1 := by kernel_rfl
theorem cells23 : Try.prog.cellsOf 23 = 1 := by kernel_rfl
theorem cells24 : Try.prog.cellsOf 24 = 1 := by kernel_rfl
theorem cells3o : Try.prog.cellsOf 3 = 1 := by kernel_rfl

theorem five {cs : Array Value} (h : cs.size = 5) : ∃ u0 u1 u2 u3 u4, cs = #[u0, u1, u2, u3, u4] := by
  obtain ⟨l⟩ := cs
  match l, h with
  | [u0, u1, u2, u3, u4], _ => exact ⟨u0, u1, u2, u3, u4, rfl⟩
section
variable {P : Program} {H : Type} {enc : TypeId × Value → H} {w : World} {base : Nat} {spare : Nat → Bool} {held : Bool}
theorem trod_struct5 {t : TypeId} {f0 f1 f2 f3 f4 : Field} {fuel : Nat} {cs : List Value} {x : DataW H × List MemPlace} (ht : P.underlying t = some (.struct #[f0, f1, f2, f3, f4])) (h : DataW.trod enc P w base spare held fuel t cs = some x) :
    ∃ y0 y1 y2 y3 y4 n, DataW.trod enc P w base spare held n f0.type ((cs.drop f0.offset).take (P.cellsOf f0.type)) = some y0 ∧
      DataW.trod enc P w base spare held n f1.type ((cs.drop f1.offset).take (P.cellsOf f1.type)) = some y1 ∧ DataW.trod enc P w base spare held n f2.type ((cs.drop f2.offset).take (P.cellsOf f2.type)) = some y2 ∧
      DataW.trod enc P w base spare held n f3.type ((cs.drop f3.offset).take (P.cellsOf f3.type)) = some y3 ∧ DataW.trod enc P w base spare held n f4.type ((cs.drop f4.offset).take (P.cellsOf f4.type)) = some y4 := by
  obtain ⟨xs, n, _, rfl, hl, hlen, hf⟩ := DataW.trod_struct ht h
  match xs, hlen with
  | [y0, y1, y2, y3, y4], _ => exact ⟨y0, y1, y2, y3, y4, n, by simpa using hf 0 f0 rfl, by simpa using hf 1 f1 rfl, by simpa using hf 2 f2 rfl, by simpa using hf 3 f3 rfl, by simpa using hf 4 f4 rfl⟩
end
theorem nil_of {w : World} {L : List Leaf} {k : Nat} {v : Value} {a : Option Addr} {n z : Nat} {o : Ob} {x : Option (Nat × Nat × Nat)} (h : SArg w L k v a n z o x) : NilOk a n z := by
  rintro rfl
  have := h.vr (fun _ => x) (fun y hy => hy)
  cases this
  exact ⟨rfl, rfl⟩
theorem sc_of {w : World} {L : List Leaf} {k m : Nat} {v : Value} {a : Option Addr} {n z : Nat} {o : Ob} {x : Option (Nat × Nat × Nat)} (h : SArg w L k v a n z o x) (hk : k < m) : sc1 m (.slice a n z) = true := by
  cases a with
  | none => obtain ⟨rfl, rfl⟩ := nil_of h rfl; rfl
  | some y =>
    have := h.adr y rfl
    simp only [sc1, sc0, decide_eq_true_eq]
    omega
theorem sliceL_of {w : World} {L : List Leaf} {k : Nat} {v : Value} {a : Option Addr} {n z : Nat} {o : Ob} {x : Option (Nat × Nat × Nat)} {H : List Ob} (h : SArg w L k v a n z o x) (hH : H[k]? = some o) : SliceL L a n z H := by
  rcases h.good with rfl | ⟨rfl, rfl, c, rfl, hg⟩
  · exact .inl rfl
  · have hc : nthO H k = some (.cells c true) := by rw [nthO_eq]; exact hH
    refine .inr ⟨k, 0, rfl, rfl, ?_, ?_⟩
    · unfold isCells; rw [hc]
    · unfold cellsAt; rw [hc]; exact hg
/-- A value that is a task. -/
structure TArg (w : World) (v : Value) (a b d : Option Addr) (n z n2 z2 n3 z3 : Nat) (age shear : Int) (o0 o1 o2 : Ob) (x0 x1 x2 : Option (Nat × Nat × Nat)) : Prop where
  val : ∃ u0 u1 u2, v = .agg #[u0, u1, u2, .int .i64 age, .int .i64 shear] ∧ SArg w L7 0 u0 a n z o0 x0 ∧ SArg w L5 1 u1 b n2 z2 o1 x1 ∧ SArg w L1 2 u2 d n3 z3 o2 x2
section
variable {w : World} {v : Value} {a b d : Option Addr} {n z n2 z2 n3 z3 : Nat} {age shear : Int} {o0 o1 o2 : Ob} {x0 x1 x2 : Option (Nat × Nat × Nat)}
theorem TArg.on (h : TArg w v a b d n z n2 z2 n3 z3 age shear o0 o1 o2 x0 x1 x2) : TaskOn a b d n z n2 z2 n3 z3 [o0, o1, o2] := by
  obtain ⟨u0, u1, u2, rfl, h0, h1, h2⟩ := h.val
  exact ⟨sliceL_of h0 rfl, sliceL_of h1 rfl, sliceL_of h2 rfl, sc_of h0 (by decide), sc_of h1 (by decide), sc_of h2 (by decide)⟩
theorem TArg.obs (h : TArg w v a b d n z n2 z2 n3 z3 age shear o0 o1 o2 x0 x1 x2) : ∀ p ∈ [(o0, x0), (o1, x1), (o2, x2)], (p.1.live = true → ∃ B bs tot, p.2 = some (B, bs, tot) ∧ ∀ φ : Phi, ObR φ w p.1 B bs tot) ∧ p.1.rw = false := by
  obtain ⟨u0, u1, u2, rfl, h0, h1, h2⟩ := h.val
  intro p hp
  simp only [List.mem_cons, List.not_mem_nil, or_false] at hp
  rcases hp with rfl | rfl | rfl
  · exact ⟨h0.live, h0.ro⟩
  · exact ⟨h1.live, h1.ro⟩
  · exact ⟨h2.live, h2.ro⟩
theorem TArg.vr (h : TArg w v a b d n z n2 z2 n3 z3 age shear o0 o1 o2 x0 x1 x2) : VR (phiOf [(o0, x0), (o1, x1), (o2, x2)]) (.agg ⟨[.slice a n z, .slice b n2 z2, .slice d n3 z3, .int .i64 age, .int .i64 shear]⟩) v := by
  obtain ⟨u0, u1, u2, rfl, h0, h1, h2⟩ := h.val
  refine VRs.agg ((((((VRs.nil _).push (h0.vr _ fun y hy => ?_)).push (h1.vr _ fun y hy => ?_)).push (h2.vr _ fun y hy => ?_)).push (.int _ _)).push (.int _ _))
  · simp [phiOf, hy]
  · simp [phiOf, hy]
  · simp [phiOf, hy]
end
set_option maxRecDepth 100000 in
theorem taskArg {H : Type} {enc : TypeId × Value → H} {w : World} {r : Reach} {b0 : Nat} {v : Value} {dd : DataW H} {p : List MemPlace} (hval : Value.okWide Try.prog w r b0 26 v) (h : DataW.Trod enc Try.prog w 0 (fun _ => true) true 26 v dd p) :
    ∃ a b d n z n2 z2 n3 z3 age shear o0 o1 o2 x0 x1 x2, TArg w v a b d n z n2 z2 n3 z3 age shear o0 o1 o2 x0 x1 x2 := by
  obtain ⟨cs, rfl, hcs⟩ := okWide_struct Try.underlying26 hval
  rw [cells26] at hcs
  obtain ⟨u0, u1, u2, u3, u4, rfl⟩ := five hcs
  obtain ⟨fu0, hf0⟩ := h
  obtain ⟨y0, y1, y2, y3, y4, n, t0, t1, t2, t3, t4⟩ := trod_struct5 Try.underlying26 hf0
  have t0' : DataW.trod enc Try.prog w 0 (fun _ => true) true n 22 [u0] = some y0 := by
    have e : List.take (Try.prog.cellsOf 22) (List.drop 0 [u0, u1, u2, u3, u4]) = [u0] := by rw [cells22]; rfl
    rw [← e]; exact t0
  have t1' : DataW.trod enc Try.prog w 0 (fun _ => true) true n 23 [u1] = some y1 := by
    have e : List.take (Try.prog.cellsOf 23) (List.drop 1 [u0, u1, u2, u3, u4]) = [u1] := by rw [cells23]; rfl
    rw [← e]; exact t1
  have t2' : DataW.trod enc Try.prog w 0 (fun _ => true) true n 24 [u2] = some y2 := by
    have e : List.take (Try.prog.cellsOf 24) (List.drop 2 [u0, u1, u2, u3, u4]) = [u2] := by rw [cells24]; rfl
    rw [← e]; exact t2
  have t3' : DataW.trod enc Try.prog w 0 (fun _ => true) true n 3 [u3] = some y3 := by
    have e : List.take (Try.prog.cellsOf 3) (List.drop 3 [u0, u1, u2, u3, u4]) = [u3] := by rw [cells3o]; rfl
    rw [← e]; exact t3
  have t4' : DataW.trod enc Try.prog w 0 (fun _ => true) true n 3 [u4] = some y4 := by
    have e : List.take (Try.prog.cellsOf 3) (List.drop 4 [u0, u1, u2, u3, u4]) = [u4] := by rw [cells3o]; rfl
    rw [← e]; exact t4
  clear t0 t1 t2 t3 t4
  obtain ⟨a0, n0, s0, o0, x0, g0⟩ := sArg Try.underlying22 flat107 cells107 (by rw [leaves107]; decide) t0' 0
  obtain ⟨a1, n1, s1, o1, x1, g1⟩ := sArg Try.underlying23 flat89 cells89 (by rw [leaves89]; decide) t1' 1
  obtain ⟨a2, n2, s2, o2, x2, g2⟩ := sArg Try.underlying24 flat3 cells3 (by rw [leaves3]; decide) t2' 2
  rw [leaves107] at g0
  rw [leaves89] at g1
  rw [leaves3] at g2
  obtain ⟨m3, e3, _, _⟩ := DataW.trod_int Try.underlying3 t3'
  obtain ⟨m4, e4, _, _⟩ := DataW.trod_int Try.underlying3 t4'
  simp only [List.cons.injEq, and_true] at e3 e4
  subst e3 e4
  exact ⟨a0, a1, a2, n0, s0, n1, s1, n2, s2, m3, m4, o0, o1, o2, x0, x1, x2, ⟨u0, u1, u2, rfl, g0, g1, g2⟩⟩
end Go.Proofs.Ytohpmnfplglbdaa

