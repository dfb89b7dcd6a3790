/- Part 13 of the texts below the claim. Conditions: none. -/
import Derived.Test.YtohpmnfplglbdaaMg12
/- hangfireref01.says: one round. Conditions: none. -/
namespace Go.Proofs.Ytohpmnfplglbdaa
open Go.Gh Go.RowKit
noncomputable section
set_option maxRecDepth 100000
theorem tree85 (J : Task → List Value) (c0 c : Array Value) (o2 : Ob) (r : Array Value) (off0 n off n2 : Nat) (off3 n3 : Nat) (age shear src lo hi tick now xl xh yl yh : Int) (sm : Bool) (k : Int) (M : Nat) (y : List Value) :
    evS Try.prog (((sh85.ans J).below mes85 M).or p79) 60 (.code none (.loop (theLoop Try.prog 85 0)) ⟨sets (junkF 70 y) [(1, .int .i64 src), (2, .int .i64 lo), (3, .int .i64 hi), (4, .int .i64 tick), (5, .int .i64 now), (6, pp 3), (12, pp 4), (13, pp 5), (14, .int .i64 k)], [], ⟨[.cells c0 true, .cells c true, o2, .cells ⟨[.slice (some ⟨0, off0, none⟩) n 7, .slice (some ⟨1, off, none⟩) n2 5, .slice (some ⟨2, off3, none⟩) n3 1, .int .i64 age, .int .i64 shear]⟩ false, .cells r false, .cells ⟨[.bool sm, .int .i64 xl, .int .i64 xh, .int .i64 yl, .int .i64 yh]⟩ false], 3, []⟩⟩) (sumK 6 70 pick85) =
    cond (decide (k < (Int.ofNat n2)))
    (cond (and (decide ((0 : Int) ≤ k)) (decide (k < (Int.ofNat n2))))
     (cond (and true (rdOk c [(Leaf.int .i64), (Leaf.int .i64), (Leaf.int .i64), (Leaf.int .i64), (Leaf.int .i64)] (off + ((Int.toNat k) * 5))))
      (cond (not (decide ((getInt c (off + ((Int.toNat k) * 5))) = src)))
       (cond (Nat.blt (Nat.sub n2 (Int.toNat (IntKind.wrap .i64 (k + (1 : Int))))) M)
        (cond (eqCode (theLoop Try.prog 85 0) (theLoop Try.prog 85 0))
         (cond (ok85 c0 off0 n c off n2 (Option.some (Addr.mk 2 off3 Option.none)) n3 1 age shear lo hi tick now xl xh yl yh o2 r (IntKind.wrap .i64 (k + (1 : Int))))
          (some (Out.ex (Ex.exit 0) (St.mk [(Value.pointer (Option.some (Addr.mk 4 0 Option.none))), (Value.pointer (Option.some (Addr.mk 5 0 Option.none)))] [] (Hp.mk [(Ob.cells c0 true), (Ob.cells c true), o2, (Ob.cells ⟨[(Value.slice (Option.some (Addr.mk 0 off0 Option.none)) n 7), (Value.slice (Option.some (Addr.mk 1 off Option.none)) n2 5), (Value.slice (Option.some (Addr.mk 2 off3 Option.none)) n3 1), (Value.int .i64 age), (Value.int .i64 shear)]⟩ false), (Ob.cells r false), (Ob.cells ⟨[(Value.bool (hSm c0 off0 c off age shear lo hi tick now 117 src (n2 - (Int.toNat (IntKind.wrap .i64 (k + (1 : Int))))) (Int.toNat (IntKind.wrap .i64 (k + (1 : Int)))) xl xh yl yh sm)), (Value.int .i64 (hXl c0 off0 c off age shear lo hi tick now 117 src (n2 - (Int.toNat (IntKind.wrap .i64 (k + (1 : Int))))) (Int.toNat (IntKind.wrap .i64 (k + (1 : Int)))) xl xh yl yh sm)), (Value.int .i64 (hXh c0 off0 c off age shear lo hi tick now 117 src (n2 - (Int.toNat (IntKind.wrap .i64 (k + (1 : Int))))) (Int.toNat (IntKind.wrap .i64 (k + (1 : Int)))) xl xh yl yh sm)), (Value.int .i64 (hYl c0 off0 c off age shear lo hi tick now 117 src (n2 - (Int.toNat (IntKind.wrap .i64 (k + (1 : Int))))) (Int.toNat (IntKind.wrap .i64 (k + (1 : Int)))) xl xh yl yh sm)), (Value.int .i64 (hYh c0 off0 c off age shear lo hi tick now 117 src (n2 - (Int.toNat (IntKind.wrap .i64 (k + (1 : Int))))) (Int.toNat (IntKind.wrap .i64 (k + (1 : Int)))) xl xh yl yh sm))]⟩ false)] 70 []))))
          (none))
         (none))
        (none))
       (cond (and (decide ((0 : Int) ≤ k)) (decide (k < (Int.ofNat n2))))
        (cond (and true (rdOk c [(Leaf.int .i64), (Leaf.int .i64), (Leaf.int .i64), (Leaf.int .i64), (Leaf.int .i64)] (off + ((Int.toNat k) * 5))))
         (cond (and (decide ((0 : Int) ≤ (getInt c (off + ((Int.toNat k) * 5))))) (decide ((getInt c (off + ((Int.toNat k) * 5))) < (Int.ofNat n))))
          (cond (and true (rdOk c0 [Leaf.str, (Leaf.int .i64), (Leaf.int .i64), (Leaf.int .i64), (Leaf.int .i64), (Leaf.int .i64), (Leaf.int .i64)] (off0 + ((Int.toNat (getInt c (off + ((Int.toNat k) * 5)))) * 7))))
           (cond (decide ((IntKind.wrap .i64 ((getInt c ((off + ((Int.toNat k) * 5)) + 1)) + (getInt c0 ((((off0 + ((Int.toNat (getInt c (off + ((Int.toNat k) * 5)))) * 7)) + 1) + 1) + 1)))) ≤ now))
            (cond (not (decide ((IntKind.wrap .i64 (now - (getInt c ((off + ((Int.toNat k) * 5)) + 1)))) ≤ (getInt c0 (((((off0 + ((Int.toNat (getInt c (off + ((Int.toNat k) * 5)))) * 7)) + 1) + 1) + 1) + 1)))))
             (cond (Nat.blt (Nat.sub n2 (Int.toNat (IntKind.wrap .i64 (k + (1 : Int))))) M)
              (cond (eqCode (theLoop Try.prog 85 0) (theLoop Try.prog 85 0))
               (cond (ok85 c0 off0 n c off n2 (Option.some (Addr.mk 2 off3 Option.none)) n3 1 age shear lo hi tick now xl xh yl yh o2 r (IntKind.wrap .i64 (k + (1 : Int))))
                (some (Out.ex (Ex.exit 0) (St.mk [(Value.pointer (Option.some (Addr.mk 4 0 Option.none))), (Value.pointer (Option.some (Addr.mk 5 0 Option.none)))] [] (Hp.mk [(Ob.cells c0 true), (Ob.cells c true), o2, (Ob.cells ⟨[(Value.slice (Option.some (Addr.mk 0 off0 Option.none)) n 7), (Value.slice (Option.some (Addr.mk 1 off Option.none)) n2 5), (Value.slice (Option.some (Addr.mk 2 off3 Option.none)) n3 1), (Value.int .i64 age), (Value.int .i64 shear)]⟩ false), (Ob.cells r false), (Ob.cells ⟨[(Value.bool (hSm c0 off0 c off age shear lo hi tick now 117 src (n2 - (Int.toNat (IntKind.wrap .i64 (k + (1 : Int))))) (Int.toNat (IntKind.wrap .i64 (k + (1 : Int)))) xl xh yl yh sm)), (Value.int .i64 (hXl c0 off0 c off age shear lo hi tick now 117 src (n2 - (Int.toNat (IntKind.wrap .i64 (k + (1 : Int))))) (Int.toNat (IntKind.wrap .i64 (k + (1 : Int)))) xl xh yl yh sm)), (Value.int .i64 (hXh c0 off0 c off age shear lo hi tick now 117 src (n2 - (Int.toNat (IntKind.wrap .i64 (k + (1 : Int))))) (Int.toNat (IntKind.wrap .i64 (k + (1 : Int)))) xl xh yl yh sm)), (Value.int .i64 (hYl c0 off0 c off age shear lo hi tick now 117 src (n2 - (Int.toNat (IntKind.wrap .i64 (k + (1 : Int))))) (Int.toNat (IntKind.wrap .i64 (k + (1 : Int)))) xl xh yl yh sm)), (Value.int .i64 (hYh c0 off0 c off age shear lo hi tick now 117 src (n2 - (Int.toNat (IntKind.wrap .i64 (k + (1 : Int))))) (Int.toNat (IntKind.wrap .i64 (k + (1 : Int)))) xl xh yl yh sm))]⟩ false)] 70 []))))
                (none))
               (none))
              (none))
             (cond (ok79 c0 off0 n c off n2 (Option.some (Addr.mk 2 off3 Option.none)) n3 1 age shear o2 k)
              (cond (ok79 c0 off0 n c off n2 (Option.some (Addr.mk 2 off3 Option.none)) n3 1 age shear o2 k)
               (cond (and (decide ((Addr.mk 0 off0 Option.none) = (Addr.mk 0 off0 Option.none))) (and (decide (n = n)) true))
                (cond (and (decide ((Addr.mk 1 off Option.none) = (Addr.mk 1 off Option.none))) (and (decide (n2 = n2)) true))
                 (cond (and (decide ((Addr.mk 2 off3 Option.none) = (Addr.mk 2 off3 Option.none))) (and (decide (n3 = n3)) true))
                  (cond (decide (age = age))
                   (cond (decide (shear = shear))
                    (cond (and (decide ((Addr.mk 0 off0 Option.none) = (Addr.mk 0 off0 Option.none))) (and (decide (n = n)) true))
                     (cond (and (decide ((Addr.mk 1 off Option.none) = (Addr.mk 1 off Option.none))) (and (decide (n2 = n2)) true))
                      (cond (and (decide ((Addr.mk 2 off3 Option.none) = (Addr.mk 2 off3 Option.none))) (and (decide (n3 = n3)) true))
                       (cond (decide (age = age))
                        (cond (decide (shear = shear))
                         (cond (decide (xl = xl))
                          (cond (decide (xh = xh))
                           (cond (decide (xl = xl))
                            (cond (decide (xh = xh))
                             (cond (decide (yl = yl))
                              (cond (decide (yh = yh))
                               (cond (decide (yl = yl))
                                (cond (decide (yh = yh))
                                 (cond (decide ((getInt c (((((off + ((Int.toNat k) * 5)) + 1) + 1) + 1) + 1)) = (getInt c (((((off + ((Int.toNat k) * 5)) + 1) + 1) + 1) + 1))))
                                  (cond (decide ((getInt c (((((off + ((Int.toNat k) * 5)) + 1) + 1) + 1) + 1)) = (getInt c (((((off + ((Int.toNat k) * 5)) + 1) + 1) + 1) + 1))))
                                   (cond (decide (yl = yl))
                                    (cond (decide (yh = yh))
                                     (cond (decide (yl = yl))
                                      (cond (decide (yh = yh))
                                       (cond (decide ((getInt c (((((off + ((Int.toNat k) * 5)) + 1) + 1) + 1) + 1)) = (getInt c (((((off + ((Int.toNat k) * 5)) + 1) + 1) + 1) + 1))))
                                        (cond (decide ((getInt c (((((off + ((Int.toNat k) * 5)) + 1) + 1) + 1) + 1)) = (getInt c (((((off + ((Int.toNat k) * 5)) + 1) + 1) + 1) + 1))))
                                         (cond (decide (yl = yl))
                                          (cond (decide (yh = yh))
                                           (cond (decide (yl = yl))
                                            (cond (decide (yh = yh))
                                             (cond (Nat.blt (Nat.sub n2 (Int.toNat (IntKind.wrap .i64 (k + (1 : Int))))) M)
                                              (cond (eqCode (theLoop Try.prog 85 0) (theLoop Try.prog 85 0))
                                               (cond (ok85 c0 off0 n c off n2 (Option.some (Addr.mk 2 off3 Option.none)) n3 1 age shear lo hi tick now (max xl (IntKind.wrap .i64 ((getInt c ((((off + ((Int.toNat k) * 5)) + 1) + 1) + 1)) - (max (d1W c0 off0 c off age shear lo tick (Int.toNat k)) (d1W c0 off0 c off age shear hi tick (Int.toNat k)))))) (min xh (IntKind.wrap .i64 ((getInt c ((((off + ((Int.toNat k) * 5)) + 1) + 1) + 1)) + (max (d1W c0 off0 c off age shear lo tick (Int.toNat k)) (d1W c0 off0 c off age shear hi tick (Int.toNat k)))))) (max yl (IntKind.wrap .i64 ((getInt c (((((off + ((Int.toNat k) * 5)) + 1) + 1) + 1) + 1)) - (max (d1W c0 off0 c off age shear lo tick (Int.toNat k)) (d1W c0 off0 c off age shear hi tick (Int.toNat k)))))) (min yh (IntKind.wrap .i64 ((getInt c (((((off + ((Int.toNat k) * 5)) + 1) + 1) + 1) + 1)) + (max (d1W c0 off0 c off age shear lo tick (Int.toNat k)) (d1W c0 off0 c off age shear hi tick (Int.toNat k)))))) o2 r (IntKind.wrap .i64 (k + (1 : Int))))
                                                (some (Out.ex (Ex.exit 0) (St.mk [(Value.pointer (Option.some (Addr.mk 4 0 Option.none))), (Value.pointer (Option.some (Addr.mk 5 0 Option.none)))] [] (Hp.mk [(Ob.cells c0 true), (Ob.cells c true), o2, (Ob.cells ⟨[(Value.slice (Option.some (Addr.mk 0 off0 Option.none)) n 7), (Value.slice (Option.some (Addr.mk 1 off Option.none)) n2 5), (Value.slice (Option.some (Addr.mk 2 off3 Option.none)) n3 1), (Value.int .i64 age), (Value.int .i64 shear)]⟩ false), (Ob.cells r false), (Ob.cells ⟨[(Value.bool (hSm c0 off0 c off age shear lo hi tick now 117 src (n2 - (Int.toNat (IntKind.wrap .i64 (k + (1 : Int))))) (Int.toNat (IntKind.wrap .i64 (k + (1 : Int)))) (max xl (IntKind.wrap .i64 ((getInt c ((((off + ((Int.toNat k) * 5)) + 1) + 1) + 1)) - (max (d1W c0 off0 c off age shear lo tick (Int.toNat k)) (d1W c0 off0 c off age shear hi tick (Int.toNat k)))))) (min xh (IntKind.wrap .i64 ((getInt c ((((off + ((Int.toNat k) * 5)) + 1) + 1) + 1)) + (max (d1W c0 off0 c off age shear lo tick (Int.toNat k)) (d1W c0 off0 c off age shear hi tick (Int.toNat k)))))) (max yl (IntKind.wrap .i64 ((getInt c (((((off + ((Int.toNat k) * 5)) + 1) + 1) + 1) + 1)) - (max (d1W c0 off0 c off age shear lo tick (Int.toNat k)) (d1W c0 off0 c off age shear hi tick (Int.toNat k)))))) (min yh (IntKind.wrap .i64 ((getInt c (((((off + ((Int.toNat k) * 5)) + 1) + 1) + 1) + 1)) + (max (d1W c0 off0 c off age shear lo tick (Int.toNat k)) (d1W c0 off0 c off age shear hi tick (Int.toNat k)))))) true)), (Value.int .i64 (hXl c0 off0 c off age shear lo hi tick now 117 src (n2 - (Int.toNat (IntKind.wrap .i64 (k + (1 : Int))))) (Int.toNat (IntKind.wrap .i64 (k + (1 : Int)))) (max xl (IntKind.wrap .i64 ((getInt c ((((off + ((Int.toNat k) * 5)) + 1) + 1) + 1)) - (max (d1W c0 off0 c off age shear lo tick (Int.toNat k)) (d1W c0 off0 c off age shear hi tick (Int.toNat k)))))) (min xh (IntKind.wrap .i64 ((getInt c ((((off + ((Int.toNat k) * 5)) + 1) + 1) + 1)) + (max (d1W c0 off0 c off age shear lo tick (Int.toNat k)) (d1W c0 off0 c off age shear hi tick (Int.toNat k)))))) (max yl (IntKind.wrap .i64 ((getInt c (((((off + ((Int.toNat k) * 5)) + 1) + 1) + 1) + 1)) - (max (d1W c0 off0 c off age shear lo tick (Int.toNat k)) (d1W c0 off0 c off age shear hi tick (Int.toNat k)))))) (min yh (IntKind.wrap .i64 ((getInt c (((((off + ((Int.toNat k) * 5)) + 1) + 1) + 1) + 1)) + (max (d1W c0 off0 c off age shear lo tick (Int.toNat k)) (d1W c0 off0 c off age shear hi tick (Int.toNat k)))))) true)), (Value.int .i64 (hXh c0 off0 c off age shear lo hi tick now 117 src (n2 - (Int.toNat (IntKind.wrap .i64 (k + (1 : Int))))) (Int.toNat (IntKind.wrap .i64 (k + (1 : Int)))) (max xl (IntKind.wrap .i64 ((getInt c ((((off + ((Int.toNat k) * 5)) + 1) + 1) + 1)) - (max (d1W c0 off0 c off age shear lo tick (Int.toNat k)) (d1W c0 off0 c off age shear hi tick (Int.toNat k)))))) (min xh (IntKind.wrap .i64 ((getInt c ((((off + ((Int.toNat k) * 5)) + 1) + 1) + 1)) + (max (d1W c0 off0 c off age shear lo tick (Int.toNat k)) (d1W c0 off0 c off age shear hi tick (Int.toNat k)))))) (max yl (IntKind.wrap .i64 ((getInt c (((((off + ((Int.toNat k) * 5)) + 1) + 1) + 1) + 1)) - (max (d1W c0 off0 c off age shear lo tick (Int.toNat k)) (d1W c0 off0 c off age shear hi tick (Int.toNat k)))))) (min yh (IntKind.wrap .i64 ((getInt c (((((off + ((Int.toNat k) * 5)) + 1) + 1) + 1) + 1)) + (max (d1W c0 off0 c off age shear lo tick (Int.toNat k)) (d1W c0 off0 c off age shear hi tick (Int.toNat k)))))) true)), (Value.int .i64 (hYl c0 off0 c off age shear lo hi tick now 117 src (n2 - (Int.toNat (IntKind.wrap .i64 (k + (1 : Int))))) (Int.toNat (IntKind.wrap .i64 (k + (1 : Int)))) (max xl (IntKind.wrap .i64 ((getInt c ((((off + ((Int.toNat k) * 5)) + 1) + 1) + 1)) - (max (d1W c0 off0 c off age shear lo tick (Int.toNat k)) (d1W c0 off0 c off age shear hi tick (Int.toNat k)))))) (min xh (IntKind.wrap .i64 ((getInt c ((((off + ((Int.toNat k) * 5)) + 1) + 1) + 1)) + (max (d1W c0 off0 c off age shear lo tick (Int.toNat k)) (d1W c0 off0 c off age shear hi tick (Int.toNat k)))))) (max yl (IntKind.wrap .i64 ((getInt c (((((off + ((Int.toNat k) * 5)) + 1) + 1) + 1) + 1)) - (max (d1W c0 off0 c off age shear lo tick (Int.toNat k)) (d1W c0 off0 c off age shear hi tick (Int.toNat k)))))) (min yh (IntKind.wrap .i64 ((getInt c (((((off + ((Int.toNat k) * 5)) + 1) + 1) + 1) + 1)) + (max (d1W c0 off0 c off age shear lo tick (Int.toNat k)) (d1W c0 off0 c off age shear hi tick (Int.toNat k)))))) true)), (Value.int .i64 (hYh c0 off0 c off age shear lo hi tick now 117 src (n2 - (Int.toNat (IntKind.wrap .i64 (k + (1 : Int))))) (Int.toNat (IntKind.wrap .i64 (k + (1 : Int)))) (max xl (IntKind.wrap .i64 ((getInt c ((((off + ((Int.toNat k) * 5)) + 1) + 1) + 1)) - (max (d1W c0 off0 c off age shear lo tick (Int.toNat k)) (d1W c0 off0 c off age shear hi tick (Int.toNat k)))))) (min xh (IntKind.wrap .i64 ((getInt c ((((off + ((Int.toNat k) * 5)) + 1) + 1) + 1)) + (max (d1W c0 off0 c off age shear lo tick (Int.toNat k)) (d1W c0 off0 c off age shear hi tick (Int.toNat k)))))) (max yl (IntKind.wrap .i64 ((getInt c (((((off + ((Int.toNat k) * 5)) + 1) + 1) + 1) + 1)) - (max (d1W c0 off0 c off age shear lo tick (Int.toNat k)) (d1W c0 off0 c off age shear hi tick (Int.toNat k)))))) (min yh (IntKind.wrap .i64 ((getInt c (((((off + ((Int.toNat k) * 5)) + 1) + 1) + 1) + 1)) + (max (d1W c0 off0 c off age shear lo tick (Int.toNat k)) (d1W c0 off0 c off age shear hi tick (Int.toNat k)))))) true))]⟩ false)] 70 []))))
                                                (none))
                                               (none))
                                              (none))
                                             (none))
                                            (none))
                                           (none))
                                          (none))
                                         (none))
                                        (none))
                                       (none))
                                      (none))
                                     (none))
                                    (none))
                                   (none))
                                  (none))
                                 (none))
                                (none))
                               (none))
                              (none))
                             (none))
                            (none))
                           (none))
                          (none))
                         (none))
                        (none))
                       (none))
                      (none))
                     (none))
                    (none))
                   (none))
                  (none))
                 (none))
                (none))
               (none))
              (none)))
            (cond (Nat.blt (Nat.sub n2 (Int.toNat (IntKind.wrap .i64 (k + (1 : Int))))) M)
             (cond (eqCode (theLoop Try.prog 85 0) (theLoop Try.prog 85 0))
              (cond (ok85 c0 off0 n c off n2 (Option.some (Addr.mk 2 off3 Option.none)) n3 1 age shear lo hi tick now xl xh yl yh o2 r (IntKind.wrap .i64 (k + (1 : Int))))
               (some (Out.ex (Ex.exit 0) (St.mk [(Value.pointer (Option.some (Addr.mk 4 0 Option.none))), (Value.pointer (Option.some (Addr.mk 5 0 Option.none)))] [] (Hp.mk [(Ob.cells c0 true), (Ob.cells c true), o2, (Ob.cells ⟨[(Value.slice (Option.some (Addr.mk 0 off0 Option.none)) n 7), (Value.slice (Option.some (Addr.mk 1 off Option.none)) n2 5), (Value.slice (Option.some (Addr.mk 2 off3 Option.none)) n3 1), (Value.int .i64 age), (Value.int .i64 shear)]⟩ false), (Ob.cells r false), (Ob.cells ⟨[(Value.bool (hSm c0 off0 c off age shear lo hi tick now 117 src (n2 - (Int.toNat (IntKind.wrap .i64 (k + (1 : Int))))) (Int.toNat (IntKind.wrap .i64 (k + (1 : Int)))) xl xh yl yh sm)), (Value.int .i64 (hXl c0 off0 c off age shear lo hi tick now 117 src (n2 - (Int.toNat (IntKind.wrap .i64 (k + (1 : Int))))) (Int.toNat (IntKind.wrap .i64 (k + (1 : Int)))) xl xh yl yh sm)), (Value.int .i64 (hXh c0 off0 c off age shear lo hi tick now 117 src (n2 - (Int.toNat (IntKind.wrap .i64 (k + (1 : Int))))) (Int.toNat (IntKind.wrap .i64 (k + (1 : Int)))) xl xh yl yh sm)), (Value.int .i64 (hYl c0 off0 c off age shear lo hi tick now 117 src (n2 - (Int.toNat (IntKind.wrap .i64 (k + (1 : Int))))) (Int.toNat (IntKind.wrap .i64 (k + (1 : Int)))) xl xh yl yh sm)), (Value.int .i64 (hYh c0 off0 c off age shear lo hi tick now 117 src (n2 - (Int.toNat (IntKind.wrap .i64 (k + (1 : Int))))) (Int.toNat (IntKind.wrap .i64 (k + (1 : Int)))) xl xh yl yh sm))]⟩ false)] 70 []))))
               (none))
              (none))
             (none)))
           (none))
          (none))
         (none))
        (none)))
      (none))
     (none))
    (some (Out.ex (Ex.exit 0) (St.mk [(Value.pointer (Option.some (Addr.mk 4 0 Option.none))), (Value.pointer (Option.some (Addr.mk 5 0 Option.none)))] [] (Hp.mk [(Ob.cells c0 true), (Ob.cells c true), o2, (Ob.cells ⟨[(Value.slice (Option.some (Addr.mk 0 off0 Option.none)) n 7), (Value.slice (Option.some (Addr.mk 1 off Option.none)) n2 5), (Value.slice (Option.some (Addr.mk 2 off3 Option.none)) n3 1), (Value.int .i64 age), (Value.int .i64 shear)]⟩ false), (Ob.cells r false), (Ob.cells ⟨[(Value.bool sm), (Value.int .i64 xl), (Value.int .i64 xh), (Value.int .i64 yl), (Value.int .i64 yh)]⟩ false)] 70 [])))) := by kernel_rfl
end
end Go.Proofs.Ytohpmnfplglbdaa

/- hangfireref01.says: its loop. Conditions: none. -/
namespace Go.Proofs.Ytohpmnfplglbdaa
open Go.Gh Go.RowKit
noncomputable section
set_option maxRecDepth 100000
set_option linter.unusedSimpArgs false
set_option linter.unusedVariables false
def d1I (c0 : Array Value) (off0 : Nat) (c : Array Value) (off : Nat) (age shear h tick : Int) (k : Nat) : Int :=
  getInt c0 (off0 + (getInt c (off + k * 5)).toNat * 7 + 2) + age * begunI (absI (getInt c (off + k * 5 + 1)) tick) 600 + shear * begunI (absI (getInt c (off + k * 5 + 2)) h) 100000
theorem d1_core {err tk h age shear lo tick : Int} (e0 : 0 ≤ err) (e1 : err ≤ 5000) (t0 : 0 ≤ tk) (t1 : tk ≤ 100000) (k0 : 0 ≤ tick) (k1 : tick ≤ 100000) (h0 : 0 ≤ h) (h1 : h ≤ 99999999) (l0 : 0 ≤ lo) (l1 : lo ≤ 100000000)
    (a0 : 0 ≤ age) (a1 : age ≤ 1000) (s0 : 0 ≤ shear) (s1 : shear ≤ 1000) :
    IntKind.i64.wrap (IntKind.i64.wrap (err + IntKind.i64.wrap (age * IntKind.i64.wrap (Int.tdiv (IntKind.i64.wrap (IntKind.i64.wrap (max (IntKind.i64.wrap (tk - tick)) (IntKind.i64.wrap (tick - tk)) + 600) - 1)) 600))) +
      IntKind.i64.wrap (shear * IntKind.i64.wrap (Int.tdiv (IntKind.i64.wrap (IntKind.i64.wrap (max (IntKind.i64.wrap (h - lo)) (IntKind.i64.wrap (lo - h)) + 100000) - 1)) 100000))) =
    err + age * begunI (absI tk tick) 600 + shear * begunI (absI h lo) 100000 := by
  have A0 : 0 ≤ absI tk tick := by unfold absI; omega
  have A1 : absI tk tick ≤ 100000 := by unfold absI; omega
  have B0 : 0 ≤ absI h lo := by unfold absI; omega
  have B1 : absI h lo ≤ 100000000 := by unfold absI; omega
  obtain ⟨C0, C1⟩ := begun_bd (s := 600) (by omega) A0 A1
  obtain ⟨D0, D1⟩ := begun_bd (s := 100000) (by omega) B0 B1
  have C2 : begunI (absI tk tick) 600 ≤ 168 := by omega
  have D2 : begunI (absI h lo) 100000 ≤ 1001 := by omega
  have E0 : 0 ≤ age * begunI (absI tk tick) 600 := Int.mul_nonneg a0 C0
  have E1 : age * begunI (absI tk tick) 600 ≤ 1000 * 168 := Int.mul_le_mul a1 C2 C0 (by omega)
  have F0 : 0 ≤ shear * begunI (absI h lo) 100000 := Int.mul_nonneg s0 D0
  have F1 : shear * begunI (absI h lo) 100000 ≤ 1000 * 1001 := Int.mul_le_mul s1 D2 D0 (by omega)
  rw [wrap64_id (x := tk - tick) (by omega) (by omega), wrap64_id (x := tick - tk) (by omega) (by omega), wrap64_id (x := h - lo) (by omega) (by omega), wrap64_id (x := lo - h) (by omega) (by omega)]
  have ga : max (tk - tick) (tick - tk) = absI tk tick := rfl
  have gl : max (h - lo) (lo - h) = absI h lo := rfl
  rw [ga, gl]
  generalize absI tk tick = A at *
  generalize absI h lo = B at *
  rw [wrap64_id (x := A + 600) (by omega) (by omega), wrap64_id (x := A + 600 - 1) (by omega) (by omega), wrap64_id (x := B + 100000) (by omega) (by omega), wrap64_id (x := B + 100000 - 1) (by omega) (by omega)]
  have gA : Int.tdiv (A + 600 - 1) 600 = begunI A 600 := rfl
  have gB : Int.tdiv (B + 100000 - 1) 100000 = begunI B 100000 := rfl
  rw [gA, gB, wrap64_id (x := begunI A 600) (by omega) (by omega), wrap64_id (x := begunI B 100000) (by omega) (by omega), wrap64_id (x := age * begunI A 600) (by omega) (by omega), wrap64_id (x := shear * begunI B 100000) (by omega) (by omega),
    wrap64_id (x := err + age * begunI A 600) (by omega) (by omega), wrap64_id (by omega) (by omega)]
theorem d1W_eq {c0 : Array Value} {off0 n : Nat} {c : Array Value} {off n2 : Nat} {age shear h tick : Int} (hv : Vld c0 off0 n c off n2 age shear) (h0 : 0 ≤ h) (h1 : h ≤ 100000000) (t0 : 0 ≤ tick) (t1 : tick ≤ 100000) {k : Nat} (hk : k < n2) :
    d1W c0 off0 c off age shear h tick k = d1I c0 off0 c off age shear h tick k := by
  have hs := hv.src k hk
  have hi : (getInt c (off + k * 5)).toNat < n := by omega
  exact d1_core (hv.err _ hi).1 (hv.err _ hi).2 (hv.tick k hk).1 (hv.tick k hk).2 t0 t1 (hv.height k hk).1 (hv.height k hk).2 h0 h1 hv.age.1 hv.age.2 hv.shear.1 hv.shear.2
theorem begun_mono {a b s : Int} (hs : 0 < s) (h0 : 0 ≤ a) (h : a ≤ b) : begunI a s ≤ begunI b s := by
  unfold begunI
  rw [Int.tdiv_eq_ediv_of_nonneg (by omega), Int.tdiv_eq_ediv_of_nonneg (by omega)]
  exact Int.ediv_le_ediv hs (by omega)
theorem d1_max {c0 : Array Value} {off0 : Nat} {c : Array Value} {off : Nat} {age shear lo hi tick : Int} {k : Nat} (hs : 0 ≤ shear) : max (d1I c0 off0 c off age shear lo tick k) (d1I c0 off0 c off age shear hi tick k) = dbI c0 off0 c off age shear lo hi tick k := by
  unfold d1I dbI
  have h1 : 0 ≤ absI (getInt c (off + k * 5 + 2)) lo := by unfold absI; omega
  have h2 : 0 ≤ absI (getInt c (off + k * 5 + 2)) hi := by unfold absI; omega
  generalize absI (getInt c (off + k * 5 + 2)) lo = a at *
  generalize absI (getInt c (off + k * 5 + 2)) hi = b at *
  generalize getInt c0 (off0 + (getInt c (off + k * 5)).toNat * 7 + 2) + age * begunI (absI (getInt c (off + k * 5 + 1)) tick) 600 = e
  rcases Int.le_total a b with h | h
  · have := Int.mul_le_mul_of_nonneg_left (begun_mono (s := 100000) (by omega) h1 h) hs
    rw [Int.max_eq_right h]
    omega
  · have := Int.mul_le_mul_of_nonneg_left (begun_mono (s := 100000) (by omega) h2 h) hs
    rw [Int.max_eq_left h]
    omega
theorem step85 (J : Task → List Value) {c0 c : Array Value} {o2 : Ob} {r : Array Value} {off0 n off n2 off3 n3 : Nat} {age shear src lo hi tick now xl xh yl yh : Int} {sm : Bool} {k M : Nat} (y : List Value)
    (hv : Vld c0 off0 n c off n2 age shear) (hq : Qst lo hi tick now) (hd : sc1 3 (.slice (some ⟨2, off3, none⟩) n3 1) = true) (ho2 : grOb o2) (hr : r.toList.all g0 = true)
    (b1 : -100000000 ≤ xl) (b2 : xl ≤ 100000000) (b3 : -100000000 ≤ xh) (b4 : xh ≤ 100000000) (b5 : -100000000 ≤ yl) (b6 : yl ≤ 100000000) (b7 : -100000000 ≤ yh) (b8 : yh ≤ 100000000) (hM : k < n2 → (Nat.sub n2 (k + 1)).blt M = true) :
    evS Try.prog (((sh85.ans J).below mes85 M).or p79) 60 (.code none (.loop (theLoop Try.prog 85 0)) ⟨sets (junkF 70 y) [(1, .int .i64 src), (2, .int .i64 lo), (3, .int .i64 hi), (4, .int .i64 tick), (5, .int .i64 now), (6, pp 3), (12, pp 4), (13, pp 5), (14, .int .i64 (k : Int))], [], ⟨[.cells c0 true, .cells c true, o2, .cells ⟨[.slice (some ⟨0, off0, none⟩) n 7, .slice (some ⟨1, off, none⟩) n2 5, .slice (some ⟨2, off3, none⟩) n3 1, .int .i64 age, .int .i64 shear]⟩ false, .cells r false, .cells ⟨[.bool sm, .int .i64 xl, .int .i64 xh, .int .i64 yl, .int .i64 yh]⟩ false], 3, []⟩⟩) (sumK 6 70 pick85) =
      some (.ex (.exit 0) ⟨[pp 4, pp 5], [], ⟨[.cells c0 true, .cells c true, o2, .cells ⟨[.slice (some ⟨0, off0, none⟩) n 7, .slice (some ⟨1, off, none⟩) n2 5, .slice (some ⟨2, off3, none⟩) n3 1, .int .i64 age, .int .i64 shear]⟩ false, .cells r false, .cells ⟨[.bool (hSm c0 off0 c off age shear lo hi tick now 117 src (n2 - k) k xl xh yl yh sm), .int .i64 (hXl c0 off0 c off age shear lo hi tick now 117 src (n2 - k) k xl xh yl yh sm), .int .i64 (hXh c0 off0 c off age shear lo hi tick now 117 src (n2 - k) k xl xh yl yh sm), .int .i64 (hYl c0 off0 c off age shear lo hi tick now 117 src (n2 - k) k xl xh yl yh sm), .int .i64 (hYh c0 off0 c off age shear lo hi tick now 117 src (n2 - k) k xl xh yl yh sm)]⟩ false], 70, []⟩⟩) := by
  rw [tree85]
  by_cases hin : (k : Int) < n2
  · obtain ⟨m, hm⟩ : ∃ m, n2 - k = m + 1 := ⟨n2 - k - 1, by omega⟩
    have hkn2 : k < n2 := by omega
    have hm' : n2 - (k + 1) = m := by omega
    have hfew := hv.few2
    have hw : IntKind.i64.wrap ((k : Int) + 1) = ((k + 1 : Nat) : Int) := by rw [wrap64_id (by omega) (by omega)]; rfl
    have hme := hM hkn2
    obtain ⟨s0, s1⟩ := hv.src k hkn2
    have hsn : (getInt c (off + k * 5)).toNat < n := by omega
    have rd5 : rdOk c [.int .i64, .int .i64, .int .i64, .int .i64, .int .i64] (off + k * 5) = true := hv.g1.2 k hkn2
    have rd7 : rdOk c0 [.str, .int .i64, .int .i64, .int .i64, .int .i64, .int .i64, .int .i64] (off0 + (getInt c (off + k * 5)).toNat * 7) = true := hv.g0.2 _ hsn
    have tk := hv.tick k hkn2
    have lt := hv.late _ hsn
    have w1 : IntKind.i64.wrap (getInt c (off + k * 5 + 1) + getInt c0 (off0 + (getInt c (off + k * 5)).toNat * 7 + 1 + 1 + 1)) = getInt c (off + k * 5 + 1) + getInt c0 (off0 + (getInt c (off + k * 5)).toNat * 7 + 1 + 1 + 1) := by
      have : getInt c0 (off0 + (getInt c (off + k * 5)).toNat * 7 + 3) = getInt c0 (off0 + (getInt c (off + k * 5)).toNat * 7 + 1 + 1 + 1) := rfl
      exact wrap64_id (by omega) (by omega)
    have w2 : IntKind.i64.wrap (now - getInt c (off + k * 5 + 1)) = now - getInt c (off + k * 5 + 1) := by
      have := hq.now
      exact wrap64_id (by omega) (by omega)
    obtain ⟨dbw, d0, d1⟩ := dbW_eq hv hq hkn2
    have dl := d1W_eq hv hq.lo.1 hq.lo.2 hq.tick.1 hq.tick.2 hkn2
    have dh := d1W_eq hv hq.hi.1 hq.hi.2 hq.tick.1 hq.tick.2 hkn2
    have dm := d1_max (c0 := c0) (off0 := off0) (c := c) (off := off) (age := age) (lo := lo) (hi := hi) (tick := tick) (k := k) hv.shear.1
    have hx : -20000 ≤ getInt c (off + k * 5 + 1 + 1 + 1) ∧ getInt c (off + k * 5 + 1 + 1 + 1) ≤ 20000 := hv.x k hkn2
    have hy : -20000 ≤ getInt c (off + k * 5 + 1 + 1 + 1 + 1) ∧ getInt c (off + k * 5 + 1 + 1 + 1 + 1) ≤ 20000 := hv.y k hkn2
    have x1 : IntKind.i64.wrap (getInt c (off + k * 5 + 1 + 1 + 1) - dbI c0 off0 c off age shear lo hi tick k) = getInt c (off + k * 5 + 3) - dbI c0 off0 c off age shear lo hi tick k := wrap64_id (by omega) (by omega)
    have x2 : IntKind.i64.wrap (getInt c (off + k * 5 + 1 + 1 + 1) + dbI c0 off0 c off age shear lo hi tick k) = getInt c (off + k * 5 + 3) + dbI c0 off0 c off age shear lo hi tick k := wrap64_id (by omega) (by omega)
    have y1 : IntKind.i64.wrap (getInt c (off + k * 5 + 1 + 1 + 1 + 1) - dbI c0 off0 c off age shear lo hi tick k) = getInt c (off + k * 5 + 4) - dbI c0 off0 c off age shear lo hi tick k := wrap64_id (by omega) (by omega)
    have y2 : IntKind.i64.wrap (getInt c (off + k * 5 + 1 + 1 + 1 + 1) + dbI c0 off0 c off age shear lo hi tick k) = getInt c (off + k * 5 + 4) + dbI c0 off0 c off age shear lo hi tick k := wrap64_id (by omega) (by omega)
    have hok : ∀ xl xh yl yh, -100000000 ≤ xl → xl ≤ 100000000 → -100000000 ≤ xh → xh ≤ 100000000 → -100000000 ≤ yl → yl ≤ 100000000 → -100000000 ≤ yh → yh ≤ 100000000 →
        ok85 c0 off0 n c off n2 (some ⟨2, off3, none⟩) n3 1 age shear lo hi tick now xl xh yl yh o2 r ((k + 1 : Nat) : Int) = true :=
      fun xl xh yl yh c1 c2 c3 c4 c5 c6 c7 c8 => dec_iff.2 ⟨hv, hq, hd, ho2, hr, c1, c2, c3, c4, c5, c6, c7, c8, by omega⟩
    have hok1 := hok xl xh yl yh b1 b2 b3 b4 b5 b6 b7 b8
    have hx3 : -20000 ≤ getInt c (off + k * 5 + 3) ∧ getInt c (off + k * 5 + 3) ≤ 20000 := hx
    have hy4 : -20000 ≤ getInt c (off + k * 5 + 4) ∧ getInt c (off + k * 5 + 4) ≤ 20000 := hy
    have hok2 := hok (max xl (getInt c (off + k * 5 + 3) - dbI c0 off0 c off age shear lo hi tick k)) (min xh (getInt c (off + k * 5 + 3) + dbI c0 off0 c off age shear lo hi tick k)) (max yl (getInt c (off + k * 5 + 4) - dbI c0 off0 c off age shear lo hi tick k)) (min yh (getInt c (off + k * 5 + 4) + dbI c0 off0 c off age shear lo hi tick k)) (by omega) (by omega) (by omega) (by omega) (by omega) (by omega) (by omega) (by omega)
    have hok9 : ok79 c0 off0 n c off n2 (some ⟨2, off3, none⟩) n3 1 age shear o2 (k : Int) = true := dec_iff.2 ⟨hv, hd, ho2, by omega, hin⟩
    rw [hm]
    have hknP : knP c0 off0 c off now k = (decide (getInt c (off + k * 5 + 1) + getInt c0 (off0 + (getInt c (off + k * 5)).toNat * 7 + 1 + 1 + 1) ≤ now) && decide (now - getInt c (off + k * 5 + 1) ≤ getInt c0 (off0 + (getInt c (off + k * 5)).toNat * 7 + 1 + 1 + 1 + 1))) := rfl
    simp only [Int.ofNat_eq_natCast, Int.toNat_natCast, hin, hw, s0, s1, rd5, rd7, w1, w2, dl, dh, dm, x1, x2, y1, y2, hme, hm', hok1, hok2, hok9, eqCode_self, decide_true, Bool.and_self, cond_true, Int.natCast_nonneg]
    cases dC : decide (getInt c (off + k * 5) = src) with
    | false =>
      have e : ¬ (knP c0 off0 c off now k = true ∧ chB 117 src (getInt c (off + k * 5)) = true) := by
        rintro ⟨_, h⟩; simp only [chB, decide_eq_true_eq] at h; exact of_decide_eq_false dC h
      rw [hXl_miss e, hXh_miss e, hYl_miss e, hYh_miss e, hSm_miss e]
      simp only [dC, cond_true, cond_false, Bool.not_true, Bool.not_false]
      rfl
    | true =>
      have hch : chB 117 src (getInt c (off + k * 5)) = true := dC
      cases dA : decide (getInt c (off + k * 5 + 1) + getInt c0 (off0 + (getInt c (off + k * 5)).toNat * 7 + 1 + 1 + 1) ≤ now) with
      | false =>
        have e : ¬ (knP c0 off0 c off now k = true ∧ chB 117 src (getInt c (off + k * 5)) = true) := by
          rw [hknP, dA]; simp
        rw [hXl_miss e, hXh_miss e, hYl_miss e, hYh_miss e, hSm_miss e]
        simp only [dA, dC, cond_true, cond_false, Bool.not_true, Bool.not_false]
        rfl
      | true =>
        cases dB : decide (now - getInt c (off + k * 5 + 1) ≤ getInt c0 (off0 + (getInt c (off + k * 5)).toNat * 7 + 1 + 1 + 1 + 1)) with
        | false =>
          have e : ¬ (knP c0 off0 c off now k = true ∧ chB 117 src (getInt c (off + k * 5)) = true) := by
            rw [hknP, dA, dB]; simp
          rw [hXl_miss e, hXh_miss e, hYl_miss e, hYh_miss e, hSm_miss e]
          simp only [dA, dB, dC, cond_true, cond_false, Bool.not_true, Bool.not_false]
          rfl
        | true =>
          have hkn1 : knP c0 off0 c off now k = true := by rw [hknP, dA, dB]; rfl
          rw [hXl_hit hkn1 hch, hXh_hit hkn1 hch, hYl_hit hkn1 hch, hYh_hit hkn1 hch, hSm_hit hkn1 hch]
          simp only [dA, dB, dC, cond_true, cond_false, Bool.not_true, Bool.not_false]
          rfl
  · have h0 : n2 - k = 0 := by omega
    rw [h0, hXl_end, hXh_end, hYl_end, hYh_end, hSm_end]
    simp only [Int.ofNat_eq_natCast, hin, decide_false, cond_false]
    rfl
end
end Go.Proofs.Ytohpmnfplglbdaa

/- hangfireref01.says: what it returns. Conditions: none. -/
namespace Go.Proofs.Ytohpmnfplglbdaa
open Go.Gh Go.RowKit
noncomputable section
set_option maxRecDepth 100000
set_option linter.unusedSimpArgs false
set_option linter.unusedVariables false
theorem tree85c (J : Task → List Value) (c0 c c3 : Array Value) (off0 n off n2 off3 n3 : Nat) (age shear src lo hi tick now : Int) :
    evC Try.prog (sh85.ans J).c 60 (.call 85 ⟨[.agg ⟨tkV off0 n off n2 (some ⟨2, off3, none⟩) n3 1 age shear⟩, .int .i64 src, .int .i64 lo, .int .i64 hi, .int .i64 tick, .int .i64 now]⟩ ⟨[.cells c0 true, .cells c true, .cells c3 true], 3, []⟩) some =
    cond (eqCode (theLoop Try.prog 85 0) (theLoop Try.prog 85 0))
    (cond (ok85 c0 off0 n c off n2 (Option.some (Addr.mk 2 off3 Option.none)) n3 1 age shear lo hi tick now (-20000 : Int) (20000 : Int) (-20000 : Int) (20000 : Int) (Ob.cells c3 true) ⟨[(Value.bool false), (Value.int .i64 (0 : Int)), (Value.int .i64 (0 : Int)), (Value.int .i64 (0 : Int)), (Value.int .i64 (0 : Int))]⟩ (0 : Int))
     (some (Out.ret (Value.agg ⟨[(Value.bool (hSm c0 off0 c off age shear lo hi tick now 117 src (n2 - 0) 0 (-20000 : Int) (20000 : Int) (-20000 : Int) (20000 : Int) false)), (Value.int .i64 (hXl c0 off0 c off age shear lo hi tick now 117 src (n2 - 0) 0 (-20000 : Int) (20000 : Int) (-20000 : Int) (20000 : Int) false)), (Value.int .i64 (hXh c0 off0 c off age shear lo hi tick now 117 src (n2 - 0) 0 (-20000 : Int) (20000 : Int) (-20000 : Int) (20000 : Int) false)), (Value.int .i64 (hYl c0 off0 c off age shear lo hi tick now 117 src (n2 - 0) 0 (-20000 : Int) (20000 : Int) (-20000 : Int) (20000 : Int) false)), (Value.int .i64 (hYh c0 off0 c off age shear lo hi tick now 117 src (n2 - 0) 0 (-20000 : Int) (20000 : Int) (-20000 : Int) (20000 : Int) false))]⟩) (Hp.mk [(Ob.cells c0 true), (Ob.cells c true), (Ob.cells c3 true)] 3 [])))
     (none))
    (none) := by kernel_rfl
theorem tree85z (o0 o1 o2 : Ob) (a b d : Option Addr) (n z z2 n3 z3 : Nat) (age shear src lo hi tick now : Int) :
    evC Try.prog (Ans.c fun _ => none) 60 (.call 85 ⟨[.agg ⟨[.slice a n z, .slice b 0 z2, .slice d n3 z3, .int .i64 age, .int .i64 shear]⟩, .int .i64 src, .int .i64 lo, .int .i64 hi, .int .i64 tick, .int .i64 now]⟩ ⟨[o0, o1, o2], 3, []⟩) some =
    some (Out.ret (Value.agg ⟨[(Value.bool false), (Value.int .i64 (-20000 : Int)), (Value.int .i64 (20000 : Int)), (Value.int .i64 (-20000 : Int)), (Value.int .i64 (20000 : Int))]⟩) (Hp.mk [o0, o1, o2] 3 [])) := by kernel_rfl

theorem hsc85 (c0 c : Array Value) (o2 : Ob) (r : Array Value) (off0 n off n2 off3 n3 : Nat) (age shear xl xh yl yh : Int) (sm : Bool) (h0 : c0.toList.all g0 = true) (h1 : c.toList.all g0 = true) (h2 : grOb o2) (hr : r.toList.all g0 = true) :
    ([.cells c0 true, .cells c true, o2, .cells ⟨[.slice (some ⟨0, off0, none⟩) n 7, .slice (some ⟨1, off, none⟩) n2 5, .slice (some ⟨2, off3, none⟩) n3 1, .int .i64 age, .int .i64 shear]⟩ false, .cells r false, .cells ⟨[.bool sm, .int .i64 xl, .int .i64 xh, .int .i64 yl, .int .i64 yh]⟩ false] : List Ob).all (obSc 6) = true := by
  have q0 := obSc_g0 (n := 6) (r := true) h0
  have q1 := obSc_g0 (n := 6) (r := true) h1
  have q2 := grOb_sc (n := 6) h2
  have q3 := obSc_g0 (n := 6) (r := false) hr
  rw [List.all_cons, q0, List.all_cons, q1, List.all_cons, q2, List.all_cons, List.all_cons, q3]
  rfl
theorem known85 : ∃ J, Known Try.prog (sh85.ans J) := by
  refine Known.junk known79 mes85 sh85 ?_
  intro J t f hs hkn
  unfold sh85 at hs
  split at hs
  case h_2 => cases hs
  rename_i code t c0 c o2 off0 n off n2 off3 n3 age shear r sm xl xh yl yh G
  split at hs
  case h_2 => cases hs
  rename_i src lo hi tick now k er e1 e2 e3 e4 e5 e6 e12 e13 e14
  simp only [Option.some.injEq] at hs
  subst hs
  refine ex_guard fun h1 => ex_guard fun h2 => ex_guard fun h3 => ?_
  obtain rfl := eqCode_eq h1
  have hl : t.length = 70 := Nat.eq_of_beq_eq_true h2
  obtain ⟨hv, hq, hd, ho2, hr, b1, b2, b3, b4, b5, b6, b7, b8, hk0⟩ := dec_iff.1 h3
  clear h1 h2 h3
  obtain ⟨k, rfl⟩ := Int.eq_ofNat_of_zero_le hk0
  have hgd0 := hv.g0.1
  have hgd1 := hv.g1.1
  have hev := step85 J (M := mes85 (.code none (.loop (theLoop Try.prog 85 0)) ⟨t, [], ⟨.cells c0 true :: .cells c true :: o2 :: .cells ⟨[.slice (some ⟨0, off0, none⟩) n 7, .slice (some ⟨1, off, none⟩) n2 5, .slice (some ⟨2, off3, none⟩) n3 1, .int .i64 age, .int .i64 shear]⟩ false :: .cells r false :: .cells ⟨[.bool sm, .int .i64 xl, .int .i64 xh, .int .i64 yl, .int .i64 yh]⟩ false :: G, 3, []⟩⟩)) (t.map Go.Gh.lo) (off3 := off3) (n3 := n3) (src := src) (sm := sm) (k := k) hv hq hd ho2 hr b1 b2 b3 b4 b5 b6 b7 b8 (by
    intro hkn2
    simp only [mes85, e14, Nat.blt_eq, Int.toNat_natCast]
    show n2 - (k + 1) < n2 - k
    omega)
  have hkept : ObsKept 6 [.cells c0 true, .cells c true, o2, .cells ⟨[.slice (some ⟨0, off0, none⟩) n 7, .slice (some ⟨1, off, none⟩) n2 5, .slice (some ⟨2, off3, none⟩) n3 1, .int .i64 age, .int .i64 shear]⟩ false, .cells r false, .cells ⟨[.bool sm, .int .i64 xl, .int .i64 xh, .int .i64 yl, .int .i64 yh]⟩ false] [.cells c0 true, .cells c true, o2, .cells ⟨[.slice (some ⟨0, off0, none⟩) n 7, .slice (some ⟨1, off, none⟩) n2 5, .slice (some ⟨2, off3, none⟩) n3 1, .int .i64 age, .int .i64 shear]⟩ false, .cells r false, .cells ⟨[.bool (hSm c0 off0 c off age shear lo hi tick now 117 src (n2 - k) k xl xh yl yh sm), .int .i64 (hXl c0 off0 c off age shear lo hi tick now 117 src (n2 - k) k xl xh yl yh sm), .int .i64 (hXh c0 off0 c off age shear lo hi tick now 117 src (n2 - k) k xl xh yl yh sm), .int .i64 (hYl c0 off0 c off age shear lo hi tick now 117 src (n2 - k) k xl xh yl yh sm), .int .i64 (hYh c0 off0 c off age shear lo hi tick now 117 src (n2 - k) k xl xh yl yh sm)]⟩ false] := by
    have hs := hsc85 c0 c o2 r off0 n off n2 off3 n3 age shear (hXl c0 off0 c off age shear lo hi tick now 117 src (n2 - k) k xl xh yl yh sm) (hXh c0 off0 c off age shear lo hi tick now 117 src (n2 - k) k xl xh yl yh sm) (hYl c0 off0 c off age shear lo hi tick now 117 src (n2 - k) k xl xh yl yh sm) (hYh c0 off0 c off age shear lo hi tick now 117 src (n2 - k) k xl xh yl yh sm) (hSm c0 off0 c off age shear lo hi tick now 117 src (n2 - k) k xl xh yl yh sm) hgd0 hgd1 ho2 hr
    simp only [List.all_cons, Bool.and_eq_true] at hs
    obtain ⟨s0, s1, s2, s3, s4, s5, _⟩ := hs
    exact .cons (kept_self s0) (.cons (kept_self s1) (.cons (kept_self s2) (.cons (kept_self s3) (.cons (kept_self s4) (.cons rfl .nil)))))
  exact hkn.loopLeaf (G := G) noNG mixed (n := 60) (N0 := 70) (N := 70) (live := [(1, .int .i64 src), (2, .int .i64 lo), (3, .int .i64 hi), (4, .int .i64 tick), (5, .int .i64 now), (6, pp 3), (12, pp 4), (13, pp 5), (14, .int .i64 (k : Int))])
      (H0 := [.cells c0 true, .cells c true, o2, .cells ⟨[.slice (some ⟨0, off0, none⟩) n 7, .slice (some ⟨1, off, none⟩) n2 5, .slice (some ⟨2, off3, none⟩) n3 1, .int .i64 age, .int .i64 shear]⟩ false, .cells r false, .cells ⟨[.bool sm, .int .i64 xl, .int .i64 xh, .int .i64 yl, .int .i64 yh]⟩ false]) (pick := pick85) (e := .exit 0) (vs := [pp 4, pp 5]) (base := 3) (wr := []) (wr1 := []) (c := theLoop Try.prog 85 0) (t := t) hev hl (by
        intro kv hm
        simp only [List.mem_cons, List.not_mem_nil, or_false] at hm
        rcases hm with rfl | rfl | rfl | rfl | rfl | rfl | rfl | rfl | rfl
        · exact ⟨e1, rfl, rfl⟩
        · exact ⟨e2, rfl, rfl⟩
        · exact ⟨e3, rfl, rfl⟩
        · exact ⟨e4, rfl, rfl⟩
        · exact ⟨e5, rfl, rfl⟩
        · exact ⟨e6, rfl, rfl⟩
        · exact ⟨e12, rfl, rfl⟩
        · exact ⟨e13, rfl, rfl⟩
        · exact ⟨e14, rfl, rfl⟩) (by simp) (hsc85 c0 c o2 r off0 n off n2 off3 n3 age shear xl xh yl yh sm hgd0 hgd1 ho2 hr) hkept rfl rfl
def p85 : Ans
  | .call 85 ⟨[.agg ⟨[.slice a n z, .slice b n2 z2, .slice d n3 z3, .int .i64 age, .int .i64 shear]⟩, .int .i64 src, .int .i64 lo, .int .i64 hi, .int .i64 tick, .int .i64 now]⟩ ⟨o0 :: o1 :: o2 :: G, base, wr⟩ =>
    some (.br (okLv a b d n z n2 z2 n3 z3 age shear lo hi tick now o0 o1 o2) (.leaf (.ret (.agg ⟨[.bool (lvSm a b n n2 age shear lo hi tick now 117 src [o0, o1, o2]), .int .i64 (lvXl a b n n2 age shear lo hi tick now 117 src [o0, o1, o2]), .int .i64 (lvXh a b n n2 age shear lo hi tick now 117 src [o0, o1, o2]), .int .i64 (lvYl a b n n2 age shear lo hi tick now 117 src [o0, o1, o2]), .int .i64 (lvYh a b n n2 age shear lo hi tick now 117 src [o0, o1, o2])]⟩) ⟨o0 :: o1 :: o2 :: G, base, wr⟩)) .no)
  | _ => none
def rho3 : Nat → Nat := fun i => if i = 0 then 0 else if i = 1 then 1 else 2
theorem ren_at {a : Option Addr} {k n z : Nat} (hk : k < 3) (h : ∀ y, a = some y → y.block = k) : ren0 (fun i => if i = 0 then 0 else if i = 1 then 1 else 2) (.slice a n z) = .slice a n z ∧ okR0 3 (.slice a n z) = true := by
  cases a with
  | none => exact ⟨rfl, rfl⟩
  | some y =>
    have := h y rfl
    obtain ⟨b, off, s⟩ := y
    simp only at this
    subst this
    refine ⟨?_, by simp [okR0, okA, hk]⟩
    simp only [ren0, renA]
    congr 3
    split
    · omega
    · split <;> omega
theorem obAt_of {o : Ob} {k : Nat} {H : List Ob} (h : grOb o) (hH : H[k]? = some o) : ObAt o k H := by
  rcases h with rfl | ⟨c, rfl, hg⟩
  · exact .inl rfl
  · exact .inr ⟨c, rfl, hg, true, hH⟩
theorem known85p : Known Try.prog p85 := by
  intro t xx o hh ho
  unfold p85 at hh
  split at hh
  case h_2 => cases hh
  rename_i a n z b n2 z2 d n3 z3 age shear src lo hi tick now o0 o1 o2 G base wr
  simp only [Option.some.injEq] at hh
  subst hh
  simp only [AT.out] at ho
  obtain ⟨hok, ho⟩ := cond_some ho
  simp only [Option.some.injEq] at ho
  subst ho
  obtain ⟨ht, hc, hq⟩ := dec_iff.1 hok
  obtain ⟨ra, oa⟩ := ren_at (n := n) (z := z) (by decide) ht.a0
  obtain ⟨rb, ob⟩ := ren_at (n := n2) (z := z2) (by decide) ht.b1
  obtain ⟨rd, od⟩ := ren_at (n := n3) (z := z3) (by decide) ht.d2
  have key : Fact Try.prog (.call 85 ⟨[.agg ⟨[.slice a n z, .slice b n2 z2, .slice d n3 z3, .int .i64 age, .int .i64 shear]⟩, .int .i64 src, .int .i64 lo, .int .i64 hi, .int .i64 tick, .int .i64 now]⟩ ⟨[o0, o1, o2], 3, []⟩)
      (.ret (.agg ⟨[.bool (lvSm a b n n2 age shear lo hi tick now 117 src [o0, o1, o2]), .int .i64 (lvXl a b n n2 age shear lo hi tick now 117 src [o0, o1, o2]), .int .i64 (lvXh a b n n2 age shear lo hi tick now 117 src [o0, o1, o2]), .int .i64 (lvYl a b n n2 age shear lo hi tick now 117 src [o0, o1, o2]), .int .i64 (lvYh a b n n2 age shear lo hi tick now 117 src [o0, o1, o2])]⟩) ⟨[o0, o1, o2], 3, []⟩) := by
    rcases Nat.eq_zero_or_pos n2 with rfl | h2
    · exact (Known.nothing _).fact noNG mixed (n := 60) (tree85z o0 o1 o2 a b d n z z2 n3 z3 age shear src lo hi tick now)
    · obtain ⟨off0, off, rfl, rfl, rfl, rfl, c0, c, rfl, rfl, hv⟩ := vld_of ht hc h2
      obtain ⟨off3, c3, rfl, rfl, rfl, hg3, _⟩ := cut_at ht hc
      obtain ⟨J, hJ⟩ := known85
      refine hJ.fact noNG mixed (n := 60) ((tree85c J c0 c c3 off0 n off n2 off3 n3 age shear src lo hi tick now).trans ?_)
      have hok : ok85 c0 off0 n c off n2 (some ⟨2, off3, none⟩) n3 1 age shear lo hi tick now (-20000) 20000 (-20000) 20000 (.cells c3 true) ⟨[.bool false, .int .i64 0, .int .i64 0, .int .i64 0, .int .i64 0]⟩ 0 = true :=
        dec_iff.2 ⟨hv, hq, rfl, ht.g2, rfl, by omega, by omega, by omega, by omega, by omega, by omega, by omega, by omega, by omega⟩
      rw [eqCode_self, hok]
      rfl
  refine frame3 (args1 := ⟨[.agg ⟨[.slice a n z, .slice b n2 z2, .slice d n3 z3, .int .i64 age, .int .i64 shear]⟩, .int .i64 src, .int .i64 lo, .int .i64 hi, .int .i64 tick, .int .i64 now]⟩) (o0 := o0) (o1 := o1) (o2 := o2) 0 1 2 key rfl
    (obAt_of ht.g0 rfl) (obAt_of ht.g1 rfl) (obAt_of ht.g2 rfl) ?_ ?_
  · simp only [List.map_toArray, List.map_cons, List.map_nil, ren1, ra, rb, rd]
    rfl
  · simp only [List.all_cons, List.all_nil, okR1, oa, ob, od]; rfl
end
end Go.Proofs.Ytohpmnfplglbdaa

/- What Says returns. Conditions: none. -/
namespace Go.Proofs.Ytohpmnfplglbdaa
open Go.Gh Go.RowKit
noncomputable section
set_option maxRecDepth 100000
set_option linter.unusedSimpArgs false
set_option linter.unusedVariables false

def syLo (d : Option Addr) (band : Int) (H : List Ob) : Int := if 0 < band then getInt (arrOf d H) (offOf d + (band - 1).toNat * 1) else 0
def syHi (d : Option Addr) (band : Int) (H : List Ob) : Int := getInt (arrOf d H) (offOf d + band.toNat * 1) - 1
def syE (a b d : Option Addr) (n n2 n3 : Nat) (age shear src band tick now : Int) (H : List Ob) : Int :=
  if ¬ ck3 a b d n n2 n3 age shear H = 0 then ck3 a b d n n2 n3 age shear H
  else if ¬ (0 ≤ src ∧ src < n ∧ 0 ≤ band ∧ band < n3) then 4
  else if ¬ (0 ≤ tick ∧ tick ≤ 100000 ∧ 0 ≤ now ∧ now ≤ 100000) then 7
  else if (lvSm a b n n2 age shear (syLo d band H) (syHi d band H) tick now 117 src H) = false then 4
  else if (lvXh a b n n2 age shear (syLo d band H) (syHi d band H) tick now 117 src H) < (lvXl a b n n2 age shear (syLo d band H) (syHi d band H) tick now 117 src H) ∨ (lvYh a b n n2 age shear (syLo d band H) (syHi d band H) tick now 117 src H) < (lvYl a b n n2 age shear (syLo d band H) (syHi d band H) tick now 117 src H) then 9 else 0
def syXl (a b d : Option Addr) (n n2 n3 : Nat) (age shear src band tick now : Int) (H : List Ob) : Int := if syE a b d n n2 n3 age shear src band tick now H = 0 then (lvXl a b n n2 age shear (syLo d band H) (syHi d band H) tick now 117 src H) else 0
def syXh (a b d : Option Addr) (n n2 n3 : Nat) (age shear src band tick now : Int) (H : List Ob) : Int := if syE a b d n n2 n3 age shear src band tick now H = 0 then (lvXh a b n n2 age shear (syLo d band H) (syHi d band H) tick now 117 src H) else 0
def syYl (a b d : Option Addr) (n n2 n3 : Nat) (age shear src band tick now : Int) (H : List Ob) : Int := if syE a b d n n2 n3 age shear src band tick now H = 0 then (lvYl a b n n2 age shear (syLo d band H) (syHi d band H) tick now 117 src H) else 0
def syYh (a b d : Option Addr) (n n2 n3 : Nat) (age shear src band tick now : Int) (H : List Ob) : Int := if syE a b d n n2 n3 age shear src band tick now H = 0 then (lvYh a b n n2 age shear (syLo d band H) (syHi d band H) tick now 117 src H) else 0
def syT (a b d : Option Addr) (n n2 n3 : Nat) (age shear src band tick now : Int) (H : List Ob) : Value := .tuple ⟨[.agg ⟨[.int .i64 (syXl a b d n n2 n3 age shear src band tick now H), .int .i64 (syXh a b d n n2 n3 age shear src band tick now H)]⟩, .agg ⟨[.int .i64 (syYl a b d n n2 n3 age shear src band tick now H), .int .i64 (syYh a b d n n2 n3 age shear src band tick now H)]⟩, .int .i64 (syE a b d n n2 n3 age shear src band tick now H)]⟩
theorem syT_err {a b d : Option Addr} {n n2 n3 : Nat} {age shear src band tick now : Int} {H : List Ob} {e : Int} (h : syE a b d n n2 n3 age shear src band tick now H = e) (he : e ≠ 0) :
    syT a b d n n2 n3 age shear src band tick now H = .tuple ⟨[.agg ⟨[.int .i64 0, .int .i64 0]⟩, .agg ⟨[.int .i64 0, .int .i64 0]⟩, .int .i64 e]⟩ := by
  unfold syT syXl syXh syYl syYh
  rw [h, if_neg he, if_neg he, if_neg he, if_neg he]
theorem syT_ok {a b d : Option Addr} {n n2 n3 : Nat} {age shear src band tick now : Int} {H : List Ob} (h : syE a b d n n2 n3 age shear src band tick now H = 0) :
    syT a b d n n2 n3 age shear src band tick now H = .tuple ⟨[.agg ⟨[.int .i64 (lvXl a b n n2 age shear (syLo d band H) (syHi d band H) tick now 117 src H), .int .i64 (lvXh a b n n2 age shear (syLo d band H) (syHi d band H) tick now 117 src H)]⟩, .agg ⟨[.int .i64 (lvYl a b n n2 age shear (syLo d band H) (syHi d band H) tick now 117 src H), .int .i64 (lvYh a b n n2 age shear (syLo d band H) (syHi d band H) tick now 117 src H)]⟩, .int .i64 0]⟩ := by
  unfold syT syXl syXh syYl syYh
  rw [h, if_pos rfl, if_pos rfl, if_pos rfl, if_pos rfl]
theorem syE_main {a b d : Option Addr} {n n2 n3 : Nat} {age shear src band tick now : Int} {H : List Ob} (hc : ck3 a b d n n2 n3 age shear H = 0) (h1 : 0 ≤ src ∧ src < n ∧ 0 ≤ band ∧ band < n3) (h2 : 0 ≤ tick ∧ tick ≤ 100000 ∧ 0 ≤ now ∧ now ≤ 100000) :
    syE a b d n n2 n3 age shear src band tick now H = if (lvSm a b n n2 age shear (syLo d band H) (syHi d band H) tick now 117 src H) = false then 4 else if (lvXh a b n n2 age shear (syLo d band H) (syHi d band H) tick now 117 src H) < (lvXl a b n n2 age shear (syLo d band H) (syHi d band H) tick now 117 src H) ∨ (lvYh a b n n2 age shear (syLo d band H) (syHi d band H) tick now 117 src H) < (lvYl a b n n2 age shear (syLo d band H) (syHi d band H) tick now 117 src H) then 9 else 0 := by
  unfold syE
  rw [if_neg (not_not_intro hc), if_neg (not_not_intro h1), if_neg (not_not_intro h2)]
theorem some_leaf {α : Type} {x y : α} (h : x = y) : some x = some y := h ▸ rfl
end
end Go.Proofs.Ytohpmnfplglbdaa

/- wind.Says: what it returns. Conditions: none. -/
namespace Go.Proofs.Ytohpmnfplglbdaa
open Go.Gh Go.RowKit
noncomputable section
set_option maxRecDepth 100000
set_option linter.unusedSimpArgs false
set_option linter.unusedVariables false
theorem tree36e (o0 o1 o2 : Ob) (a b d : Option Addr) (n z n2 z2 n3 z3 : Nat) (age shear src band tick now : Int) :
    evC Try.prog ((p20v 20).or (pNo 80)).c 60 (.call 36 ⟨[.agg ⟨[.slice a n z, .slice b n2 z2, .slice d n3 z3, .int .i64 age, .int .i64 shear]⟩, .int .i64 src, .int .i64 band, .int .i64 tick, .int .i64 now]⟩ ⟨[o0, o1, o2], 3, []⟩) some =
    cond (okT a b d n z n2 z2 n3 z3 [o0, o1, o2])
    (cond (not (decide ((ck3 a b d n n2 n3 age shear [o0, o1, o2]) = (0 : Int))))
     (some (Out.ret (Value.tuple ⟨[(Value.agg ⟨[(Value.int .i64 (0 : Int)), (Value.int .i64 (0 : Int))]⟩), (Value.agg ⟨[(Value.int .i64 (0 : Int)), (Value.int .i64 (0 : Int))]⟩), (Value.int .i64 (ck3 a b d n n2 n3 age shear [o0, o1, o2]))]⟩) (Hp.mk [o0, o1, o2] 3 [])))
     (cond (decide (src < (0 : Int)))
      (some (Out.ret (Value.tuple ⟨[(Value.agg ⟨[(Value.int .i64 (0 : Int)), (Value.int .i64 (0 : Int))]⟩), (Value.agg ⟨[(Value.int .i64 (0 : Int)), (Value.int .i64 (0 : Int))]⟩), (Value.int .i64 (4 : Int))]⟩) (Hp.mk [o0, o1, o2] 3 [])))
      (cond (decide ((Int.ofNat n) ≤ src))
       (some (Out.ret (Value.tuple ⟨[(Value.agg ⟨[(Value.int .i64 (0 : Int)), (Value.int .i64 (0 : Int))]⟩), (Value.agg ⟨[(Value.int .i64 (0 : Int)), (Value.int .i64 (0 : Int))]⟩), (Value.int .i64 (4 : Int))]⟩) (Hp.mk [o0, o1, o2] 3 [])))
       (none))))
    (none) := by kernel_rfl
theorem tree36f (o0 o1 : Ob) (c3 : Array Value) (a b : Option Addr) (off3 n z n2 z2 n3 : Nat) (age shear src band tick now : Int) :
    evC Try.prog ((p20v 20).or (pNo 81)).c 60 (.call 36 ⟨[.agg ⟨[.slice a n z, .slice b n2 z2, .slice (some ⟨2, off3, none⟩) n3 1, .int .i64 age, .int .i64 shear]⟩, .int .i64 src, .int .i64 band, .int .i64 tick, .int .i64 now]⟩ ⟨[o0, o1, .cells c3 true], 3, []⟩) some =
    cond (okT a b (Option.some (Addr.mk 2 off3 Option.none)) n z n2 z2 n3 1 [o0, o1, (Ob.cells c3 true)])
    (cond (not (decide ((ck3 a b (Option.some (Addr.mk 2 off3 Option.none)) n n2 n3 age shear [o0, o1, (Ob.cells c3 true)]) = (0 : Int))))
     (some (Out.ret (Value.tuple ⟨[(Value.agg ⟨[(Value.int .i64 (0 : Int)), (Value.int .i64 (0 : Int))]⟩), (Value.agg ⟨[(Value.int .i64 (0 : Int)), (Value.int .i64 (0 : Int))]⟩), (Value.int .i64 (ck3 a b (Option.some (Addr.mk 2 off3 Option.none)) n n2 n3 age shear [o0, o1, (Ob.cells c3 true)]))]⟩) (Hp.mk [o0, o1, (Ob.cells c3 true)] 3 [])))
     (cond (decide (src < (0 : Int)))
      (some (Out.ret (Value.tuple ⟨[(Value.agg ⟨[(Value.int .i64 (0 : Int)), (Value.int .i64 (0 : Int))]⟩), (Value.agg ⟨[(Value.int .i64 (0 : Int)), (Value.int .i64 (0 : Int))]⟩), (Value.int .i64 (4 : Int))]⟩) (Hp.mk [o0, o1, (Ob.cells c3 true)] 3 [])))
      (cond (decide ((Int.ofNat n) ≤ src))
       (some (Out.ret (Value.tuple ⟨[(Value.agg ⟨[(Value.int .i64 (0 : Int)), (Value.int .i64 (0 : Int))]⟩), (Value.agg ⟨[(Value.int .i64 (0 : Int)), (Value.int .i64 (0 : Int))]⟩), (Value.int .i64 (4 : Int))]⟩) (Hp.mk [o0, o1, (Ob.cells c3 true)] 3 [])))
       (cond (decide (band < (0 : Int)))
        (some (Out.ret (Value.tuple ⟨[(Value.agg ⟨[(Value.int .i64 (0 : Int)), (Value.int .i64 (0 : Int))]⟩), (Value.agg ⟨[(Value.int .i64 (0 : Int)), (Value.int .i64 (0 : Int))]⟩), (Value.int .i64 (4 : Int))]⟩) (Hp.mk [o0, o1, (Ob.cells c3 true)] 3 [])))
        (cond (decide ((Int.ofNat n3) ≤ band))
         (some (Out.ret (Value.tuple ⟨[(Value.agg ⟨[(Value.int .i64 (0 : Int)), (Value.int .i64 (0 : Int))]⟩), (Value.agg ⟨[(Value.int .i64 (0 : Int)), (Value.int .i64 (0 : Int))]⟩), (Value.int .i64 (4 : Int))]⟩) (Hp.mk [o0, o1, (Ob.cells c3 true)] 3 [])))
         (cond (decide ((0 : Int) < band))
          (cond (and (decide ((0 : Int) ≤ (IntKind.wrap .i64 (band - (1 : Int))))) (decide ((IntKind.wrap .i64 (band - (1 : Int))) < (Int.ofNat n3))))
           (cond (and true (isInt .i64 c3 (off3 + ((Int.toNat (IntKind.wrap .i64 (band - (1 : Int)))) * 1))))
            (cond (and (decide ((0 : Int) ≤ band)) (decide (band < (Int.ofNat n3))))
             (cond (and true (isInt .i64 c3 (off3 + ((Int.toNat band) * 1))))
              (cond (decide ((0 : Int) ≤ tick))
               (cond (decide (tick ≤ (100000 : Int)))
                (cond (decide ((0 : Int) ≤ now))
                 (cond (not (decide (now ≤ (100000 : Int))))
                  (some (Out.ret (Value.tuple ⟨[(Value.agg ⟨[(Value.int .i64 (0 : Int)), (Value.int .i64 (0 : Int))]⟩), (Value.agg ⟨[(Value.int .i64 (0 : Int)), (Value.int .i64 (0 : Int))]⟩), (Value.int .i64 (7 : Int))]⟩) (Hp.mk [o0, o1, (Ob.cells c3 true)] 3 [])))
                  (none))
                 (some (Out.ret (Value.tuple ⟨[(Value.agg ⟨[(Value.int .i64 (0 : Int)), (Value.int .i64 (0 : Int))]⟩), (Value.agg ⟨[(Value.int .i64 (0 : Int)), (Value.int .i64 (0 : Int))]⟩), (Value.int .i64 (7 : Int))]⟩) (Hp.mk [o0, o1, (Ob.cells c3 true)] 3 []))))
                (some (Out.ret (Value.tuple ⟨[(Value.agg ⟨[(Value.int .i64 (0 : Int)), (Value.int .i64 (0 : Int))]⟩), (Value.agg ⟨[(Value.int .i64 (0 : Int)), (Value.int .i64 (0 : Int))]⟩), (Value.int .i64 (7 : Int))]⟩) (Hp.mk [o0, o1, (Ob.cells c3 true)] 3 []))))
               (some (Out.ret (Value.tuple ⟨[(Value.agg ⟨[(Value.int .i64 (0 : Int)), (Value.int .i64 (0 : Int))]⟩), (Value.agg ⟨[(Value.int .i64 (0 : Int)), (Value.int .i64 (0 : Int))]⟩), (Value.int .i64 (7 : Int))]⟩) (Hp.mk [o0, o1, (Ob.cells c3 true)] 3 []))))
              (none))
             (none))
            (none))
           (none))
          (cond (and (decide ((0 : Int) ≤ band)) (decide (band < (Int.ofNat n3))))
           (cond (and true (isInt .i64 c3 (off3 + ((Int.toNat band) * 1))))
            (cond (decide ((0 : Int) ≤ tick))
             (cond (decide (tick ≤ (100000 : Int)))
              (cond (decide ((0 : Int) ≤ now))
               (cond (not (decide (now ≤ (100000 : Int))))
                (some (Out.ret (Value.tuple ⟨[(Value.agg ⟨[(Value.int .i64 (0 : Int)), (Value.int .i64 (0 : Int))]⟩), (Value.agg ⟨[(Value.int .i64 (0 : Int)), (Value.int .i64 (0 : Int))]⟩), (Value.int .i64 (7 : Int))]⟩) (Hp.mk [o0, o1, (Ob.cells c3 true)] 3 [])))
                (none))
               (some (Out.ret (Value.tuple ⟨[(Value.agg ⟨[(Value.int .i64 (0 : Int)), (Value.int .i64 (0 : Int))]⟩), (Value.agg ⟨[(Value.int .i64 (0 : Int)), (Value.int .i64 (0 : Int))]⟩), (Value.int .i64 (7 : Int))]⟩) (Hp.mk [o0, o1, (Ob.cells c3 true)] 3 []))))
              (some (Out.ret (Value.tuple ⟨[(Value.agg ⟨[(Value.int .i64 (0 : Int)), (Value.int .i64 (0 : Int))]⟩), (Value.agg ⟨[(Value.int .i64 (0 : Int)), (Value.int .i64 (0 : Int))]⟩), (Value.int .i64 (7 : Int))]⟩) (Hp.mk [o0, o1, (Ob.cells c3 true)] 3 []))))
             (some (Out.ret (Value.tuple ⟨[(Value.agg ⟨[(Value.int .i64 (0 : Int)), (Value.int .i64 (0 : Int))]⟩), (Value.agg ⟨[(Value.int .i64 (0 : Int)), (Value.int .i64 (0 : Int))]⟩), (Value.int .i64 (7 : Int))]⟩) (Hp.mk [o0, o1, (Ob.cells c3 true)] 3 []))))
            (none))
           (none))))))))
    (none) := by kernel_rfl
theorem tree36p (o0 o1 : Ob) (c3 : Array Value) (off0 off off3 n z n2 z2 n3 : Nat) (sp : Option Nat) (age shear src band tick now : Int) :
    evC Try.prog ((p20v 20).or (p81c 117)).c 60 (.call 36 ⟨[.agg ⟨[.slice (some ⟨0, off0, none⟩) n z, .slice (some ⟨1, off, sp⟩) n2 z2, .slice (some ⟨2, off3, none⟩) n3 1, .int .i64 age, .int .i64 shear]⟩, .int .i64 src, .int .i64 band, .int .i64 tick, .int .i64 now]⟩ ⟨[o0, o1, .cells c3 true], 3, []⟩) some =
    cond (okT (Option.some (Addr.mk 0 off0 Option.none)) (Option.some (Addr.mk 1 off sp)) (Option.some (Addr.mk 2 off3 Option.none)) n z n2 z2 n3 1 [o0, o1, (Ob.cells c3 true)])
    (cond (not (decide ((ck3 (Option.some (Addr.mk 0 off0 Option.none)) (Option.some (Addr.mk 1 off sp)) (Option.some (Addr.mk 2 off3 Option.none)) n n2 n3 age shear [o0, o1, (Ob.cells c3 true)]) = (0 : Int))))
     (some (Out.ret (Value.tuple ⟨[(Value.agg ⟨[(Value.int .i64 (0 : Int)), (Value.int .i64 (0 : Int))]⟩), (Value.agg ⟨[(Value.int .i64 (0 : Int)), (Value.int .i64 (0 : Int))]⟩), (Value.int .i64 (ck3 (Option.some (Addr.mk 0 off0 Option.none)) (Option.some (Addr.mk 1 off sp)) (Option.some (Addr.mk 2 off3 Option.none)) n n2 n3 age shear [o0, o1, (Ob.cells c3 true)]))]⟩) (Hp.mk [o0, o1, (Ob.cells c3 true)] 3 [])))
     (cond (decide (src < (0 : Int)))
      (some (Out.ret (Value.tuple ⟨[(Value.agg ⟨[(Value.int .i64 (0 : Int)), (Value.int .i64 (0 : Int))]⟩), (Value.agg ⟨[(Value.int .i64 (0 : Int)), (Value.int .i64 (0 : Int))]⟩), (Value.int .i64 (4 : Int))]⟩) (Hp.mk [o0, o1, (Ob.cells c3 true)] 3 [])))
      (cond (decide ((Int.ofNat n) ≤ src))
       (some (Out.ret (Value.tuple ⟨[(Value.agg ⟨[(Value.int .i64 (0 : Int)), (Value.int .i64 (0 : Int))]⟩), (Value.agg ⟨[(Value.int .i64 (0 : Int)), (Value.int .i64 (0 : Int))]⟩), (Value.int .i64 (4 : Int))]⟩) (Hp.mk [o0, o1, (Ob.cells c3 true)] 3 [])))
       (cond (decide (band < (0 : Int)))
        (some (Out.ret (Value.tuple ⟨[(Value.agg ⟨[(Value.int .i64 (0 : Int)), (Value.int .i64 (0 : Int))]⟩), (Value.agg ⟨[(Value.int .i64 (0 : Int)), (Value.int .i64 (0 : Int))]⟩), (Value.int .i64 (4 : Int))]⟩) (Hp.mk [o0, o1, (Ob.cells c3 true)] 3 [])))
        (cond (decide ((Int.ofNat n3) ≤ band))
         (some (Out.ret (Value.tuple ⟨[(Value.agg ⟨[(Value.int .i64 (0 : Int)), (Value.int .i64 (0 : Int))]⟩), (Value.agg ⟨[(Value.int .i64 (0 : Int)), (Value.int .i64 (0 : Int))]⟩), (Value.int .i64 (4 : Int))]⟩) (Hp.mk [o0, o1, (Ob.cells c3 true)] 3 [])))
         (cond (decide ((0 : Int) < band))
          (cond (and (decide ((0 : Int) ≤ (IntKind.wrap .i64 (band - (1 : Int))))) (decide ((IntKind.wrap .i64 (band - (1 : Int))) < (Int.ofNat n3))))
           (cond (and true (isInt .i64 c3 (off3 + ((Int.toNat (IntKind.wrap .i64 (band - (1 : Int)))) * 1))))
            (cond (and (decide ((0 : Int) ≤ band)) (decide (band < (Int.ofNat n3))))
             (cond (and true (isInt .i64 c3 (off3 + ((Int.toNat band) * 1))))
              (cond (decide ((0 : Int) ≤ tick))
               (cond (decide (tick ≤ (100000 : Int)))
                (cond (decide ((0 : Int) ≤ now))
                 (cond (not (decide (now ≤ (100000 : Int))))
                  (some (Out.ret (Value.tuple ⟨[(Value.agg ⟨[(Value.int .i64 (0 : Int)), (Value.int .i64 (0 : Int))]⟩), (Value.agg ⟨[(Value.int .i64 (0 : Int)), (Value.int .i64 (0 : Int))]⟩), (Value.int .i64 (7 : Int))]⟩) (Hp.mk [o0, o1, (Ob.cells c3 true)] 3 [])))
                  (cond (okLv (Option.some (Addr.mk 0 off0 Option.none)) (Option.some (Addr.mk 1 off sp)) (Option.some (Addr.mk 2 off3 Option.none)) n z n2 z2 n3 1 age shear (getInt c3 (off3 + ((Int.toNat (IntKind.wrap .i64 (band - (1 : Int)))) * 1))) (IntKind.wrap .i64 ((getInt c3 (off3 + ((Int.toNat band) * 1))) - (1 : Int))) tick now o0 o1 (Ob.cells c3 true))
                   (cond (and (decide ((Addr.mk 0 off0 Option.none) = (Addr.mk 0 off0 Option.none))) (and (decide (n = n)) (decide (z = z))))
                    (cond (and (decide ((Addr.mk 1 off sp) = (Addr.mk 1 off sp))) (and (decide (n2 = n2)) (decide (z2 = z2))))
                     (cond (and (decide ((Addr.mk 2 off3 Option.none) = (Addr.mk 2 off3 Option.none))) (and (decide (n3 = n3)) true))
                      (cond (decide (age = age))
                       (cond (decide (shear = shear))
                        (cond (and (decide ((Addr.mk 0 off0 Option.none) = (Addr.mk 0 off0 Option.none))) (and (decide (n = n)) (decide (z = z))))
                         (cond (and (decide ((Addr.mk 1 off sp) = (Addr.mk 1 off sp))) (and (decide (n2 = n2)) (decide (z2 = z2))))
                          (cond (and (decide ((Addr.mk 2 off3 Option.none) = (Addr.mk 2 off3 Option.none))) (and (decide (n3 = n3)) true))
                           (cond (decide (age = age))
                            (cond (decide (shear = shear))
                             (cond (decide ((getInt c3 (off3 + ((Int.toNat (IntKind.wrap .i64 (band - (1 : Int)))) * 1))) = (getInt c3 (off3 + ((Int.toNat (IntKind.wrap .i64 (band - (1 : Int)))) * 1)))))
                              (cond (decide ((IntKind.wrap .i64 ((getInt c3 (off3 + ((Int.toNat band) * 1))) - (1 : Int))) = (IntKind.wrap .i64 ((getInt c3 (off3 + ((Int.toNat band) * 1))) - (1 : Int)))))
                               (cond (decide (tick = tick))
                                (cond (decide (now = now))
                                 (cond (decide ((getInt c3 (off3 + ((Int.toNat (IntKind.wrap .i64 (band - (1 : Int)))) * 1))) = (getInt c3 (off3 + ((Int.toNat (IntKind.wrap .i64 (band - (1 : Int)))) * 1)))))
                                  (cond (decide ((IntKind.wrap .i64 ((getInt c3 (off3 + ((Int.toNat band) * 1))) - (1 : Int))) = (IntKind.wrap .i64 ((getInt c3 (off3 + ((Int.toNat band) * 1))) - (1 : Int)))))
                                   (cond (decide (tick = tick))
                                    (cond (decide (now = now))
                                     (cond (not (lvSm (Option.some (Addr.mk 0 off0 Option.none)) (Option.some (Addr.mk 1 off sp)) n n2 age shear (getInt c3 (off3 + ((Int.toNat (IntKind.wrap .i64 (band - (1 : Int)))) * 1))) (IntKind.wrap .i64 ((getInt c3 (off3 + ((Int.toNat band) * 1))) - (1 : Int))) tick now 117 src [o0, o1, (Ob.cells c3 true)]))
                                      (some (Out.ret (Value.tuple ⟨[(Value.agg ⟨[(Value.int .i64 (0 : Int)), (Value.int .i64 (0 : Int))]⟩), (Value.agg ⟨[(Value.int .i64 (0 : Int)), (Value.int .i64 (0 : Int))]⟩), (Value.int .i64 (4 : Int))]⟩) (Hp.mk [o0, o1, (Ob.cells c3 true)] 3 [])))
                                      (cond (decide ((lvXh (Option.some (Addr.mk 0 off0 Option.none)) (Option.some (Addr.mk 1 off sp)) n n2 age shear (getInt c3 (off3 + ((Int.toNat (IntKind.wrap .i64 (band - (1 : Int)))) * 1))) (IntKind.wrap .i64 ((getInt c3 (off3 + ((Int.toNat band) * 1))) - (1 : Int))) tick now 117 src [o0, o1, (Ob.cells c3 true)]) < (lvXl (Option.some (Addr.mk 0 off0 Option.none)) (Option.some (Addr.mk 1 off sp)) n n2 age shear (getInt c3 (off3 + ((Int.toNat (IntKind.wrap .i64 (band - (1 : Int)))) * 1))) (IntKind.wrap .i64 ((getInt c3 (off3 + ((Int.toNat band) * 1))) - (1 : Int))) tick now 117 src [o0, o1, (Ob.cells c3 true)])))
                                       (some (Out.ret (Value.tuple ⟨[(Value.agg ⟨[(Value.int .i64 (0 : Int)), (Value.int .i64 (0 : Int))]⟩), (Value.agg ⟨[(Value.int .i64 (0 : Int)), (Value.int .i64 (0 : Int))]⟩), (Value.int .i64 (9 : Int))]⟩) (Hp.mk [o0, o1, (Ob.cells c3 true)] 3 [])))
                                       (cond (decide ((lvYh (Option.some (Addr.mk 0 off0 Option.none)) (Option.some (Addr.mk 1 off sp)) n n2 age shear (getInt c3 (off3 + ((Int.toNat (IntKind.wrap .i64 (band - (1 : Int)))) * 1))) (IntKind.wrap .i64 ((getInt c3 (off3 + ((Int.toNat band) * 1))) - (1 : Int))) tick now 117 src [o0, o1, (Ob.cells c3 true)]) < (lvYl (Option.some (Addr.mk 0 off0 Option.none)) (Option.some (Addr.mk 1 off sp)) n n2 age shear (getInt c3 (off3 + ((Int.toNat (IntKind.wrap .i64 (band - (1 : Int)))) * 1))) (IntKind.wrap .i64 ((getInt c3 (off3 + ((Int.toNat band) * 1))) - (1 : Int))) tick now 117 src [o0, o1, (Ob.cells c3 true)])))
                                        (some (Out.ret (Value.tuple ⟨[(Value.agg ⟨[(Value.int .i64 (0 : Int)), (Value.int .i64 (0 : Int))]⟩), (Value.agg ⟨[(Value.int .i64 (0 : Int)), (Value.int .i64 (0 : Int))]⟩), (Value.int .i64 (9 : Int))]⟩) (Hp.mk [o0, o1, (Ob.cells c3 true)] 3 [])))
                                        (cond (decide ((lvYl (Option.some (Addr.mk 0 off0 Option.none)) (Option.some (Addr.mk 1 off sp)) n n2 age shear (getInt c3 (off3 + ((Int.toNat (IntKind.wrap .i64 (band - (1 : Int)))) * 1))) (IntKind.wrap .i64 ((getInt c3 (off3 + ((Int.toNat band) * 1))) - (1 : Int))) tick now 117 src [o0, o1, (Ob.cells c3 true)]) = (lvYl (Option.some (Addr.mk 0 off0 Option.none)) (Option.some (Addr.mk 1 off sp)) n n2 age shear (getInt c3 (off3 + ((Int.toNat (IntKind.wrap .i64 (band - (1 : Int)))) * 1))) (IntKind.wrap .i64 ((getInt c3 (off3 + ((Int.toNat band) * 1))) - (1 : Int))) tick now 117 src [o0, o1, (Ob.cells c3 true)])))
                                         (cond (decide ((lvYh (Option.some (Addr.mk 0 off0 Option.none)) (Option.some (Addr.mk 1 off sp)) n n2 age shear (getInt c3 (off3 + ((Int.toNat (IntKind.wrap .i64 (band - (1 : Int)))) * 1))) (IntKind.wrap .i64 ((getInt c3 (off3 + ((Int.toNat band) * 1))) - (1 : Int))) tick now 117 src [o0, o1, (Ob.cells c3 true)]) = (lvYh (Option.some (Addr.mk 0 off0 Option.none)) (Option.some (Addr.mk 1 off sp)) n n2 age shear (getInt c3 (off3 + ((Int.toNat (IntKind.wrap .i64 (band - (1 : Int)))) * 1))) (IntKind.wrap .i64 ((getInt c3 (off3 + ((Int.toNat band) * 1))) - (1 : Int))) tick now 117 src [o0, o1, (Ob.cells c3 true)])))
                                          (cond (decide ((lvYl (Option.some (Addr.mk 0 off0 Option.none)) (Option.some (Addr.mk 1 off sp)) n n2 age shear (getInt c3 (off3 + ((Int.toNat (IntKind.wrap .i64 (band - (1 : Int)))) * 1))) (IntKind.wrap .i64 ((getInt c3 (off3 + ((Int.toNat band) * 1))) - (1 : Int))) tick now 117 src [o0, o1, (Ob.cells c3 true)]) = (lvYl (Option.some (Addr.mk 0 off0 Option.none)) (Option.some (Addr.mk 1 off sp)) n n2 age shear (getInt c3 (off3 + ((Int.toNat (IntKind.wrap .i64 (band - (1 : Int)))) * 1))) (IntKind.wrap .i64 ((getInt c3 (off3 + ((Int.toNat band) * 1))) - (1 : Int))) tick now 117 src [o0, o1, (Ob.cells c3 true)])))
                                           (cond (decide ((lvYh (Option.some (Addr.mk 0 off0 Option.none)) (Option.some (Addr.mk 1 off sp)) n n2 age shear (getInt c3 (off3 + ((Int.toNat (IntKind.wrap .i64 (band - (1 : Int)))) * 1))) (IntKind.wrap .i64 ((getInt c3 (off3 + ((Int.toNat band) * 1))) - (1 : Int))) tick now 117 src [o0, o1, (Ob.cells c3 true)]) = (lvYh (Option.some (Addr.mk 0 off0 Option.none)) (Option.some (Addr.mk 1 off sp)) n n2 age shear (getInt c3 (off3 + ((Int.toNat (IntKind.wrap .i64 (band - (1 : Int)))) * 1))) (IntKind.wrap .i64 ((getInt c3 (off3 + ((Int.toNat band) * 1))) - (1 : Int))) tick now 117 src [o0, o1, (Ob.cells c3 true)])))
                                            (some (Out.ret (Value.tuple ⟨[(Value.agg ⟨[(Value.int .i64 (lvXl (Option.some (Addr.mk 0 off0 Option.none)) (Option.some (Addr.mk 1 off sp)) n n2 age shear (getInt c3 (off3 + ((Int.toNat (IntKind.wrap .i64 (band - (1 : Int)))) * 1))) (IntKind.wrap .i64 ((getInt c3 (off3 + ((Int.toNat band) * 1))) - (1 : Int))) tick now 117 src [o0, o1, (Ob.cells c3 true)])), (Value.int .i64 (lvXh (Option.some (Addr.mk 0 off0 Option.none)) (Option.some (Addr.mk 1 off sp)) n n2 age shear (getInt c3 (off3 + ((Int.toNat (IntKind.wrap .i64 (band - (1 : Int)))) * 1))) (IntKind.wrap .i64 ((getInt c3 (off3 + ((Int.toNat band) * 1))) - (1 : Int))) tick now 117 src [o0, o1, (Ob.cells c3 true)]))]⟩), (Value.agg ⟨[(Value.int .i64 (lvYl (Option.some (Addr.mk 0 off0 Option.none)) (Option.some (Addr.mk 1 off sp)) n n2 age shear (getInt c3 (off3 + ((Int.toNat (IntKind.wrap .i64 (band - (1 : Int)))) * 1))) (IntKind.wrap .i64 ((getInt c3 (off3 + ((Int.toNat band) * 1))) - (1 : Int))) tick now 117 src [o0, o1, (Ob.cells c3 true)])), (Value.int .i64 (lvYh (Option.some (Addr.mk 0 off0 Option.none)) (Option.some (Addr.mk 1 off sp)) n n2 age shear (getInt c3 (off3 + ((Int.toNat (IntKind.wrap .i64 (band - (1 : Int)))) * 1))) (IntKind.wrap .i64 ((getInt c3 (off3 + ((Int.toNat band) * 1))) - (1 : Int))) tick now 117 src [o0, o1, (Ob.cells c3 true)]))]⟩), (Value.int .i64 (0 : Int))]⟩) (Hp.mk [o0, o1, (Ob.cells c3 true)] 3 [])))
                                            (none))
                                           (none))
                                          (none))
                                         (none)))))
                                     (none))
                                    (none))
                                   (none))
                                  (none))
                                 (none))
                                (none))
                               (none))
                              (none))
                             (none))
                            (none))
                           (none))
                          (none))
                         (none))
                        (none))
                       (none))
                      (none))
                     (none))
                    (none))
                   (none)))
                 (some (Out.ret (Value.tuple ⟨[(Value.agg ⟨[(Value.int .i64 (0 : Int)), (Value.int .i64 (0 : Int))]⟩), (Value.agg ⟨[(Value.int .i64 (0 : Int)), (Value.int .i64 (0 : Int))]⟩), (Value.int .i64 (7 : Int))]⟩) (Hp.mk [o0, o1, (Ob.cells c3 true)] 3 []))))
                (some (Out.ret (Value.tuple ⟨[(Value.agg ⟨[(Value.int .i64 (0 : Int)), (Value.int .i64 (0 : Int))]⟩), (Value.agg ⟨[(Value.int .i64 (0 : Int)), (Value.int .i64 (0 : Int))]⟩), (Value.int .i64 (7 : Int))]⟩) (Hp.mk [o0, o1, (Ob.cells c3 true)] 3 []))))
               (some (Out.ret (Value.tuple ⟨[(Value.agg ⟨[(Value.int .i64 (0 : Int)), (Value.int .i64 (0 : Int))]⟩), (Value.agg ⟨[(Value.int .i64 (0 : Int)), (Value.int .i64 (0 : Int))]⟩), (Value.int .i64 (7 : Int))]⟩) (Hp.mk [o0, o1, (Ob.cells c3 true)] 3 []))))
              (none))
             (none))
            (none))
           (none))
          (cond (and (decide ((0 : Int) ≤ band)) (decide (band < (Int.ofNat n3))))
           (cond (and true (isInt .i64 c3 (off3 + ((Int.toNat band) * 1))))
            (cond (decide ((0 : Int) ≤ tick))
             (cond (decide (tick ≤ (100000 : Int)))
              (cond (decide ((0 : Int) ≤ now))
               (cond (not (decide (now ≤ (100000 : Int))))
                (some (Out.ret (Value.tuple ⟨[(Value.agg ⟨[(Value.int .i64 (0 : Int)), (Value.int .i64 (0 : Int))]⟩), (Value.agg ⟨[(Value.int .i64 (0 : Int)), (Value.int .i64 (0 : Int))]⟩), (Value.int .i64 (7 : Int))]⟩) (Hp.mk [o0, o1, (Ob.cells c3 true)] 3 [])))
                (cond (okLv (Option.some (Addr.mk 0 off0 Option.none)) (Option.some (Addr.mk 1 off sp)) (Option.some (Addr.mk 2 off3 Option.none)) n z n2 z2 n3 1 age shear (0 : Int) (IntKind.wrap .i64 ((getInt c3 (off3 + ((Int.toNat band) * 1))) - (1 : Int))) tick now o0 o1 (Ob.cells c3 true))
                 (cond (and (decide ((Addr.mk 0 off0 Option.none) = (Addr.mk 0 off0 Option.none))) (and (decide (n = n)) (decide (z = z))))
                  (cond (and (decide ((Addr.mk 1 off sp) = (Addr.mk 1 off sp))) (and (decide (n2 = n2)) (decide (z2 = z2))))
                   (cond (and (decide ((Addr.mk 2 off3 Option.none) = (Addr.mk 2 off3 Option.none))) (and (decide (n3 = n3)) true))
                    (cond (decide (age = age))
                     (cond (decide (shear = shear))
                      (cond (and (decide ((Addr.mk 0 off0 Option.none) = (Addr.mk 0 off0 Option.none))) (and (decide (n = n)) (decide (z = z))))
                       (cond (and (decide ((Addr.mk 1 off sp) = (Addr.mk 1 off sp))) (and (decide (n2 = n2)) (decide (z2 = z2))))
                        (cond (and (decide ((Addr.mk 2 off3 Option.none) = (Addr.mk 2 off3 Option.none))) (and (decide (n3 = n3)) true))
                         (cond (decide (age = age))
                          (cond (decide (shear = shear))
                           (cond (decide ((IntKind.wrap .i64 ((getInt c3 (off3 + ((Int.toNat band) * 1))) - (1 : Int))) = (IntKind.wrap .i64 ((getInt c3 (off3 + ((Int.toNat band) * 1))) - (1 : Int)))))
                            (cond (decide (tick = tick))
                             (cond (decide (now = now))
                              (cond (decide ((IntKind.wrap .i64 ((getInt c3 (off3 + ((Int.toNat band) * 1))) - (1 : Int))) = (IntKind.wrap .i64 ((getInt c3 (off3 + ((Int.toNat band) * 1))) - (1 : Int)))))
                               (cond (decide (tick = tick))
                                (cond (decide (now = now))
                                 (cond (not (lvSm (Option.some (Addr.mk 0 off0 Option.none)) (Option.some (Addr.mk 1 off sp)) n n2 age shear (0 : Int) (IntKind.wrap .i64 ((getInt c3 (off3 + ((Int.toNat band) * 1))) - (1 : Int))) tick now 117 src [o0, o1, (Ob.cells c3 true)]))
                                  (some (Out.ret (Value.tuple ⟨[(Value.agg ⟨[(Value.int .i64 (0 : Int)), (Value.int .i64 (0 : Int))]⟩), (Value.agg ⟨[(Value.int .i64 (0 : Int)), (Value.int .i64 (0 : Int))]⟩), (Value.int .i64 (4 : Int))]⟩) (Hp.mk [o0, o1, (Ob.cells c3 true)] 3 [])))
                                  (cond (decide ((lvXh (Option.some (Addr.mk 0 off0 Option.none)) (Option.some (Addr.mk 1 off sp)) n n2 age shear (0 : Int) (IntKind.wrap .i64 ((getInt c3 (off3 + ((Int.toNat band) * 1))) - (1 : Int))) tick now 117 src [o0, o1, (Ob.cells c3 true)]) < (lvXl (Option.some (Addr.mk 0 off0 Option.none)) (Option.some (Addr.mk 1 off sp)) n n2 age shear (0 : Int) (IntKind.wrap .i64 ((getInt c3 (off3 + ((Int.toNat band) * 1))) - (1 : Int))) tick now 117 src [o0, o1, (Ob.cells c3 true)])))
                                   (some (Out.ret (Value.tuple ⟨[(Value.agg ⟨[(Value.int .i64 (0 : Int)), (Value.int .i64 (0 : Int))]⟩), (Value.agg ⟨[(Value.int .i64 (0 : Int)), (Value.int .i64 (0 : Int))]⟩), (Value.int .i64 (9 : Int))]⟩) (Hp.mk [o0, o1, (Ob.cells c3 true)] 3 [])))
                                   (cond (decide ((lvYh (Option.some (Addr.mk 0 off0 Option.none)) (Option.some (Addr.mk 1 off sp)) n n2 age shear (0 : Int) (IntKind.wrap .i64 ((getInt c3 (off3 + ((Int.toNat band) * 1))) - (1 : Int))) tick now 117 src [o0, o1, (Ob.cells c3 true)]) < (lvYl (Option.some (Addr.mk 0 off0 Option.none)) (Option.some (Addr.mk 1 off sp)) n n2 age shear (0 : Int) (IntKind.wrap .i64 ((getInt c3 (off3 + ((Int.toNat band) * 1))) - (1 : Int))) tick now 117 src [o0, o1, (Ob.cells c3 true)])))
                                    (some (Out.ret (Value.tuple ⟨[(Value.agg ⟨[(Value.int .i64 (0 : Int)), (Value.int .i64 (0 : Int))]⟩), (Value.agg ⟨[(Value.int .i64 (0 : Int)), (Value.int .i64 (0 : Int))]⟩), (Value.int .i64 (9 : Int))]⟩) (Hp.mk [o0, o1, (Ob.cells c3 true)] 3 [])))
                                    (cond (decide ((lvYl (Option.some (Addr.mk 0 off0 Option.none)) (Option.some (Addr.mk 1 off sp)) n n2 age shear (0 : Int) (IntKind.wrap .i64 ((getInt c3 (off3 + ((Int.toNat band) * 1))) - (1 : Int))) tick now 117 src [o0, o1, (Ob.cells c3 true)]) = (lvYl (Option.some (Addr.mk 0 off0 Option.none)) (Option.some (Addr.mk 1 off sp)) n n2 age shear (0 : Int) (IntKind.wrap .i64 ((getInt c3 (off3 + ((Int.toNat band) * 1))) - (1 : Int))) tick now 117 src [o0, o1, (Ob.cells c3 true)])))
                                     (cond (decide ((lvYh (Option.some (Addr.mk 0 off0 Option.none)) (Option.some (Addr.mk 1 off sp)) n n2 age shear (0 : Int) (IntKind.wrap .i64 ((getInt c3 (off3 + ((Int.toNat band) * 1))) - (1 : Int))) tick now 117 src [o0, o1, (Ob.cells c3 true)]) = (lvYh (Option.some (Addr.mk 0 off0 Option.none)) (Option.some (Addr.mk 1 off sp)) n n2 age shear (0 : Int) (IntKind.wrap .i64 ((getInt c3 (off3 + ((Int.toNat band) * 1))) - (1 : Int))) tick now 117 src [o0, o1, (Ob.cells c3 true)])))
                                      (cond (decide ((lvYl (Option.some (Addr.mk 0 off0 Option.none)) (Option.some (Addr.mk 1 off sp)) n n2 age shear (0 : Int) (IntKind.wrap .i64 ((getInt c3 (off3 + ((Int.toNat band) * 1))) - (1 : Int))) tick now 117 src [o0, o1, (Ob.cells c3 true)]) = (lvYl (Option.some (Addr.mk 0 off0 Option.none)) (Option.some (Addr.mk 1 off sp)) n n2 age shear (0 : Int) (IntKind.wrap .i64 ((getInt c3 (off3 + ((Int.toNat band) * 1))) - (1 : Int))) tick now 117 src [o0, o1, (Ob.cells c3 true)])))
                                       (cond (decide ((lvYh (Option.some (Addr.mk 0 off0 Option.none)) (Option.some (Addr.mk 1 off sp)) n n2 age shear (0 : Int) (IntKind.wrap .i64 ((getInt c3 (off3 + ((Int.toNat band) * 1))) - (1 : Int))) tick now 117 src [o0, o1, (Ob.cells c3 true)]) = (lvYh (Option.some (Addr.mk 0 off0 Option.none)) (Option.some (Addr.mk 1 off sp)) n n2 age shear (0 : Int) (IntKind.wrap .i64 ((getInt c3 (off3 + ((Int.toNat band) * 1))) - (1 : Int))) tick now 117 src [o0, o1, (Ob.cells c3 true)])))
                                        (some (Out.ret (Value.tuple ⟨[(Value.agg ⟨[(Value.int .i64 (lvXl (Option.some (Addr.mk 0 off0 Option.none)) (Option.some (Addr.mk 1 off sp)) n n2 age shear (0 : Int) (IntKind.wrap .i64 ((getInt c3 (off3 + ((Int.toNat band) * 1))) - (1 : Int))) tick now 117 src [o0, o1, (Ob.cells c3 true)])), (Value.int .i64 (lvXh (Option.some (Addr.mk 0 off0 Option.none)) (Option.some (Addr.mk 1 off sp)) n n2 age shear (0 : Int) (IntKind.wrap .i64 ((getInt c3 (off3 + ((Int.toNat band) * 1))) - (1 : Int))) tick now 117 src [o0, o1, (Ob.cells c3 true)]))]⟩), (Value.agg ⟨[(Value.int .i64 (lvYl (Option.some (Addr.mk 0 off0 Option.none)) (Option.some (Addr.mk 1 off sp)) n n2 age shear (0 : Int) (IntKind.wrap .i64 ((getInt c3 (off3 + ((Int.toNat band) * 1))) - (1 : Int))) tick now 117 src [o0, o1, (Ob.cells c3 true)])), (Value.int .i64 (lvYh (Option.some (Addr.mk 0 off0 Option.none)) (Option.some (Addr.mk 1 off sp)) n n2 age shear (0 : Int) (IntKind.wrap .i64 ((getInt c3 (off3 + ((Int.toNat band) * 1))) - (1 : Int))) tick now 117 src [o0, o1, (Ob.cells c3 true)]))]⟩), (Value.int .i64 (0 : Int))]⟩) (Hp.mk [o0, o1, (Ob.cells c3 true)] 3 [])))
                                        (none))
                                       (none))
                                      (none))
                                     (none)))))
                                 (none))
                                (none))
                               (none))
                              (none))
                             (none))
                            (none))
                           (none))
                          (none))
                         (none))
                        (none))
                       (none))
                      (none))
                     (none))
                    (none))
                   (none))
                  (none))
                 (none)))
               (some (Out.ret (Value.tuple ⟨[(Value.agg ⟨[(Value.int .i64 (0 : Int)), (Value.int .i64 (0 : Int))]⟩), (Value.agg ⟨[(Value.int .i64 (0 : Int)), (Value.int .i64 (0 : Int))]⟩), (Value.int .i64 (7 : Int))]⟩) (Hp.mk [o0, o1, (Ob.cells c3 true)] 3 []))))
              (some (Out.ret (Value.tuple ⟨[(Value.agg ⟨[(Value.int .i64 (0 : Int)), (Value.int .i64 (0 : Int))]⟩), (Value.agg ⟨[(Value.int .i64 (0 : Int)), (Value.int .i64 (0 : Int))]⟩), (Value.int .i64 (7 : Int))]⟩) (Hp.mk [o0, o1, (Ob.cells c3 true)] 3 []))))
             (some (Out.ret (Value.tuple ⟨[(Value.agg ⟨[(Value.int .i64 (0 : Int)), (Value.int .i64 (0 : Int))]⟩), (Value.agg ⟨[(Value.int .i64 (0 : Int)), (Value.int .i64 (0 : Int))]⟩), (Value.int .i64 (7 : Int))]⟩) (Hp.mk [o0, o1, (Ob.cells c3 true)] 3 []))))
            (none))
           (none))))))))
    (none) := by kernel_rfl
theorem tree36n (o0 o1 : Ob) (c3 : Array Value) (off0 off3 n z n3 : Nat) (age shear src band tick now : Int) :
    evC Try.prog ((p20v 20).or (p81c 117)).c 60 (.call 36 ⟨[.agg ⟨[.slice (some ⟨0, off0, none⟩) n z, .slice none 0 0, .slice (some ⟨2, off3, none⟩) n3 1, .int .i64 age, .int .i64 shear]⟩, .int .i64 src, .int .i64 band, .int .i64 tick, .int .i64 now]⟩ ⟨[o0, o1, .cells c3 true], 3, []⟩) some =
    cond (okT (Option.some (Addr.mk 0 off0 Option.none)) Option.none (Option.some (Addr.mk 2 off3 Option.none)) n z 0 0 n3 1 [o0, o1, (Ob.cells c3 true)])
    (cond (not (decide ((ck3 (Option.some (Addr.mk 0 off0 Option.none)) Option.none (Option.some (Addr.mk 2 off3 Option.none)) n 0 n3 age shear [o0, o1, (Ob.cells c3 true)]) = (0 : Int))))
     (some (Out.ret (Value.tuple ⟨[(Value.agg ⟨[(Value.int .i64 (0 : Int)), (Value.int .i64 (0 : Int))]⟩), (Value.agg ⟨[(Value.int .i64 (0 : Int)), (Value.int .i64 (0 : Int))]⟩), (Value.int .i64 (ck3 (Option.some (Addr.mk 0 off0 Option.none)) Option.none (Option.some (Addr.mk 2 off3 Option.none)) n 0 n3 age shear [o0, o1, (Ob.cells c3 true)]))]⟩) (Hp.mk [o0, o1, (Ob.cells c3 true)] 3 [])))
     (cond (decide (src < (0 : Int)))
      (some (Out.ret (Value.tuple ⟨[(Value.agg ⟨[(Value.int .i64 (0 : Int)), (Value.int .i64 (0 : Int))]⟩), (Value.agg ⟨[(Value.int .i64 (0 : Int)), (Value.int .i64 (0 : Int))]⟩), (Value.int .i64 (4 : Int))]⟩) (Hp.mk [o0, o1, (Ob.cells c3 true)] 3 [])))
      (cond (decide ((Int.ofNat n) ≤ src))
       (some (Out.ret (Value.tuple ⟨[(Value.agg ⟨[(Value.int .i64 (0 : Int)), (Value.int .i64 (0 : Int))]⟩), (Value.agg ⟨[(Value.int .i64 (0 : Int)), (Value.int .i64 (0 : Int))]⟩), (Value.int .i64 (4 : Int))]⟩) (Hp.mk [o0, o1, (Ob.cells c3 true)] 3 [])))
       (cond (decide (band < (0 : Int)))
        (some (Out.ret (Value.tuple ⟨[(Value.agg ⟨[(Value.int .i64 (0 : Int)), (Value.int .i64 (0 : Int))]⟩), (Value.agg ⟨[(Value.int .i64 (0 : Int)), (Value.int .i64 (0 : Int))]⟩), (Value.int .i64 (4 : Int))]⟩) (Hp.mk [o0, o1, (Ob.cells c3 true)] 3 [])))
        (cond (decide ((Int.ofNat n3) ≤ band))
         (some (Out.ret (Value.tuple ⟨[(Value.agg ⟨[(Value.int .i64 (0 : Int)), (Value.int .i64 (0 : Int))]⟩), (Value.agg ⟨[(Value.int .i64 (0 : Int)), (Value.int .i64 (0 : Int))]⟩), (Value.int .i64 (4 : Int))]⟩) (Hp.mk [o0, o1, (Ob.cells c3 true)] 3 [])))
         (cond (decide ((0 : Int) < band))
          (cond (and (decide ((0 : Int) ≤ (IntKind.wrap .i64 (band - (1 : Int))))) (decide ((IntKind.wrap .i64 (band - (1 : Int))) < (Int.ofNat n3))))
           (cond (and true (isInt .i64 c3 (off3 + ((Int.toNat (IntKind.wrap .i64 (band - (1 : Int)))) * 1))))
            (cond (and (decide ((0 : Int) ≤ band)) (decide (band < (Int.ofNat n3))))
             (cond (and true (isInt .i64 c3 (off3 + ((Int.toNat band) * 1))))
              (cond (decide ((0 : Int) ≤ tick))
               (cond (decide (tick ≤ (100000 : Int)))
                (cond (decide ((0 : Int) ≤ now))
                 (cond (not (decide (now ≤ (100000 : Int))))
                  (some (Out.ret (Value.tuple ⟨[(Value.agg ⟨[(Value.int .i64 (0 : Int)), (Value.int .i64 (0 : Int))]⟩), (Value.agg ⟨[(Value.int .i64 (0 : Int)), (Value.int .i64 (0 : Int))]⟩), (Value.int .i64 (7 : Int))]⟩) (Hp.mk [o0, o1, (Ob.cells c3 true)] 3 [])))
                  (cond (okLv (Option.some (Addr.mk 0 off0 Option.none)) Option.none (Option.some (Addr.mk 2 off3 Option.none)) n z 0 0 n3 1 age shear (getInt c3 (off3 + ((Int.toNat (IntKind.wrap .i64 (band - (1 : Int)))) * 1))) (IntKind.wrap .i64 ((getInt c3 (off3 + ((Int.toNat band) * 1))) - (1 : Int))) tick now o0 o1 (Ob.cells c3 true))
                   (cond (and (decide ((Addr.mk 0 off0 Option.none) = (Addr.mk 0 off0 Option.none))) (and (decide (n = n)) (decide (z = z))))
                    (cond (and (decide ((Addr.mk 2 off3 Option.none) = (Addr.mk 2 off3 Option.none))) (and (decide (n3 = n3)) true))
                     (cond (decide (age = age))
                      (cond (decide (shear = shear))
                       (cond (and (decide ((Addr.mk 0 off0 Option.none) = (Addr.mk 0 off0 Option.none))) (and (decide (n = n)) (decide (z = z))))
                        (cond (and (decide ((Addr.mk 2 off3 Option.none) = (Addr.mk 2 off3 Option.none))) (and (decide (n3 = n3)) true))
                         (cond (decide (age = age))
                          (cond (decide (shear = shear))
                           (cond (decide ((getInt c3 (off3 + ((Int.toNat (IntKind.wrap .i64 (band - (1 : Int)))) * 1))) = (getInt c3 (off3 + ((Int.toNat (IntKind.wrap .i64 (band - (1 : Int)))) * 1)))))
                            (cond (decide ((IntKind.wrap .i64 ((getInt c3 (off3 + ((Int.toNat band) * 1))) - (1 : Int))) = (IntKind.wrap .i64 ((getInt c3 (off3 + ((Int.toNat band) * 1))) - (1 : Int)))))
                             (cond (decide (tick = tick))
                              (cond (decide (now = now))
                               (cond (decide ((getInt c3 (off3 + ((Int.toNat (IntKind.wrap .i64 (band - (1 : Int)))) * 1))) = (getInt c3 (off3 + ((Int.toNat (IntKind.wrap .i64 (band - (1 : Int)))) * 1)))))
                                (cond (decide ((IntKind.wrap .i64 ((getInt c3 (off3 + ((Int.toNat band) * 1))) - (1 : Int))) = (IntKind.wrap .i64 ((getInt c3 (off3 + ((Int.toNat band) * 1))) - (1 : Int)))))
                                 (cond (decide (tick = tick))
                                  (cond (decide (now = now))
                                   (some (Out.ret (Value.tuple ⟨[(Value.agg ⟨[(Value.int .i64 (0 : Int)), (Value.int .i64 (0 : Int))]⟩), (Value.agg ⟨[(Value.int .i64 (0 : Int)), (Value.int .i64 (0 : Int))]⟩), (Value.int .i64 (4 : Int))]⟩) (Hp.mk [o0, o1, (Ob.cells c3 true)] 3 [])))
                                   (none))
                                  (none))
                                 (none))
                                (none))
                               (none))
                              (none))
                             (none))
                            (none))
                           (none))
                          (none))
                         (none))
                        (none))
                       (none))
                      (none))
                     (none))
                    (none))
                   (none)))
                 (some (Out.ret (Value.tuple ⟨[(Value.agg ⟨[(Value.int .i64 (0 : Int)), (Value.int .i64 (0 : Int))]⟩), (Value.agg ⟨[(Value.int .i64 (0 : Int)), (Value.int .i64 (0 : Int))]⟩), (Value.int .i64 (7 : Int))]⟩) (Hp.mk [o0, o1, (Ob.cells c3 true)] 3 []))))
                (some (Out.ret (Value.tuple ⟨[(Value.agg ⟨[(Value.int .i64 (0 : Int)), (Value.int .i64 (0 : Int))]⟩), (Value.agg ⟨[(Value.int .i64 (0 : Int)), (Value.int .i64 (0 : Int))]⟩), (Value.int .i64 (7 : Int))]⟩) (Hp.mk [o0, o1, (Ob.cells c3 true)] 3 []))))
               (some (Out.ret (Value.tuple ⟨[(Value.agg ⟨[(Value.int .i64 (0 : Int)), (Value.int .i64 (0 : Int))]⟩), (Value.agg ⟨[(Value.int .i64 (0 : Int)), (Value.int .i64 (0 : Int))]⟩), (Value.int .i64 (7 : Int))]⟩) (Hp.mk [o0, o1, (Ob.cells c3 true)] 3 []))))
              (none))
             (none))
            (none))
           (none))
          (cond (and (decide ((0 : Int) ≤ band)) (decide (band < (Int.ofNat n3))))
           (cond (and true (isInt .i64 c3 (off3 + ((Int.toNat band) * 1))))
            (cond (decide ((0 : Int) ≤ tick))
             (cond (decide (tick ≤ (100000 : Int)))
              (cond (decide ((0 : Int) ≤ now))
               (cond (not (decide (now ≤ (100000 : Int))))
                (some (Out.ret (Value.tuple ⟨[(Value.agg ⟨[(Value.int .i64 (0 : Int)), (Value.int .i64 (0 : Int))]⟩), (Value.agg ⟨[(Value.int .i64 (0 : Int)), (Value.int .i64 (0 : Int))]⟩), (Value.int .i64 (7 : Int))]⟩) (Hp.mk [o0, o1, (Ob.cells c3 true)] 3 [])))
                (cond (okLv (Option.some (Addr.mk 0 off0 Option.none)) Option.none (Option.some (Addr.mk 2 off3 Option.none)) n z 0 0 n3 1 age shear (0 : Int) (IntKind.wrap .i64 ((getInt c3 (off3 + ((Int.toNat band) * 1))) - (1 : Int))) tick now o0 o1 (Ob.cells c3 true))
                 (cond (and (decide ((Addr.mk 0 off0 Option.none) = (Addr.mk 0 off0 Option.none))) (and (decide (n = n)) (decide (z = z))))
                  (cond (and (decide ((Addr.mk 2 off3 Option.none) = (Addr.mk 2 off3 Option.none))) (and (decide (n3 = n3)) true))
                   (cond (decide (age = age))
                    (cond (decide (shear = shear))
                     (cond (and (decide ((Addr.mk 0 off0 Option.none) = (Addr.mk 0 off0 Option.none))) (and (decide (n = n)) (decide (z = z))))
                      (cond (and (decide ((Addr.mk 2 off3 Option.none) = (Addr.mk 2 off3 Option.none))) (and (decide (n3 = n3)) true))
                       (cond (decide (age = age))
                        (cond (decide (shear = shear))
                         (cond (decide ((IntKind.wrap .i64 ((getInt c3 (off3 + ((Int.toNat band) * 1))) - (1 : Int))) = (IntKind.wrap .i64 ((getInt c3 (off3 + ((Int.toNat band) * 1))) - (1 : Int)))))
                          (cond (decide (tick = tick))
                           (cond (decide (now = now))
                            (cond (decide ((IntKind.wrap .i64 ((getInt c3 (off3 + ((Int.toNat band) * 1))) - (1 : Int))) = (IntKind.wrap .i64 ((getInt c3 (off3 + ((Int.toNat band) * 1))) - (1 : Int)))))
                             (cond (decide (tick = tick))
                              (cond (decide (now = now))
                               (some (Out.ret (Value.tuple ⟨[(Value.agg ⟨[(Value.int .i64 (0 : Int)), (Value.int .i64 (0 : Int))]⟩), (Value.agg ⟨[(Value.int .i64 (0 : Int)), (Value.int .i64 (0 : Int))]⟩), (Value.int .i64 (4 : Int))]⟩) (Hp.mk [o0, o1, (Ob.cells c3 true)] 3 [])))
                               (none))
                              (none))
                             (none))
                            (none))
                           (none))
                          (none))
                         (none))
                        (none))
                       (none))
                      (none))
                     (none))
                    (none))
                   (none))
                  (none))
                 (none)))
               (some (Out.ret (Value.tuple ⟨[(Value.agg ⟨[(Value.int .i64 (0 : Int)), (Value.int .i64 (0 : Int))]⟩), (Value.agg ⟨[(Value.int .i64 (0 : Int)), (Value.int .i64 (0 : Int))]⟩), (Value.int .i64 (7 : Int))]⟩) (Hp.mk [o0, o1, (Ob.cells c3 true)] 3 []))))
              (some (Out.ret (Value.tuple ⟨[(Value.agg ⟨[(Value.int .i64 (0 : Int)), (Value.int .i64 (0 : Int))]⟩), (Value.agg ⟨[(Value.int .i64 (0 : Int)), (Value.int .i64 (0 : Int))]⟩), (Value.int .i64 (7 : Int))]⟩) (Hp.mk [o0, o1, (Ob.cells c3 true)] 3 []))))
             (some (Out.ret (Value.tuple ⟨[(Value.agg ⟨[(Value.int .i64 (0 : Int)), (Value.int .i64 (0 : Int))]⟩), (Value.agg ⟨[(Value.int .i64 (0 : Int)), (Value.int .i64 (0 : Int))]⟩), (Value.int .i64 (7 : Int))]⟩) (Hp.mk [o0, o1, (Ob.cells c3 true)] 3 []))))
            (none))
           (none))))))))
    (none) := by kernel_rfl

theorem err36 {a b d : Option Addr} {n z n2 z2 n3 z3 : Nat} {age shear src band tick now : Int} {o0 o1 o2 : Ob} (ht : TaskAt a b d n z n2 z2 n3 z3 o0 o1 o2) (hc : ¬ ck3 a b d n n2 n3 age shear [o0, o1, o2] = 0) : Fact Try.prog (.call 36 ⟨[.agg ⟨[.slice a n z, .slice b n2 z2, .slice d n3 z3, .int .i64 age, .int .i64 shear]⟩, .int .i64 src, .int .i64 band, .int .i64 tick, .int .i64 now]⟩ ⟨[o0, o1, o2], 3, []⟩) (.ret (syT a b d n n2 n3 age shear src band tick now [o0, o1, o2]) ⟨[o0, o1, o2], 3, []⟩) := by
  refine ((known20v known20).or (knownNo 80)).fact noNG mixed (n := 60) ((tree36e ..).trans ?_)
  have hk : okT a b d n z n2 z2 n3 z3 [o0, o1, o2] = true := dec_iff.2 ht.on
  rw [syT_err (e := ck3 a b d n n2 n3 age shear [o0, o1, o2]) (by unfold syE; rw [if_pos hc]) hc]
  simp only [hk, decide_eq_false hc, Bool.not_false, cond_true, cond_false]

theorem cutI {c3 : Array Value} {off3 n3 : Nat} (hg : GoodL L1 c3 off3 n3) : ∀ k, k < n3 → isInt .i64 c3 (off3 + k * 1) = true := fun k hk => by
  have := isInt1 (x := k) (hg.2 k hk)
  simpa using this
theorem inv36 {a b d : Option Addr} {n z n2 z2 n3 z3 : Nat} {age shear src band tick now : Int} {o0 o1 o2 : Ob} (ht : TaskAt a b d n z n2 z2 n3 z3 o0 o1 o2) (hc : ck3 a b d n n2 n3 age shear [o0, o1, o2] = 0) (h : ¬ (0 ≤ src ∧ src < n ∧ 0 ≤ band ∧ band < n3 ∧ 0 ≤ tick ∧ tick ≤ 100000 ∧ 0 ≤ now ∧ now ≤ 100000)) :
    Fact Try.prog (.call 36 ⟨[.agg ⟨[.slice a n z, .slice b n2 z2, .slice d n3 z3, .int .i64 age, .int .i64 shear]⟩, .int .i64 src, .int .i64 band, .int .i64 tick, .int .i64 now]⟩ ⟨[o0, o1, o2], 3, []⟩) (.ret (syT a b d n n2 n3 age shear src band tick now [o0, o1, o2]) ⟨[o0, o1, o2], 3, []⟩) := by
  have hk : okT a b d n z n2 z2 n3 z3 [o0, o1, o2] = true := dec_iff.2 ht.on
  have hz := ck_zero hc
  have hf3 := hz.few3
  obtain ⟨off3, c3, rfl, rfl, rfl, hg3, _⟩ := cut_at ht hc
  refine ((known20v known20).or (knownNo 81)).fact noNG mixed (n := 60) ((tree36f ..).trans ?_)
  have hI := cutI hg3
  have hcd := decide_eq_true hc
  by_cases h1 : 0 ≤ src ∧ src < n ∧ 0 ≤ band ∧ band < n3
  · have h2 : ¬ (0 ≤ tick ∧ tick ≤ 100000 ∧ 0 ≤ now ∧ now ≤ 100000) := fun h2 => h ⟨h1.1, h1.2.1, h1.2.2.1, h1.2.2.2, h2⟩
    rw [syT_err (e := 7) (by unfold syE; rw [if_neg (not_not_intro hc), if_neg (not_not_intro h1), if_pos h2]) (by decide)]
    obtain ⟨i1, i2, i3, i4⟩ := h1
    have i1' : ¬ src < 0 := by omega
    have i2' : ¬ (n : Int) ≤ src := by omega
    have i3' : ¬ band < 0 := by omega
    have i4' : ¬ (n3 : Int) ≤ band := by omega
    have hb := hI band.toNat (by omega)
    simp only [Int.ofNat_eq_natCast, hk, hcd, i1', i2', i3', i4', i3, i4, hb, decide_true, decide_false, Bool.not_true, Bool.not_false, Bool.and_self, cond_true, cond_false]
    by_cases hb0 : 0 < band
    · have hw : IntKind.i64.wrap (band - 1) = band - 1 := wrap64_id (by omega) (by omega)
      have hb1 := hI (band - 1).toNat (by omega)
      have j1 : 0 ≤ band - 1 := by omega
      have j2 : band - 1 < n3 := by omega
      simp only [hb0, hw, hb1, j1, j2, decide_true, Bool.and_self, cond_true]
      clear ht hk hz hI hcd hc hg3 hb hb1 h
      repeat' refine cond_hd (fun _ => ?_) (fun _ => ?_)
      all_goals first
      | rfl
      | (exfalso; simp only [Bool.not_eq_true', Bool.not_eq_false', Bool.and_eq_true, Bool.and_eq_false_iff, decide_eq_true_eq, decide_eq_false_iff_not, Bool.true_and, reduceCtorEq] at *; omega)
    · simp only [hb0, decide_false, cond_false]
      clear ht hk hz hI hcd hc hg3 hb h
      repeat' refine cond_hd (fun _ => ?_) (fun _ => ?_)
      all_goals first
      | rfl
      | (exfalso; simp only [Bool.not_eq_true', Bool.not_eq_false', Bool.and_eq_true, Bool.and_eq_false_iff, decide_eq_true_eq, decide_eq_false_iff_not, Bool.true_and, reduceCtorEq] at *; omega)
  · rw [syT_err (e := 4) (by unfold syE; rw [if_neg (not_not_intro hc), if_pos h1]) (by decide)]
    simp only [Int.ofNat_eq_natCast, hk, hcd, Bool.not_true, cond_true, cond_false]
    clear ht hk hz hI hcd hc hg3 h
    repeat' refine cond_hd (fun _ => ?_) (fun _ => ?_)
    all_goals first
      | rfl
      | (exfalso; simp only [Bool.not_eq_true', Bool.not_eq_false', Bool.and_eq_true, Bool.and_eq_false_iff, decide_eq_true_eq, decide_eq_false_iff_not, Bool.true_and, reduceCtorEq] at *; omega)

theorem main36 {a b d : Option Addr} {n z n2 z2 n3 z3 : Nat} {age shear src band tick now : Int} {o0 o1 o2 : Ob} (ht : TaskAt a b d n z n2 z2 n3 z3 o0 o1 o2) (hc : ck3 a b d n n2 n3 age shear [o0, o1, o2] = 0) (h1 : 0 ≤ src ∧ src < n ∧ 0 ≤ band ∧ band < n3) (h2 : 0 ≤ tick ∧ tick ≤ 100000 ∧ 0 ≤ now ∧ now ≤ 100000) :
    Fact Try.prog (.call 36 ⟨[.agg ⟨[.slice a n z, .slice b n2 z2, .slice d n3 z3, .int .i64 age, .int .i64 shear]⟩, .int .i64 src, .int .i64 band, .int .i64 tick, .int .i64 now]⟩ ⟨[o0, o1, o2], 3, []⟩) (.ret (syT a b d n n2 n3 age shear src band tick now [o0, o1, o2]) ⟨[o0, o1, o2], 3, []⟩) := by
  have hk : okT a b d n z n2 z2 n3 z3 [o0, o1, o2] = true := dec_iff.2 ht.on
  have hz := ck_zero hc
  have hf3 := hz.few3
  have hf := hz.few
  obtain ⟨off3, c3, rfl, rfl, rfl, hg3, hcut⟩ := cut_at ht hc
  have hI := cutI hg3
  have hcd := decide_eq_true hc
  have hE := syE_main hc h1 h2
  obtain ⟨i1, i2, i3, i4⟩ := h1
  obtain ⟨k1, k2, k3, k4⟩ := h2
  have i1' : ¬ src < 0 := by omega
  have i2' : ¬ (n : Int) ≤ src := by omega
  have i3' : ¬ band < 0 := by omega
  have i4' : ¬ (n3 : Int) ≤ band := by omega
  have hb := hI band.toNat (by omega)
  have wn : IntKind.i64.wrap ((n : Int) - 1) = (n : Int) - 1 := wrap64_id (by omega) (by omega)
  have wn3 : IntKind.i64.wrap ((n3 : Int) - 1) = (n3 : Int) - 1 := wrap64_id (by omega) (by omega)
  have i5 : src ≤ (n : Int) - 1 := by omega
  have i6 : band ≤ (n3 : Int) - 1 := by omega
  have hcb : 1 ≤ getInt c3 (off3 + band.toNat * 1) ∧ getInt c3 (off3 + band.toNat * 1) ≤ 100000000 := by
    have := hcut band.toNat (by omega)
    simpa using this
  have wh : IntKind.i64.wrap (getInt c3 (off3 + band.toNat * 1) - 1) = getInt c3 (off3 + band.toNat * 1) - 1 := wrap64_id (by omega) (by omega)
  have eH : syHi (some ⟨2, off3, none⟩) band [o0, o1, .cells c3 true] = getInt c3 (off3 + band.toNat * 1) - 1 := rfl
  have hqs : ∀ lo, 0 ≤ lo → lo ≤ 100000000 → Qst lo (getInt c3 (off3 + band.toNat * 1) - 1) tick now := fun lo l0 l1 => ⟨⟨l0, l1⟩, by omega, ⟨k1, k2⟩, ⟨k3, k4⟩⟩
  have hok : ∀ lo, 0 ≤ lo → lo ≤ 100000000 → okLv a b (some ⟨2, off3, none⟩) n z n2 z2 n3 1 age shear lo (getInt c3 (off3 + band.toNat * 1) - 1) tick now o0 o1 (.cells c3 true) = true := fun lo l0 l1 => dec_iff.2 ⟨ht, hc, hqs lo l0 l1⟩
  obtain ⟨hs, _, _, _, sb, _⟩ := ht.on
  rcases hs with rfl | ⟨b0, off0, rfl, rfl, hc0, hg0⟩
  · omega
  obtain rfl : b0 = 0 := ht.a0 _ rfl
  have hlo : (0 < band → syLo (some ⟨2, off3, none⟩) band [o0, o1, .cells c3 true] = getInt c3 (off3 + (band - 1).toNat * 1)) ∧ (¬ 0 < band → syLo (some ⟨2, off3, none⟩) band [o0, o1, .cells c3 true] = 0) :=
    ⟨fun h => if_pos h, fun h => if_neg h⟩
  have hfin : ∀ lo, syLo (some ⟨2, off3, none⟩) band [o0, o1, .cells c3 true] = lo →
      (cond (not (lvSm (some ⟨0, off0, none⟩) b n n2 age shear lo (getInt c3 (off3 + band.toNat * 1) - 1) tick now 117 src [o0, o1, .cells c3 true]))
        (some (Out.ret (.tuple ⟨[.agg ⟨[.int .i64 0, .int .i64 0]⟩, .agg ⟨[.int .i64 0, .int .i64 0]⟩, .int .i64 4]⟩) ⟨[o0, o1, .cells c3 true], 3, []⟩))
        (cond (decide (lvXh (some ⟨0, off0, none⟩) b n n2 age shear lo (getInt c3 (off3 + band.toNat * 1) - 1) tick now 117 src [o0, o1, .cells c3 true] < lvXl (some ⟨0, off0, none⟩) b n n2 age shear lo (getInt c3 (off3 + band.toNat * 1) - 1) tick now 117 src [o0, o1, .cells c3 true]))
          (some (Out.ret (.tuple ⟨[.agg ⟨[.int .i64 0, .int .i64 0]⟩, .agg ⟨[.int .i64 0, .int .i64 0]⟩, .int .i64 9]⟩) ⟨[o0, o1, .cells c3 true], 3, []⟩))
          (cond (decide (lvYh (some ⟨0, off0, none⟩) b n n2 age shear lo (getInt c3 (off3 + band.toNat * 1) - 1) tick now 117 src [o0, o1, .cells c3 true] < lvYl (some ⟨0, off0, none⟩) b n n2 age shear lo (getInt c3 (off3 + band.toNat * 1) - 1) tick now 117 src [o0, o1, .cells c3 true]))
            (some (Out.ret (.tuple ⟨[.agg ⟨[.int .i64 0, .int .i64 0]⟩, .agg ⟨[.int .i64 0, .int .i64 0]⟩, .int .i64 9]⟩) ⟨[o0, o1, .cells c3 true], 3, []⟩))
            (some (Out.ret (.tuple ⟨[.agg ⟨[.int .i64 (lvXl (some ⟨0, off0, none⟩) b n n2 age shear lo (getInt c3 (off3 + band.toNat * 1) - 1) tick now 117 src [o0, o1, .cells c3 true]), .int .i64 (lvXh (some ⟨0, off0, none⟩) b n n2 age shear lo (getInt c3 (off3 + band.toNat * 1) - 1) tick now 117 src [o0, o1, .cells c3 true])]⟩, .agg ⟨[.int .i64 (lvYl (some ⟨0, off0, none⟩) b n n2 age shear lo (getInt c3 (off3 + band.toNat * 1) - 1) tick now 117 src [o0, o1, .cells c3 true]), .int .i64 (lvYh (some ⟨0, off0, none⟩) b n n2 age shear lo (getInt c3 (off3 + band.toNat * 1) - 1) tick now 117 src [o0, o1, .cells c3 true])]⟩, .int .i64 0]⟩) ⟨[o0, o1, .cells c3 true], 3, []⟩))))) =
      some (Out.ret (syT (some ⟨0, off0, none⟩) b (some ⟨2, off3, none⟩) n n2 n3 age shear src band tick now [o0, o1, .cells c3 true]) ⟨[o0, o1, .cells c3 true], 3, []⟩) := by
    intro lo hl
    rw [hl, eH] at hE
    cases e1 : lvSm (some ⟨0, off0, none⟩) b n n2 age shear lo (getInt c3 (off3 + band.toNat * 1) - 1) tick now 117 src [o0, o1, .cells c3 true] with
    | false =>
      rw [e1, if_pos rfl] at hE
      rw [syT_err hE (by decide)]
      rfl
    | true =>
      rw [e1, if_neg (by decide)] at hE
      by_cases e2 : lvXh (some ⟨0, off0, none⟩) b n n2 age shear lo (getInt c3 (off3 + band.toNat * 1) - 1) tick now 117 src [o0, o1, .cells c3 true] < lvXl (some ⟨0, off0, none⟩) b n n2 age shear lo (getInt c3 (off3 + band.toNat * 1) - 1) tick now 117 src [o0, o1, .cells c3 true]
      · rw [if_pos (.inl e2)] at hE
        rw [syT_err hE (by decide), decide_eq_true e2]
        rfl
      · by_cases e3 : lvYh (some ⟨0, off0, none⟩) b n n2 age shear lo (getInt c3 (off3 + band.toNat * 1) - 1) tick now 117 src [o0, o1, .cells c3 true] < lvYl (some ⟨0, off0, none⟩) b n n2 age shear lo (getInt c3 (off3 + band.toNat * 1) - 1) tick now 117 src [o0, o1, .cells c3 true]
        · rw [if_pos (.inr e3)] at hE
          rw [syT_err hE (by decide), decide_eq_false e2, decide_eq_true e3]
          rfl
        · rw [if_neg (by omega)] at hE
          rw [syT_ok hE, decide_eq_false e2, decide_eq_false e3, hl, eH]
          rfl
  clear hE eH
  rcases b with _ | ⟨b1, off, sp⟩
  · obtain ⟨rfl, rfl⟩ : n2 = 0 ∧ z2 = 0 := nilOk_of sb rfl
    refine ((known20v known20).or known81c_117).fact noNG mixed (n := 60) ((tree36n ..).trans ?_)
    simp only [Int.ofNat_eq_natCast, hk, hcd, i1', i2', i3', i4', i1, i2, i3, i4, i5, i6, k1, k2, k3, k4, hb, wn, wn3, wh, decide_true, decide_false, Bool.not_true, Bool.not_false, Bool.and_self, Bool.true_and, cond_true, cond_false]
    by_cases hb0 : 0 < band
    · have hw : IntKind.i64.wrap (band - 1) = band - 1 := wrap64_id (by omega) (by omega)
      have hb1 := hI (band - 1).toNat (by omega)
      have j1 : 0 ≤ band - 1 := by omega
      have j2 : band - 1 < n3 := by omega
      have hcc := hcut (band - 1).toNat (by omega)
      have hok' := hok (getInt c3 (off3 + (band - 1).toNat * 1)) (by rw [Nat.mul_one]; omega) (by rw [Nat.mul_one]; omega)
      simp only [hb0, hw, hb1, j1, j2, hok', decide_true, Bool.and_self, cond_true]
      exact hfin _ (hlo.1 hb0)
    · have hok' := hok 0 (by omega) (by omega)
      simp only [hb0, hok', decide_false, decide_true, Bool.and_self, cond_false, cond_true]
      exact hfin _ (hlo.2 hb0)
  · obtain rfl : b1 = 1 := ht.b1 _ rfl
    refine ((known20v known20).or known81c_117).fact noNG mixed (n := 60) ((tree36p ..).trans ?_)
    simp only [Int.ofNat_eq_natCast, hk, hcd, i1', i2', i3', i4', i1, i2, i3, i4, i5, i6, k1, k2, k3, k4, hb, wn, wn3, wh, decide_true, decide_false, Bool.not_true, Bool.not_false, Bool.and_self, Bool.true_and, cond_true, cond_false]
    by_cases hb0 : 0 < band
    · have hw : IntKind.i64.wrap (band - 1) = band - 1 := wrap64_id (by omega) (by omega)
      have hb1 := hI (band - 1).toNat (by omega)
      have j1 : 0 ≤ band - 1 := by omega
      have j2 : band - 1 < n3 := by omega
      have hcc := hcut (band - 1).toNat (by omega)
      have hok' := hok (getInt c3 (off3 + (band - 1).toNat * 1)) (by rw [Nat.mul_one]; omega) (by rw [Nat.mul_one]; omega)
      simp only [hb0, hw, hb1, j1, j2, hok', decide_true, Bool.and_self, cond_true]
      exact hfin _ (hlo.1 hb0)
    · have hok' := hok 0 (by omega) (by omega)
      simp only [hb0, hok', decide_false, decide_true, Bool.and_self, cond_false, cond_true]
      exact hfin _ (hlo.2 hb0)
end
end Go.Proofs.Ytohpmnfplglbdaa

