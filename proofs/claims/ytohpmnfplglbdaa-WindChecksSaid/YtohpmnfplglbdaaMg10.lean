/- For every input the law WindChecks returns true, and each argument reads behind the call as it read before. Conditions: none. -/
import Derived.Test.YtohpmnfplglbdaaMg9
import Derived.Test.YtohpmnfplglbdaaMg5
import Derived.Test.YtohpmnfplglbdaaMg6
import Derived.Below
import Derived.Test.YtohpmnfplglbdaaRows
import Derived.WalkKit
import Derived.ProofKit
import Derived.OpenShut
import Derived.ChangeOld
import Derived.Deep.Strs
import Derived.ChangeMaps5
/- What wind.Check returns: the same as hangfireref01.Check. Conditions: none. -/
namespace Go.Proofs.Ytohpmnfplglbdaa
open Go.Gh Go.RowKit
noncomputable section
set_option maxRecDepth 100000
set_option linter.unusedSimpArgs false
set_option linter.unusedVariables false
theorem tree20m (J J2 J3 : Task → List Value) (c0 c c3 : Array Value) (off0 off off3 : Nat) (n n2 n3 : Nat) (age shear : Int) :
    evC Try.prog ((sh20a.ans J).or ((sh20b.ans J2).or (sh20c.ans J3))).c 60 (.call 20 ⟨[.agg ⟨[.slice (some ⟨0, off0, none⟩) n 7, .slice (some ⟨1, off, none⟩) n2 5, .slice (some ⟨2, off3, none⟩) n3 1, .int .i64 age, .int .i64 shear]⟩]⟩ ⟨[.cells c0 true, .cells c true, .cells c3 true], 3, []⟩) some =
    cond (decide ((6 : Int) < (Int.ofNat n)))
    (some (Out.ret (Value.tuple ⟨[(Value.int .i64 (1 : Int)), (Value.int .i64 (0 : Int)), (Value.int .i64 (3 : Int))]⟩) (Hp.mk [(Ob.cells c0 true), (Ob.cells c true), (Ob.cells c3 true)] 3 [])))
    (cond (decide ((60 : Int) < (Int.ofNat n2)))
     (some (Out.ret (Value.tuple ⟨[(Value.int .i64 (1 : Int)), (Value.int .i64 (0 : Int)), (Value.int .i64 (3 : Int))]⟩) (Hp.mk [(Ob.cells c0 true), (Ob.cells c true), (Ob.cells c3 true)] 3 [])))
     (cond (decide ((Int.ofNat n3) < (1 : Int)))
      (some (Out.ret (Value.tuple ⟨[(Value.int .i64 (1 : Int)), (Value.int .i64 (0 : Int)), (Value.int .i64 (3 : Int))]⟩) (Hp.mk [(Ob.cells c0 true), (Ob.cells c true), (Ob.cells c3 true)] 3 [])))
      (cond (decide ((20 : Int) < (Int.ofNat n3)))
       (some (Out.ret (Value.tuple ⟨[(Value.int .i64 (1 : Int)), (Value.int .i64 (0 : Int)), (Value.int .i64 (3 : Int))]⟩) (Hp.mk [(Ob.cells c0 true), (Ob.cells c true), (Ob.cells c3 true)] 3 [])))
       (cond (eqCode (theLoop Try.prog 20 0) (theLoop Try.prog 20 0))
        (cond (okA20 c0 off0 n (Option.some (Addr.mk 1 off Option.none)) (Option.some (Addr.mk 2 off3 Option.none)) n2 5 n3 1 (Ob.cells c true) (Ob.cells c3 true) (Int.ofNat n) (0 : Int) off0 n)
         (cond (okM [])
          (cond (saB c0 off0 (n - 0) 0 [])
           (some (Out.ret (Value.tuple ⟨[(Value.int .i64 (2 : Int)), (Value.int .i64 (Int.ofNat (saI c0 off0 (n - 0) 0 []))), (Value.int .i64 (saE c0 off0 (n - 0) 0 []))]⟩) (Hp.mk [(Ob.cells c0 true), (Ob.cells c true), (Ob.cells c3 true)] 3 [])))
           (cond (eqCode (theLoop Try.prog 20 1) (theLoop Try.prog 20 1))
            (cond (okA20b c0 off0 n c off n2 (Option.some (Addr.mk 2 off3 Option.none)) n3 1 (Ob.cells c3 true) (Int.ofNat n2) (0 : Int) (saM c0 off0 (n - 0) 0 []))
             (cond (sbB c0 off0 n c off (n2 - 0) 0 (saM c0 off0 (n - 0) 0 []))
              (some (Out.ret (Value.tuple ⟨[(Value.int .i64 (3 : Int)), (Value.int .i64 (Int.ofNat (sbI c0 off0 n c off (n2 - 0) 0 (saM c0 off0 (n - 0) 0 [])))), (Value.int .i64 (sbE c0 off0 n c off (n2 - 0) 0 (saM c0 off0 (n - 0) 0 [])))]⟩) (Hp.mk [(Ob.cells c0 true), (Ob.cells c true), (Ob.cells c3 true)] 3 [])))
              (cond (eqCode (theLoop Try.prog 20 2) (theLoop Try.prog 20 2))
               (cond (okA20c c3 off3 n3 (Option.some (Addr.mk 0 off0 Option.none)) (Option.some (Addr.mk 1 off Option.none)) n 7 n2 5 (Ob.cells c0 true) (Ob.cells c true) (Int.ofNat n3) (0 : Int) off3 n3 (sbM c0 off0 n c off (n2 - 0) 0 (saM c0 off0 (n - 0) 0 [])))
                (cond (cuB c3 off3 (n3 - 0) 0 (0 : Int))
                 (some (Out.ret (Value.tuple ⟨[(Value.int .i64 (4 : Int)), (Value.int .i64 (Int.ofNat (cuI c3 off3 (n3 - 0) 0 (0 : Int)))), (Value.int .i64 (cuX c3 off3 (n3 - 0) 0 (0 : Int)))]⟩) (Hp.mk [(Ob.cells c0 true), (Ob.cells c true), (Ob.cells c3 true)] 3 [])))
                 (cond (decide ((0 : Int) ≤ age))
                  (cond (not (decide (age ≤ (1000 : Int))))
                   (some (Out.ret (Value.tuple ⟨[(Value.int .i64 (5 : Int)), (Value.int .i64 (0 : Int)), (Value.int .i64 (7 : Int))]⟩) (Hp.mk [(Ob.cells c0 true), (Ob.cells c true), (Ob.cells c3 true)] 3 [])))
                   (cond (decide ((0 : Int) ≤ shear))
                    (cond (not (decide (shear ≤ (1000 : Int))))
                     (some (Out.ret (Value.tuple ⟨[(Value.int .i64 (5 : Int)), (Value.int .i64 (0 : Int)), (Value.int .i64 (7 : Int))]⟩) (Hp.mk [(Ob.cells c0 true), (Ob.cells c true), (Ob.cells c3 true)] 3 [])))
                     (some (Out.ret (Value.tuple ⟨[(Value.int .i64 (0 : Int)), (Value.int .i64 (0 : Int)), (Value.int .i64 (0 : Int))]⟩) (Hp.mk [(Ob.cells c0 true), (Ob.cells c true), (Ob.cells c3 true)] 3 []))))
                    (some (Out.ret (Value.tuple ⟨[(Value.int .i64 (5 : Int)), (Value.int .i64 (0 : Int)), (Value.int .i64 (7 : Int))]⟩) (Hp.mk [(Ob.cells c0 true), (Ob.cells c true), (Ob.cells c3 true)] 3 [])))))
                  (some (Out.ret (Value.tuple ⟨[(Value.int .i64 (5 : Int)), (Value.int .i64 (0 : Int)), (Value.int .i64 (7 : Int))]⟩) (Hp.mk [(Ob.cells c0 true), (Ob.cells c true), (Ob.cells c3 true)] 3 [])))))
                (none))
               (none)))
             (none))
            (none)))
          (none))
         (none))
        (none))))) := by kernel_rfl
theorem tree20p (J J3 : Task → List Value) (c0 c3 : Array Value) (off0 off3 : Nat) (b : Option Addr) (n z2 n3 : Nat) (age shear : Int) :
    evC Try.prog ((sh20a.ans J).or (sh20c.ans J3)).c 60 (.call 20 ⟨[.agg ⟨[.slice (some ⟨0, off0, none⟩) n 7, .slice b 0 z2, .slice (some ⟨2, off3, none⟩) n3 1, .int .i64 age, .int .i64 shear]⟩]⟩ ⟨[.cells c0 true, .dead, .cells c3 true], 3, []⟩) some =
    cond (decide ((6 : Int) < (Int.ofNat n)))
    (some (Out.ret (Value.tuple ⟨[(Value.int .i64 (1 : Int)), (Value.int .i64 (0 : Int)), (Value.int .i64 (3 : Int))]⟩) (Hp.mk [(Ob.cells c0 true), Ob.dead, (Ob.cells c3 true)] 3 [])))
    (cond (decide ((Int.ofNat n3) < (1 : Int)))
     (some (Out.ret (Value.tuple ⟨[(Value.int .i64 (1 : Int)), (Value.int .i64 (0 : Int)), (Value.int .i64 (3 : Int))]⟩) (Hp.mk [(Ob.cells c0 true), Ob.dead, (Ob.cells c3 true)] 3 [])))
     (cond (decide ((20 : Int) < (Int.ofNat n3)))
      (some (Out.ret (Value.tuple ⟨[(Value.int .i64 (1 : Int)), (Value.int .i64 (0 : Int)), (Value.int .i64 (3 : Int))]⟩) (Hp.mk [(Ob.cells c0 true), Ob.dead, (Ob.cells c3 true)] 3 [])))
      (cond (eqCode (theLoop Try.prog 20 0) (theLoop Try.prog 20 0))
       (cond (okA20 c0 off0 n b (Option.some (Addr.mk 2 off3 Option.none)) 0 z2 n3 1 Ob.dead (Ob.cells c3 true) (Int.ofNat n) (0 : Int) off0 n)
        (cond (okM [])
         (cond (saB c0 off0 (n - 0) 0 [])
          (some (Out.ret (Value.tuple ⟨[(Value.int .i64 (2 : Int)), (Value.int .i64 (Int.ofNat (saI c0 off0 (n - 0) 0 []))), (Value.int .i64 (saE c0 off0 (n - 0) 0 []))]⟩) (Hp.mk [(Ob.cells c0 true), Ob.dead, (Ob.cells c3 true)] 3 [])))
          (cond (eqCode (theLoop Try.prog 20 2) (theLoop Try.prog 20 2))
           (cond (okA20c c3 off3 n3 (Option.some (Addr.mk 0 off0 Option.none)) b n 7 0 z2 (Ob.cells c0 true) Ob.dead (Int.ofNat n3) (0 : Int) off3 n3 (saM c0 off0 (n - 0) 0 []))
            (cond (cuB c3 off3 (n3 - 0) 0 (0 : Int))
             (some (Out.ret (Value.tuple ⟨[(Value.int .i64 (4 : Int)), (Value.int .i64 (Int.ofNat (cuI c3 off3 (n3 - 0) 0 (0 : Int)))), (Value.int .i64 (cuX c3 off3 (n3 - 0) 0 (0 : Int)))]⟩) (Hp.mk [(Ob.cells c0 true), Ob.dead, (Ob.cells c3 true)] 3 [])))
             (cond (decide ((0 : Int) ≤ age))
              (cond (not (decide (age ≤ (1000 : Int))))
               (some (Out.ret (Value.tuple ⟨[(Value.int .i64 (5 : Int)), (Value.int .i64 (0 : Int)), (Value.int .i64 (7 : Int))]⟩) (Hp.mk [(Ob.cells c0 true), Ob.dead, (Ob.cells c3 true)] 3 [])))
               (cond (decide ((0 : Int) ≤ shear))
                (cond (not (decide (shear ≤ (1000 : Int))))
                 (some (Out.ret (Value.tuple ⟨[(Value.int .i64 (5 : Int)), (Value.int .i64 (0 : Int)), (Value.int .i64 (7 : Int))]⟩) (Hp.mk [(Ob.cells c0 true), Ob.dead, (Ob.cells c3 true)] 3 [])))
                 (some (Out.ret (Value.tuple ⟨[(Value.int .i64 (0 : Int)), (Value.int .i64 (0 : Int)), (Value.int .i64 (0 : Int))]⟩) (Hp.mk [(Ob.cells c0 true), Ob.dead, (Ob.cells c3 true)] 3 []))))
                (some (Out.ret (Value.tuple ⟨[(Value.int .i64 (5 : Int)), (Value.int .i64 (0 : Int)), (Value.int .i64 (7 : Int))]⟩) (Hp.mk [(Ob.cells c0 true), Ob.dead, (Ob.cells c3 true)] 3 [])))))
              (some (Out.ret (Value.tuple ⟨[(Value.int .i64 (5 : Int)), (Value.int .i64 (0 : Int)), (Value.int .i64 (7 : Int))]⟩) (Hp.mk [(Ob.cells c0 true), Ob.dead, (Ob.cells c3 true)] 3 [])))))
            (none))
           (none)))
         (none))
        (none))
       (none)))) := by kernel_rfl
theorem tree20q0 (J3 : Task → List Value) (c c3 : Array Value) (off off3 : Nat) (z n2 n3 : Nat) (age shear : Int) :
    evC Try.prog (sh20c.ans J3).c 60 (.call 20 ⟨[.agg ⟨[.slice none 0 z, .slice (some ⟨1, off, none⟩) n2 5, .slice (some ⟨2, off3, none⟩) n3 1, .int .i64 age, .int .i64 shear]⟩]⟩ ⟨[.dead, .cells c true, .cells c3 true], 3, []⟩) some =
    cond (decide ((60 : Int) < (Int.ofNat n2)))
    (some (Out.ret (Value.tuple ⟨[(Value.int .i64 (1 : Int)), (Value.int .i64 (0 : Int)), (Value.int .i64 (3 : Int))]⟩) (Hp.mk [Ob.dead, (Ob.cells c true), (Ob.cells c3 true)] 3 [])))
    (cond (decide ((Int.ofNat n3) < (1 : Int)))
     (some (Out.ret (Value.tuple ⟨[(Value.int .i64 (1 : Int)), (Value.int .i64 (0 : Int)), (Value.int .i64 (3 : Int))]⟩) (Hp.mk [Ob.dead, (Ob.cells c true), (Ob.cells c3 true)] 3 [])))
     (cond (decide ((20 : Int) < (Int.ofNat n3)))
      (some (Out.ret (Value.tuple ⟨[(Value.int .i64 (1 : Int)), (Value.int .i64 (0 : Int)), (Value.int .i64 (3 : Int))]⟩) (Hp.mk [Ob.dead, (Ob.cells c true), (Ob.cells c3 true)] 3 [])))
      (cond (decide ((0 : Int) < (Int.ofNat n2)))
       (cond (and true (decide ((0 : Int) < (Int.ofNat n2))))
        (cond (and true (rdOk c [(Leaf.int .i64), (Leaf.int .i64), (Leaf.int .i64), (Leaf.int .i64), (Leaf.int .i64)] (off + 0)))
         (cond (decide ((getInt c (off + 0)) < (0 : Int)))
          (some (Out.ret (Value.tuple ⟨[(Value.int .i64 (3 : Int)), (Value.int .i64 (0 : Int)), (Value.int .i64 (4 : Int))]⟩) (Hp.mk [Ob.dead, (Ob.cells c true), (Ob.cells c3 true)] 3 [])))
          (cond (decide ((0 : Int) ≤ (getInt c (off + 0))))
           (some (Out.ret (Value.tuple ⟨[(Value.int .i64 (3 : Int)), (Value.int .i64 (0 : Int)), (Value.int .i64 (4 : Int))]⟩) (Hp.mk [Ob.dead, (Ob.cells c true), (Ob.cells c3 true)] 3 [])))
           (none)))
         (none))
        (none))
       (cond (eqCode (theLoop Try.prog 20 2) (theLoop Try.prog 20 2))
        (cond (okA20c c3 off3 n3 Option.none (Option.some (Addr.mk 1 off Option.none)) 0 z n2 5 Ob.dead (Ob.cells c true) (Int.ofNat n3) (0 : Int) off3 n3 [])
         (cond (cuB c3 off3 (n3 - 0) 0 (0 : Int))
          (some (Out.ret (Value.tuple ⟨[(Value.int .i64 (4 : Int)), (Value.int .i64 (Int.ofNat (cuI c3 off3 (n3 - 0) 0 (0 : Int)))), (Value.int .i64 (cuX c3 off3 (n3 - 0) 0 (0 : Int)))]⟩) (Hp.mk [Ob.dead, (Ob.cells c true), (Ob.cells c3 true)] 3 [])))
          (cond (decide ((0 : Int) ≤ age))
           (cond (not (decide (age ≤ (1000 : Int))))
            (some (Out.ret (Value.tuple ⟨[(Value.int .i64 (5 : Int)), (Value.int .i64 (0 : Int)), (Value.int .i64 (7 : Int))]⟩) (Hp.mk [Ob.dead, (Ob.cells c true), (Ob.cells c3 true)] 3 [])))
            (cond (decide ((0 : Int) ≤ shear))
             (cond (not (decide (shear ≤ (1000 : Int))))
              (some (Out.ret (Value.tuple ⟨[(Value.int .i64 (5 : Int)), (Value.int .i64 (0 : Int)), (Value.int .i64 (7 : Int))]⟩) (Hp.mk [Ob.dead, (Ob.cells c true), (Ob.cells c3 true)] 3 [])))
              (some (Out.ret (Value.tuple ⟨[(Value.int .i64 (0 : Int)), (Value.int .i64 (0 : Int)), (Value.int .i64 (0 : Int))]⟩) (Hp.mk [Ob.dead, (Ob.cells c true), (Ob.cells c3 true)] 3 []))))
             (some (Out.ret (Value.tuple ⟨[(Value.int .i64 (5 : Int)), (Value.int .i64 (0 : Int)), (Value.int .i64 (7 : Int))]⟩) (Hp.mk [Ob.dead, (Ob.cells c true), (Ob.cells c3 true)] 3 [])))))
           (some (Out.ret (Value.tuple ⟨[(Value.int .i64 (5 : Int)), (Value.int .i64 (0 : Int)), (Value.int .i64 (7 : Int))]⟩) (Hp.mk [Ob.dead, (Ob.cells c true), (Ob.cells c3 true)] 3 [])))))
         (none))
        (none))))) := by kernel_rfl
theorem tree20q1 (J3 : Task → List Value) (c c3 : Array Value) (off off3 : Nat) (off0 z n2 n3 : Nat) (age shear : Int) :
    evC Try.prog (sh20c.ans J3).c 60 (.call 20 ⟨[.agg ⟨[.slice (some ⟨0, off0, none⟩) 0 z, .slice (some ⟨1, off, none⟩) n2 5, .slice (some ⟨2, off3, none⟩) n3 1, .int .i64 age, .int .i64 shear]⟩]⟩ ⟨[.dead, .cells c true, .cells c3 true], 3, []⟩) some =
    cond (decide ((60 : Int) < (Int.ofNat n2)))
    (some (Out.ret (Value.tuple ⟨[(Value.int .i64 (1 : Int)), (Value.int .i64 (0 : Int)), (Value.int .i64 (3 : Int))]⟩) (Hp.mk [Ob.dead, (Ob.cells c true), (Ob.cells c3 true)] 3 [])))
    (cond (decide ((Int.ofNat n3) < (1 : Int)))
     (some (Out.ret (Value.tuple ⟨[(Value.int .i64 (1 : Int)), (Value.int .i64 (0 : Int)), (Value.int .i64 (3 : Int))]⟩) (Hp.mk [Ob.dead, (Ob.cells c true), (Ob.cells c3 true)] 3 [])))
     (cond (decide ((20 : Int) < (Int.ofNat n3)))
      (some (Out.ret (Value.tuple ⟨[(Value.int .i64 (1 : Int)), (Value.int .i64 (0 : Int)), (Value.int .i64 (3 : Int))]⟩) (Hp.mk [Ob.dead, (Ob.cells c true), (Ob.cells c3 true)] 3 [])))
      (cond (decide ((0 : Int) < (Int.ofNat n2)))
       (cond (and true (decide ((0 : Int) < (Int.ofNat n2))))
        (cond (and true (rdOk c [(Leaf.int .i64), (Leaf.int .i64), (Leaf.int .i64), (Leaf.int .i64), (Leaf.int .i64)] (off + 0)))
         (cond (decide ((getInt c (off + 0)) < (0 : Int)))
          (some (Out.ret (Value.tuple ⟨[(Value.int .i64 (3 : Int)), (Value.int .i64 (0 : Int)), (Value.int .i64 (4 : Int))]⟩) (Hp.mk [Ob.dead, (Ob.cells c true), (Ob.cells c3 true)] 3 [])))
          (cond (decide ((0 : Int) ≤ (getInt c (off + 0))))
           (some (Out.ret (Value.tuple ⟨[(Value.int .i64 (3 : Int)), (Value.int .i64 (0 : Int)), (Value.int .i64 (4 : Int))]⟩) (Hp.mk [Ob.dead, (Ob.cells c true), (Ob.cells c3 true)] 3 [])))
           (cond (and (decide ((0 : Int) ≤ (getInt c (off + 0)))) (decide ((getInt c (off + 0)) < (0 : Int))))
            (none)
            (none))))
         (none))
        (none))
       (cond (eqCode (theLoop Try.prog 20 2) (theLoop Try.prog 20 2))
        (cond (okA20c c3 off3 n3 (Option.some (Addr.mk 0 off0 Option.none)) (Option.some (Addr.mk 1 off Option.none)) 0 z n2 5 Ob.dead (Ob.cells c true) (Int.ofNat n3) (0 : Int) off3 n3 [])
         (cond (cuB c3 off3 (n3 - 0) 0 (0 : Int))
          (some (Out.ret (Value.tuple ⟨[(Value.int .i64 (4 : Int)), (Value.int .i64 (Int.ofNat (cuI c3 off3 (n3 - 0) 0 (0 : Int)))), (Value.int .i64 (cuX c3 off3 (n3 - 0) 0 (0 : Int)))]⟩) (Hp.mk [Ob.dead, (Ob.cells c true), (Ob.cells c3 true)] 3 [])))
          (cond (decide ((0 : Int) ≤ age))
           (cond (not (decide (age ≤ (1000 : Int))))
            (some (Out.ret (Value.tuple ⟨[(Value.int .i64 (5 : Int)), (Value.int .i64 (0 : Int)), (Value.int .i64 (7 : Int))]⟩) (Hp.mk [Ob.dead, (Ob.cells c true), (Ob.cells c3 true)] 3 [])))
            (cond (decide ((0 : Int) ≤ shear))
             (cond (not (decide (shear ≤ (1000 : Int))))
              (some (Out.ret (Value.tuple ⟨[(Value.int .i64 (5 : Int)), (Value.int .i64 (0 : Int)), (Value.int .i64 (7 : Int))]⟩) (Hp.mk [Ob.dead, (Ob.cells c true), (Ob.cells c3 true)] 3 [])))
              (some (Out.ret (Value.tuple ⟨[(Value.int .i64 (0 : Int)), (Value.int .i64 (0 : Int)), (Value.int .i64 (0 : Int))]⟩) (Hp.mk [Ob.dead, (Ob.cells c true), (Ob.cells c3 true)] 3 []))))
             (some (Out.ret (Value.tuple ⟨[(Value.int .i64 (5 : Int)), (Value.int .i64 (0 : Int)), (Value.int .i64 (7 : Int))]⟩) (Hp.mk [Ob.dead, (Ob.cells c true), (Ob.cells c3 true)] 3 [])))))
           (some (Out.ret (Value.tuple ⟨[(Value.int .i64 (5 : Int)), (Value.int .i64 (0 : Int)), (Value.int .i64 (7 : Int))]⟩) (Hp.mk [Ob.dead, (Ob.cells c true), (Ob.cells c3 true)] 3 [])))))
         (none))
        (none))))) := by kernel_rfl
theorem tree20q2 (J3 : Task → List Value) (c c3 : Array Value) (off off3 : Nat) (sp : Nat) (off0 z n2 n3 : Nat) (age shear : Int) :
    evC Try.prog (sh20c.ans J3).c 60 (.call 20 ⟨[.agg ⟨[.slice (some ⟨0, off0, some sp⟩) 0 z, .slice (some ⟨1, off, none⟩) n2 5, .slice (some ⟨2, off3, none⟩) n3 1, .int .i64 age, .int .i64 shear]⟩]⟩ ⟨[.dead, .cells c true, .cells c3 true], 3, []⟩) some =
    cond (decide ((60 : Int) < (Int.ofNat n2)))
    (some (Out.ret (Value.tuple ⟨[(Value.int .i64 (1 : Int)), (Value.int .i64 (0 : Int)), (Value.int .i64 (3 : Int))]⟩) (Hp.mk [Ob.dead, (Ob.cells c true), (Ob.cells c3 true)] 3 [])))
    (cond (decide ((Int.ofNat n3) < (1 : Int)))
     (some (Out.ret (Value.tuple ⟨[(Value.int .i64 (1 : Int)), (Value.int .i64 (0 : Int)), (Value.int .i64 (3 : Int))]⟩) (Hp.mk [Ob.dead, (Ob.cells c true), (Ob.cells c3 true)] 3 [])))
     (cond (decide ((20 : Int) < (Int.ofNat n3)))
      (some (Out.ret (Value.tuple ⟨[(Value.int .i64 (1 : Int)), (Value.int .i64 (0 : Int)), (Value.int .i64 (3 : Int))]⟩) (Hp.mk [Ob.dead, (Ob.cells c true), (Ob.cells c3 true)] 3 [])))
      (cond (decide ((0 : Int) < (Int.ofNat n2)))
       (cond (and true (decide ((0 : Int) < (Int.ofNat n2))))
        (cond (and true (rdOk c [(Leaf.int .i64), (Leaf.int .i64), (Leaf.int .i64), (Leaf.int .i64), (Leaf.int .i64)] (off + 0)))
         (cond (decide ((getInt c (off + 0)) < (0 : Int)))
          (some (Out.ret (Value.tuple ⟨[(Value.int .i64 (3 : Int)), (Value.int .i64 (0 : Int)), (Value.int .i64 (4 : Int))]⟩) (Hp.mk [Ob.dead, (Ob.cells c true), (Ob.cells c3 true)] 3 [])))
          (cond (decide ((0 : Int) ≤ (getInt c (off + 0))))
           (some (Out.ret (Value.tuple ⟨[(Value.int .i64 (3 : Int)), (Value.int .i64 (0 : Int)), (Value.int .i64 (4 : Int))]⟩) (Hp.mk [Ob.dead, (Ob.cells c true), (Ob.cells c3 true)] 3 [])))
           (none)))
         (none))
        (none))
       (cond (eqCode (theLoop Try.prog 20 2) (theLoop Try.prog 20 2))
        (cond (okA20c c3 off3 n3 (Option.some (Addr.mk 0 off0 (Option.some sp))) (Option.some (Addr.mk 1 off Option.none)) 0 z n2 5 Ob.dead (Ob.cells c true) (Int.ofNat n3) (0 : Int) off3 n3 [])
         (cond (cuB c3 off3 (n3 - 0) 0 (0 : Int))
          (some (Out.ret (Value.tuple ⟨[(Value.int .i64 (4 : Int)), (Value.int .i64 (Int.ofNat (cuI c3 off3 (n3 - 0) 0 (0 : Int)))), (Value.int .i64 (cuX c3 off3 (n3 - 0) 0 (0 : Int)))]⟩) (Hp.mk [Ob.dead, (Ob.cells c true), (Ob.cells c3 true)] 3 [])))
          (cond (decide ((0 : Int) ≤ age))
           (cond (not (decide (age ≤ (1000 : Int))))
            (some (Out.ret (Value.tuple ⟨[(Value.int .i64 (5 : Int)), (Value.int .i64 (0 : Int)), (Value.int .i64 (7 : Int))]⟩) (Hp.mk [Ob.dead, (Ob.cells c true), (Ob.cells c3 true)] 3 [])))
            (cond (decide ((0 : Int) ≤ shear))
             (cond (not (decide (shear ≤ (1000 : Int))))
              (some (Out.ret (Value.tuple ⟨[(Value.int .i64 (5 : Int)), (Value.int .i64 (0 : Int)), (Value.int .i64 (7 : Int))]⟩) (Hp.mk [Ob.dead, (Ob.cells c true), (Ob.cells c3 true)] 3 [])))
              (some (Out.ret (Value.tuple ⟨[(Value.int .i64 (0 : Int)), (Value.int .i64 (0 : Int)), (Value.int .i64 (0 : Int))]⟩) (Hp.mk [Ob.dead, (Ob.cells c true), (Ob.cells c3 true)] 3 []))))
             (some (Out.ret (Value.tuple ⟨[(Value.int .i64 (5 : Int)), (Value.int .i64 (0 : Int)), (Value.int .i64 (7 : Int))]⟩) (Hp.mk [Ob.dead, (Ob.cells c true), (Ob.cells c3 true)] 3 [])))))
           (some (Out.ret (Value.tuple ⟨[(Value.int .i64 (5 : Int)), (Value.int .i64 (0 : Int)), (Value.int .i64 (7 : Int))]⟩) (Hp.mk [Ob.dead, (Ob.cells c true), (Ob.cells c3 true)] 3 [])))))
         (none))
        (none))))) := by kernel_rfl
theorem tree20r (J3 : Task → List Value) (c3 : Array Value) (off3 : Nat) (a b : Option Addr) (z z2 n3 : Nat) (age shear : Int) :
    evC Try.prog (sh20c.ans J3).c 60 (.call 20 ⟨[.agg ⟨[.slice a 0 z, .slice b 0 z2, .slice (some ⟨2, off3, none⟩) n3 1, .int .i64 age, .int .i64 shear]⟩]⟩ ⟨[.dead, .dead, .cells c3 true], 3, []⟩) some =
    cond (decide ((Int.ofNat n3) < (1 : Int)))
    (some (Out.ret (Value.tuple ⟨[(Value.int .i64 (1 : Int)), (Value.int .i64 (0 : Int)), (Value.int .i64 (3 : Int))]⟩) (Hp.mk [Ob.dead, Ob.dead, (Ob.cells c3 true)] 3 [])))
    (cond (decide ((20 : Int) < (Int.ofNat n3)))
     (some (Out.ret (Value.tuple ⟨[(Value.int .i64 (1 : Int)), (Value.int .i64 (0 : Int)), (Value.int .i64 (3 : Int))]⟩) (Hp.mk [Ob.dead, Ob.dead, (Ob.cells c3 true)] 3 [])))
     (cond (eqCode (theLoop Try.prog 20 2) (theLoop Try.prog 20 2))
      (cond (okA20c c3 off3 n3 a b 0 z 0 z2 Ob.dead Ob.dead (Int.ofNat n3) (0 : Int) off3 n3 [])
       (cond (cuB c3 off3 (n3 - 0) 0 (0 : Int))
        (some (Out.ret (Value.tuple ⟨[(Value.int .i64 (4 : Int)), (Value.int .i64 (Int.ofNat (cuI c3 off3 (n3 - 0) 0 (0 : Int)))), (Value.int .i64 (cuX c3 off3 (n3 - 0) 0 (0 : Int)))]⟩) (Hp.mk [Ob.dead, Ob.dead, (Ob.cells c3 true)] 3 [])))
        (cond (decide ((0 : Int) ≤ age))
         (cond (not (decide (age ≤ (1000 : Int))))
          (some (Out.ret (Value.tuple ⟨[(Value.int .i64 (5 : Int)), (Value.int .i64 (0 : Int)), (Value.int .i64 (7 : Int))]⟩) (Hp.mk [Ob.dead, Ob.dead, (Ob.cells c3 true)] 3 [])))
          (cond (decide ((0 : Int) ≤ shear))
           (cond (not (decide (shear ≤ (1000 : Int))))
            (some (Out.ret (Value.tuple ⟨[(Value.int .i64 (5 : Int)), (Value.int .i64 (0 : Int)), (Value.int .i64 (7 : Int))]⟩) (Hp.mk [Ob.dead, Ob.dead, (Ob.cells c3 true)] 3 [])))
            (some (Out.ret (Value.tuple ⟨[(Value.int .i64 (0 : Int)), (Value.int .i64 (0 : Int)), (Value.int .i64 (0 : Int))]⟩) (Hp.mk [Ob.dead, Ob.dead, (Ob.cells c3 true)] 3 []))))
           (some (Out.ret (Value.tuple ⟨[(Value.int .i64 (5 : Int)), (Value.int .i64 (0 : Int)), (Value.int .i64 (7 : Int))]⟩) (Hp.mk [Ob.dead, Ob.dead, (Ob.cells c3 true)] 3 [])))))
         (some (Out.ret (Value.tuple ⟨[(Value.int .i64 (5 : Int)), (Value.int .i64 (0 : Int)), (Value.int .i64 (7 : Int))]⟩) (Hp.mk [Ob.dead, Ob.dead, (Ob.cells c3 true)] 3 [])))))
       (none))
      (none))) := by kernel_rfl
theorem tree20z (a b d : Option Addr) (n z n2 z2 z3 : Nat) (age shear : Int) :
    evC Try.prog (Ans.c fun _ => none) 60 (.call 20 ⟨[.agg ⟨[.slice a n z, .slice b n2 z2, .slice d 0 z3, .int .i64 age, .int .i64 shear]⟩]⟩ ⟨[.dead, .dead, .dead], 3, []⟩) some =
    cond (decide ((6 : Int) < (Int.ofNat n)))
    (some (Out.ret (Value.tuple ⟨[(Value.int .i64 (1 : Int)), (Value.int .i64 (0 : Int)), (Value.int .i64 (3 : Int))]⟩) (Hp.mk [Ob.dead, Ob.dead, Ob.dead] 3 [])))
    (cond (decide ((60 : Int) < (Int.ofNat n2)))
     (some (Out.ret (Value.tuple ⟨[(Value.int .i64 (1 : Int)), (Value.int .i64 (0 : Int)), (Value.int .i64 (3 : Int))]⟩) (Hp.mk [Ob.dead, Ob.dead, Ob.dead] 3 [])))
     (some (Out.ret (Value.tuple ⟨[(Value.int .i64 (1 : Int)), (Value.int .i64 (0 : Int)), (Value.int .i64 (3 : Int))]⟩) (Hp.mk [Ob.dead, Ob.dead, Ob.dead] 3 [])))) := by kernel_rfl
theorem srP_eq (a : Option Addr) (H : List Ob) : srP a H = srQ (arrOf a H) (offOf a) := rfl
theorem soP_eq (a b : Option Addr) (n : Nat) (H : List Ob) : soP a b n H = sdQ (arrOf a H) (offOf a) n (arrOf b H) (offOf b) := rfl
theorem srE_eq (a : Option Addr) (H : List Ob) (k : Nat) : srE a H k = srcE (arrOf a H) (offOf a) k := rfl
theorem soE_eq (a b : Option Addr) (n : Nat) (H : List Ob) (k : Nat) : soE a b n H k = sdE (arrOf a H) (offOf a) n (arrOf b H) (offOf b) k := rfl
theorem fB_zero (p : Nat → Bool) : fB p 0 0 = false := rfl
theorem takenM_nil : TakenM [] := fun e h => by cases h
theorem okM_nil : okM [] = true := dec_iff.2 takenM_nil
theorem sdE_none {c0 : Array Value} {off0 : Nat} {c : Array Value} {off k : Nat} : sdE c0 off0 0 c off k = 4 := by
  unfold sdE
  rw [if_pos]
  unfold inB
  simp only [Bool.and_eq_false_iff, decide_eq_false_iff_not]
  omega
theorem so_none {c0 : Array Value} {off0 : Nat} {c : Array Value} {off n2 : Nat} (h : 0 < n2) : fB (sdQ c0 off0 0 c off) n2 0 = true ∧ fI (sdQ c0 off0 0 c off) n2 0 = 0 := by
  obtain ⟨m, rfl⟩ : ∃ m, n2 = m + 1 := ⟨n2 - 1, by omega⟩
  have hp : sdQ c0 off0 0 c off 0 = true := by unfold sdQ; rw [sdE_none]; rfl
  exact ⟨fB_hit hp, fI_hit hp⟩
theorem run20r (J3 : Task → List Value) (c3 : Array Value) (off3 : Nat) (a b : Option Addr) (z z2 n3 : Nat) (age shear : Int) (sa : sc1 3 (.slice a 0 z) = true) (sb : sc1 3 (.slice b 0 z2) = true) (g3 : GoodL L1 c3 off3 n3) (hpos : 0 < n3) :
    evC Try.prog (sh20c.ans J3).c 60 (.call 20 ⟨[.agg ⟨[.slice a 0 z, .slice b 0 z2, .slice (some ⟨2, off3, none⟩) n3 1, .int .i64 age, .int .i64 shear]⟩]⟩ ⟨[.dead, .dead, .cells c3 true], 3, []⟩) some = some (.ret (.tuple ⟨[.int .i64 (ckR (a) (b) (some ⟨2, off3, none⟩) 0 0 n3 age shear [.dead, .dead, .cells c3 true]).1, .int .i64 (ckR (a) (b) (some ⟨2, off3, none⟩) 0 0 n3 age shear [.dead, .dead, .cells c3 true]).2.1, .int .i64 (ckR (a) (b) (some ⟨2, off3, none⟩) 0 0 n3 age shear [.dead, .dead, .cells c3 true]).2.2]⟩) ⟨[.dead, .dead, .cells c3 true], 3, []⟩) := by
  refine (tree20r ..).trans ?_
  have k4 : n3 ≤ 20 → okA20c c3 off3 n3 a b 0 z 0 z2 .dead .dead (n3 : Int) 0 off3 n3 [] = true := fun h3 => dec_iff.2 ⟨rfl, rfl, g3, sa, sb, .inl rfl, .inl rfl, h3, rfl, by omega, takenM_nil⟩
  have p2 : arrOf (some ⟨2, off3, none⟩) [.dead, .dead, .cells c3 true] = c3 := rfl
  have p3 : offOf (some ⟨2, off3, none⟩) = off3 := rfl
  have q3 := cu_ck c3 off3 n3
  clear sa sb g3
  simp only [Int.ofNat_eq_natCast, eqCode_self, cond_true, Nat.sub_zero]
  unfold ckR
  rw [p2, p3, srP_eq, soP_eq, fB_zero, fB_zero]
  by_cases h4 : 20 < n3
  · have h4' : (20 : Int) < n3 := by omega
    have h3' : ¬ (n3 : Int) < 1 := by omega
    simp only [h3', h4, h4', decide_true, decide_false, cond_true, cond_false, or_true, if_true]
  have h4' : ¬ (20 : Int) < n3 := by omega
  have h3' : ¬ (n3 : Int) < 1 := by omega
  have h3 : ¬ n3 < 1 := by omega
  have h1 : ¬ 6 < 0 := by omega
  have h2 : ¬ 60 < 0 := by omega
  simp only [h1, h2, h3, h4, h3', h4', k4 (by omega), decide_true, decide_false, cond_true, cond_false, or_self, if_false, Bool.false_eq_true]
  clear k4
  rcases q3 with ⟨w1, w2⟩ | ⟨w1, w2, w3, w4⟩
  · simp only [w1, w2, cond_false, Bool.false_eq_true, if_false]
    clear w1 w2
    repeat' refine cond_hd (fun _ => ?_) (fun _ => ?_)
    all_goals simp_all [inB]
    all_goals (rw [if_pos (by omega)]; simp)
  · simp only [w1, w2, w3, w4, cond_true, if_true, Int.ofNat_eq_natCast]
theorem run20q (J3 : Task → List Value) (c c3 : Array Value) (off off3 : Nat) (a : Option Addr) (z n2 n3 : Nat) (age shear : Int) (ha : a = none ∨ ∃ off0 sp, a = some ⟨0, off0, sp⟩) (g : GoodL L5 c off n2) (hpos : 0 < n3) (hpos2 : 0 < n2) :
    evC Try.prog (sh20c.ans J3).c 60 (.call 20 ⟨[.agg ⟨[.slice a 0 z, .slice (some ⟨1, off, none⟩) n2 5, .slice (some ⟨2, off3, none⟩) n3 1, .int .i64 age, .int .i64 shear]⟩]⟩ ⟨[.dead, .cells c true, .cells c3 true], 3, []⟩) some = some (.ret (.tuple ⟨[.int .i64 (ckR (a) (some ⟨1, off, none⟩) (some ⟨2, off3, none⟩) 0 n2 n3 age shear [.dead, .cells c true, .cells c3 true]).1, .int .i64 (ckR (a) (some ⟨1, off, none⟩) (some ⟨2, off3, none⟩) 0 n2 n3 age shear [.dead, .cells c true, .cells c3 true]).2.1, .int .i64 (ckR (a) (some ⟨1, off, none⟩) (some ⟨2, off3, none⟩) 0 n2 n3 age shear [.dead, .cells c true, .cells c3 true]).2.2]⟩) ⟨[.dead, .cells c true, .cells c3 true], 3, []⟩) := by
  have hr : rdOk c L5 (off + 0) = true := by
    have := g.2 0 hpos2
    simpa using this
  have q := so_none (c0 := arrOf a [.dead, .cells c true, .cells c3 true]) (off0 := offOf a) (c := c) (off := off) hpos2
  have p1 : arrOf (some ⟨1, off, none⟩) [.dead, .cells c true, .cells c3 true] = c := rfl
  have p1' : offOf (some ⟨1, off, none⟩) = off := rfl
  have hv : ckR a (some ⟨1, off, none⟩) (some ⟨2, off3, none⟩) 0 n2 n3 age shear [.dead, .cells c true, .cells c3 true] = if 60 < n2 ∨ n3 < 1 ∨ 20 < n3 then (1, 0, 3) else (3, 0, 4) := by
    unfold ckR
    rw [srP_eq, soP_eq, fB_zero, p1, p1', q.1, q.2, soE_eq, sdE_none]
    simp
  rw [hv]
  clear hv q g
  have hn2 : (0 : Int) < n2 := by omega
  rcases ha with rfl | ⟨off0, sp, rfl⟩
  · refine (tree20q0 ..).trans ?_
    simp only [Int.ofNat_eq_natCast, hn2, hr, decide_true, Bool.and_self, cond_true]
    by_cases h2 : 60 < n2
    · have h2' : (60 : Int) < n2 := by omega
      simp only [h2, h2', decide_true, cond_true, true_or, if_true]
    have h2' : ¬ (60 : Int) < n2 := by omega
    have h3 : ¬ n3 < 1 := by omega
    have h3' : ¬ (n3 : Int) < 1 := by omega
    by_cases h4 : 20 < n3
    · have h4' : (20 : Int) < n3 := by omega
      simp only [h2, h2', h3, h3', h4, h4', decide_true, decide_false, cond_true, cond_false, or_true, if_true]
    have h4' : ¬ (20 : Int) < n3 := by omega
    simp only [h2, h2', h3, h3', h4, h4', decide_true, decide_false, cond_true, cond_false, or_self, if_false]
    refine cond_hd (fun _ => rfl) (fun h5 => ?_)
    rw [decide_eq_true (by have := of_decide_eq_false h5; omega)]
    rfl
  · cases sp with
    | none =>
      refine (tree20q1 ..).trans ?_
      simp only [Int.ofNat_eq_natCast, hn2, hr, decide_true, Bool.and_self, cond_true]
      by_cases h2 : 60 < n2
      · have h2' : (60 : Int) < n2 := by omega
        simp only [h2, h2', decide_true, cond_true, true_or, if_true]
      have h2' : ¬ (60 : Int) < n2 := by omega
      have h3 : ¬ n3 < 1 := by omega
      have h3' : ¬ (n3 : Int) < 1 := by omega
      by_cases h4 : 20 < n3
      · have h4' : (20 : Int) < n3 := by omega
        simp only [h2, h2', h3, h3', h4, h4', decide_true, decide_false, cond_true, cond_false, or_true, if_true]
      have h4' : ¬ (20 : Int) < n3 := by omega
      simp only [h2, h2', h3, h3', h4, h4', decide_true, decide_false, cond_true, cond_false, or_self, if_false]
      refine cond_hd (fun _ => rfl) (fun h5 => ?_)
      rw [decide_eq_true (by have := of_decide_eq_false h5; omega)]
      rfl
    | some sp =>
      refine (tree20q2 ..).trans ?_
      simp only [Int.ofNat_eq_natCast, hn2, hr, decide_true, Bool.and_self, cond_true]
      by_cases h2 : 60 < n2
      · have h2' : (60 : Int) < n2 := by omega
        simp only [h2, h2', decide_true, cond_true, true_or, if_true]
      have h2' : ¬ (60 : Int) < n2 := by omega
      have h3 : ¬ n3 < 1 := by omega
      have h3' : ¬ (n3 : Int) < 1 := by omega
      by_cases h4 : 20 < n3
      · have h4' : (20 : Int) < n3 := by omega
        simp only [h2, h2', h3, h3', h4, h4', decide_true, decide_false, cond_true, cond_false, or_true, if_true]
      have h4' : ¬ (20 : Int) < n3 := by omega
      simp only [h2, h2', h3, h3', h4, h4', decide_true, decide_false, cond_true, cond_false, or_self, if_false]
      refine cond_hd (fun _ => rfl) (fun h5 => ?_)
      rw [decide_eq_true (by have := of_decide_eq_false h5; omega)]
      rfl
theorem run20p (J J3 : Task → List Value) (c0 c3 : Array Value) (off0 off3 : Nat) (b : Option Addr) (n z2 n3 : Nat) (age shear : Int) (g0 : GoodL L7 c0 off0 n) (sb : sc1 3 (.slice b 0 z2) = true) (g3 : GoodL L1 c3 off3 n3) (hpos : 0 < n3) :
    evC Try.prog ((sh20a.ans J).or (sh20c.ans J3)).c 60 (.call 20 ⟨[.agg ⟨[.slice (some ⟨0, off0, none⟩) n 7, .slice b 0 z2, .slice (some ⟨2, off3, none⟩) n3 1, .int .i64 age, .int .i64 shear]⟩]⟩ ⟨[.cells c0 true, .dead, .cells c3 true], 3, []⟩) some = some (.ret (.tuple ⟨[.int .i64 (ckR (some ⟨0, off0, none⟩) (b) (some ⟨2, off3, none⟩) n 0 n3 age shear [.cells c0 true, .dead, .cells c3 true]).1, .int .i64 (ckR (some ⟨0, off0, none⟩) (b) (some ⟨2, off3, none⟩) n 0 n3 age shear [.cells c0 true, .dead, .cells c3 true]).2.1, .int .i64 (ckR (some ⟨0, off0, none⟩) (b) (some ⟨2, off3, none⟩) n 0 n3 age shear [.cells c0 true, .dead, .cells c3 true]).2.2]⟩) ⟨[.cells c0 true, .dead, .cells c3 true], 3, []⟩) := by
  refine (tree20p ..).trans ?_
  have k1 : n ≤ 6 → okA20 c0 off0 n b (some ⟨2, off3, none⟩) 0 z2 n3 1 .dead (.cells c3 true) (n : Int) 0 off0 n = true := fun h1 =>
    dec_iff.2 ⟨rfl, rfl, g0, sb, at2_sc (by decide), .inl rfl, .inr ⟨_, rfl, g3.1⟩, h1, rfl, by omega⟩
  have k4 : n3 ≤ 20 → okA20c c3 off3 n3 (some ⟨0, off0, none⟩) b n 7 0 z2 (.cells c0 true) .dead (n3 : Int) 0 off3 n3 (saM c0 off0 n 0 []) = true := fun h3 =>
    dec_iff.2 ⟨rfl, rfl, g3, rfl, sb, .inr ⟨_, rfl, g0.1⟩, .inl rfl, h3, rfl, by omega, saR_taken takenM_nil⟩
  have p2 : arrOf (some ⟨2, off3, none⟩) [.cells c0 true, .dead, .cells c3 true] = c3 := rfl
  have p3 : offOf (some ⟨2, off3, none⟩) = off3 := rfl
  have p0 : arrOf (some ⟨0, off0, none⟩) [.cells c0 true, .dead, .cells c3 true] = c0 := rfl
  have p0' : offOf (some ⟨0, off0, none⟩) = off0 := rfl
  have q1 := sa_ck c0 off0 n
  have q3 := cu_ck c3 off3 n3
  clear g0 sb g3
  simp only [Int.ofNat_eq_natCast, eqCode_self, cond_true, Nat.sub_zero, okM_nil]
  unfold ckR
  rw [p2, p3, srP_eq, soP_eq, p0, p0', fB_zero, srE_eq, p0, p0']
  by_cases h1 : 6 < n
  · have h1' : (6 : Int) < n := by omega
    simp only [h1, h1', decide_true, cond_true, true_or, if_true]
  have h1' : ¬ (6 : Int) < n := by omega
  have h3 : ¬ n3 < 1 := by omega
  have h3' : ¬ (n3 : Int) < 1 := by omega
  have h2 : ¬ 60 < 0 := by omega
  have h2' : True := trivial
  by_cases h4 : 20 < n3
  · have h4' : (20 : Int) < n3 := by omega
    simp only [h1', h3', h4, h4', h2', decide_true, decide_false, cond_true, cond_false, or_true, if_true]
  have h4' : ¬ (20 : Int) < n3 := by omega
  simp only [h1, h2, h3, h4, h1', h3', h4', k1 (by omega), k4 (by omega), decide_true, decide_false, cond_true, cond_false, or_self, if_false, Bool.false_eq_true]
  clear k1 k4
  rcases q1 with ⟨s1, s2, s3, s4⟩ | ⟨s1, s2, s3, s4⟩
  · simp only [s1, s2, cond_false, Bool.false_eq_true, if_false]
    clear s1 s2 s3 s4
    rcases q3 with ⟨w1, w2⟩ | ⟨w1, w2, w3, w4⟩
    · simp only [w1, w2, cond_false, Bool.false_eq_true, if_false]
      clear w1 w2
      repeat' refine cond_hd (fun _ => ?_) (fun _ => ?_)
      all_goals simp_all [inB]
      all_goals (rw [if_pos (by omega)]; simp)
    · simp only [w1, w2, w3, w4, cond_true, if_true, Int.ofNat_eq_natCast]
  · simp only [s1, s2, s3, s4, cond_true, if_true, Int.ofNat_eq_natCast]
theorem run20m (J J2 J3 : Task → List Value) (c0 c c3 : Array Value) (off0 off off3 n n2 n3 : Nat) (age shear : Int) (g0 : GoodL L7 c0 off0 n) (g : GoodL L5 c off n2) (g3 : GoodL L1 c3 off3 n3) (hpos : 0 < n3) :
    evC Try.prog ((sh20a.ans J).or ((sh20b.ans J2).or (sh20c.ans J3))).c 60 (.call 20 ⟨[.agg ⟨[.slice (some ⟨0, off0, none⟩) n 7, .slice (some ⟨1, off, none⟩) n2 5, .slice (some ⟨2, off3, none⟩) n3 1, .int .i64 age, .int .i64 shear]⟩]⟩ ⟨[.cells c0 true, .cells c true, .cells c3 true], 3, []⟩) some = some (.ret (.tuple ⟨[.int .i64 (ckR (some ⟨0, off0, none⟩) (some ⟨1, off, none⟩) (some ⟨2, off3, none⟩) n n2 n3 age shear [.cells c0 true, .cells c true, .cells c3 true]).1, .int .i64 (ckR (some ⟨0, off0, none⟩) (some ⟨1, off, none⟩) (some ⟨2, off3, none⟩) n n2 n3 age shear [.cells c0 true, .cells c true, .cells c3 true]).2.1, .int .i64 (ckR (some ⟨0, off0, none⟩) (some ⟨1, off, none⟩) (some ⟨2, off3, none⟩) n n2 n3 age shear [.cells c0 true, .cells c true, .cells c3 true]).2.2]⟩) ⟨[.cells c0 true, .cells c true, .cells c3 true], 3, []⟩) := by
  refine (tree20m ..).trans ?_
  have k1 : n ≤ 6 → okA20 c0 off0 n (some ⟨1, off, none⟩) (some ⟨2, off3, none⟩) n2 5 n3 1 (.cells c true) (.cells c3 true) (n : Int) 0 off0 n = true := fun h1 =>
    dec_iff.2 ⟨rfl, rfl, g0, rfl, at2_sc (by decide), .inr ⟨_, rfl, g.1⟩, .inr ⟨_, rfl, g3.1⟩, h1, rfl, by omega⟩
  have k2 : n ≤ 6 → n2 ≤ 60 → okA20b c0 off0 n c off n2 (some ⟨2, off3, none⟩) n3 1 (.cells c3 true) (n2 : Int) 0 (saM c0 off0 n 0 []) = true := fun h1 h2 =>
    dec_iff.2 ⟨g0, g, at2_sc (by decide), .inr ⟨_, rfl, g3.1⟩, h1, h2, rfl, by omega, saR_taken takenM_nil⟩
  have k4 : n3 ≤ 20 → okA20c c3 off3 n3 (some ⟨0, off0, none⟩) (some ⟨1, off, none⟩) n 7 n2 5 (.cells c0 true) (.cells c true) (n3 : Int) 0 off3 n3 (sbM c0 off0 n c off n2 0 (saM c0 off0 n 0 [])) = true := fun h3 =>
    dec_iff.2 ⟨rfl, rfl, g3, rfl, rfl, .inr ⟨_, rfl, g0.1⟩, .inr ⟨_, rfl, g.1⟩, h3, rfl, by omega, sbR_taken (saR_taken takenM_nil)⟩
  have p2 : arrOf (some ⟨2, off3, none⟩) [.cells c0 true, .cells c true, .cells c3 true] = c3 := rfl
  have p3 : offOf (some ⟨2, off3, none⟩) = off3 := rfl
  have p1 : arrOf (some ⟨1, off, none⟩) [.cells c0 true, .cells c true, .cells c3 true] = c := rfl
  have p0 : arrOf (some ⟨0, off0, none⟩) [.cells c0 true, .cells c true, .cells c3 true] = c0 := rfl
  have p0' : offOf (some ⟨0, off0, none⟩) = off0 := rfl
  have p1' : offOf (some ⟨1, off, none⟩) = off := rfl
  have q1 := sa_ck c0 off0 n
  have q2 := fun es => sb_ck (c0 := c0) (off0 := off0) (n := n) (es := es) c off n2
  have q3 := cu_ck c3 off3 n3
  clear g0 g g3
  simp only [Int.ofNat_eq_natCast, eqCode_self, cond_true, Nat.sub_zero, okM_nil]
  unfold ckR
  rw [p2, p3, srP_eq, soP_eq, srE_eq, soE_eq, p0, p0', p1, p1']
  by_cases h1 : 6 < n
  · have h1' : (6 : Int) < n := by omega
    simp only [h1, h1', decide_true, cond_true, true_or, if_true]
  have h1' : ¬ (6 : Int) < n := by omega
  have h3 : ¬ n3 < 1 := by omega
  have h3' : ¬ (n3 : Int) < 1 := by omega
  by_cases h2 : 60 < n2
  · have h2' : (60 : Int) < n2 := by omega
    simp only [h1', h2, h2', decide_true, decide_false, cond_true, cond_false, true_or, or_true, if_true]
  have h2' : ¬ (60 : Int) < n2 := by omega
  by_cases h4 : 20 < n3
  · have h4' : (20 : Int) < n3 := by omega
    simp only [h1', h3', h4, h4', h2', decide_true, decide_false, cond_true, cond_false, or_true, if_true]
  have h4' : ¬ (20 : Int) < n3 := by omega
  simp only [h1, h2, h3, h4, h1', h2', h3', h4', k1 (by omega), k2 (by omega) (by omega), k4 (by omega), decide_true, decide_false, cond_true, cond_false, or_self, if_false, Bool.false_eq_true]
  clear k1 k2 k4
  rcases q1 with ⟨s1, s2, s3, s4⟩ | ⟨s1, s2, s3, s4⟩
  · simp only [s1, s2, cond_false, Bool.false_eq_true, if_false]
    rcases q2 _ s3 s4 with ⟨r1, r2⟩ | ⟨r1, r2, r3, r4⟩
    · simp only [r1, r2, cond_false, Bool.false_eq_true, if_false]
      clear s1 s2 s3 s4 r1 r2 q2
      rcases q3 with ⟨w1, w2⟩ | ⟨w1, w2, w3, w4⟩
      · simp only [w1, w2, cond_false, Bool.false_eq_true, if_false]
        clear w1 w2
        repeat' refine cond_hd (fun _ => ?_) (fun _ => ?_)
        all_goals simp_all [inB]
        all_goals (rw [if_pos (by omega)]; simp)
      · simp only [w1, w2, w3, w4, cond_true, if_true, Int.ofNat_eq_natCast]
    · simp only [r1, r2, r3, r4, cond_true, if_true, Int.ofNat_eq_natCast]
  · simp only [s1, s2, s3, s4, cond_true, if_true, Int.ofNat_eq_natCast]
theorem known20 : Known Try.prog (p21 20) := by
  obtain ⟨J, hJ⟩ := known20a
  obtain ⟨J2, hJ2⟩ := known20b
  obtain ⟨J3, hJ3⟩ := known20c
  have hK := hJ.or (hJ2.or hJ3)
  have hK2 := hJ.or hJ3
  intro t xx o h ho
  unfold p21 at h
  split at h
  case h_2 => cases h
  rename_i g a n z b n2 z2 d n3 z3 age shear hp
  split at h
  case h_2 => cases h
  rename_i hgg
  obtain rfl := Nat.eq_of_beq_eq_true hgg
  simp only [Option.some.injEq] at h
  subst h
  simp only [AT.out] at ho
  obtain ⟨hok, ho⟩ := cond_some ho
  simp only [Option.some.injEq] at ho
  subst ho
  obtain ⟨hs, hs2, hs3, na, nb, nd⟩ := dec_iff.1 hok
  clear hok
  have e0 : ∀ n k, okR0 3 (.slice (atB 0 a) n k) = true := fun n k => atB_okR (by decide)
  have e1 : ∀ n k, okR0 3 (.slice (atB 1 b) n k) = true := fun n k => atB_okR (by decide)
  have e2 : ∀ n k, okR0 3 (.slice (atB 2 d) n k) = true := fun n k => atB_okR (by decide)
  rcases Nat.eq_zero_or_pos n3 with rfl | hpos
  · refine frame3 (args1 := ⟨[.agg ⟨[.slice (atB 0 a) n z, .slice (atB 1 b) n2 z2, .slice (atB 2 d) 0 z3, .int .i64 age, .int .i64 shear]⟩]⟩) (blkOf a) (blkOf b) (blkOf d) ((Known.nothing _).fact noNG mixed (n := 60) ?_) rfl
      (.inl rfl) (.inl rfl) (.inl rfl) ?_ ?_
    · refine (tree20z ..).trans ?_
      unfold ckR
      rw [if_pos (by omega)]
      repeat' refine cond_hd (fun _ => ?_) (fun _ => ?_)
      all_goals rfl
    · simp only [List.map_toArray, List.map_cons, List.map_nil, ren1, ren0]
      rw [atB_ren (by simp), atB_ren (by simp), atB_ren (by simp)]
    · simp only [List.all_cons, List.all_nil, okR1, e0, e1, e2]; rfl
  rcases hs3 with rfl | ⟨b2, off3, rfl, rfl, hc3, hgood3⟩
  · omega
  rcases hs with rfl | ⟨b0, off0, rfl, rfl, hc0, hgood0⟩
  · rcases Nat.eq_zero_or_pos n2 with rfl | hpos2
    · refine frame3 (args1 := ⟨[.agg ⟨[.slice (atB 0 a) 0 z, .slice (atB 1 b) 0 z2, .slice (some ⟨2, off3, none⟩) n3 1, .int .i64 age, .int .i64 shear]⟩]⟩) (o0 := .dead) (o1 := .dead) (o2 := .cells (cellsAt hp.bl b2) true) (blkOf a) (blkOf b) b2 (hJ3.fact noNG mixed (n := 60) ?_) rfl
        (.inl rfl) (.inl rfl) (.inr ⟨_, rfl, hgood3.1, cells_ok hc3⟩) ?_ ?_
      · refine (run20r J3 _ off3 (atB 0 a) (atB 1 b) z z2 n3 age shear (atB_sc (by decide) na) (atB_sc (by decide) nb) hgood3 hpos).trans ?_
        rw [show ckR (atB 0 a) (atB 1 b) (some ⟨2, off3, none⟩) 0 0 n3 age shear [.dead, .dead, .cells (cellsAt hp.bl b2) true] = ckR a b (some ⟨b2, off3, none⟩) 0 0 n3 age shear hp.bl from
          ckR_congr (.inl rfl) (.inl rfl) rfl (offOf_atB ..) (offOf_atB ..) rfl]
      · simp only [List.map_toArray, List.map_cons, List.map_nil, ren1, ren0]
        rw [atB_ren (by simp), atB_ren (by simp)]; rfl
      · simp only [List.all_cons, List.all_nil, okR1, e0, e1]; rfl
    · rcases hs2 with rfl | ⟨b1, off, rfl, rfl, hc, hgood⟩
      · omega
      refine frame3 (args1 := ⟨[.agg ⟨[.slice (atB 0 a) 0 z, .slice (some ⟨1, off, none⟩) n2 5, .slice (some ⟨2, off3, none⟩) n3 1, .int .i64 age, .int .i64 shear]⟩]⟩) (o0 := .dead) (o1 := .cells (cellsAt hp.bl b1) true) (o2 := .cells (cellsAt hp.bl b2) true) (blkOf a) b1 b2 (hJ3.fact noNG mixed (n := 60) ?_) rfl
        (.inl rfl) (.inr ⟨_, rfl, hgood.1, cells_ok hc⟩) (.inr ⟨_, rfl, hgood3.1, cells_ok hc3⟩) ?_ ?_
      · have ha : atB 0 a = none ∨ ∃ off0 sp, atB 0 a = some ⟨0, off0, sp⟩ := by
          rcases a with _ | ⟨b0, off0, sp⟩
          · exact .inl rfl
          · exact .inr ⟨off0, sp, rfl⟩
        refine (run20q J3 _ _ off off3 (atB 0 a) z n2 n3 age shear ha hgood hpos hpos2).trans ?_
        rw [show ckR (atB 0 a) (some ⟨1, off, none⟩) (some ⟨2, off3, none⟩) 0 n2 n3 age shear [.dead, .cells (cellsAt hp.bl b1) true, .cells (cellsAt hp.bl b2) true] = ckR a (some ⟨b1, off, none⟩) (some ⟨b2, off3, none⟩) 0 n2 n3 age shear hp.bl from
          ckR_congr (.inl rfl) (.inr rfl) rfl (offOf_atB ..) rfl rfl]
      · simp only [List.map_toArray, List.map_cons, List.map_nil, ren1, ren0]
        rw [atB_ren (by simp)]; rfl
      · simp only [List.all_cons, List.all_nil, okR1, e0]; rfl
  rcases Nat.eq_zero_or_pos n2 with rfl | hpos2
  · refine frame3 (args1 := ⟨[.agg ⟨[.slice (some ⟨0, off0, none⟩) n 7, .slice (atB 1 b) 0 z2, .slice (some ⟨2, off3, none⟩) n3 1, .int .i64 age, .int .i64 shear]⟩]⟩) (o0 := .cells (cellsAt hp.bl b0) true) (o1 := .dead) (o2 := .cells (cellsAt hp.bl b2) true) b0 (blkOf b) b2 (hK2.fact noNG mixed (n := 60) ?_) rfl
      (.inr ⟨_, rfl, hgood0.1, cells_ok hc0⟩) (.inl rfl) (.inr ⟨_, rfl, hgood3.1, cells_ok hc3⟩) ?_ ?_
    · refine (run20p J J3 _ _ off0 off3 (atB 1 b) n z2 n3 age shear hgood0 (atB_sc (by decide) nb) hgood3 hpos).trans ?_
      rw [show ckR (some ⟨0, off0, none⟩) (atB 1 b) (some ⟨2, off3, none⟩) n 0 n3 age shear [.cells (cellsAt hp.bl b0) true, .dead, .cells (cellsAt hp.bl b2) true] = ckR (some ⟨b0, off0, none⟩) b (some ⟨b2, off3, none⟩) n 0 n3 age shear hp.bl from
        ckR_congr (.inr rfl) (.inl rfl) rfl rfl (offOf_atB ..) rfl]
    · simp only [List.map_toArray, List.map_cons, List.map_nil, ren1, ren0]
      rw [atB_ren (by simp)]; rfl
    · simp only [List.all_cons, List.all_nil, okR1, e1]; rfl
  · rcases hs2 with rfl | ⟨b1, off, rfl, rfl, hc, hgood⟩
    · omega
    refine frame3 (args1 := ⟨[.agg ⟨[.slice (some ⟨0, off0, none⟩) n 7, .slice (some ⟨1, off, none⟩) n2 5, .slice (some ⟨2, off3, none⟩) n3 1, .int .i64 age, .int .i64 shear]⟩]⟩) (o0 := .cells (cellsAt hp.bl b0) true) (o1 := .cells (cellsAt hp.bl b1) true) (o2 := .cells (cellsAt hp.bl b2) true) b0 b1 b2 (hK.fact noNG mixed (n := 60) ?_) rfl
      (.inr ⟨_, rfl, hgood0.1, cells_ok hc0⟩) (.inr ⟨_, rfl, hgood.1, cells_ok hc⟩) (.inr ⟨_, rfl, hgood3.1, cells_ok hc3⟩) (by simp [ren1, ren0, renA]) rfl
    refine (run20m J J2 J3 _ _ _ off0 off off3 n n2 n3 age shear hgood0 hgood hgood3 hpos).trans ?_
    rw [show ckR (some ⟨0, off0, none⟩) (some ⟨1, off, none⟩) (some ⟨2, off3, none⟩) n n2 n3 age shear [.cells (cellsAt hp.bl b0) true, .cells (cellsAt hp.bl b1) true, .cells (cellsAt hp.bl b2) true] = ckR (some ⟨b0, off0, none⟩) (some ⟨b1, off, none⟩) (some ⟨b2, off3, none⟩) n n2 n3 age shear hp.bl from
      ckR_congr (.inr rfl) (.inr rfl) rfl rfl rfl rfl]
end
end Go.Proofs.Ytohpmnfplglbdaa

/- The run made quick: operations as closures that are written out once. Conditions: none. -/
namespace Go.Gh
open Go.RowKit
noncomputable section

/-- One operation that is wanted. -/
def bodyOp (P : Program) (self : Self) (rd : Option Nat) (o : Oper) (s : St) (K : St → Option Out) : Option Out :=
  match aop P (evalT s.t) s.h o with
  | some (.val v h) => putK s.t o.dst v fun t => forceH o.op h fun h => K { s with t := t, h := h }
  | some (.enter f args) =>
    match self (.call f args s.h) with
    | some (.ret v h) => putK s.t o.dst v fun t => forceH o.op h fun h => K { s with t := t, h := h }
    | some (.pan v h) => some (.ex (.panic v) { s with h := h })
    | _ => none
  | some (.yield l args) =>
    match self (.round l args s.h) with
    | some (.ret v h) => putK s.t o.dst v fun t => forceH o.op h fun h => K { s with t := t, h := h }
    | _ => none
  | some (.defer d) => if rd.isNone then putK s.t o.dst undef fun t => K { t := t, d := d :: s.d, h := s.h } else none
  | some (.panic v) => some (.ex (.panic v) s)
  | _ => none

theorem runOps_cons {P : Program} {self : Self} {rd : Option Nat} {os : Array Oper} {i : Nat} {r : List Nat} {s : St} : runOps P self rd os (i :: r) s =
    match os[i]? with
    | none => runOps P self rd os r s
    | some o => if wantedT os s.t o then bodyOp P self rd o s (runOps P self rd os r) else putK s.t o.dst undef fun t => runOps P self rd os r { s with t := t } := rfl

/-! ### Operands -/
structure OC (x : Operand) where
  f : List Value → Value
  ok : ∀ T, f T = evalT T x
def cO (x : Operand) : OC x :=
  match x with
  | .tmp n => ⟨fun T => lget T n, fun _ => rfl⟩
  | .const v => ⟨fun _ => v, fun _ => rfl⟩
  | .global g => ⟨fun _ => .pointer (some ⟨g, 0, none⟩), fun _ => rfl⟩
  | .func f => ⟨fun _ => .func (.func f) #[] #[], fun _ => rfl⟩

/-- A value in its outermost form. -/
def forceW {β : Type} (v : Value) (k : Value → β) : β :=
  match v with
  | .bool b => k (.bool b)
  | .int q n => k (.int q n)
  | .string s => k (.string s)
  | .pointer a => k (.pointer a)
  | .slice a l c => k (.slice a l c)
  | .map a => k (.map a)
  | .agg cs => k (.agg cs)
  | .tuple cs => k (.tuple cs)
  | .func f a b => k (.func f a b)
  | .nilFunc => k .nilFunc
  | .nilIface => k .nilIface
  | v => k v
theorem forceW_eq {β : Type} (v : Value) (k : Value → β) : forceW v k = k v := by cases v <;> rfl

def asI {β : Type} (v : Value) (k : IntKind → Int → β) (e : β) : β := match v with | .int q n => k q n | _ => e
def asB {β : Type} (v : Value) (kt kf e : β) : β := match v with | .bool b => Bool.rec (motive := fun _ => β) kf kt b | _ => e

/-! ### Reads -/
abbrev R := Option Out
structure QC (P : Program) (o : Oper) where
  f : List Value → List Ob → (Value → R) → R → R
  ok : ∀ T H k e, (∃ v, aread P (evalT T) H o = some v ∧ f T H k e = k v) ∨ f T H k e = e

def qNone (P : Program) (o : Oper) : QC P o := ⟨fun _ _ _ e => e, fun _ _ _ _ => .inr rfl⟩
def qRead (P : Program) (o : Oper) : QC P o :=
  ⟨fun T H k e => match aread P (evalT T) H o with | some v => forceV v k | none => e, fun T H k e => by
    cases h : aread P (evalT T) H o with
    | none => exact .inr rfl
    | some v => exact .inl ⟨v, rfl, forceV_eq v k⟩⟩
def qMove (P : Program) (o : Oper) (x : Operand) (h : ∀ T H, aread P (evalT T) H o = some (evalT T x)) : QC P o :=
  ⟨fun T _ k _ => forceW ((cO x).f T) k, fun T H k e => .inl ⟨_, h T H, by rw [forceW_eq, (cO x).ok]⟩⟩
def qPick (P : Program) (o : Oper) (c a b : Operand) (ho : o.op = .pick c a b) (hok : (okO c && okO a && okO b) = true) : QC P o :=
  ⟨fun T _ k e => asB ((cO c).f T) (forceW ((cO a).f T) k) (forceW ((cO b).f T) k) e, fun T H k e => by
    rw [(cO c).ok, (cO a).ok, (cO b).ok, forceW_eq, forceW_eq]
    unfold asB
    split
    · rename_i t ht
      left
      refine ⟨if t then evalT T a else evalT T b, ?_, ?_⟩
      · unfold aread; rw [ho]; simp only; rw [if_pos hok, ht]
      · cases t <;> rfl
    · exact .inr rfl⟩

def iLt (a b : Int) : Bool := match a, b with | .ofNat m, .ofNat n => Nat.blt m n | a, b => decide (a < b)
theorem iLt_eq (a b : Int) : iLt a b = decide (a < b) := by
  unfold iLt
  split
  · rename_i m n
    rw [Bool.eq_iff_iff]
    simp [Nat.blt_eq]
  · rfl
def iEq (a b : Int) : Bool := match a, b with | .ofNat m, .ofNat n => Nat.beq m n | a, b => decide (a = b)
theorem iEq_eq (a b : Int) : iEq a b = decide (a = b) := by
  unfold iEq
  split
  · rename_i m n
    rw [Bool.eq_iff_iff]
    simp [Int.ofNat_inj]
  · rfl
def retB (k : Value → R) (b : Bool) : R := Bool.rec (motive := fun _ => R) (k (.bool false)) (k (.bool true)) b
theorem retB_eq (k : Value → R) (b : Bool) : retB k b = k (.bool b) := by cases b <;> rfl
def retI (k : Value → R) (q : IntKind) (n : Int) : R := forceI (q.wrap n) fun n => k (.int q n)
def cmpI (op : BinOp) : Option (Int → Int → Bool) :=
  match op with
  | .eql => some fun a b => iEq a b
  | .neq => some fun a b => !iEq a b
  | .lss => some fun a b => iLt a b
  | .leq => some fun a b => !iLt b a
  | .gtr => some fun a b => iLt b a
  | .geq => some fun a b => !iLt a b
  | _ => none
theorem cmpI_eq {op : BinOp} {g : Int → Int → Bool} (h : cmpI op = some g) (q : IntKind) (a b : Int) : fastBin op (.int q a) (.int q b) = some (.bool (g a b)) := by
  cases op <;> simp only [cmpI, Option.some.injEq] at h <;> first | (cases h; done) | skip
  all_goals
    subst h
    simp only [fastBin, if_true, iLt_eq, iEq_eq]
    try (congr 2 <;> (rw [Bool.eq_iff_iff]; simp <;> omega))
def numI (op : BinOp) : Option (Int → Int → Int) :=
  match op with
  | .add => some fun a b => a + b
  | .sub => some fun a b => a - b
  | .mul => some fun a b => a * b
  | _ => none
theorem numI_eq {op : BinOp} {g : Int → Int → Int} (h : numI op = some g) (q : IntKind) (a b : Int) : fastBin op (.int q a) (.int q b) = some (.int q (q.wrap (g a b))) := by
  cases op <;> simp only [numI, Option.some.injEq] at h <;> first | (cases h; done) | skip
  all_goals
    subst h
    simp only [fastBin, if_true]

theorem aread_bin {P : Program} {T : List Value} {H : List Ob} {o : Oper} {op : BinOp} {t : TypeId} {x y : Operand} {t' : TypeId} {q : IntKind} {a b : Int} {v : Value}
    (ho : o.op = .binOp op t x y t') (hok : (okO x && okO y) = true) (hx : evalT T x = .int q a) (hy : evalT T y = .int q b) (hf : fastBin op (.int q a) (.int q b) = some v) : aread P (evalT T) H o = some v := by
  unfold aread
  rw [ho]
  simp only
  rw [hx, hy, hf]
  simp only [gr, gA, g0, Bool.and_true]
  rw [if_pos hok]

def qCmp (P : Program) (o : Oper) (op : BinOp) (t : TypeId) (x y : Operand) (t' : TypeId) (g : Int → Int → Bool) (ho : o.op = .binOp op t x y t') (hok : (okO x && okO y) = true) (hg : cmpI op = some g) : QC P o :=
  ⟨fun T _ k e => asI ((cO x).f T) (fun q a => asI ((cO y).f T) (fun q' b => if q = q' then retB k (g a b) else e) e) e, fun T H k e => by
    rw [(cO x).ok, (cO y).ok]
    unfold asI
    split
    · rename_i q a hx
      split
      · rename_i q' b hy
        show (∃ v, aread P (evalT T) H o = some v ∧ (if q = q' then _ else e) = k v) ∨ (if q = q' then _ else e) = e
        by_cases hq : q = q'
        · subst hq
          rw [if_pos rfl]
          exact .inl ⟨_, aread_bin ho hok hx hy (cmpI_eq hg q a b), retB_eq _ _⟩
        · rw [if_neg hq]; exact .inr rfl
      · exact .inr rfl
    · exact .inr rfl⟩
def qNum (P : Program) (o : Oper) (op : BinOp) (t : TypeId) (x y : Operand) (t' : TypeId) (g : Int → Int → Int) (ho : o.op = .binOp op t x y t') (hok : (okO x && okO y) = true) (hg : numI op = some g) : QC P o :=
  ⟨fun T _ k e => asI ((cO x).f T) (fun q a => asI ((cO y).f T) (fun q' b => if q = q' then retI k q (g a b) else e) e) e, fun T H k e => by
    rw [(cO x).ok, (cO y).ok]
    unfold asI
    split
    · rename_i q a hx
      split
      · rename_i q' b hy
        show (∃ v, aread P (evalT T) H o = some v ∧ (if q = q' then _ else e) = k v) ∨ (if q = q' then _ else e) = e
        by_cases hq : q = q'
        · subst hq
          rw [if_pos rfl]
          exact .inl ⟨_, aread_bin ho hok hx hy (numI_eq hg q a b), by unfold retI; rw [forceI_eq]⟩
        · rw [if_neg hq]; exact .inr rfl
      · exact .inr rfl
    · exact .inr rfl⟩

/-- What is read by one function of the value of one operand. -/
def qOne (P : Program) (o : Oper) (x : Operand) (g : List Ob → Value → Option Value) (h : ∀ T H v, g H (evalT T x) = some v → aread P (evalT T) H o = some v) : QC P o :=
  ⟨fun T H k e => match g H ((cO x).f T) with | some v => forceV v k | none => e, fun T H k e => by
    rw [(cO x).ok]
    split
    · rename_i v hv; exact .inl ⟨v, h T H v hv, forceV_eq v k⟩
    · exact .inr rfl⟩

def mapC : List Operand → List Value → (List Value → R) → R
  | [], _, k => k []
  | x :: r, T, k => forceW ((cO x).f T) fun v => mapC r T fun l => k (v :: l)
theorem mapC_eq (T : List Value) : ∀ (l : List Operand) (k : List Value → R), mapC l T k = k (l.map (evalT T))
  | [], _ => rfl
  | x :: r, k => by simp only [mapC, forceW_eq, mapC_eq T r, (cO x).ok, List.map_cons]

/-! ### Reads of ground values: reckoned on the values alone, so that the same is reckoned once -/
theorem if_some {c : Prop} [Decidable c] {a : Option Value} {v : Value} (h : (if c then a else none) = some v) : c ∧ a = some v := by
  by_cases hc : c
  · rw [if_pos hc] at h; exact ⟨hc, h⟩
  · rw [if_neg hc] at h; cases h
theorem okO_const (v : Value) : okO (.const v) = gr v := rfl
theorem ev_const (T : List Value) (v : Value) : evalT T (.const v) = v := rfl
def memo (P : Program) (o : Oper) (k : Value → R) (e : R) : R := match aread P (evalT []) [] o with | some v => forceV v k | none => e
theorem memo_ok {P : Program} {o : Oper} {k : Value → R} {e : R} : (∃ v, aread P (evalT []) [] o = some v ∧ memo P o k e = k v) ∨ memo P o k e = e := by
  unfold memo
  cases h : aread P (evalT []) [] o with
  | none => exact .inr rfl
  | some v => exact .inl ⟨v, rfl, forceV_eq v k⟩

def qUn (P : Program) (o : Oper) (u : UnOp) (t : TypeId) (x : Operand) (ho : o.op = .unOp u t x) (hx : okO x = true) : QC P o :=
  ⟨fun T _ k e => forceW ((cO x).f T) fun v => memo P { o with op := .unOp u t (.const v) } k e, fun T H k e => by
    rw [forceW_eq, (cO x).ok]
    rcases memo_ok (P := P) (o := { o with op := .unOp u t (.const (evalT T x)) }) (k := k) (e := e) with ⟨v, h1, h2⟩ | h
    · refine .inl ⟨v, ?_, h2⟩
      obtain ⟨dst, op, type, pos, after, guard⟩ := o
      simp only at ho; subst ho
      simp only [aread, okO_const, ev_const] at h1
      simp only [aread, hx, Bool.true_and]
      obtain ⟨hg, h1⟩ := if_some h1
      simp only [Bool.and_eq_true] at hg
      rw [if_pos hg.2]; exact h1
    · exact .inr h⟩

def qIdx (P : Program) (o : Oper) (t : TypeId) (x y : Operand) (ho : o.op = .index t x y) (hx : (okO x && okO y) = true) : QC P o :=
  ⟨fun T _ k e => forceW ((cO x).f T) fun v => forceW ((cO y).f T) fun u => memo P { o with op := .index t (.const v) (.const u) } k e, fun T H k e => by
    rw [forceW_eq, forceW_eq, (cO x).ok, (cO y).ok]
    rcases memo_ok (P := P) (o := { o with op := .index t (.const (evalT T x)) (.const (evalT T y)) }) (k := k) (e := e) with ⟨v, h1, h2⟩ | h
    · refine .inl ⟨v, ?_, h2⟩
      obtain ⟨dst, op, type, pos, after, guard⟩ := o
      simp only at ho; subst ho
      simp only [aread, okO_const, ev_const] at h1
      simp only [aread, hx, Bool.true_and]
      obtain ⟨hg, h1⟩ := if_some h1
      simp only [Bool.and_eq_true] at hg
      rw [if_pos (by simp [hg.1.2, hg.2])]; exact h1
    · exact .inr h⟩

def divOp (b : BinOp) : Bool := match b with | .quo | .rem => true | _ => false
def qDiv (P : Program) (o : Oper) (b : BinOp) (t : TypeId) (x y : Operand) (t' : TypeId) (ho : o.op = .binOp b t x y t') (hx : (okO x && okO y) = true) (hb : divOp b = true) : QC P o :=
  ⟨fun T _ k e => forceW ((cO x).f T) fun v => forceW ((cO y).f T) fun u => memo P { o with op := .binOp b t (.const v) (.const u) t' } k e, fun T H k e => by
    rw [forceW_eq, forceW_eq, (cO x).ok, (cO y).ok]
    rcases memo_ok (P := P) (o := { o with op := .binOp b t (.const (evalT T x)) (.const (evalT T y)) t' }) (k := k) (e := e) with ⟨v, h1, h2⟩ | h
    · refine .inl ⟨v, ?_, h2⟩
      obtain ⟨dst, op, type, pos, after, guard⟩ := o
      simp only at ho; subst ho
      simp only [aread, okO_const, ev_const] at h1
      simp only [aread, hx, Bool.true_and]
      obtain ⟨hg, h1⟩ := if_some h1
      simp only [Bool.and_eq_true] at hg
      rw [if_pos (by simp [hg.1.2, hg.2])]
      cases b <;> first | (cases hb; done) | exact h1
    · exact .inr h⟩

def mmOp (b : Builtin) : Bool := match b with | .max | .min | .len => true | _ => false
def qMm (P : Program) (o : Oper) (b : Builtin) (args : Array Operand) (ts : Array TypeId) (ho : o.op = .call { callee := .builtin b, args := args, argTypes := ts }) (hx : args.toList.all okO = true) (hb : mmOp b = true) : QC P o :=
  ⟨fun T _ k e => mapC args.toList T fun l => memo P { o with op := .call { callee := .builtin b, args := ⟨l.map .const⟩, argTypes := ts } } k e, fun T H k e => by
    rw [mapC_eq]
    rcases memo_ok (P := P) (o := { o with op := .call { callee := .builtin b, args := ⟨(args.toList.map (evalT T)).map .const⟩, argTypes := ts } }) (k := k) (e := e) with ⟨v, h1, h2⟩ | h
    · refine .inl ⟨v, ?_, h2⟩
      obtain ⟨dst, op, type, pos, after, guard⟩ := o
      simp only at ho; subst ho
      simp only [aread] at h1
      simp only [aread, hx, if_true]
      have e1 : (List.map Operand.const (List.map (evalT T) args.toList)).all okO = args.toList.all fun x => gr (evalT T x) := by
        rw [List.all_map, List.all_map]; rfl
      have e2 : ((List.map Operand.const (List.map (evalT T) args.toList)).all fun x => gr (evalT [] x)) = args.toList.all fun x => gr (evalT T x) := by
        rw [List.all_map, List.all_map]; rfl
      rw [e1, e2] at h1
      split at h1
      · rename_i hg
        rw [hg] at h1 ⊢
        have e3 : (⟨(args.toList.map (evalT T)).map .const⟩ : Array Operand).map (evalT []) = args.map (evalT T) := by
          apply Array.ext'
          simp [evalT]
        cases b <;> first | (cases hb; done) | skip
        all_goals
          simp only [numB, Bool.and_self, if_true] at h1 ⊢
          simp only [execOp, resolve, e3] at h1 ⊢
          exact h1
      · cases h1
    · exact .inr h⟩

def qLoad (P : Program) (o : Oper) (t : TypeId) (x : Operand) (ho : o.op = .load t x) (hx : okO x = true) : QC P o :=
  ⟨fun T H k e => loadK P H t ((cO x).f T) k (fun v => forceW v k) e, fun T H k e => by
    rw [show (fun v => forceW v k) = k from funext fun v => forceW_eq v k, (cO x).ok]
    rcases loadK_ok (P := P) (H := H) (t := t) (v := evalT T x) (k := k) (e := e) with ⟨u, h1, h2⟩ | h
    · exact .inl ⟨u, by unfold aread; rw [ho]; simp only; rw [if_pos hx]; exact h1, h2⟩
    · exact .inr h⟩

def cQ (P : Program) (o : Oper) : QC P o :=
  match ho : o.op with
  | .move x => if hx : okO x = true then qMove P o x (fun T H => by unfold aread; rw [ho]; simp only; rw [if_pos hx]) else qNone P o
  | .assign x => if hx : okO x = true then qMove P o x (fun T H => by unfold aread; rw [ho]; simp only; rw [if_pos hx]) else qNone P o
  | .pick c a b => if h : (okO c && okO a && okO b) = true then qPick P o c a b ho h else qNone P o
  | .binOp op t x y t' =>
    if h : (okO x && okO y) = true then
      match hg : cmpI op with
      | some g => qCmp P o op t x y t' g ho h hg
      | none => match hg : numI op with
        | some g => qNum P o op t x y t' g ho h hg
        | none => if hb : divOp op = true then qDiv P o op t x y t' ho h hb else qRead P o
    else qNone P o
  | .load t x => if hx : okO x = true then qLoad P o t x ho hx else qNone P o
  | .fieldAddr s x f => if hx : okO x = true then qOne P o x (fun _ v => rFieldAddr P s f v) (fun T H v hv => by unfold aread; rw [ho]; simp only; rw [if_pos hx]; exact hv) else qNone P o
  | .field t x f => if hx : okO x = true then qOne P o x (fun _ v => rField P t f v) (fun T H v hv => by unfold aread; rw [ho]; simp only; rw [if_pos hx]; exact hv) else qNone P o
  | .extract x i => if hx : okO x = true then qOne P o x (fun _ v => rExtract i v) (fun T H v hv => by unfold aread; rw [ho]; simp only; rw [if_pos hx]; exact hv) else qNone P o
  | .alloc _ | .box _ _ | .buildSlice _ _ _ | .store _ _ _ | .makeMap _ _ | .mapUpdate _ _ _ _ | .defer _ | .panic _ => qNone P o
  | .call { callee := .value _, .. } => qNone P o
  | .call { callee := .builtin b, args := args, argTypes := ts } =>
    if hb : mmOp b = true then if hx : args.toList.all okO = true then qMm P o b args ts ho hx hb else qRead P o else qRead P o
  | .unOp u t x => if hx : okO x = true then qUn P o u t x ho hx else qNone P o
  | .index t x y => if hx : (okO x && okO y) = true then qIdx P o t x y ho hx else qNone P o
  | _ => qRead P o

/-! ### Operations -/
structure BC (P : Program) (o : Oper) where
  run : Self → Option Nat → St → (St → R) → R
  ok : ∀ self rd s K, run self rd s K = bodyOp P self rd o s K

def bQuiet (P : Program) (o : Oper) (q : QC P o) : BC P o :=
  match hd : o.dst with
  | none => ⟨fun self rd s K => q.f s.t s.h.bl (fun _ => K s) (bodyOp P self rd o s K), fun self rd s K => by
      rcases q.ok s.t s.h.bl (fun _ => K s) (bodyOp P self rd o s K) with ⟨v, h1, h2⟩ | h
      · rw [h2]; unfold bodyOp aop; rw [h1]; simp only [putK_eq, forceH_eq, hd, put]
      · exact h⟩
  | some d => ⟨fun self rd s K => q.f s.t s.h.bl (fun v => lsetK s.t d v fun t => K ⟨t, s.d, s.h⟩) (bodyOp P self rd o s K), fun self rd s K => by
      rcases q.ok s.t s.h.bl (fun v => lsetK s.t d v fun t => K ⟨t, s.d, s.h⟩) (bodyOp P self rd o s K) with ⟨v, h1, h2⟩ | h
      · rw [h2]; unfold bodyOp aop; rw [h1]; simp only [putK_eq, forceH_eq, lsetK_eq, hd, put]
      · exact h⟩

def afterCall (dst : Option Tmp) (s : St) (K : St → R) (y : Option Out) : R :=
  match y with
  | some (.ret v h) => putK s.t dst v fun t => forceS h.bl fun bl => forceN h.base fun base => K ⟨t, s.d, ⟨bl, base, h.wr⟩⟩
  | some (.pan v h) => some (.ex (.panic v) { s with h := h })
  | _ => none

def bCall (P : Program) (o : Oper) (g : FuncId) (args : Array Operand) (ts : Array TypeId) (ho : o.op = .call { callee := .value (.func g), args := args, argTypes := ts }) (hok : args.toList.all okO = true) (hb : bodied P g = true) : BC P o :=
  ⟨fun self _ s K => mapC args.toList s.t fun l => afterCall o.dst s K (self (.call g ⟨l⟩ s.h)), fun self rd s K => by
    rw [mapC_eq]
    have ha : aop P (evalT s.t) s.h o = some (.enter g ⟨args.toList.map (evalT s.t)⟩) := by
      unfold aop aread aloud
      rw [ho]
      simp only [okO, evalT, hok, hb, Bool.and_self, if_true]
      congr 2
      apply Array.ext'
      simp [Array.toList_map]
    unfold bodyOp afterCall
    rw [ha]
    simp only
    split <;> simp only [putK_eq, forceH_eq, forceS_eq, forceN_eq]⟩

def bStore (P : Program) (o : Oper) (t : TypeId) (a x : Operand) (ho : o.op = .store t a x) (hok : (okO a && okO x) = true) (hd : o.dst = none) : BC P o :=
  ⟨fun self rd s K => storeK P s.h t ((cO a).f s.t) ((cO x).f s.t) (fun h => K ⟨s.t, s.d, h⟩) (bodyOp P self rd o s K), fun self rd s K => by
    rw [(cO a).ok, (cO x).ok]
    rcases storeK_ok (P := P) (h := s.h) (t := t) (x := evalT s.t a) (v := evalT s.t x) (k := fun h => K ⟨s.t, s.d, h⟩) (e := bodyOp P self rd o s K) with ⟨h', h1, h2⟩ | h
    · rw [h2]
      have ha : aop P (evalT s.t) s.h o = some (.val undef h') := by
        unfold aop aread aloud
        rw [ho]
        simp only [hok, if_true, h1, Option.map_some]
      unfold bodyOp
      rw [ha]
      simp only [putK_eq, forceH_eq, hd, put]
    · exact h⟩

def cB (P : Program) (o : Oper) : BC P o :=
  match ho : o.op with
  | .call { callee := .value (.func g), args := args, argTypes := ts } =>
    if h : (args.toList.all okO && bodied P g) = true then bCall P o g args ts ho (Bool.and_eq_true _ _ ▸ h).1 (Bool.and_eq_true _ _ ▸ h).2 else ⟨fun self rd s K => bodyOp P self rd o s K, fun _ _ _ _ => rfl⟩
  | .store t a x =>
    if h : (okO a && okO x) = true then (match hd : o.dst with | none => bStore P o t a x ho h hd | some _ => ⟨fun self rd s K => bodyOp P self rd o s K, fun _ _ _ _ => rfl⟩)
    else ⟨fun self rd s K => bodyOp P self rd o s K, fun _ _ _ _ => rfl⟩
  | _ => bQuiet P o (cQ P o)

structure SC (P : Program) (os : Array Oper) (o : Oper) where
  run : Self → Option Nat → St → (St → R) → R
  ok : ∀ self rd s K, run self rd s K = if wantedT os s.t o then bodyOp P self rd o s K else putK s.t o.dst undef fun t => K { s with t := t }

def isB (want : Bool) (v : Value) : Bool := match v with | .bool b => b == want | _ => false
theorem wanted_some {os : Array Oper} {T : List Value} {o : Oper} {j : Nat} {want : Bool} {d : Tmp} (hg : o.guard = some (j, want)) (hd : (os[j]?).bind (·.dst) = some d) : wantedT os T o = isB want (lget T d) := by
  unfold wantedT
  rw [hg]
  simp only
  split
  · rename_i d' hd'; rw [hd] at hd'; cases hd'; rfl
  · rename_i hd'; rw [hd] at hd'; cases hd'
theorem wanted_none {os : Array Oper} {T : List Value} {o : Oper} {j : Nat} {want : Bool} (hg : o.guard = some (j, want)) (hd : (os[j]?).bind (·.dst) = none) : wantedT os T o = false := by
  unfold wantedT
  rw [hg]
  simp only
  split
  · rename_i d' hd'; rw [hd] at hd'; cases hd'
  · rfl
def cS (P : Program) (os : Array Oper) (o : Oper) : SC P os o :=
  match hg : o.guard with
  | none => ⟨(cB P o).run, fun self rd s K => by rw [(cB P o).ok]; unfold wantedT; rw [hg]; rfl⟩
  | some (j, want) =>
    match hd : (os[j]?).bind (·.dst) with
    | some d => ⟨fun self rd s K => Bool.rec (motive := fun _ => R) (putK s.t o.dst undef fun t => K { s with t := t }) ((cB P o).run self rd s K) (isB want (lget s.t d)), fun self rd s K => by
        rw [(cB P o).ok, wanted_some hg hd]
        cases isB want (lget s.t d) <;> rfl⟩
    | none => ⟨fun _ _ s K => putK s.t o.dst undef fun t => K { s with t := t }, fun self rd s K => by rw [wanted_none hg hd]; rfl⟩

structure LC (P : Program) (os : Array Oper) (l : List Nat) where
  run : Self → Option Nat → St → R
  ok : ∀ self rd s, run self rd s = runOps P self rd os l s

def cL (P : Program) (os : Array Oper) (l : List Nat) : LC P os l :=
  List.rec (motive := fun l => LC P os l) ⟨fun _ _ s => some (.ex .normal s), fun _ _ _ => rfl⟩
    (fun i r ih => match hi : os[i]? with
      | none => ⟨ih.run, fun self rd s => by rw [ih.ok, runOps_cons, hi]⟩
      | some o => ⟨fun self rd s => (cS P os o).run self rd s (fun s => ih.run self rd s), fun self rd s => by
          rw [(cS P os o).ok, runOps_cons, hi, show (fun s => ih.run self rd s) = runOps P self rd os r from funext fun s => ih.ok self rd s]
          simp only [ih.ok]⟩) l
end
end Go.Gh

/- The run made quick: code and calls. Conditions: none. -/
namespace Go.Gh
open Go.RowKit
noncomputable section

/-! ### Code, one node at a time: each alternative small -/
def zSeq (self : Self) (rd : Option Nat) (b : Code) : Option Out → R
  | some (.ex .normal s') => (match self (.code rd b s') with | some (.ex e s2) => some (.ex e s2) | _ => none)
  | some (.ex e s') => some (.ex e s')
  | _ => none
def zEx : Option Out → R
  | some (.ex e s') => some (.ex e s')
  | _ => none
def zBlock (id : Nat) : Option Out → R
  | some (.ex (.exit id') s') => if id' = id then some (.ex .normal s') else some (.ex (.exit id') s')
  | some (.ex e s') => some (.ex e s')
  | _ => none
def zLoop (self : Self) (rd : Option Nat) (c : Code) : Option Out → R
  | some (.ex .normal s') => zEx (self (.code rd (.loop c) s'))
  | some (.ex e s') => some (.ex e s')
  | _ => none
def zCond (self : Self) (rd : Option Nat) (x y : Code) (s : St) (v : Value) : R :=
  match v with
  | .bool b => Bool.rec (motive := fun _ => R) (zEx (self (.code rd y s))) (zEx (self (.code rd x s))) b
  | _ => none
def zCode (drawn : Program → Self → Option Nat → Nat → Array Oper → St → Option Out) (P : Program) (self : Self) (rd : Option Nat) (c : Code) (s : St) : R :=
  match c with
  | .seq a b => zSeq self rd b (self (.code rd a s))
  | .cond c x y => Bool.rec (motive := fun _ => R) none (zCond self rd x y s ((cO c).f s.t)) (okO c)
  | .block id c => zBlock id (self (.code rd c s))
  | .loop c => zLoop self rd c (self (.code rd c s))
  | .region id os dr => Bool.rec (motive := fun _ => R) ((cL P os (List.range os.size)).run self rd s) (drawn P self rd id os s) dr
  | .ret => some (.ex .ret s)
  | .skip => some (.ex .normal s)
  | .exit id => some (.ex (.exit id) s)
  | c => stepF drawn P self (.code rd c s)

/-- The frame of a call: what is handed over, and room. -/
def framed (n : Nat) (l : List Value) : List Value :=
  List.rec (motive := fun _ => Nat → List Value) (fun n => List.replicate n undef) (fun v _ ih n => v :: ih (n - 1)) l n
theorem framed_eq : ∀ (l : List Value) (n : Nat), framed n l = l ++ List.replicate (n - l.length) undef
  | [], n => rfl
  | v :: r, n => by
    show v :: framed (n - 1) r = _
    rw [framed_eq r (n - 1)]
    simp only [List.length_cons, List.cons_append]
    congr 3
    omega
def frameK (n : Nat) (l : List Value) : (List Value → R) → R :=
  List.rec (motive := fun _ => Nat → (List Value → R) → R) (fun n k => forceN n fun n => k (List.replicate n undef)) (fun v _ ih n k => ih (Nat.sub n 1) fun r => k (v :: r)) l n
theorem frameK_eq : ∀ (l : List Value) (n : Nat) (k : List Value → R), frameK n l k = k (l ++ List.replicate (n - l.length) undef)
  | [], n, k => rfl
  | v :: r, n, k => by
    show frameK (n - 1) r _ = _
    rw [frameK_eq r (n - 1)]
    simp only [List.length_cons, List.cons_append]
    congr 4
    omega

def zLeave (P : Program) (self : Self) (fn : Func) (h : Hp) : Option Out → R
  | some (.ex .normal s) => leave P self fn s.t h s.d .returning s.h
  | some (.ex .ret s) => leave P self fn s.t h s.d .returning s.h
  | some (.ex (.panic v) s) => leave P self fn s.t h s.d (.panicking v false) s.h
  | _ => none
def zCall (P : Program) (self : Self) (args : Array Value) (h : Hp) (fn : Func) (c : Code) : R :=
  frameK fn.ntmps args.toList fun t => forceN h.bl.length fun n => zLeave P self fn h (self (.code none c { t := t, d := [], h := ⟨h.bl, n, []⟩ }))

/-- The body of a function. -/
def bodyOf (P : Program) (f : FuncId) : Option (Func × Code) :=
  match P.funcs[f]? with
  | some fn => match fn.body with
    | some c => some (fn, c)
    | none => none
  | none => none

def stepQ (drawn : Program → Self → Option Nat → Nat → Array Oper → St → Option Out) (P : Program) (self : Self) (task : Task) : R :=
  match task with
  | .code rd c s => zCode drawn P self rd c s
  | .call f args h => (match bodyOf P f with | some (fn, c) => zCall P self args h fn c | none => none)
  | .dcall f args m h => stepF drawn P self (.dcall f args m h)
  | .round l args h => stepF drawn P self (.round l args h)

theorem stepQ_eq (drawn : Program → Self → Option Nat → Nat → Array Oper → St → Option Out) (P : Program) (self : Self) (task : Task) : stepQ drawn P self task = stepF drawn P self task := by
  cases task with
  | dcall f args m h => rfl
  | round l args h => rfl
  | call f args h =>
    simp only [stepQ, stepF, bodyOf]
    cases P.funcs[f]? with
    | none => rfl
    | some fn =>
      simp only
      cases fn.body with
      | none => rfl
      | some c =>
        simp only [zCall, frameK_eq, forceN_eq, forceL1_eq, frame, enterH, Array.length_toList]
        generalize self (.code none c _) = y
        unfold zLeave
        rcases y with _ | y
        · rfl
        · cases y with
          | ex e s => cases e <;> rfl
          | _ => rfl
  | code rd c s =>
    cases c with
    | seq a b =>
      simp only [stepQ, zCode, stepF]
      generalize self (.code rd a s) = y
      rcases y with _ | y
      · rfl
      · cases y with
        | ex e s => cases e <;> rfl
        | _ => rfl
    | cond c x y =>
      simp only [stepQ, zCode, stepF]
      cases okO c with
      | false => rfl
      | true =>
        simp only [(cO c).ok, zCond, if_true]
        generalize evalT s.t c = v
        cases v with
        | bool b =>
          cases b with
          | true =>
            simp only
            generalize self (.code rd x s) = y
            rcases y with _ | y
            · rfl
            · cases y <;> rfl
          | false =>
            simp only
            generalize self (.code rd y s) = y
            rcases y with _ | y
            · rfl
            · cases y <;> rfl
        | _ => rfl
    | block id c =>
      simp only [stepQ, zCode, stepF]
      generalize self (.code rd c s) = y
      rcases y with _ | y
      · rfl
      · cases y with
        | ex e s => cases e <;> rfl
        | _ => rfl
    | loop c =>
      simp only [stepQ, zCode, stepF]
      generalize self (.code rd c s) = y
      rcases y with _ | y
      · rfl
      · cases y with
        | ex e s => cases e <;> (first | rfl | (simp only [zLoop, zEx]; split <;> simp_all))
        | _ => rfl
    | region id os dr =>
      simp only [stepQ, zCode, stepF]
      cases dr with
      | false => exact (cL P os (List.range os.size)).ok self rd s
      | true => rfl
    | _ => rfl

def iterQ (drawn : Program → Self → Option Nat → Nat → Array Oper → St → Option Out) (P : Program) (n : Nat) : Self :=
  Nat.rec (motive := fun _ => Self) (fun _ => none) (fun _ ih => stepQ drawn P ih) n
theorem iterQ_eq (drawn : Program → Self → Option Nat → Nat → Array Oper → St → Option Out) (P : Program) : ∀ n, iterQ drawn P n = iter drawn P n
  | 0 => rfl
  | n + 1 => by
    show stepQ drawn P (iterQ drawn P n) = stepF drawn P (iter drawn P n)
    rw [iterQ_eq drawn P n]
    exact funext fun t => stepQ_eq drawn P _ t
end
end Go.Gh

/- Regions that leave their order open: what can be checked once is checked once. Conditions: none. -/
namespace Go.Gh
open Go.RowKit
noncomputable section

/-- May it be loud? -/
def loudS (o : Oper) : Bool :=
  match o.op with
  | .alloc _ | .box _ _ | .buildSlice _ _ _ | .store _ _ _ | .convert _ _ _ | .makeMap _ _ | .mapUpdate _ _ _ _ | .insert _ _ _ _ => true
  | .call { callee := .builtin b, .. } => (match b with | .len | .cap | .max | .min => false | _ => true)
  | .call _ => true
  | _ => false

def dstOk1 (os : Array Oper) (clo : List Nat) (i j : Nat) : Bool :=
  i == j || match os[i]?, os[j]? with
    | some a, some b => (match a.dst with
      | some t => (b.dst != some t) && (!(looks os b).contains t || cl clo j i || cl clo i j)
      | none => true)
    | _, _ => true
def dstOk (os : Array Oper) (clo : List Nat) : Bool := (List.range os.size).all fun i => (List.range os.size).all fun j => dstOk1 os clo i j
def need1 (os : Array Oper) (clo : List Nat) (i j : Nat) : Bool :=
  match os[i]?, os[j]? with
  | some a, some b => loudS a && (loudS b || memOp b.op) && unord clo i j
  | _, _ => false
def need (os : Array Oper) (clo : List Nat) : List (Nat × Nat) :=
  (List.range os.size).flatMap fun i => ((List.range os.size).filter fun j => need1 os clo i j).map fun j => (i, j)

def dchkQ (P : Program) (os : Array Oper) (clo : List Nat) (recs : List Rec) : Bool :=
  dstOk os clo && recs.all (fun r => !r.loud || loudS r.o) && (need os clo).all fun x => recs.all fun r => !(r.i == x.1) || recs.all fun q => !(q.i == x.2) || pairOk P os clo r q

theorem dchkQ_ok {P : Program} {os : Array Oper} {clo : List Nat} {recs : List Rec} (ho : ∀ r ∈ recs, os[r.i]? = some r.o) (h : dchkQ P os clo recs = true) : dchk P os clo recs = true := by
  simp only [dchkQ, Bool.and_eq_true, List.all_eq_true] at h
  obtain ⟨⟨h1, h2⟩, h3⟩ := h
  simp only [dchk, List.all_eq_true]
  intro r hr q hq
  have hri := ho r hr
  have hqi := ho q hq
  have hrl : r.i < os.size := (Array.getElem?_eq_some_iff.1 hri).1
  have hql : q.i < os.size := (Array.getElem?_eq_some_iff.1 hqi).1
  by_cases hn : need1 os clo r.i q.i = true
  · have hm : (r.i, q.i) ∈ need os clo := by
      simp only [need, List.mem_flatMap, List.mem_map, List.mem_filter, List.mem_range]
      exact ⟨r.i, hrl, q.i, ⟨hql, hn⟩, rfl⟩
    have := h3 _ hm r hr
    simp only [beq_self_eq_true, Bool.not_true, Bool.false_or, List.all_eq_true] at this
    have := this q hq
    simpa using this
  · have hd : dstOk1 os clo r.i q.i = true := by
      simp only [dstOk, List.all_eq_true, List.mem_range] at h1
      exact h1 r.i hrl q.i hql
    simp only [dstOk1, hri, hqi] at hd
    simp only [need1, hri, hqi] at hn
    unfold pairOk
    cases he : r.i == q.i with
    | true => rfl
    | false =>
      rw [he, Bool.false_or] at hd
      rw [Bool.false_or, Bool.and_eq_true]
      refine ⟨hd, ?_⟩
      have hl1 := h2 r hr
      have hl2 := h2 q hq
      cases hrL : r.loud with
      | false => rfl
      | true =>
        simp only [hrL, Bool.not_true, Bool.false_or] at hl1
        simp only [hl1, Bool.true_and] at hn
        cases hu : unord clo r.i q.i with
        | false => simp
        | true =>
          simp only [hu, Bool.and_true, Bool.or_eq_true, not_or, Bool.not_eq_true] at hn
          cases hqL : q.loud with
          | true => simp only [hqL, hn.1, Bool.not_true, Bool.or_false] at hl2; cases hl2
          | false => simp [hn.2]

def drawnQ (P : Program) (self : Self) (_ : Option Nat) (_ : Nat) (os : Array Oper) (s : St) : Option Out :=
  if planOk os (Region.linearise .any os 0) (mkClo os (Region.linearise .any os 0) (List.replicate os.size 0)) then
    match drun P self os (Region.linearise .any os 0) s.t s.h with
    | some (recs, T, h) => if dchkQ P os (mkClo os (Region.linearise .any os 0) (List.replicate os.size 0)) recs then some (.ex .normal { s with t := T, h := h }) else none
    | none => none
  else none

theorem drawnQ_le {P : Program} {self : Self} {rd : Option Nat} {id : Nat} {os : Array Oper} {s : St} {o : Out} (h : drawnQ P self rd id os s = some o) : drawn P self rd id os s = some o := by
  unfold drawnQ at h
  unfold drawn
  split at h
  case isFalse => cases h
  rename_i hp
  rw [if_pos hp]
  split at h
  case h_2 => cases h
  rename_i recs T h1 hr
  split at h
  case isFalse => cases h
  rename_i hc
  rw [hr]
  simp only
  rw [if_pos (dchkQ_ok (fun r hm => ((drun_tr _ _ _ _ _ _ hr).1.recs r hm).1) hc)]
  exact h

theorem drawnQ_ok {P : Program} (hN : NoNG P) (hm : P.follows .mixedOrders = true) : DrawnOk P drawnQ :=
  fun self hs rd id os s o h => drawn_ok hN hm self hs rd id os s o (drawnQ_le h)

/-- What the run gives is what every call gives. -/
theorem calls_of_run {P : Program} (hN : NoNG P) (hm : P.follows .mixedOrders = true) {n : Nat} {f : FuncId} {v : Value} {h : Hp} (hc : iterQ drawnQ P n (.call f #[] { bl := [], base := 0, wr := [] }) = some (.ret v h)) (hg : gr v = true) (w : World) :
    Calls P f #[] w fun e w' => e = .returned v ∧ Below w.heap.size w w' :=
  calls_of_iter hN (drawnQ_ok hN hm) (by rw [← iterQ_eq]; exact hc) hg w
end
end Go.Gh

/- The program is awake: its function Awake returns true, over whatever heap. Conditions: none. -/
namespace Go.Proofs.Ytohpmnfplglbdaa
open Go.Gh Go.RowKit
noncomputable section

/-- Has a run ended with true, and nothing left? -/
def saysTrue (o : Option Out) : Bool := match o with | some (.ret (.bool true) ⟨[], 0, []⟩) => true | _ => false
theorem saysTrue_iff {o : Option Out} (h : saysTrue o = true) : o = some (.ret (.bool true) ⟨[], 0, []⟩) := by
  unfold saysTrue at h
  split at h
  · rfl
  · cases h
theorem awake_run : saysTrue (iterQ drawnQ Try.prog 600 (.call 24 #[] { bl := [], base := 0, wr := [] })) = true := by kernel_rfl
theorem awakeFact : Fact Try.prog (.call 24 #[] ⟨[], 0, []⟩) (.ret (.bool true) ⟨[], 0, []⟩) := by
  have h := saysTrue_iff awake_run
  rw [iterQ_eq] at h
  exact ⟨(iter_ok noNG (drawnQ_ok noNG mixed) 600).1 _ _ h, trivial⟩
theorem known24 : Known Try.prog p24 := by
  intro t x o h ho
  unfold p24 at h
  split at h
  case h_2 => cases h
  rename_i hp
  simp only [Option.some.injEq] at h
  subst h
  simp only [AT.out, Option.some.injEq] at ho
  subst ho
  exact awakeFact.frame (fun i => i) (Nat.le_refl 0) rfl (fun i ob hi => by simp at hi) (by simp) rfl
end
end Go.Proofs.Ytohpmnfplglbdaa

/- What both Checks return, told of the first three blocks alone. Conditions: none. -/
namespace Go.Proofs.Ytohpmnfplglbdaa
open Go.Gh Go.RowKit
noncomputable section
set_option maxRecDepth 100000
set_option linter.unusedSimpArgs false
set_option linter.unusedVariables false
def ck1 (a b d : Option Addr) (n n2 n3 : Nat) (age shear : Int) (H : List Ob) : Int := (ckR a b d n n2 n3 age shear H).1
def ck2 (a b d : Option Addr) (n n2 n3 : Nat) (age shear : Int) (H : List Ob) : Int := (ckR a b d n n2 n3 age shear H).2.1
def ck3 (a b d : Option Addr) (n n2 n3 : Nat) (age shear : Int) (H : List Ob) : Int := (ckR a b d n n2 n3 age shear H).2.2
/-- A task over three blocks. -/
def TaskOn (a b d : Option Addr) (n z n2 z2 n3 z3 : Nat) (H : List Ob) : Prop :=
  SliceL L7 a n z H ∧ SliceL L5 b n2 z2 H ∧ SliceL L1 d n3 z3 H ∧ sc1 3 (.slice a n z) = true ∧ sc1 3 (.slice b n2 z2) = true ∧ sc1 3 (.slice d n3 z3) = true
def okT (a b d : Option Addr) (n z n2 z2 n3 z3 : Nat) (H : List Ob) : Bool := dec (TaskOn a b d n z n2 z2 n3 z3 H)
def p20v (f : Nat) : Ans
  | .call g ⟨[.agg ⟨[.slice a n z, .slice b n2 z2, .slice d n3 z3, .int .i64 age, .int .i64 shear]⟩]⟩ ⟨o0 :: o1 :: o2 :: G, base, wr⟩ => (match Nat.beq g f with
    | true => some (.br (okT a b d n z n2 z2 n3 z3 [o0, o1, o2]) (.leaf (.ret (.tuple ⟨[.int .i64 (ck1 a b d n n2 n3 age shear [o0, o1, o2]), .int .i64 (ck2 a b d n n2 n3 age shear [o0, o1, o2]), .int .i64 (ck3 a b d n n2 n3 age shear [o0, o1, o2])]⟩) ⟨o0 :: o1 :: o2 :: G, base, wr⟩)) .no)
    | false => none)
  | _ => none
theorem p21_at (g : Nat) (a b d : Option Addr) (n z n2 z2 n3 z3 : Nat) (age shear : Int) (h : Hp) : p21 g (.call g ⟨[.agg ⟨[.slice a n z, .slice b n2 z2, .slice d n3 z3, .int .i64 age, .int .i64 shear]⟩]⟩ h) =
    some (.br (c21 a b d n z n2 z2 n3 z3 h.bl) (.leaf (.ret (.tuple ⟨[.int .i64 (ckR a b d n n2 n3 age shear h.bl).1, .int .i64 (ckR a b d n n2 n3 age shear h.bl).2.1, .int .i64 (ckR a b d n n2 n3 age shear h.bl).2.2]⟩) h)) .no) := by
  have hg : Nat.beq g g = true := Nat.beq_refl g
  simp only [p21, hg]
theorem known20v {f : Nat} (hk : Known Try.prog (p21 f)) : Known Try.prog (p20v f) := by
  intro t xx o h ho
  unfold p20v at h
  split at h
  case h_2 => cases h
  rename_i g a n z b n2 z2 d n3 z3 age shear o0 o1 o2 G base wr
  split at h
  case h_2 => cases h
  rename_i hgg
  obtain rfl := Nat.eq_of_beq_eq_true hgg
  simp only [Option.some.injEq] at h
  subst h
  simp only [AT.out] at ho
  obtain ⟨hok, ho⟩ := cond_some ho
  obtain ⟨ha, hb, hd, sa, sb, sd⟩ := dec_iff.1 hok
  have e : ckR a b d n n2 n3 age shear (o0 :: o1 :: o2 :: G) = ckR a b d n n2 n3 age shear [o0, o1, o2] :=
    ckR_congr (.inr (arr3 sa)) (.inr (arr3 sb)) (arr3 sd) rfl rfl rfl
  refine hk _ _ o (p21_at ..) ?_
  have hc : c21 a b d n z n2 z2 n3 z3 (o0 :: o1 :: o2 :: G) = true := dec_iff.2 ⟨sliceL3 sa ha, sliceL3 sb hb, sliceL3 sd hd, nilOk_of sa, nilOk_of sb, nilOk_of sd⟩
  simp only [AT.out, hc, cond_true]
  rw [e]
  exact ho
end
end Go.Proofs.Ytohpmnfplglbdaa

/- The law WindChecks over a heap of three blocks. Conditions: none. -/
namespace Go.Proofs.Ytohpmnfplglbdaa
open Go.Gh Go.RowKit
noncomputable section
set_option maxRecDepth 100000
theorem tree3 (a b d : Option Addr) (n z n2 z2 n3 z3 : Nat) (age shear : Int) (s : ByteArray) (o0 o1 o2 : Ob) :
    evC Try.prog ((p20v 20).or ((p20v 21).or ((p22 22).or ((p22 23).or p24)))).c 60 (.call 3 ⟨[.agg ⟨[.slice a n z, .slice b n2 z2, .slice d n3 z3, .int .i64 age, .int .i64 shear]⟩, .string s]⟩ ⟨[o0, o1, o2], 3, []⟩) some =
    cond (okT a b d n z n2 z2 n3 z3 [o0, o1, o2])
    (cond (okT a b d n z n2 z2 n3 z3 [o0, o1, o2])
     (cond (decide ((ck1 a b d n n2 n3 age shear [o0, o1, o2]) = (ck1 a b d n n2 n3 age shear [o0, o1, o2])))
      (cond (decide ((ck2 a b d n n2 n3 age shear [o0, o1, o2]) = (ck2 a b d n n2 n3 age shear [o0, o1, o2])))
       (cond (decide ((ck3 a b d n n2 n3 age shear [o0, o1, o2]) = (ck3 a b d n n2 n3 age shear [o0, o1, o2])))
        (cond ((nm s) == (nm s))
         (some (Out.ret (Value.bool true) (Hp.mk [o0, o1, o2] 3 [])))
         (some (Out.ret (Value.bool false) (Hp.mk [o0, o1, o2] 3 []))))
        (some (Out.ret (Value.bool false) (Hp.mk [o0, o1, o2] 3 []))))
       (some (Out.ret (Value.bool false) (Hp.mk [o0, o1, o2] 3 []))))
      (some (Out.ret (Value.bool false) (Hp.mk [o0, o1, o2] 3 []))))
     (none))
    (none) := by kernel_rfl
theorem law3 {a b d : Option Addr} {n z n2 z2 n3 z3 : Nat} {age shear : Int} {s : ByteArray} {o0 o1 o2 : Ob} (h : TaskOn a b d n z n2 z2 n3 z3 [o0, o1, o2]) :
    Fact Try.prog (.call 3 ⟨[.agg ⟨[.slice a n z, .slice b n2 z2, .slice d n3 z3, .int .i64 age, .int .i64 shear]⟩, .string s]⟩ ⟨[o0, o1, o2], 3, []⟩) (.ret (.bool true) ⟨[o0, o1, o2], 3, []⟩) := by
  refine ((known20v known20).or ((known20v known21).or (known22c.or (known23c.or known24)))).fact noNG mixed (n := 60) ?_
  rw [tree3]
  have hk : okT a b d n z n2 z2 n3 z3 [o0, o1, o2] = true := dec_iff.2 h
  simp only [hk, decide_true, cond_true, beq_self_eq_true]
end
end Go.Proofs.Ytohpmnfplglbdaa

/- A call whose arguments are read from the world. Conditions: none. -/
namespace Go.Gh
open Go.RowKit
noncomputable section

def phiOf (l : List (Ob × Option (Nat × Nat × Nat))) : Phi := fun i => (l[i]?).bind (·.2)
theorem inv_args {w : World} {l : List (Ob × Option (Nat × Nat × Nat))} (h : ∀ p ∈ l, (p.1.live = true → ∃ B bs tot, p.2 = some (B, bs, tot) ∧ ∀ φ : Phi, ObR φ w p.1 B bs tot) ∧ p.1.rw = false) :
    Inv (· < w.heap.size) w (phiOf l) (l.map (·.1)) w := by
  have hget : ∀ {b : Nat} {ob : Ob}, (l.map (·.1))[b]? = some ob → ∃ p, l[b]? = some p ∧ p.1 = ob ∧ p ∈ l := by
    intro b ob hb
    rw [List.getElem?_map, Option.map_eq_some_iff] at hb
    obtain ⟨p, h1, h2⟩ := hb
    exact ⟨p, h1, h2, List.mem_of_getElem? h1⟩
  refine ⟨?_, ?_, ?_, fun _ _ => rfl, fun _ h => h, Nat.le_refl _, rfl, rfl, rfl, ?_⟩
  · intro b ob hb hl
    obtain ⟨p, h1, rfl, hm⟩ := hget hb
    obtain ⟨B, bs, tot, h2, h3⟩ := (h p hm).1 hl
    exact ⟨B, bs, tot, by unfold phiOf; rw [h1]; exact h2, h3 _⟩
  · intro b b' ob ob' x y _ hb _ hrw
    obtain ⟨p, _, rfl, hm⟩ := hget hb
    rw [(h p hm).2] at hrw; cases hrw
  · intro b ob x hb hrw
    obtain ⟨p, _, rfl, hm⟩ := hget hb
    rw [(h p hm).2] at hrw; cases hrw
  · intro b hb
    unfold phiOf
    rw [List.getElem?_eq_none (by simpa using hb)]; rfl

theorem calls_of_fact {P : Program} {w : World} {l : List (Ob × Option (Nat × Nat × Nat))} {f : FuncId} {args args' : Array Value} {base : Nat} {wr : List Nat} {v : Value} {h' : Hp}
    (hf : Fact P (.call f args ⟨l.map (·.1), base, wr⟩) (.ret v h')) (hb : base ≤ (l.map (·.1)).length) (hg : gr v = true)
    (h : ∀ p ∈ l, (p.1.live = true → ∃ B bs tot, p.2 = some (B, bs, tot) ∧ ∀ φ : Phi, ObR φ w p.1 B bs tot) ∧ p.1.rw = false) (hA : VRs (phiOf l) args args') :
    Calls P f args' w fun e w' => e = .returned v ∧ Below w.heap.size w w' := by
  obtain ⟨_, hh⟩ := hf.1 hb
  refine callsIn_wide.1 ((hh (· < w.heap.size) w (phiOf l) w args' 0 (inv_args h) hA).mono ?_)
  intro e w' he
  cases e with
  | returned v' =>
    obtain ⟨φ', _, hv, hI⟩ := he
    exact ⟨by rw [gr_eq hg hv], hI.below⟩
  | panicked ch => exact he.elim
  | outgrown => exact he.elim
end
end Go.Gh

/- A task as an argument: three blocks that stand for its lists. Conditions: none. -/
namespace Go.Proofs.Ytohpmnfplglbdaa
open Go.ChangeShapes Go.WideShapes Go.ChangeAt Go.RowKit Go.Gh
set_option linter.unusedVariables false

theorem own : ownKnob Try.prog.godebug = none := by kernel_rfl
theorem laidOut : laidOutB Try.prog = true := by kernel_rfl
theorem flat107 : flatT Try.prog 20 107 = true := by kernel_rfl
theorem leaves107 : leaves Try.prog 20 107 = L7 := by kernel_rfl
theorem cells107 : Try.prog.cellsOf 107 = (leaves Try.prog 20 107).length := by kernel_rfl
theorem flat89 : flatT Try.prog 20 89 = true := by kernel_rfl
theorem leaves89 : leaves Try.prog 20 89 = L5 := by kernel_rfl
theorem cells89 : Try.prog.cellsOf 89 = (leaves Try.prog 20 89).length := by kernel_rfl
theorem flat3 : flatT Try.prog 20 3 = true := by kernel_rfl
theorem leaves3 : leaves Try.prog 20 3 = L1 := by kernel_rfl
theorem cells3 : Try.prog.cellsOf 3 = (leaves Try.prog 20 3).length := by kernel_rfl
theorem cells26 : Try.prog.cellsOf 26 = 5 := by kernel_rfl
theorem cells22 : Try.prog.cellsOf 22 = 1 := by kernel_rfl
theorem cells23 : Try.prog.cellsOf 23 = 1 := by kernel_rfl
theorem cells24 : Try.prog.cellsOf 24 = 1 := by kernel_rfl
theorem cells3o : Try.prog.cellsOf 3 = 1 := by kernel_rfl

theorem five {cs : Array Value} (h : cs.size = 5) : ∃ u0 u1 u2 u3 u4, cs = #[u0, u1, u2, u3, u4] := by
  obtain ⟨l⟩ := cs
  match l, h with
  | [u0, u1, u2, u3, u4], _ => exact ⟨u0, u1, u2, u3, u4, rfl⟩
section
variable {P : Program} {H : Type} {enc : TypeId × Value → H} {w : World} {base : Nat} {spare : Nat → Bool} {held : Bool}
theorem trod_struct5 {t : TypeId} {f0 f1 f2 f3 f4 : Field} {fuel : Nat} {cs : List Value} {x : DataW H × List MemPlace} (ht : P.underlying t = some (.struct #[f0, f1, f2, f3, f4])) (h : DataW.trod enc P w base spare held fuel t cs = some x) :
    ∃ y0 y1 y2 y3 y4 n, DataW.trod enc P w base spare held n f0.type ((cs.drop f0.offset).take (P.cellsOf f0.type)) = some y0 ∧
      DataW.trod enc P w base spare held n f1.type ((cs.drop f1.offset).take (P.cellsOf f1.type)) = some y1 ∧ DataW.trod enc P w base spare held n f2.type ((cs.drop f2.offset).take (P.cellsOf f2.type)) = some y2 ∧
      DataW.trod enc P w base spare held n f3.type ((cs.drop f3.offset).take (P.cellsOf f3.type)) = some y3 ∧ DataW.trod enc P w base spare held n f4.type ((cs.drop f4.offset).take (P.cellsOf f4.type)) = some y4 := by
  obtain ⟨xs, n, _, rfl, hl, hlen, hf⟩ := DataW.trod_struct ht h
  match xs, hlen with
  | [y0, y1, y2, y3, y4], _ => exact ⟨y0, y1, y2, y3, y4, n, by simpa using hf 0 f0 rfl, by simpa using hf 1 f1 rfl, by simpa using hf 2 f2 rfl, by simpa using hf 3 f3 rfl, by simpa using hf 4 f4 rfl⟩
end
theorem nil_of {w : World} {L : List Leaf} {k : Nat} {v : Value} {a : Option Addr} {n z : Nat} {o : Ob} {x : Option (Nat × Nat × Nat)} (h : SArg w L k v a n z o x) : NilOk a n z := by
  rintro rfl
  have := h.vr (fun _ => x) (fun y hy => hy)
  cases this
  exact ⟨rfl, rfl⟩
theorem sc_of {w : World} {L : List Leaf} {k m : Nat} {v : Value} {a : Option Addr} {n z : Nat} {o : Ob} {x : Option (Nat × Nat × Nat)} (h : SArg w L k v a n z o x) (hk : k < m) : sc1 m (.slice a n z) = true := by
  cases a with
  | none => obtain ⟨rfl, rfl⟩ := nil_of h rfl; rfl
  | some y =>
    have := h.adr y rfl
    simp only [sc1, sc0, decide_eq_true_eq]
    omega
theorem sliceL_of {w : World} {L : List Leaf} {k : Nat} {v : Value} {a : Option Addr} {n z : Nat} {o : Ob} {x : Option (Nat × Nat × Nat)} {H : List Ob} (h : SArg w L k v a n z o x) (hH : H[k]? = some o) : SliceL L a n z H := by
  rcases h.good with rfl | ⟨rfl, rfl, c, rfl, hg⟩
  · exact .inl rfl
  · have hc : nthO H k = some (.cells c true) := by rw [nthO_eq]; exact hH
    refine .inr ⟨k, 0, rfl, rfl, ?_, ?_⟩
    · unfold isCells; rw [hc]
    · unfold cellsAt; rw [hc]; exact hg
/-- A value that is a task. -/
structure TArg (w : World) (v : Value) (a b d : Option Addr) (n z n2 z2 n3 z3 : Nat) (age shear : Int) (o0 o1 o2 : Ob) (x0 x1 x2 : Option (Nat × Nat × Nat)) : Prop where
  val : ∃ u0 u1 u2, v = .agg #[u0, u1, u2, .int .i64 age, .int .i64 shear] ∧ SArg w L7 0 u0 a n z o0 x0 ∧ SArg w L5 1 u1 b n2 z2 o1 x1 ∧ SArg w L1 2 u2 d n3 z3 o2 x2
section
variable {w : World} {v : Value} {a b d : Option Addr} {n z n2 z2 n3 z3 : Nat} {age shear : Int} {o0 o1 o2 : Ob} {x0 x1 x2 : Option (Nat × Nat × Nat)}
theorem TArg.on (h : TArg w v a b d n z n2 z2 n3 z3 age shear o0 o1 o2 x0 x1 x2) : TaskOn a b d n z n2 z2 n3 z3 [o0, o1, o2] := by
  obtain ⟨u0, u1, u2, rfl, h0, h1, h2⟩ := h.val
  exact ⟨sliceL_of h0 rfl, sliceL_of h1 rfl, sliceL_of h2 rfl, sc_of h0 (by decide), sc_of h1 (by decide), sc_of h2 (by decide)⟩
theorem TArg.obs (h : TArg w v a b d n z n2 z2 n3 z3 age shear o0 o1 o2 x0 x1 x2) : ∀ p ∈ [(o0, x0), (o1, x1), (o2, x2)], (p.1.live = true → ∃ B bs tot, p.2 = some (B, bs, tot) ∧ ∀ φ : Phi, ObR φ w p.1 B bs tot) ∧ p.1.rw = false := by
  obtain ⟨u0, u1, u2, rfl, h0, h1, h2⟩ := h.val
  intro p hp
  simp only [List.mem_cons, List.not_mem_nil, or_false] at hp
  rcases hp with rfl | rfl | rfl
  · exact ⟨h0.live, h0.ro⟩
  · exact ⟨h1.live, h1.ro⟩
  · exact ⟨h2.live, h2.ro⟩
theorem TArg.vr (h : TArg w v a b d n z n2 z2 n3 z3 age shear o0 o1 o2 x0 x1 x2) : VR (phiOf [(o0, x0), (o1, x1), (o2, x2)]) (.agg ⟨[.slice a n z, .slice b n2 z2, .slice d n3 z3, .int .i64 age, .int .i64 shear]⟩) v := by
  obtain ⟨u0, u1, u2, rfl, h0, h1, h2⟩ := h.val
  refine VRs.agg ((((((VRs.nil _).push (h0.vr _ fun y hy => ?_)).push (h1.vr _ fun y hy => ?_)).push (h2.vr _ fun y hy => ?_)).push (.int _ _)).push (.int _ _))
  · simp [phiOf, hy]
  · simp [phiOf, hy]
  · simp [phiOf, hy]
end
set_option maxRecDepth 100000 in
theorem taskArg {H : Type} {enc : TypeId × Value → H} {w : World} {r : Reach} {b0 : Nat} {v : Value} {dd : DataW H} {p : List MemPlace} (hval : Value.okWide Try.prog w r b0 26 v) (h : DataW.Trod enc Try.prog w 0 (fun _ => true) true 26 v dd p) :
    ∃ a b d n z n2 z2 n3 z3 age shear o0 o1 o2 x0 x1 x2, TArg w v a b d n z n2 z2 n3 z3 age shear o0 o1 o2 x0 x1 x2 := by
  obtain ⟨cs, rfl, hcs⟩ := okWide_struct Try.underlying26 hval
  rw [cells26] at hcs
  obtain ⟨u0, u1, u2, u3, u4, rfl⟩ := five hcs
  obtain ⟨fu0, hf0⟩ := h
  obtain ⟨y0, y1, y2, y3, y4, n, t0, t1, t2, t3, t4⟩ := trod_struct5 Try.underlying26 hf0
  have t0' : DataW.trod enc Try.prog w 0 (fun _ => true) true n 22 [u0] = some y0 := by
    have e : List.take (Try.prog.cellsOf 22) (List.drop 0 [u0, u1, u2, u3, u4]) = [u0] := by rw [cells22]; rfl
    rw [← e]; exact t0
  have t1' : DataW.trod enc Try.prog w 0 (fun _ => true) true n 23 [u1] = some y1 := by
    have e : List.take (Try.prog.cellsOf 23) (List.drop 1 [u0, u1, u2, u3, u4]) = [u1] := by rw [cells23]; rfl
    rw [← e]; exact t1
  have t2' : DataW.trod enc Try.prog w 0 (fun _ => true) true n 24 [u2] = some y2 := by
    have e : List.take (Try.prog.cellsOf 24) (List.drop 2 [u0, u1, u2, u3, u4]) = [u2] := by rw [cells24]; rfl
    rw [← e]; exact t2
  have t3' : DataW.trod enc Try.prog w 0 (fun _ => true) true n 3 [u3] = some y3 := by
    have e : List.take (Try.prog.cellsOf 3) (List.drop 3 [u0, u1, u2, u3, u4]) = [u3] := by rw [cells3o]; rfl
    rw [← e]; exact t3
  have t4' : DataW.trod enc Try.prog w 0 (fun _ => true) true n 3 [u4] = some y4 := by
    have e : List.take (Try.prog.cellsOf 3) (List.drop 4 [u0, u1, u2, u3, u4]) = [u4] := by rw [cells3o]; rfl
    rw [← e]; exact t4
  clear t0 t1 t2 t3 t4
  obtain ⟨a0, n0, s0, o0, x0, g0⟩ := sArg Try.underlying22 flat107 cells107 (by rw [leaves107]; decide) t0' 0
  obtain ⟨a1, n1, s1, o1, x1, g1⟩ := sArg Try.underlying23 flat89 cells89 (by rw [leaves89]; decide) t1' 1
  obtain ⟨a2, n2, s2, o2, x2, g2⟩ := sArg Try.underlying24 flat3 cells3 (by rw [leaves3]; decide) t2' 2
  rw [leaves107] at g0
  rw [leaves89] at g1
  rw [leaves3] at g2
  obtain ⟨m3, e3, _, _⟩ := DataW.trod_int Try.underlying3 t3'
  obtain ⟨m4, e4, _, _⟩ := DataW.trod_int Try.underlying3 t4'
  simp only [List.cons.injEq, and_true] at e3 e4
  subst e3 e4
  exact ⟨a0, a1, a2, n0, s0, n1, s1, n2, s2, m3, m4, o0, o1, o2, x0, x1, x2, ⟨u0, u1, u2, rfl, g0, g1, g2⟩⟩
end Go.Proofs.Ytohpmnfplglbdaa

/- For every input the law WindChecks returns true, and each argument reads behind the call as it read before. Conditions: none. -/
namespace Go.Proofs.Ytohpmnfplglbdaa
open Go.ChangeShapes Go.WideShapes Go.ChangeAt Go.RowKit Go.Gh
set_option linter.unusedVariables false

theorem walk {W : World} {v0 : Value} {a b d : Option Addr} {n z n2 z2 n3 z3 : Nat} {age shear : Int} {o0 o1 o2 : Ob} {x0 x1 x2 : Option (Nat × Nat × Nat)} (h : TArg W v0 a b d n z n2 z2 n3 z3 age shear o0 o1 o2 x0 x1 x2) (s : ByteArray) :
    Calls Try.prog 3 #[v0, .string s] W fun e w' => e = .returned (.bool true) ∧ Below W.heap.size W w' :=
  calls_of_fact (l := [(o0, x0), (o1, x1), (o2, x2)]) (law3 (s := s) h.on) (Nat.le_refl 3) rfl h.obs (((VRs.nil _).push h.vr).push (.string _))

set_option maxRecDepth 100000 in
theorem lifted (os : Os) (started : os.Started) (H : Type) (enc : TypeId × Value → H) :
    ReturnsInHanded {} Try.checked os 3 .any (Rows.windChecksSpec.pre6 enc Try.prog Try.f3 Rows.windChecksRow.domain false) (Rows.windChecksSpec.post enc Try.prog Try.f3 false true false false) := by
  refine returnsInHanded_of_change (C := Try.checked) own started (by kernel_rfl) Try.func3
    (ChangeSpec.witness6 (enc := enc) (C := Try.checked) false ⟨#[], #[.agg #[.slice none 0 0, .slice none 0 0, .slice none 0 0, .int .i64 0, .int .i64 0], .string ByteArray.empty], []⟩ 8 (by kernel_rfl) (by kernel_rfl) (by kernel_rfl) (by kernel_rfl)) ?_
  intro W base args ds gs before hval0 hW hcnd _
  have hval : ∀ (j : Nat) t v, Try.f3.params[j]? = some t → args[j]? = some v → Value.okWide Try.prog W .any base t v := hval0
  have hW' := hW
  obtain ⟨p, q, hA0, hV, rfl, hfz, hnd⟩ := hW
  have hA : DataW.TrodAll enc Try.prog W 0 (fun _ => true) true Try.f3.params.toList args.toList ds p := hA0
  rw [Try.params3] at hA hval
  obtain ⟨v0, vs0, d0, ds0, p0, q0, hargs, rfl, rfl, h0, r0⟩ := trodAll_cons hA
  obtain ⟨v1, vs1, d1, ds1, p1, q1, rfl, rfl, rfl, h1, r1⟩ := trodAll_cons r0
  obtain ⟨rfl, rfl, rfl⟩ := trodAll_nil r1
  obtain rfl : args = #[v0, v1] := by cases args; simp_all
  obtain ⟨rfl, rfl⟩ := trodVars_none hV
  have k0 := h0
  have lt0 : ∀ x ∈ p0, x.block < W.heap.size := by obtain ⟨m, hm⟩ := k0; exact DataW.trod_lt m _ _ _ hm
  obtain ⟨a, b, d, n, z, n2, z2, n3, z3, age, shear, o0, o1, o2, x0, x1, x2, g⟩ := taskArg (hval 0 26 v0 rfl rfl) h0
  obtain ⟨s, rfl, rfl, rfl, w2⟩ := Go.ChangeMaps.open_string Try.underlying9 (hval 1 9 v1 rfl rfl) h1
  clear hA0 hval0
  refine (walk g s).mono fun e W' ⟨he, bel⟩ => ?_
  subst he
  exact ⟨_, rfl, _, _, _, [], _, [], hW', trodAll_mk1 (shut_bool Try.underlying4 _), (trodAll_cons_mk (Below.trod laidOut (by kernel_rfl) (of_decide_eq_true (by kernel_rfl)) k0 bel lt0) (trodAll_cons_mk (Go.ChangeMaps.shut_string Try.underlying9 w2) trodAll_mk0)), rfl, bel.frame _, fun h => by cases h⟩

theorem over : Rows.windChecksRow.holds Try.pinned (OpenSpec.ofChange Rows.windChecksSpec) :=
  OpenClaim.holds_of_wide 3 Try.f3 rfl rfl rfl rfl rfl rfl rfl ⟨rfl, rfl, rfl, rfl, rfl⟩ rfl rfl rfl rfl rfl (by kernel_rfl) Try.func3 (by kernel_rfl)
    (of_decide_eq_true (by kernel_rfl)) (by unfold Func.isWrapper; first | (rw [if_pos (by decide +kernel)]; kernel_rfl) | (rw [if_neg (by decide +kernel)]; exact ⟨rfl, rfl⟩))
    (fun os started H enc _ => lifted os started H enc)

/-- The statement. -/
theorem windChecksProved : Rows.WindChecksSaid := over
#print axioms windChecksProved
end Go.Proofs.Ytohpmnfplglbdaa

