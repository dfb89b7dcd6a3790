/- Part 10 of the texts below the claim. Conditions: none. -/
import Derived.Test.YtohpmnfplglbdaaMg9
import Derived.Test.YtohpmnfplglbdaaMg5
/- What wind.Check returns: the same as hangfireref01.Check. Conditions: none. -/
namespace Go.Proofs.Ytohpmnfplglbdaa
open Go.Gh Go.RowKit
noncomputable section
set_option maxRecDepth 100000
set_option linter.unusedSimpArgs false
set_option linter.unusedVariables false
theorem tree20m (J J2 J3 : Task → List Value) (c0 c c3 : Array Value) (off0 off off3 : Nat) (n n2 n3 : Nat) (age shear : Int) :
    evC Try.prog ((sh20a.ans J).or ((sh20b.ans J2).or (sh20c.ans J3))).c 60 (.call 20 ⟨[.agg ⟨[.slice (some ⟨0, off0, none⟩) n 7, .slice (some ⟨1, off, none⟩) n2 5, .slice (some ⟨2, off3, none⟩) n3 1, .int .i64 age, .int .i64 shear]⟩]⟩ ⟨[.cells c0 true, .cells c true, .cells c3 true], 3, []⟩) some =
    cond (decide ((6 : Int) < (Int.ofNat n)))
    (some (Out.ret (Value.tuple ⟨[(Value.int .i64 (1 : Int)), (Value.int .i64 (0 : Int)), (Value.int .i64 (3 : Int))]⟩) (Hp.mk [(Ob.cells c0 true), (Ob.cells c true), (Ob.cells c3 true)] 3 [])))
    (cond (decide ((60 : Int) < (Int.ofNat n2)))
     (some (Out.ret (Value.tuple ⟨[(Value.int .i64 (1 : Int)), (Value.int .i64 (0 : Int)), (Value.int .i64 (3 : Int))]⟩) (Hp.mk [(Ob.cells c0 true), (Ob.cells c true), (Ob.cells c3 true)] 3 [])))
     (cond (decide ((Int.ofNat n3) < (1 : Int)))
      (some (Out.ret (Value.tuple ⟨[(Value.int .i64 (1 : Int)), (Value.int .i64 (0 : Int)), (Value.int .i64 (3 : Int))]⟩) (Hp.mk [(Ob.cells c0 true), (Ob.cells c true), (Ob.cells c3 true)] 3 [])))
      (cond (decide ((20 : Int) < (Int.ofNat n3)))
       (some (Out.ret (Value.tuple ⟨[(Value.int .i64 (1 : Int)), (Value.int .i64 (0 : Int)), (Value.int .i64 (3 : Int))]⟩) (Hp.mk [(Ob.cells c0 true), (Ob.cells c true), (Ob.cells c3 true)] 3 [])))
       (cond (eqCode (theLoop Try.prog 20 0) (theLoop Try.prog 20 0))
        (cond (okA20 c0 off0 n (Option.some (Addr.mk 1 off Option.none)) (Option.some (Addr.mk 2 off3 Option.none)) n2 5 n3 1 (Ob.cells c true) (Ob.cells c3 true) (Int.ofNat n) (0 : Int) off0 n)
         (cond (okM [])
          (cond (saB c0 off0 (n - 0) 0 [])
           (some (Out.ret (Value.tuple ⟨[(Value.int .i64 (2 : Int)), (Value.int .i64 (Int.ofNat (saI c0 off0 (n - 0) 0 []))), (Value.int .i64 (saE c0 off0 (n - 0) 0 []))]⟩) (Hp.mk [(Ob.cells c0 true), (Ob.cells c true), (Ob.cells c3 true)] 3 [])))
           (cond (eqCode (theLoop Try.prog 20 1) (theLoop Try.prog 20 1))
            (cond (okA20b c0 off0 n c off n2 (Option.some (Addr.mk 2 off3 Option.none)) n3 1 (Ob.cells c3 true) (Int.ofNat n2) (0 : Int) (saM c0 off0 (n - 0) 0 []))
             (cond (sbB c0 off0 n c off (n2 - 0) 0 (saM c0 off0 (n - 0) 0 []))
              (some (Out.ret (Value.tuple ⟨[(Value.int .i64 (3 : Int)), (Value.int .i64 (Int.ofNat (sbI c0 off0 n c off (n2 - 0) 0 (saM c0 off0 (n - 0) 0 [])))), (Value.int .i64 (sbE c0 off0 n c off (n2 - 0) 0 (saM c0 off0 (n - 0) 0 [])))]⟩) (Hp.mk [(Ob.cells c0 true), (Ob.cells c true), (Ob.cells c3 true)] 3 [])))
              (cond (eqCode (theLoop Try.prog 20 2) (theLoop Try.prog 20 2))
               (cond (okA20c c3 off3 n3 (Option.some (Addr.mk 0 off0 Option.none)) (Option.some (Addr.mk 1 off Option.none)) n 7 n2 5 (Ob.cells c0 true) (Ob.cells c true) (Int.ofNat n3) (0 : Int) off3 n3 (sbM c0 off0 n c off (n2 - 0) 0 (saM c0 off0 (n - 0) 0 [])))
                (cond (cuB c3 off3 (n3 - 0) 0 (0 : Int))
                 (some (Out.ret (Value.tuple ⟨[(Value.int .i64 (4 : Int)), (Value.int .i64 (Int.ofNat (cuI c3 off3 (n3 - 0) 0 (0 : Int)))), (Value.int .i64 (cuX c3 off3 (n3 - 0) 0 (0 : Int)))]⟩) (Hp.mk [(Ob.cells c0 true), (Ob.cells c true), (Ob.cells c3 true)] 3 [])))
                 (cond (decide ((0 : Int) ≤ age))
                  (cond (not (decide (age ≤ (1000 : Int))))
                   (some (Out.ret (Value.tuple ⟨[(Value.int .i64 (5 : Int)), (Value.int .i64 (0 : Int)), (Value.int .i64 (7 : Int))]⟩) (Hp.mk [(Ob.cells c0 true), (Ob.cells c true), (Ob.cells c3 true)] 3 [])))
                   (cond (decide ((0 : Int) ≤ shear))
                    (cond (not (decide (shear ≤ (1000 : Int))))
                     (some (Out.ret (Value.tuple ⟨[(Value.int .i64 (5 : Int)), (Value.int .i64 (0 : Int)), (Value.int .i64 (7 : Int))]⟩) (Hp.mk [(Ob.cells c0 true), (Ob.cells c true), (Ob.cells c3 true)] 3 [])))
                     (some (Out.ret (Value.tuple ⟨[(Value.int .i64 (0 : Int)), (Value.int .i64 (0 : Int)), (Value.int .i64 (0 : Int))]⟩) (Hp.mk [(Ob.cells c0 true), (Ob.cells c true), (Ob.cells c3 true)] 3 []))))
                    (some (Out.ret (Value.tuple ⟨[(Value.int .i64 (5 : Int)), (Value.int .i64 (0 : Int)), (Value.int .i64 (7 : Int))]⟩) (Hp.mk [(Ob.cells c0 true), (Ob.cells c true), (Ob.cells c3 true)] 3 [])))))
                  (some (Out.ret (Value.tuple ⟨[(Value.int .i64 (5 : Int)), (Value.int .i64 (0 : Int)), (Value.int .i64 (7 : Int))]⟩) (Hp.mk [(Ob.cells c0 true), (Ob.cells c true), (Ob.cells c3 true)] 3 [])))))
                (none))
               (none)))
             (none))
            (none)))
          (none))
         (none))
        (none))))) := by kernel_rfl
theorem tree20p (J J3 : Task → List Value) (c0 c3 : Array Value) (off0 off3 : Nat) (b : Option Addr) (n z2 n3 : Nat) (age shear : Int) :
    evC Try.prog ((sh20a.ans J).or (sh20c.ans J3)).c 60 (.call 20 ⟨[.agg ⟨[.slice (some ⟨0, off0, none⟩) n 7, .slice b 0 z2, .slice (some ⟨2, off3, none⟩) n3 1, .int .i64 age, .int .i64 shear]⟩]⟩ ⟨[.cells c0 true, .dead, .cells c3 true], 3, []⟩) some =
    cond (decide ((6 : Int) < (Int.ofNat n)))
    (some (Out.ret (Value.tuple ⟨[(Value.int .i64 (1 : Int)), (Value.int .i64 (0 : Int)), (Value.int .i64 (3 : Int))]⟩) (Hp.mk [(Ob.cells c0 true), Ob.dead, (Ob.cells c3 true)] 3 [])))
    (cond (decide ((Int.ofNat n3) < (1 : Int)))
     (some (Out.ret (Value.tuple ⟨[(Value.int .i64 (1 : Int)), (Value.int .i64 (0 : Int)), (Value.int .i64 (3 : Int))]⟩) (Hp.mk [(Ob.cells c0 true), Ob.dead, (Ob.cells c3 true)] 3 [])))
     (cond (decide ((20 : Int) < (Int.ofNat n3)))
      (some (Out.ret (Value.tuple ⟨[(Value.int .i64 (1 : Int)), (Value.int .i64 (0 : Int)), (Value.int .i64 (3 : Int))]⟩) (Hp.mk [(Ob.cells c0 true), Ob.dead, (Ob.cells c3 true)] 3 [])))
      (cond (eqCode (theLoop Try.prog 20 0) (theLoop Try.prog 20 0))
       (cond (okA20 c0 off0 n b (Option.some (Addr.mk 2 off3 Option.none)) 0 z2 n3 1 Ob.dead (Ob.cells c3 true) (Int.ofNat n) (0 : Int) off0 n)
        (cond (okM [])
         (cond (saB c0 off0 (n - 0) 0 [])
          (some (Out.ret (Value.tuple ⟨[(Value.int .i64 (2 : Int)), (Value.int .i64 (Int.ofNat (saI c0 off0 (n - 0) 0 []))), (Value.int .i64 (saE c0 off0 (n - 0) 0 []))]⟩) (Hp.mk [(Ob.cells c0 true), Ob.dead, (Ob.cells c3 true)] 3 [])))
          (cond (eqCode (theLoop Try.prog 20 2) (theLoop Try.prog 20 2))
           (cond (okA20c c3 off3 n3 (Option.some (Addr.mk 0 off0 Option.none)) b n 7 0 z2 (Ob.cells c0 true) Ob.dead (Int.ofNat n3) (0 : Int) off3 n3 (saM c0 off0 (n - 0) 0 []))
            (cond (cuB c3 off3 (n3 - 0) 0 (0 : Int))
             (some (Out.ret (Value.tuple ⟨[(Value.int .i64 (4 : Int)), (Value.int .i64 (Int.ofNat (cuI c3 off3 (n3 - 0) 0 (0 : Int)))), (Value.int .i64 (cuX c3 off3 (n3 - 0) 0 (0 : Int)))]⟩) (Hp.mk [(Ob.cells c0 true), Ob.dead, (Ob.cells c3 true)] 3 [])))
             (cond (decide ((0 : Int) ≤ age))
              (cond (not (decide (age ≤ (1000 : Int))))
               (some (Out.ret (Value.tuple ⟨[(Value.int .i64 (5 : Int)), (Value.int .i64 (0 : Int)), (Value.int .i64 (7 : Int))]⟩) (Hp.mk [(Ob.cells c0 true), Ob.dead, (Ob.cells c3 true)] 3 [])))
               (cond (decide ((0 : Int) ≤ shear))
                (cond (not (decide (shear ≤ (1000 : Int))))
                 (some (Out.ret (Value.tuple ⟨[(Value.int .i64 (5 : Int)), (Value.int .i64 (0 : Int)), (Value.int .i64 (7 : Int))]⟩) (Hp.mk [(Ob.cells c0 true), Ob.dead, (Ob.cells c3 true)] 3 [])))
                 (some (Out.ret (Value.tuple ⟨[(Value.int .i64 (0 : Int)), (Value.int .i64 (0 : Int)), (Value.int .i64 (0 : Int))]⟩) (Hp.mk [(Ob.cells c0 true), Ob.dead, (Ob.cells c3 true)] 3 []))))
                (some (Out.ret (Value.tuple ⟨[(Value.int .i64 (5 : Int)), (Value.int .i64 (0 : Int)), (Value.int .i64 (7 : Int))]⟩) (Hp.mk [(Ob.cells c0 true), Ob.dead, (Ob.cells c3 true)] 3 [])))))
              (some (Out.ret (Value.tuple ⟨[(Value.int .i64 (5 : Int)), (Value.int .i64 (0 : Int)), (Value.int .i64 (7 : Int))]⟩) (Hp.mk [(Ob.cells c0 true), Ob.dead, (Ob.cells c3 true)] 3 [])))))
            (none))
           (none)))
         (none))
        (none))
       (none)))) := by kernel_rfl
theorem tree20q0 (J3 : Task → List Value) (c c3 : Array Value) (off off3 : Nat) (z n2 n3 : Nat) (age shear : Int) :
    evC Try.prog (sh20c.ans J3).c 60 (.call 20 ⟨[.agg ⟨[.slice none 0 z, .slice (some ⟨1, off, none⟩) n2 5, .slice (some ⟨2, off3, none⟩) n3 1, .int .i64 age, .int .i64 shear]⟩]⟩ ⟨[.dead, .cells c true, .cells c3 true], 3, []⟩) some =
    cond (decide ((60 : Int) < (Int.ofNat n2)))
    (some (Out.ret (Value.tuple ⟨[(Value.int .i64 (1 : Int)), (Value.int .i64 (0 : Int)), (Value.int .i64 (3 : Int))]⟩) (Hp.mk [Ob.dead, (Ob.cells c true), (Ob.cells c3 true)] 3 [])))
    (cond (decide ((Int.ofNat n3) < (1 : Int)))
     (some (Out.ret (Value.tuple ⟨[(Value.int .i64 (1 : Int)), (Value.int .i64 (0 : Int)), (Value.int .i64 (3 : Int))]⟩) (Hp.mk [Ob.dead, (Ob.cells c true), (Ob.cells c3 true)] 3 [])))
     (cond (decide ((20 : Int) < (Int.ofNat n3)))
      (some (Out.ret (Value.tuple ⟨[(Value.int .i64 (1 : Int)), (Value.int .i64 (0 : Int)), (Value.int .i64 (3 : Int))]⟩) (Hp.mk [Ob.dead, (Ob.cells c true), (Ob.cells c3 true)] 3 [])))
      (cond (decide ((0 : Int) < (Int.ofNat n2)))
       (cond (and true (decide ((0 : Int) < (Int.ofNat n2))))
        (cond (and true (rdOk c [(Leaf.int .i64), (Leaf.int .i64), (Leaf.int .i64), (Leaf.int .i64), (Leaf.int .i64)] (off + 0)))
         (cond (decide ((getInt c (off + 0)) < (0 : Int)))
          (some (Out.ret (Value.tuple ⟨[(Value.int .i64 (3 : Int)), (Value.int .i64 (0 : Int)), (Value.int .i64 (4 : Int))]⟩) (Hp.mk [Ob.dead, (Ob.cells c true), (Ob.cells c3 true)] 3 [])))
          (cond (decide ((0 : Int) ≤ (getInt c (off + 0))))
           (some (Out.ret (Value.tuple ⟨[(Value.int .i64 (3 : Int)), (Value.int .i64 (0 : Int)), (Value.int .i64 (4 : Int))]⟩) (Hp.mk [Ob.dead, (Ob.cells c true), (Ob.cells c3 true)] 3 [])))
           (none)))
         (none))
        (none))
       (cond (eqCode (theLoop Try.prog 20 2) (theLoop Try.prog 20 2))
        (cond (okA20c c3 off3 n3 Option.none (Option.some (Addr.mk 1 off Option.none)) 0 z n2 5 Ob.dead (Ob.cells c true) (Int.ofNat n3) (0 : Int) off3 n3 [])
         (cond (cuB c3 off3 (n3 - 0) 0 (0 : Int))
          (some (Out.ret (Value.tuple ⟨[(Value.int .i64 (4 : Int)), (Value.int .i64 (Int.ofNat (cuI c3 off3 (n3 - 0) 0 (0 : Int)))), (Value.int .i64 (cuX c3 off3 (n3 - 0) 0 (0 : Int)))]⟩) (Hp.mk [Ob.dead, (Ob.cells c true), (Ob.cells c3 true)] 3 [])))
          (cond (decide ((0 : Int) ≤ age))
           (cond (not (decide (age ≤ (1000 : Int))))
            (some (Out.ret (Value.tuple ⟨[(Value.int .i64 (5 : Int)), (Value.int .i64 (0 : Int)), (Value.int .i64 (7 : Int))]⟩) (Hp.mk [Ob.dead, (Ob.cells c true), (Ob.cells c3 true)] 3 [])))
            (cond (decide ((0 : Int) ≤ shear))
             (cond (not (decide (shear ≤ (1000 : Int))))
              (some (Out.ret (Value.tuple ⟨[(Value.int .i64 (5 : Int)), (Value.int .i64 (0 : Int)), (Value.int .i64 (7 : Int))]⟩) (Hp.mk [Ob.dead, (Ob.cells c true), (Ob.cells c3 true)] 3 [])))
              (some (Out.ret (Value.tuple ⟨[(Value.int .i64 (0 : Int)), (Value.int .i64 (0 : Int)), (Value.int .i64 (0 : Int))]⟩) (Hp.mk [Ob.dead, (Ob.cells c true), (Ob.cells c3 true)] 3 []))))
             (some (Out.ret (Value.tuple ⟨[(Value.int .i64 (5 : Int)), (Value.int .i64 (0 : Int)), (Value.int .i64 (7 : Int))]⟩) (Hp.mk [Ob.dead, (Ob.cells c true), (Ob.cells c3 true)] 3 [])))))
           (some (Out.ret (Value.tuple ⟨[(Value.int .i64 (5 : Int)), (Value.int .i64 (0 : Int)), (Value.int .i64 (7 : Int))]⟩) (Hp.mk [Ob.dead, (Ob.cells c true), (Ob.cells c3 true)] 3 [])))))
         (none))
        (none))))) := by kernel_rfl
theorem tree20q1 (J3 : Task → List Value) (c c3 : Array Value) (off off3 : Nat) (off0 z n2 n3 : Nat) (age shear : Int) :
    evC Try.prog (sh20c.ans J3).c 60 (.call 20 ⟨[.agg ⟨[.slice (some ⟨0, off0, none⟩) 0 z, .slice (some ⟨1, off, none⟩) n2 5, .slice (some ⟨2, off3, none⟩) n3 1, .int .i64 age, .int .i64 shear]⟩]⟩ ⟨[.dead, .cells c true, .cells c3 true], 3, []⟩) some =
    cond (decide ((60 : Int) < (Int.ofNat n2)))
    (some (Out.ret (Value.tuple ⟨[(Value.int .i64 (1 : Int)), (Value.int .i64 (0 : Int)), (Value.int .i64 (3 : Int))]⟩) (Hp.mk [Ob.dead, (Ob.cells c true), (Ob.cells c3 true)] 3 [])))
    (cond (decide ((Int.ofNat n3) < (1 : Int)))
     (some (Out.ret (Value.tuple ⟨[(Value.int .i64 (1 : Int)), (Value.int .i64 (0 : Int)), (Value.int .i64 (3 : Int))]⟩) (Hp.mk [Ob.dead, (Ob.cells c true), (Ob.cells c3 true)] 3 [])))
     (cond (decide ((20 : Int) < (Int.ofNat n3)))
      (some (Out.ret (Value.tuple ⟨[(Value.int .i64 (1 : Int)), (Value.int .i64 (0 : Int)), (Value.int .i64 (3 : Int))]⟩) (Hp.mk [Ob.dead, (Ob.cells c true), (Ob.cells c3 true)] 3 [])))
      (cond (decide ((0 : Int) < (Int.ofNat n2)))
       (cond (and true (decide ((0 : Int) < (Int.ofNat n2))))
        (cond (and true (rdOk c [(Leaf.int .i64), (Leaf.int .i64), (Leaf.int .i64), (Leaf.int .i64), (Leaf.int .i64)] (off + 0)))
         (cond (decide ((getInt c (off + 0)) < (0 : Int)))
          (some (Out.ret (Value.tuple ⟨[(Value.int .i64 (3 : Int)), (Value.int .i64 (0 : Int)), (Value.int .i64 (4 : Int))]⟩) (Hp.mk [Ob.dead, (Ob.cells c true), (Ob.cells c3 true)] 3 [])))
          (cond (decide ((0 : Int) ≤ (getInt c (off + 0))))
           (some (Out.ret (Value.tuple ⟨[(Value.int .i64 (3 : Int)), (Value.int .i64 (0 : Int)), (Value.int .i64 (4 : Int))]⟩) (Hp.mk [Ob.dead, (Ob.cells c true), (Ob.cells c3 true)] 3 [])))
           (cond (and (decide ((0 : Int) ≤ (getInt c (off + 0)))) (decide ((getInt c (off + 0)) < (0 : Int))))
            (none)
            (none))))
         (none))
        (none))
       (cond (eqCode (theLoop Try.prog 20 2) (theLoop Try.prog 20 2))
        (cond (okA20c c3 off3 n3 (Option.some (Addr.mk 0 off0 Option.none)) (Option.some (Addr.mk 1 off Option.none)) 0 z n2 5 Ob.dead (Ob.cells c true) (Int.ofNat n3) (0 : Int) off3 n3 [])
         (cond (cuB c3 off3 (n3 - 0) 0 (0 : Int))
          (some (Out.ret (Value.tuple ⟨[(Value.int .i64 (4 : Int)), (Value.int .i64 (Int.ofNat (cuI c3 off3 (n3 - 0) 0 (0 : Int)))), (Value.int .i64 (cuX c3 off3 (n3 - 0) 0 (0 : Int)))]⟩) (Hp.mk [Ob.dead, (Ob.cells c true), (Ob.cells c3 true)] 3 [])))
          (cond (decide ((0 : Int) ≤ age))
           (cond (not (decide (age ≤ (1000 : Int))))
            (some (Out.ret (Value.tuple ⟨[(Value.int .i64 (5 : Int)), (Value.int .i64 (0 : Int)), (Value.int .i64 (7 : Int))]⟩) (Hp.mk [Ob.dead, (Ob.cells c true), (Ob.cells c3 true)] 3 [])))
            (cond (decide ((0 : Int) ≤ shear))
             (cond (not (decide (shear ≤ (1000 : Int))))
              (some (Out.ret (Value.tuple ⟨[(Value.int .i64 (5 : Int)), (Value.int .i64 (0 : Int)), (Value.int .i64 (7 : Int))]⟩) (Hp.mk [Ob.dead, (Ob.cells c true), (Ob.cells c3 true)] 3 [])))
              (some (Out.ret (Value.tuple ⟨[(Value.int .i64 (0 : Int)), (Value.int .i64 (0 : Int)), (Value.int .i64 (0 : Int))]⟩) (Hp.mk [Ob.dead, (Ob.cells c true), (Ob.cells c3 true)] 3 []))))
             (some (Out.ret (Value.tuple ⟨[(Value.int .i64 (5 : Int)), (Value.int .i64 (0 : Int)), (Value.int .i64 (7 : Int))]⟩) (Hp.mk [Ob.dead, (Ob.cells c true), (Ob.cells c3 true)] 3 [])))))
           (some (Out.ret (Value.tuple ⟨[(Value.int .i64 (5 : Int)), (Value.int .i64 (0 : Int)), (Value.int .i64 (7 : Int))]⟩) (Hp.mk [Ob.dead, (Ob.cells c true), (Ob.cells c3 true)] 3 [])))))
         (none))
        (none))))) := by kernel_rfl
theorem tree20q2 (J3 : Task → List Value) (c c3 : Array Value) (off off3 : Nat) (sp : Nat) (off0 z n2 n3 : Nat) (age shear : Int) :
    evC Try.prog (sh20c.ans J3).c 60 (.call 20 ⟨[.agg ⟨[.slice (some ⟨0, off0, some sp⟩) 0 z, .slice (some ⟨1, off, none⟩) n2 5, .slice (some ⟨2, off3, none⟩) n3 1, .int .i64 age, .int .i64 shear]⟩]⟩ ⟨[.dead, .cells c true, .cells c3 true], 3, []⟩) some =
    cond (decide ((60 : Int) < (Int.ofNat n2)))
    (some (Out.ret (Value.tuple ⟨[(Value.int .i64 (1 : Int)), (Value.int .i64 (0 : Int)), (Value.int .i64 (3 : Int))]⟩) (Hp.mk [Ob.dead, (Ob.cells c true), (Ob.cells c3 true)] 3 [])))
    (cond (decide ((Int.ofNat n3) < (1 : Int)))
     (some (Out.ret (Value.tuple ⟨[(Value.int .i64 (1 : Int)), (Value.int .i64 (0 : Int)), (Value.int .i64 (3 : Int))]⟩) (Hp.mk [Ob.dead, (Ob.cells c true), (Ob.cells c3 true)] 3 [])))
     (cond (decide ((20 : Int) < (Int.ofNat n3)))
      (some (Out.ret (Value.tuple ⟨[(Value.int .i64 (1 : Int)), (Value.int .i64 (0 : Int)), (Value.int .i64 (3 : Int))]⟩) (Hp.mk [Ob.dead, (Ob.cells c true), (Ob.cells c3 true)] 3 [])))
      (cond (decide ((0 : Int) < (Int.ofNat n2)))
       (cond (and true (decide ((0 : Int) < (Int.ofNat n2))))
        (cond (and true (rdOk c [(Leaf.int .i64), (Leaf.int .i64), (Leaf.int .i64), (Leaf.int .i64), (Leaf.int .i64)] (off + 0)))
         (cond (decide ((getInt c (off + 0)) < (0 : Int)))
          (some (Out.ret (Value.tuple ⟨[(Value.int .i64 (3 : Int)), (Value.int .i64 (0 : Int)), (Value.int .i64 (4 : Int))]⟩) (Hp.mk [Ob.dead, (Ob.cells c true), (Ob.cells c3 true)] 3 [])))
          (cond (decide ((0 : Int) ≤ (getInt c (off + 0))))
           (some (Out.ret (Value.tuple ⟨[(Value.int .i64 (3 : Int)), (Value.int .i64 (0 : Int)), (Value.int .i64 (4 : Int))]⟩) (Hp.mk [Ob.dead, (Ob.cells c true), (Ob.cells c3 true)] 3 [])))
           (none)))
         (none))
        (none))
       (cond (eqCode (theLoop Try.prog 20 2) (theLoop Try.prog 20 2))
        (cond (okA20c c3 off3 n3 (Option.some (Addr.mk 0 off0 (Option.some sp))) (Option.some (Addr.mk 1 off Option.none)) 0 z n2 5 Ob.dead (Ob.cells c true) (Int.ofNat n3) (0 : Int) off3 n3 [])
         (cond (cuB c3 off3 (n3 - 0) 0 (0 : Int))
          (some (Out.ret (Value.tuple ⟨[(Value.int .i64 (4 : Int)), (Value.int .i64 (Int.ofNat (cuI c3 off3 (n3 - 0) 0 (0 : Int)))), (Value.int .i64 (cuX c3 off3 (n3 - 0) 0 (0 : Int)))]⟩) (Hp.mk [Ob.dead, (Ob.cells c true), (Ob.cells c3 true)] 3 [])))
          (cond (decide ((0 : Int) ≤ age))
           (cond (not (decide (age ≤ (1000 : Int))))
            (some (Out.ret (Value.tuple ⟨[(Value.int .i64 (5 : Int)), (Value.int .i64 (0 : Int)), (Value.int .i64 (7 : Int))]⟩) (Hp.mk [Ob.dead, (Ob.cells c true), (Ob.cells c3 true)] 3 [])))
            (cond (decide ((0 : Int) ≤ shear))
             (cond (not (decide (shear ≤ (1000 : Int))))
              (some (Out.ret (Value.tuple ⟨[(Value.int .i64 (5 : Int)), (Value.int .i64 (0 : Int)), (Value.int .i64 (7 : Int))]⟩) (Hp.mk [Ob.dead, (Ob.cells c true), (Ob.cells c3 true)] 3 [])))
              (some (Out.ret (Value.tuple ⟨[(Value.int .i64 (0 : Int)), (Value.int .i64 (0 : Int)), (Value.int .i64 (0 : Int))]⟩) (Hp.mk [Ob.dead, (Ob.cells c true), (Ob.cells c3 true)] 3 []))))
             (some (Out.ret (Value.tuple ⟨[(Value.int .i64 (5 : Int)), (Value.int .i64 (0 : Int)), (Value.int .i64 (7 : Int))]⟩) (Hp.mk [Ob.dead, (Ob.cells c true), (Ob.cells c3 true)] 3 [])))))
           (some (Out.ret (Value.tuple ⟨[(Value.int .i64 (5 : Int)), (Value.int .i64 (0 : Int)), (Value.int .i64 (7 : Int))]⟩) (Hp.mk [Ob.dead, (Ob.cells c true), (Ob.cells c3 true)] 3 [])))))
         (none))
        (none))))) := by kernel_rfl
theorem tree20r (J3 : Task → List Value) (c3 : Array Value) (off3 : Nat) (a b : Option Addr) (z z2 n3 : Nat) (age shear : Int) :
    evC Try.prog (sh20c.ans J3).c 60 (.call 20 ⟨[.agg ⟨[.slice a 0 z, .slice b 0 z2, .slice (some ⟨2, off3, none⟩) n3 1, .int .i64 age, .int .i64 shear]⟩]⟩ ⟨[.dead, .dead, .cells c3 true], 3, []⟩) some =
    cond (decide ((Int.ofNat n3) < (1 : Int)))
    (some (Out.ret (Value.tuple ⟨[(Value.int .i64 (1 : Int)), (Value.int .i64 (0 : Int)), (Value.int .i64 (3 : Int))]⟩) (Hp.mk [Ob.dead, Ob.dead, (Ob.cells c3 true)] 3 [])))
    (cond (decide ((20 : Int) < (Int.ofNat n3)))
     (some (Out.ret (Value.tuple ⟨[(Value.int .i64 (1 : Int)), (Value.int .i64 (0 : Int)), (Value.int .i64 (3 : Int))]⟩) (Hp.mk [Ob.dead, Ob.dead, (Ob.cells c3 true)] 3 [])))
     (cond (eqCode (theLoop Try.prog 20 2) (theLoop Try.prog 20 2))
      (cond (okA20c c3 off3 n3 a b 0 z 0 z2 Ob.dead Ob.dead (Int.ofNat n3) (0 : Int) off3 n3 [])
       (cond (cuB c3 off3 (n3 - 0) 0 (0 : Int))
        (some (Out.ret (Value.tuple ⟨[(Value.int .i64 (4 : Int)), (Value.int .i64 (Int.ofNat (cuI c3 off3 (n3 - 0) 0 (0 : Int)))), (Value.int .i64 (cuX c3 off3 (n3 - 0) 0 (0 : Int)))]⟩) (Hp.mk [Ob.dead, Ob.dead, (Ob.cells c3 true)] 3 [])))
        (cond (decide ((0 : Int) ≤ age))
         (cond (not (decide (age ≤ (1000 : Int))))
          (some (Out.ret (Value.tuple ⟨[(Value.int .i64 (5 : Int)), (Value.int .i64 (0 : Int)), (Value.int .i64 (7 : Int))]⟩) (Hp.mk [Ob.dead, Ob.dead, (Ob.cells c3 true)] 3 [])))
          (cond (decide ((0 : Int) ≤ shear))
           (cond (not (decide (shear ≤ (1000 : Int))))
            (some (Out.ret (Value.tuple ⟨[(Value.int .i64 (5 : Int)), (Value.int .i64 (0 : Int)), (Value.int .i64 (7 : Int))]⟩) (Hp.mk [Ob.dead, Ob.dead, (Ob.cells c3 true)] 3 [])))
            (some (Out.ret (Value.tuple ⟨[(Value.int .i64 (0 : Int)), (Value.int .i64 (0 : Int)), (Value.int .i64 (0 : Int))]⟩) (Hp.mk [Ob.dead, Ob.dead, (Ob.cells c3 true)] 3 []))))
           (some (Out.ret (Value.tuple ⟨[(Value.int .i64 (5 : Int)), (Value.int .i64 (0 : Int)), (Value.int .i64 (7 : Int))]⟩) (Hp.mk [Ob.dead, Ob.dead, (Ob.cells c3 true)] 3 [])))))
         (some (Out.ret (Value.tuple ⟨[(Value.int .i64 (5 : Int)), (Value.int .i64 (0 : Int)), (Value.int .i64 (7 : Int))]⟩) (Hp.mk [Ob.dead, Ob.dead, (Ob.cells c3 true)] 3 [])))))
       (none))
      (none))) := by kernel_rfl
theorem tree20z (a b d : Option Addr) (n z n2 z2 z3 : Nat) (age shear : Int) :
    evC Try.prog (Ans.c fun _ => none) 60 (.call 20 ⟨[.agg ⟨[.slice a n z, .slice b n2 z2, .slice d 0 z3, .int .i64 age, .int .i64 shear]⟩]⟩ ⟨[.dead, .dead, .dead], 3, []⟩) some =
    cond (decide ((6 : Int) < (Int.ofNat n)))
    (some (Out.ret (Value.tuple ⟨[(Value.int .i64 (1 : Int)), (Value.int .i64 (0 : Int)), (Value.int .i64 (3 : Int))]⟩) (Hp.mk [Ob.dead, Ob.dead, Ob.dead] 3 [])))
    (cond (decide ((60 : Int) < (Int.ofNat n2)))
     (some (Out.ret (Value.tuple ⟨[(Value.int .i64 (1 : Int)), (Value.int .i64 (0 : Int)), (Value.int .i64 (3 : Int))]⟩) (Hp.mk [Ob.dead, Ob.dead, Ob.dead] 3 [])))
     (some (Out.ret (Value.tuple ⟨[(Value.int .i64 (1 : Int)), (Value.int .i64 (0 : Int)), (Value.int .i64 (3 : Int))]⟩) (Hp.mk [Ob.dead, Ob.dead, Ob.dead] 3 [])))) := by kernel_rfl
theorem srP_eq (a : Option Addr) (H : List Ob) : srP a H = srQ (arrOf a H) (offOf a) := rfl
theorem soP_eq (a b : Option Addr) (n : Nat) (H : List Ob) : soP a b n H = sdQ (arrOf a H) (offOf a) n (arrOf b H) (offOf b) := rfl
theorem srE_eq (a : Option Addr) (H : List Ob) (k : Nat) : srE a H k = srcE (arrOf a H) (offOf a) k := rfl
theorem soE_eq (a b : Option Addr) (n : Nat) (H : List Ob) (k : Nat) : soE a b n H k = sdE (arrOf a H) (offOf a) n (arrOf b H) (offOf b) k := rfl
theorem fB_zero (p : Nat → Bool) : fB p 0 0 = false := rfl
theorem takenM_nil : TakenM [] := fun e h => by cases h
theorem okM_nil : okM [] = true := dec_iff.2 takenM_nil
theorem sdE_none {c0 : Array Value} {off0 : Nat} {c : Array Value} {off k : Nat} : sdE c0 off0 0 c off k = 4 := by
  unfold sdE
  rw [if_pos]
  unfold inB
  simp only [Bool.and_eq_false_iff, decide_eq_false_iff_not]
  omega
theorem so_none {c0 : Array Value} {off0 : Nat} {c : Array Value} {off n2 : Nat} (h : 0 < n2) : fB (sdQ c0 off0 0 c off) n2 0 = true ∧ fI (sdQ c0 off0 0 c off) n2 0 = 0 := by
  obtain ⟨m, rfl⟩ : ∃ m, n2 = m + 1 := ⟨n2 - 1, by omega⟩
  have hp : sdQ c0 off0 0 c off 0 = true := by unfold sdQ; rw [sdE_none]; rfl
  exact ⟨fB_hit hp, fI_hit hp⟩
theorem run20r (J3 : Task → List Value) (c3 : Array Value) (off3 : Nat) (a b : Option Addr) (z z2 n3 : Nat) (age shear : Int) (sa : sc1 3 (.slice a 0 z) = true) (sb : sc1 3 (.slice b 0 z2) = true) (g3 : GoodL L1 c3 off3 n3) (hpos : 0 < n3) :
    evC Try.prog (sh20c.ans J3).c 60 (.call 20 ⟨[.agg ⟨[.slice a 0 z, .slice b 0 z2, .slice (some ⟨2, off3, none⟩) n3 1, .int .i64 age, .int .i64 shear]⟩]⟩ ⟨[.dead, .dead, .cells c3 true], 3, []⟩) some = some (.ret (.tuple ⟨[.int .i64 (ckR (a) (b) (some ⟨2, off3, none⟩) 0 0 n3 age shear [.dead, .dead, .cells c3 true]).1, .int .i64 (ckR (a) (b) (some ⟨2, off3, none⟩) 0 0 n3 age shear [.dead, .dead, .cells c3 true]).2.1, .int .i64 (ckR (a) (b) (some ⟨2, off3, none⟩) 0 0 n3 age shear [.dead, .dead, .cells c3 true]).2.2]⟩) ⟨[.dead, .dead, .cells c3 true], 3, []⟩) := by
  refine (tree20r ..).trans ?_
  have k4 : n3 ≤ 20 → okA20c c3 off3 n3 a b 0 z 0 z2 .dead .dead (n3 : Int) 0 off3 n3 [] = true := fun h3 => dec_iff.2 ⟨rfl, rfl, g3, sa, sb, .inl rfl, .inl rfl, h3, rfl, by omega, takenM_nil⟩
  have p2 : arrOf (some ⟨2, off3, none⟩) [.dead, .dead, .cells c3 true] = c3 := rfl
  have p3 : offOf (some ⟨2, off3, none⟩) = off3 := rfl
  have q3 := cu_ck c3 off3 n3
  clear sa sb g3
  simp only [Int.ofNat_eq_natCast, eqCode_self, cond_true, Nat.sub_zero]
  unfold ckR
  rw [p2, p3, srP_eq, soP_eq, fB_zero, fB_zero]
  by_cases h4 : 20 < n3
  · have h4' : (20 : Int) < n3 := by omega
    have h3' : ¬ (n3 : Int) < 1 := by omega
    simp only [h3', h4, h4', decide_true, decide_false, cond_true, cond_false, or_true, if_true]
  have h4' : ¬ (20 : Int) < n3 := by omega
  have h3' : ¬ (n3 : Int) < 1 := by omega
  have h3 : ¬ n3 < 1 := by omega
  have h1 : ¬ 6 < 0 := by omega
  have h2 : ¬ 60 < 0 := by omega
  simp only [h1, h2, h3, h4, h3', h4', k4 (by omega), decide_true, decide_false, cond_true, cond_false, or_self, if_false, Bool.false_eq_true]
  clear k4
  rcases q3 with ⟨w1, w2⟩ | ⟨w1, w2, w3, w4⟩
  · simp only [w1, w2, cond_false, Bool.false_eq_true, if_false]
    clear w1 w2
    repeat' refine cond_hd (fun _ => ?_) (fun _ => ?_)
    all_goals simp_all [inB]
    all_goals (rw [if_pos (by omega)]; simp)
  · simp only [w1, w2, w3, w4, cond_true, if_true, Int.ofNat_eq_natCast]
theorem run20q (J3 : Task → List Value) (c c3 : Array Value) (off off3 : Nat) (a : Option Addr) (z n2 n3 : Nat) (age shear : Int) (ha : a = none ∨ ∃ off0 sp, a = some ⟨0, off0, sp⟩) (g : GoodL L5 c off n2) (hpos : 0 < n3) (hpos2 : 0 < n2) :
    evC Try.prog (sh20c.ans J3).c 60 (.call 20 ⟨[.agg ⟨[.slice a 0 z, .slice (some ⟨1, off, none⟩) n2 5, .slice (some ⟨2, off3, none⟩) n3 1, .int .i64 age, .int .i64 shear]⟩]⟩ ⟨[.dead, .cells c true, .cells c3 true], 3, []⟩) some = some (.ret (.tuple ⟨[.int .i64 (ckR (a) (some ⟨1, off, none⟩) (some ⟨2, off3, none⟩) 0 n2 n3 age shear [.dead, .cells c true, .cells c3 true]).1, .int .i64 (ckR (a) (some ⟨1, off, none⟩) (some ⟨2, off3, none⟩) 0 n2 n3 age shear [.dead, .cells c true, .cells c3 true]).2.1, .int .i64 (ckR (a) (some ⟨1, off, none⟩) (some ⟨2, off3, none⟩) 0 n2 n3 age shear [.dead, .cells c true, .cells c3 true]).2.2]⟩) ⟨[.dead, .cells c true, .cells c3 true], 3, []⟩) := by
  have hr : rdOk c L5 (off + 0) = true := by
    have := g.2 0 hpos2
    simpa using this
  have q := so_none (c0 := arrOf a [.dead, .cells c true, .cells c3 true]) (off0 := offOf a) (c := c) (off := off) hpos2
  have p1 : arrOf (some ⟨1, off, none⟩) [.dead, .cells c true, .cells c3 true] = c := rfl
  have p1' : offOf (some ⟨1, off, none⟩) = off := rfl
  have hv : ckR a (some ⟨1, off, none⟩) (some ⟨2, off3, none⟩) 0 n2 n3 age shear [.dead, .cells c true, .cells c3 true] = if 60 < n2 ∨ n3 < 1 ∨ 20 < n3 then (1, 0, 3) else (3, 0, 4) := by
    unfold ckR
    rw [srP_eq, soP_eq, fB_zero, p1, p1', q.1, q.2, soE_eq, sdE_none]
    simp
  rw [hv]
  clear hv q g
  have hn2 : (0 : Int) < n2 := by omega
  rcases ha with rfl | ⟨off0, sp, rfl⟩
  · refine (tree20q0 ..).trans ?_
    simp only [Int.ofNat_eq_natCast, hn2, hr, decide_true, Bool.and_self, cond_true]
    by_cases h2 : 60 < n2
    · have h2' : (60 : Int) < n2 := by omega
      simp only [h2, h2', decide_true, cond_true, true_or, if_true]
    have h2' : ¬ (60 : Int) < n2 := by omega
    have h3 : ¬ n3 < 1 := by omega
    have h3' : ¬ (n3 : Int) < 1 := by omega
    by_cases h4 : 20 < n3
    · have h4' : (20 : Int) < n3 := by omega
      simp only [h2, h2', h3, h3', h4, h4', decide_true, decide_false, cond_true, cond_false, or_true, if_true]
    have h4' : ¬ (20 : Int) < n3 := by omega
    simp only [h2, h2', h3, h3', h4, h4', decide_true, decide_false, cond_true, cond_false, or_self, if_false]
    refine cond_hd (fun _ => rfl) (fun h5 => ?_)
    rw [decide_eq_true (by have := of_decide_eq_false h5; omega)]
    rfl
  · cases sp with
    | none =>
      refine (tree20q1 ..).trans ?_
      simp only [Int.ofNat_eq_natCast, hn2, hr, decide_true, Bool.and_self, cond_true]
      by_cases h2 : 60 < n2
      · have h2' : (60 : Int) < n2 := by omega
        simp only [h2, h2', decide_true, cond_true, true_or, if_true]
      have h2' : ¬ (60 : Int) < n2 := by omega
      have h3 : ¬ n3 < 1 := by omega
      have h3' : ¬ (n3 : Int) < 1 := by omega
      by_cases h4 : 20 < n3
      · have h4' : (20 : Int) < n3 := by omega
        simp only [h2, h2', h3, h3', h4, h4', decide_true, decide_false, cond_true, cond_false, or_true, if_true]
      have h4' : ¬ (20 : Int) < n3 := by omega
      simp only [h2, h2', h3, h3', h4, h4', decide_true, decide_false, cond_true, cond_false, or_self, if_false]
      refine cond_hd (fun _ => rfl) (fun h5 => ?_)
      rw [decide_eq_true (by have := of_decide_eq_false h5; omega)]
      rfl
    | some sp =>
      refine (tree20q2 ..).trans ?_
      simp only [Int.ofNat_eq_natCast, hn2, hr, decide_true, Bool.and_self, cond_true]
      by_cases h2 : 60 < n2
      · have h2' : (60 : Int) < n2 := by omega
        simp only [h2, h2', decide_true, cond_true, true_or, if_true]
      have h2' : ¬ (60 : Int) < n2 := by omega
      have h3 : ¬ n3 < 1 := by omega
      have h3' : ¬ (n3 : Int) < 1 := by omega
      by_cases h4 : 20 < n3
      · have h4' : (20 : Int) < n3 := by omega
        simp only [h2, h2', h3, h3', h4, h4', decide_true, decide_false, cond_true, cond_false, or_true, if_true]
      have h4' : ¬ (20 : Int) < n3 := by omega
      simp only [h2, h2', h3, h3', h4, h4', decide_true, decide_false, cond_true, cond_false, or_self, if_false]
      refine cond_hd (fun _ => rfl) (fun h5 => ?_)
      rw [decide_eq_true (by have := of_decide_eq_false h5; omega)]
      rfl
theorem run20p (J J3 : Task → List Value) (c0 c3 : Array Value) (off0 off3 : Nat) (b : Option Addr) (n z2 n3 : Nat) (age shear : Int) (g0 : GoodL L7 c0 off0 n) (sb : sc1 3 (.slice b 0 z2) = true) (g3 : GoodL L1 c3 off3 n3) (hpos : 0 < n3) :
    evC Try.prog ((sh20a.ans J).or (sh20c.ans J3)).c 60 (.call 20 ⟨[.agg ⟨[.slice (some ⟨0, off0, none⟩) n 7, .slice b 0 z2, .slice (some ⟨2, off3, none⟩) n3 1, .int .i64 age, .int .i64 shear]⟩]⟩ ⟨[.cells c0 true, .dead, .cells c3 true], 3, []⟩) some = some (.ret (.tuple ⟨[.int .i64 (ckR (some ⟨0, off0, none⟩) (b) (some ⟨2, off3, none⟩) n 0 n3 age shear [.cells c0 true, .dead, .cells c3 true]).1, .int .i64 (ckR (some ⟨0, off0, none⟩) (b) (some ⟨2, off3, none⟩) n 0 n3 age shear [.cells c0 true, .dead, .cells c3 true]).2.1, .int .i64 (ckR (some ⟨0, off0, none⟩) (b) (some ⟨2, off3, none⟩) n 0 n3 age shear [.cells c0 true, .dead, .cells c3 true]).2.2]⟩) ⟨[.cells c0 true, .dead, .cells c3 true], 3, []⟩) := by
  refine (tree20p ..).trans ?_
  have k1 : n ≤ 6 → okA20 c0 off0 n b (some ⟨2, off3, none⟩) 0 z2 n3 1 .dead (.cells c3 true) (n : Int) 0 off0 n = true := fun h1 =>
    dec_iff.2 ⟨rfl, rfl, g0, sb, at2_sc (by decide), .inl rfl, .inr ⟨_, rfl, g3.1⟩, h1, rfl, by omega⟩
  have k4 : n3 ≤ 20 → okA20c c3 off3 n3 (some ⟨0, off0, none⟩) b n 7 0 z2 (.cells c0 true) .dead (n3 : Int) 0 off3 n3 (saM c0 off0 n 0 []) = true := fun h3 =>
    dec_iff.2 ⟨rfl, rfl, g3, rfl, sb, .inr ⟨_, rfl, g0.1⟩, .inl rfl, h3, rfl, by omega, saR_taken takenM_nil⟩
  have p2 : arrOf (some ⟨2, off3, none⟩) [.cells c0 true, .dead, .cells c3 true] = c3 := rfl
  have p3 : offOf (some ⟨2, off3, none⟩) = off3 := rfl
  have p0 : arrOf (some ⟨0, off0, none⟩) [.cells c0 true, .dead, .cells c3 true] = c0 := rfl
  have p0' : offOf (some ⟨0, off0, none⟩) = off0 := rfl
  have q1 := sa_ck c0 off0 n
  have q3 := cu_ck c3 off3 n3
  clear g0 sb g3
  simp only [Int.ofNat_eq_natCast, eqCode_self, cond_true, Nat.sub_zero, okM_nil]
  unfold ckR
  rw [p2, p3, srP_eq, soP_eq, p0, p0', fB_zero, srE_eq, p0, p0']
  by_cases h1 : 6 < n
  · have h1' : (6 : Int) < n := by omega
    simp only [h1, h1', decide_true, cond_true, true_or, if_true]
  have h1' : ¬ (6 : Int) < n := by omega
  have h3 : ¬ n3 < 1 := by omega
  have h3' : ¬ (n3 : Int) < 1 := by omega
  have h2 : ¬ 60 < 0 := by omega
  have h2' : True := trivial
  by_cases h4 : 20 < n3
  · have h4' : (20 : Int) < n3 := by omega
    simp only [h1', h3', h4, h4', h2', decide_true, decide_false, cond_true, cond_false, or_true, if_true]
  have h4' : ¬ (20 : Int) < n3 := by omega
  simp only [h1, h2, h3, h4, h1', h3', h4', k1 (by omega), k4 (by omega), decide_true, decide_false, cond_true, cond_false, or_self, if_false, Bool.false_eq_true]
  clear k1 k4
  rcases q1 with ⟨s1, s2, s3, s4⟩ | ⟨s1, s2, s3, s4⟩
  · simp only [s1, s2, cond_false, Bool.false_eq_true, if_false]
    clear s1 s2 s3 s4
    rcases q3 with ⟨w1, w2⟩ | ⟨w1, w2, w3, w4⟩
    · simp only [w1, w2, cond_false, Bool.false_eq_true, if_false]
      clear w1 w2
      repeat' refine cond_hd (fun _ => ?_) (fun _ => ?_)
      all_goals simp_all [inB]
      all_goals (rw [if_pos (by omega)]; simp)
    · simp only [w1, w2, w3, w4, cond_true, if_true, Int.ofNat_eq_natCast]
  · simp only [s1, s2, s3, s4, cond_true, if_true, Int.ofNat_eq_natCast]
theorem run20m (J J2 J3 : Task → List Value) (c0 c c3 : Array Value) (off0 off off3 n n2 n3 : Nat) (age shear : Int) (g0 : GoodL L7 c0 off0 n) (g : GoodL L5 c off n2) (g3 : GoodL L1 c3 off3 n3) (hpos : 0 < n3) :
    evC Try.prog ((sh20a.ans J).or ((sh20b.ans J2).or (sh20c.ans J3))).c 60 (.call 20 ⟨[.agg ⟨[.slice (some ⟨0, off0, none⟩) n 7, .slice (some ⟨1, off, none⟩) n2 5, .slice (some ⟨2, off3, none⟩) n3 1, .int .i64 age, .int .i64 shear]⟩]⟩ ⟨[.cells c0 true, .cells c true, .cells c3 true], 3, []⟩) some = some (.ret (.tuple ⟨[.int .i64 (ckR (some ⟨0, off0, none⟩) (some ⟨1, off, none⟩) (some ⟨2, off3, none⟩) n n2 n3 age shear [.cells c0 true, .cells c true, .cells c3 true]).1, .int .i64 (ckR (some ⟨0, off0, none⟩) (some ⟨1, off, none⟩) (some ⟨2, off3, none⟩) n n2 n3 age shear [.cells c0 true, .cells c true, .cells c3 true]).2.1, .int .i64 (ckR (some ⟨0, off0, none⟩) (some ⟨1, off, none⟩) (some ⟨2, off3, none⟩) n n2 n3 age shear [.cells c0 true, .cells c true, .cells c3 true]).2.2]⟩) ⟨[.cells c0 true, .cells c true, .cells c3 true], 3, []⟩) := by
  refine (tree20m ..).trans ?_
  have k1 : n ≤ 6 → okA20 c0 off0 n (some ⟨1, off, none⟩) (some ⟨2, off3, none⟩) n2 5 n3 1 (.cells c true) (.cells c3 true) (n : Int) 0 off0 n = true := fun h1 =>
    dec_iff.2 ⟨rfl, rfl, g0, rfl, at2_sc (by decide), .inr ⟨_, rfl, g.1⟩, .inr ⟨_, rfl, g3.1⟩, h1, rfl, by omega⟩
  have k2 : n ≤ 6 → n2 ≤ 60 → okA20b c0 off0 n c off n2 (some ⟨2, off3, none⟩) n3 1 (.cells c3 true) (n2 : Int) 0 (saM c0 off0 n 0 []) = true := fun h1 h2 =>
    dec_iff.2 ⟨g0, g, at2_sc (by decide), .inr ⟨_, rfl, g3.1⟩, h1, h2, rfl, by omega, saR_taken takenM_nil⟩
  have k4 : n3 ≤ 20 → okA20c c3 off3 n3 (some ⟨0, off0, none⟩) (some ⟨1, off, none⟩) n 7 n2 5 (.cells c0 true) (.cells c true) (n3 : Int) 0 off3 n3 (sbM c0 off0 n c off n2 0 (saM c0 off0 n 0 [])) = true := fun h3 =>
    dec_iff.2 ⟨rfl, rfl, g3, rfl, rfl, .inr ⟨_, rfl, g0.1⟩, .inr ⟨_, rfl, g.1⟩, h3, rfl, by omega, sbR_taken (saR_taken takenM_nil)⟩
  have p2 : arrOf (some ⟨2, off3, none⟩) [.cells c0 true, .cells c true, .cells c3 true] = c3 := rfl
  have p3 : offOf (some ⟨2, off3, none⟩) = off3 := rfl
  have p1 : arrOf (some ⟨1, off, none⟩) [.cells c0 true, .cells c true, .cells c3 true] = c := rfl
  have p0 : arrOf (some ⟨0, off0, none⟩) [.cells c0 true, .cells c true, .cells c3 true] = c0 := rfl
  have p0' : offOf (some ⟨0, off0, none⟩) = off0 := rfl
  have p1' : offOf (some ⟨1, off, none⟩) = off := rfl
  have q1 := sa_ck c0 off0 n
  have q2 := fun es => sb_ck (c0 := c0) (off0 := off0) (n := n) (es := es) c off n2
  have q3 := cu_ck c3 off3 n3
  clear g0 g g3
  simp only [Int.ofNat_eq_natCast, eqCode_self, cond_true, Nat.sub_zero, okM_nil]
  unfold ckR
  rw [p2, p3, srP_eq, soP_eq, srE_eq, soE_eq, p0, p0', p1, p1']
  by_cases h1 : 6 < n
  · have h1' : (6 : Int) < n := by omega
    simp only [h1, h1', decide_true, cond_true, true_or, if_true]
  have h1' : ¬ (6 : Int) < n := by omega
  have h3 : ¬ n3 < 1 := by omega
  have h3' : ¬ (n3 : Int) < 1 := by omega
  by_cases h2 : 60 < n2
  · have h2' : (60 : Int) < n2 := by omega
    simp only [h1', h2, h2', decide_true, decide_false, cond_true, cond_false, true_or, or_true, if_true]
  have h2' : ¬ (60 : Int) < n2 := by omega
  by_cases h4 : 20 < n3
  · have h4' : (20 : Int) < n3 := by omega
    simp only [h1', h3', h4, h4', h2', decide_true, decide_false, cond_true, cond_false, or_true, if_true]
  have h4' : ¬ (20 : Int) < n3 := by omega
  simp only [h1, h2, h3, h4, h1', h2', h3', h4', k1 (by omega), k2 (by omega) (by omega), k4 (by omega), decide_true, decide_false, cond_true, cond_false, or_self, if_false, Bool.false_eq_true]
  clear k1 k2 k4
  rcases q1 with ⟨s1, s2, s3, s4⟩ | ⟨s1, s2, s3, s4⟩
  · simp only [s1, s2, cond_false, Bool.false_eq_true, if_false]
    rcases q2 _ s3 s4 with ⟨r1, r2⟩ | ⟨r1, r2, r3, r4⟩
    · simp only [r1, r2, cond_false, Bool.false_eq_true, if_false]
      clear s1 s2 s3 s4 r1 r2 q2
      rcases q3 with ⟨w1, w2⟩ | ⟨w1, w2, w3, w4⟩
      · simp only [w1, w2, cond_false, Bool.false_eq_true, if_false]
        clear w1 w2
        repeat' refine cond_hd (fun _ => ?_) (fun _ => ?_)
        all_goals simp_all [inB]
        all_goals (rw [if_pos (by omega)]; simp)
      · simp only [w1, w2, w3, w4, cond_true, if_true, Int.ofNat_eq_natCast]
    · simp only [r1, r2, r3, r4, cond_true, if_true, Int.ofNat_eq_natCast]
  · simp only [s1, s2, s3, s4, cond_true, if_true, Int.ofNat_eq_natCast]
theorem known20 : Known Try.prog (p21 20) := by
  obtain ⟨J, hJ⟩ := known20a
  obtain ⟨J2, hJ2⟩ := known20b
  obtain ⟨J3, hJ3⟩ := known20c
  have hK := hJ.or (hJ2.or hJ3)
  have hK2 := hJ.or hJ3
  intro t xx o h ho
  unfold p21 at h
  split at h
  case h_2 => cases h
  rename_i g a n z b n2 z2 d n3 z3 age shear hp
  split at h
  case h_2 => cases h
  rename_i hgg
  obtain rfl := Nat.eq_of_beq_eq_true hgg
  simp only [Option.some.injEq] at h
  subst h
  simp only [AT.out] at ho
  obtain ⟨hok, ho⟩ := cond_some ho
  simp only [Option.some.injEq] at ho
  subst ho
  obtain ⟨hs, hs2, hs3, na, nb, nd⟩ := dec_iff.1 hok
  clear hok
  have e0 : ∀ n k, okR0 3 (.slice (atB 0 a) n k) = true := fun n k => atB_okR (by decide)
  have e1 : ∀ n k, okR0 3 (.slice (atB 1 b) n k) = true := fun n k => atB_okR (by decide)
  have e2 : ∀ n k, okR0 3 (.slice (atB 2 d) n k) = true := fun n k => atB_okR (by decide)
  rcases Nat.eq_zero_or_pos n3 with rfl | hpos
  · refine frame3 (args1 := ⟨[.agg ⟨[.slice (atB 0 a) n z, .slice (atB 1 b) n2 z2, .slice (atB 2 d) 0 z3, .int .i64 age, .int .i64 shear]⟩]⟩) (blkOf a) (blkOf b) (blkOf d) ((Known.nothing _).fact noNG mixed (n := 60) ?_) rfl
      (.inl rfl) (.inl rfl) (.inl rfl) ?_ ?_
    · refine (tree20z ..).trans ?_
      unfold ckR
      rw [if_pos (by omega)]
      repeat' refine cond_hd (fun _ => ?_) (fun _ => ?_)
      all_goals rfl
    · simp only [List.map_toArray, List.map_cons, List.map_nil, ren1, ren0]
      rw [atB_ren (by simp), atB_ren (by simp), atB_ren (by simp)]
    · simp only [List.all_cons, List.all_nil, okR1, e0, e1, e2]; rfl
  rcases hs3 with rfl | ⟨b2, off3, rfl, rfl, hc3, hgood3⟩
  · omega
  rcases hs with rfl | ⟨b0, off0, rfl, rfl, hc0, hgood0⟩
  · rcases Nat.eq_zero_or_pos n2 with rfl | hpos2
    · refine frame3 (args1 := ⟨[.agg ⟨[.slice (atB 0 a) 0 z, .slice (atB 1 b) 0 z2, .slice (some ⟨2, off3, none⟩) n3 1, .int .i64 age, .int .i64 shear]⟩]⟩) (o0 := .dead) (o1 := .dead) (o2 := .cells (cellsAt hp.bl b2) true) (blkOf a) (blkOf b) b2 (hJ3.fact noNG mixed (n := 60) ?_) rfl
        (.inl rfl) (.inl rfl) (.inr ⟨_, rfl, hgood3.1, cells_ok hc3⟩) ?_ ?_
      · refine (run20r J3 _ off3 (atB 0 a) (atB 1 b) z z2 n3 age shear (atB_sc (by decide) na) (atB_sc (by decide) nb) hgood3 hpos).trans ?_
        rw [show ckR (atB 0 a) (atB 1 b) (some ⟨2, off3, none⟩) 0 0 n3 age shear [.dead, .dead, .cells (cellsAt hp.bl b2) true] = ckR a b (some ⟨b2, off3, none⟩) 0 0 n3 age shear hp.bl from
          ckR_congr (.inl rfl) (.inl rfl) rfl (offOf_atB ..) (offOf_atB ..) rfl]
      · simp only [List.map_toArray, List.map_cons, List.map_nil, ren1, ren0]
        rw [atB_ren (by simp), atB_ren (by simp)]; rfl
      · simp only [List.all_cons, List.all_nil, okR1, e0, e1]; rfl
    · rcases hs2 with rfl | ⟨b1, off, rfl, rfl, hc, hgood⟩
      · omega
      refine frame3 (args1 := ⟨[.agg ⟨[.slice (atB 0 a) 0 z, .slice (some ⟨1, off, none⟩) n2 5, .slice (some ⟨2, off3, none⟩) n3 1, .int .i64 age, .int .i64 shear]⟩]⟩) (o0 := .dead) (o1 := .cells (cellsAt hp.bl b1) true) (o2 := .cells (cellsAt hp.bl b2) true) (blkOf a) b1 b2 (hJ3.fact noNG mixed (n := 60) ?_) rfl
        (.inl rfl) (.inr ⟨_, rfl, hgood.1, cells_ok hc⟩) (.inr ⟨_, rfl, hgood3.1, cells_ok hc3⟩) ?_ ?_
      · have ha : atB 0 a = none ∨ ∃ off0 sp, atB 0 a = some ⟨0, off0, sp⟩ := by
          rcases a with _ | ⟨b0, off0, sp⟩
          · exact .inl rfl
          · exact .inr ⟨off0, sp, rfl⟩
        refine (run20q J3 _ _ off off3 (atB 0 a) z n2 n3 age shear ha hgood hpos hpos2).trans ?_
        rw [show ckR (atB 0 a) (some ⟨1, off, none⟩) (some ⟨2, off3, none⟩) 0 n2 n3 age shear [.dead, .cells (cellsAt hp.bl b1) true, .cells (cellsAt hp.bl b2) true] = ckR a (some ⟨b1, off, none⟩) (some ⟨b2, off3, none⟩) 0 n2 n3 age shear hp.bl from
          ckR_congr (.inl rfl) (.inr rfl) rfl (offOf_atB ..) rfl rfl]
      · simp only [List.map_toArray, List.map_cons, List.map_nil, ren1, ren0]
        rw [atB_ren (by simp)]; rfl
      · simp only [List.all_cons, List.all_nil, okR1, e0]; rfl
  rcases Nat.eq_zero_or_pos n2 with rfl | hpos2
  · refine frame3 (args1 := ⟨[.agg ⟨[.slice (some ⟨0, off0, none⟩) n 7, .slice (atB 1 b) 0 z2, .slice (some ⟨2, off3, none⟩) n3 1, .int .i64 age, .int .i64 shear]⟩]⟩) (o0 := .cells (cellsAt hp.bl b0) true) (o1 := .dead) (o2 := .cells (cellsAt hp.bl b2) true) b0 (blkOf b) b2 (hK2.fact noNG mixed (n := 60) ?_) rfl
      (.inr ⟨_, rfl, hgood0.1, cells_ok hc0⟩) (.inl rfl) (.inr ⟨_, rfl, hgood3.1, cells_ok hc3⟩) ?_ ?_
    · refine (run20p J J3 _ _ off0 off3 (atB 1 b) n z2 n3 age shear hgood0 (atB_sc (by decide) nb) hgood3 hpos).trans ?_
      rw [show ckR (some ⟨0, off0, none⟩) (atB 1 b) (some ⟨2, off3, none⟩) n 0 n3 age shear [.cells (cellsAt hp.bl b0) true, .dead, .cells (cellsAt hp.bl b2) true] = ckR (some ⟨b0, off0, none⟩) b (some ⟨b2, off3, none⟩) n 0 n3 age shear hp.bl from
        ckR_congr (.inr rfl) (.inl rfl) rfl rfl (offOf_atB ..) rfl]
    · simp only [List.map_toArray, List.map_cons, List.map_nil, ren1, ren0]
      rw [atB_ren (by simp)]; rfl
    · simp only [List.all_cons, List.all_nil, okR1, e1]; rfl
  · rcases hs2 with rfl | ⟨b1, off, rfl, rfl, hc, hgood⟩
    · omega
    refine frame3 (args1 := ⟨[.agg ⟨[.slice (some ⟨0, off0, none⟩) n 7, .slice (some ⟨1, off, none⟩) n2 5, .slice (some ⟨2, off3, none⟩) n3 1, .int .i64 age, .int .i64 shear]⟩]⟩) (o0 := .cells (cellsAt hp.bl b0) true) (o1 := .cells (cellsAt hp.bl b1) true) (o2 := .cells (cellsAt hp.bl b2) true) b0 b1 b2 (hK.fact noNG mixed (n := 60) ?_) rfl
      (.inr ⟨_, rfl, hgood0.1, cells_ok hc0⟩) (.inr ⟨_, rfl, hgood.1, cells_ok hc⟩) (.inr ⟨_, rfl, hgood3.1, cells_ok hc3⟩) (by simp [ren1, ren0, renA]) rfl
    refine (run20m J J2 J3 _ _ _ off0 off off3 n n2 n3 age shear hgood0 hgood hgood3 hpos).trans ?_
    rw [show ckR (some ⟨0, off0, none⟩) (some ⟨1, off, none⟩) (some ⟨2, off3, none⟩) n n2 n3 age shear [.cells (cellsAt hp.bl b0) true, .cells (cellsAt hp.bl b1) true, .cells (cellsAt hp.bl b2) true] = ckR (some ⟨b0, off0, none⟩) (some ⟨b1, off, none⟩) (some ⟨b2, off3, none⟩) n n2 n3 age shear hp.bl from
      ckR_congr (.inr rfl) (.inr rfl) rfl rfl rfl rfl]
end
end Go.Proofs.Ytohpmnfplglbdaa

/- The run made quick: operations as closures that are written out once. Conditions: none. -/
namespace Go.Gh
open Go.RowKit
noncomputable section

/-- One operation that is wanted. -/
def bodyOp (P : Program) (self : Self) (rd : Option Nat) (o : Oper) (s : St) (K : St → Option Out) : Option Out :=
  match aop P (evalT s.t) s.h o with
  | some (.val v h) => putK s.t o.dst v fun t => forceH o.op h fun h => K { s with t := t, h := h }
  | some (.enter f args) =>
    match self (.call f args s.h) with
    | some (.ret v h) => putK s.t o.dst v fun t => forceH o.op h fun h => K { s with t := t, h := h }
    | some (.pan v h) => some (.ex (.panic v) { s with h := h })
    | _ => none
  | some (.yield l args) =>
    match self (.round l args s.h) with
    | some (.ret v h) => putK s.t o.dst v fun t => forceH o.op h fun h => K { s with t := t, h := h }
    | _ => none
  | some (.defer d) => if rd.isNone then putK s.t o.dst undef fun t => K { t := t, d := d :: s.d, h := s.h } else none
  | some (.panic v) => some (.ex (.panic v) s)
  | _ => none

theorem runOps_cons {P : Program} {self : Self} {rd : Option Nat} {os : Array Oper} {i : Nat} {r : List Nat} {s : St} : runOps P self rd os (i :: r) s =
    match os[i]? with
    | none => runOps P self rd os r s
    | some o => if wantedT os s.t o then bodyOp P self rd o s (runOps P self rd os r) else putK s.t o.dst undef fun t => runOps P self rd os r { s with t := t } := rfl

/-! ### Operands -/
structure OC (x : Operand) where
  f : List Value → Value
  ok : ∀ T, f T = evalT T x
def cO (x : Operand) : OC x :=
  match x with
  | .tmp n => ⟨fun T => lget T n, fun _ => rfl⟩
  | .const v => ⟨fun _ => v, fun _ => rfl⟩
  | .global g => ⟨fun _ => .pointer (some ⟨g, 0, none⟩), fun _ => rfl⟩
  | .func f => ⟨fun _ => .func (.func f) #[] #[], fun _ => rfl⟩

/-- A value in its outermost form. -/
def forceW {β : Type} (v : Value) (k : Value → β) : β :=
  match v with
  | .bool b => k (.bool b)
  | .int q n => k (.int q n)
  | .string s => k (.string s)
  | .pointer a => k (.pointer a)
  | .slice a l c => k (.slice a l c)
  | .map a => k (.map a)
  | .agg cs => k (.agg cs)
  | .tuple cs => k (.tuple cs)
  | .func f a b => k (.func f a b)
  | .nilFunc => k .nilFunc
  | .nilIface => k .nilIface
  | v => k v
theorem forceW_eq {β : Type} (v : Value) (k : Value → β) : forceW v k = k v := by cases v <;> rfl

def asI {β : Type} (v : Value) (k : IntKind → Int → β) (e : β) : β := match v with | .int q n => k q n | _ => e
def asB {β : Type} (v : Value) (kt kf e : β) : β := match v with | .bool b => Bool.rec (motive := fun _ => β) kf kt b | _ => e

/-! ### Reads -/
abbrev R := Option Out
structure QC (P : Program) (o : Oper) where
  f : List Value → List Ob → (Value → R) → R → R
  ok : ∀ T H k e, (∃ v, aread P (evalT T) H o = some v ∧ f T H k e = k v) ∨ f T H k e = e

def qNone (P : Program) (o : Oper) : QC P o := ⟨fun _ _ _ e => e, fun _ _ _ _ => .inr rfl⟩
def qRead (P : Program) (o : Oper) : QC P o :=
  ⟨fun T H k e => match aread P (evalT T) H o with | some v => forceV v k | none => e, fun T H k e => by
    cases h : aread P (evalT T) H o with
    | none => exact .inr rfl
    | some v => exact .inl ⟨v, rfl, forceV_eq v k⟩⟩
def qMove (P : Program) (o : Oper) (x : Operand) (h : ∀ T H, aread P (evalT T) H o = some (evalT T x)) : QC P o :=
  ⟨fun T _ k _ => forceW ((cO x).f T) k, fun T H k e => .inl ⟨_, h T H, by rw [forceW_eq, (cO x).ok]⟩⟩
def qPick (P : Program) (o : Oper) (c a b : Operand) (ho : o.op = .pick c a b) (hok : (okO c && okO a && okO b) = true) : QC P o :=
  ⟨fun T _ k e => asB ((cO c).f T) (forceW ((cO a).f T) k) (forceW ((cO b).f T) k) e, fun T H k e => by
    rw [(cO c).ok, (cO a).ok, (cO b).ok, forceW_eq, forceW_eq]
    unfold asB
    split
    · rename_i t ht
      left
      refine ⟨if t then evalT T a else evalT T b, ?_, ?_⟩
      · unfold aread; rw [ho]; simp only; rw [if_pos hok, ht]
      · cases t <;> rfl
    · exact .inr rfl⟩

def iLt (a b : Int) : Bool := match a, b with | .ofNat m, .ofNat n => Nat.blt m n | a, b => decide (a < b)
theorem iLt_eq (a b : Int) : iLt a b = decide (a < b) := by
  unfold iLt
  split
  · rename_i m n
    rw [Bool.eq_iff_iff]
    simp [Nat.blt_eq]
  · rfl
def iEq (a b : Int) : Bool := match a, b with | .ofNat m, .ofNat n => Nat.beq m n | a, b => decide (a = b)
theorem iEq_eq (a b : Int) : iEq a b = decide (a = b) := by
  unfold iEq
  split
  · rename_i m n
    rw [Bool.eq_iff_iff]
    simp [Int.ofNat_inj]
  · rfl
def retB (k : Value → R) (b : Bool) : R := Bool.rec (motive := fun _ => R) (k (.bool false)) (k (.bool true)) b
theorem retB_eq (k : Value → R) (b : Bool) : retB k b = k (.bool b) := by cases b <;> rfl
def retI (k : Value → R) (q : IntKind) (n : Int) : R := forceI (q.wrap n) fun n => k (.int q n)
def cmpI (op : BinOp) : Option (Int → Int → Bool) :=
  match op with
  | .eql => some fun a b => iEq a b
  | .neq => some fun a b => !iEq a b
  | .lss => some fun a b => iLt a b
  | .leq => some fun a b => !iLt b a
  | .gtr => some fun a b => iLt b a
  | .geq => some fun a b => !iLt a b
  | _ => none
theorem cmpI_eq {op : BinOp} {g : Int → Int → Bool} (h : cmpI op = some g) (q : IntKind) (a b : Int) : fastBin op (.int q a) (.int q b) = some (.bool (g a b)) := by
  cases op <;> simp only [cmpI, Option.some.injEq] at h <;> first | (cases h; done) | skip
  all_goals
    subst h
    simp only [fastBin, if_true, iLt_eq, iEq_eq]
    try (congr 2 <;> (rw [Bool.eq_iff_iff]; simp <;> omega))
def numI (op : BinOp) : Option (Int → Int → Int) :=
  match op with
  | .add => some fun a b => a + b
  | .sub => some fun a b => a - b
  | .mul => some fun a b => a * b
  | _ => none
theorem numI_eq {op : BinOp} {g : Int → Int → Int} (h : numI op = some g) (q : IntKind) (a b : Int) : fastBin op (.int q a) (.int q b) = some (.int q (q.wrap (g a b))) := by
  cases op <;> simp only [numI, Option.some.injEq] at h <;> first | (cases h; done) | skip
  all_goals
    subst h
    simp only [fastBin, if_true]

theorem aread_bin {P : Program} {T : List Value} {H : List Ob} {o : Oper} {op : BinOp} {t : TypeId} {x y : Operand} {t' : TypeId} {q : IntKind} {a b : Int} {v : Value}
    (ho : o.op = .binOp op t x y t') (hok : (okO x && okO y) = true) (hx : evalT T x = .int q a) (hy : evalT T y = .int q b) (hf : fastBin op (.int q a) (.int q b) = some v) : aread P (evalT T) H o = some v := by
  unfold aread
  rw [ho]
  simp only
  rw [hx, hy, hf]
  simp only [gr, gA, g0, Bool.and_true]
  rw [if_pos hok]

def qCmp (P : Program) (o : Oper) (op : BinOp) (t : TypeId) (x y : Operand) (t' : TypeId) (g : Int → Int → Bool) (ho : o.op = .binOp op t x y t') (hok : (okO x && okO y) = true) (hg : cmpI op = some g) : QC P o :=
  ⟨fun T _ k e => asI ((cO x).f T) (fun q a => asI ((cO y).f T) (fun q' b => if q = q' then retB k (g a b) else e) e) e, fun T H k e => by
    rw [(cO x).ok, (cO y).ok]
    unfold asI
    split
    · rename_i q a hx
      split
      · rename_i q' b hy
        show (∃ v, aread P (evalT T) H o = some v ∧ (if q = q' then _ else e) = k v) ∨ (if q = q' then _ else e) = e
        by_cases hq : q = q'
        · subst hq
          rw [if_pos rfl]
          exact .inl ⟨_, aread_bin ho hok hx hy (cmpI_eq hg q a b), retB_eq _ _⟩
        · rw [if_neg hq]; exact .inr rfl
      · exact .inr rfl
    · exact .inr rfl⟩
def qNum (P : Program) (o : Oper) (op : BinOp) (t : TypeId) (x y : Operand) (t' : TypeId) (g : Int → Int → Int) (ho : o.op = .binOp op t x y t') (hok : (okO x && okO y) = true) (hg : numI op = some g) : QC P o :=
  ⟨fun T _ k e => asI ((cO x).f T) (fun q a => asI ((cO y).f T) (fun q' b => if q = q' then retI k q (g a b) else e) e) e, fun T H k e => by
    rw [(cO x).ok, (cO y).ok]
    unfold asI
    split
    · rename_i q a hx
      split
      · rename_i q' b hy
        show (∃ v, aread P (evalT T) H o = some v ∧ (if q = q' then _ else e) = k v) ∨ (if q = q' then _ else e) = e
        by_cases hq : q = q'
        · subst hq
          rw [if_pos rfl]
          exact .inl ⟨_, aread_bin ho hok hx hy (numI_eq hg q a b), by unfold retI; rw [forceI_eq]⟩
        · rw [if_neg hq]; exact .inr rfl
      · exact .inr rfl
    · exact .inr rfl⟩

/-- What is read by one function of the value of one operand. -/
def qOne (P : Program) (o : Oper) (x : Operand) (g : List Ob → Value → Option Value) (h : ∀ T H v, g H (evalT T x) = some v → aread P (evalT T) H o = some v) : QC P o :=
  ⟨fun T H k e => match g H ((cO x).f T) with | some v => forceV v k | none => e, fun T H k e => by
    rw [(cO x).ok]
    split
    · rename_i v hv; exact .inl ⟨v, h T H v hv, forceV_eq v k⟩
    · exact .inr rfl⟩

def mapC : List Operand → List Value → (List Value → R) → R
  | [], _, k => k []
  | x :: r, T, k => forceW ((cO x).f T) fun v => mapC r T fun l => k (v :: l)
theorem mapC_eq (T : List Value) : ∀ (l : List Operand) (k : List Value → R), mapC l T k = k (l.map (evalT T))
  | [], _ => rfl
  | x :: r, k => by simp only [mapC, forceW_eq, mapC_eq T r, (cO x).ok, List.map_cons]

/-! ### Reads of ground values: reckoned on the values alone, so that the same is reckoned once -/
theorem if_some {c : Prop} [Decidable c] {a : Option Value} {v : Value} (h : (if c then a else none) = some v) : c ∧ a = some v := by
  by_cases hc : c
  · rw [if_pos hc] at h; exact ⟨hc, h⟩
  · rw [if_neg hc] at h; cases h
theorem okO_const (v : Value) : okO (.const v) = gr v := rfl
theorem ev_const (T : List Value) (v : Value) : evalT T (.const v) = v := rfl
def memo (P : Program) (o : Oper) (k : Value → R) (e : R) : R := match aread P (evalT []) [] o with | some v => forceV v k | none => e
theorem memo_ok {P : Program} {o : Oper} {k : Value → R} {e : R} : (∃ v, aread P (evalT []) [] o = some v ∧ memo P o k e = k v) ∨ memo P o k e = e := by
  unfold memo
  cases h : aread P (evalT []) [] o with
  | none => exact .inr rfl
  | some v => exact .inl ⟨v, rfl, forceV_eq v k⟩

def qUn (P : Program) (o : Oper) (u : UnOp) (t : TypeId) (x : Operand) (ho : o.op = .unOp u t x) (hx : okO x = true) : QC P o :=
  ⟨fun T _ k e => forceW ((cO x).f T) fun v => memo P { o with op := .unOp u t (.const v) } k e, fun T H k e => by
    rw [forceW_eq, (cO x).ok]
    rcases memo_ok (P := P) (o := { o with op := .unOp u t (.const (evalT T x)) }) (k := k) (e := e) with ⟨v, h1, h2⟩ | h
    · refine .inl ⟨v, ?_, h2⟩
      obtain ⟨dst, op, type, pos, after, guard⟩ := o
      simp only at ho; subst ho
      simp only [aread, okO_const, ev_const] at h1
      simp only [aread, hx, Bool.true_and]
      obtain ⟨hg, h1⟩ := if_some h1
      simp only [Bool.and_eq_true] at hg
      rw [if_pos hg.2]; exact h1
    · exact .inr h⟩

def qIdx (P : Program) (o : Oper) (t : TypeId) (x y : Operand) (ho : o.op = .index t x y) (hx : (okO x && okO y) = true) : QC P o :=
  ⟨fun T _ k e => forceW ((cO x).f T) fun v => forceW ((cO y).f T) fun u => memo P { o with op := .index t (.const v) (.const u) } k e, fun T H k e => by
    rw [forceW_eq, forceW_eq, (cO x).ok, (cO y).ok]
    rcases memo_ok (P := P) (o := { o with op := .index t (.const (evalT T x)) (.const (evalT T y)) }) (k := k) (e := e) with ⟨v, h1, h2⟩ | h
    · refine .inl ⟨v, ?_, h2⟩
      obtain ⟨dst, op, type, pos, after, guard⟩ := o
      simp only at ho; subst ho
      simp only [aread, okO_const, ev_const] at h1
      simp only [aread, hx, Bool.true_and]
      obtain ⟨hg, h1⟩ := if_some h1
      simp only [Bool.and_eq_true] at hg
      rw [if_pos (by simp [hg.1.2, hg.2])]; exact h1
    · exact .inr h⟩

def divOp (b : BinOp) : Bool := match b with | .quo | .rem => true | _ => false
def qDiv (P : Program) (o : Oper) (b : BinOp) (t : TypeId) (x y : Operand) (t' : TypeId) (ho : o.op = .binOp b t x y t') (hx : (okO x && okO y) = true) (hb : divOp b = true) : QC P o :=
  ⟨fun T _ k e => forceW ((cO x).f T) fun v => forceW ((cO y).f T) fun u => memo P { o with op := .binOp b t (.const v) (.const u) t' } k e, fun T H k e => by
    rw [forceW_eq, forceW_eq, (cO x).ok, (cO y).ok]
    rcases memo_ok (P := P) (o := { o with op := .binOp b t (.const (evalT T x)) (.const (evalT T y)) t' }) (k := k) (e := e) with ⟨v, h1, h2⟩ | h
    · refine .inl ⟨v, ?_, h2⟩
      obtain ⟨dst, op, type, pos, after, guard⟩ := o
      simp only at ho; subst ho
      simp only [aread, okO_const, ev_const] at h1
      simp only [aread, hx, Bool.true_and]
      obtain ⟨hg, h1⟩ := if_some h1
      simp only [Bool.and_eq_true] at hg
      rw [if_pos (by simp [hg.1.2, hg.2])]
      cases b <;> first | (cases hb; done) | exact h1
    · exact .inr h⟩

def mmOp (b : Builtin) : Bool := match b with | .max | .min | .len => true | _ => false
def qMm (P : Program) (o : Oper) (b : Builtin) (args : Array Operand) (ts : Array TypeId) (ho : o.op = .call { callee := .builtin b, args := args, argTypes := ts }) (hx : args.toList.all okO = true) (hb : mmOp b = true) : QC P o :=
  ⟨fun T _ k e => mapC args.toList T fun l => memo P { o with op := .call { callee := .builtin b, args := ⟨l.map .const⟩, argTypes := ts } } k e, fun T H k e => by
    rw [mapC_eq]
    rcases memo_ok (P := P) (o := { o with op := .call { callee := .builtin b, args := ⟨(args.toList.map (evalT T)).map .const⟩, argTypes := ts } }) (k := k) (e := e) with ⟨v, h1, h2⟩ | h
    · refine .inl ⟨v, ?_, h2⟩
      obtain ⟨dst, op, type, pos, after, guard⟩ := o
      simp only at ho; subst ho
      simp only [aread] at h1
      simp only [aread, hx, if_true]
      have e1 : (List.map Operand.const (List.map (evalT T) args.toList)).all okO = args.toList.all fun x => gr (evalT T x) := by
        rw [List.all_map, List.all_map]; rfl
      have e2 : ((List.map Operand.const (List.map (evalT T) args.toList)).all fun x => gr (evalT [] x)) = args.toList.all fun x => gr (evalT T x) := by
        rw [List.all_map, List.all_map]; rfl
      rw [e1, e2] at h1
      split at h1
      · rename_i hg
        rw [hg] at h1 ⊢
        have e3 : (⟨(args.toList.map (evalT T)).map .const⟩ : Array Operand).map (evalT []) = args.map (evalT T) := by
          apply Array.ext'
          simp [evalT]
        cases b <;> first | (cases hb; done) | skip
        all_goals
          simp only [numB, Bool.and_self, if_true] at h1 ⊢
          simp only [execOp, resolve, e3] at h1 ⊢
          exact h1
      · cases h1
    · exact .inr h⟩

def qLoad (P : Program) (o : Oper) (t : TypeId) (x : Operand) (ho : o.op = .load t x) (hx : okO x = true) : QC P o :=
  ⟨fun T H k e => loadK P H t ((cO x).f T) k (fun v => forceW v k) e, fun T H k e => by
    rw [show (fun v => forceW v k) = k from funext fun v => forceW_eq v k, (cO x).ok]
    rcases loadK_ok (P := P) (H := H) (t := t) (v := evalT T x) (k := k) (e := e) with ⟨u, h1, h2⟩ | h
    · exact .inl ⟨u, by unfold aread; rw [ho]; simp only; rw [if_pos hx]; exact h1, h2⟩
    · exact .inr h⟩

def cQ (P : Program) (o : Oper) : QC P o :=
  match ho : o.op with
  | .move x => if hx : okO x = true then qMove P o x (fun T H => by unfold aread; rw [ho]; simp only; rw [if_pos hx]) else qNone P o
  | .assign x => if hx : okO x = true then qMove P o x (fun T H => by unfold aread; rw [ho]; simp only; rw [if_pos hx]) else qNone P o
  | .pick c a b => if h : (okO c && okO a && okO b) = true then qPick P o c a b ho h else qNone P o
  | .binOp op t x y t' =>
    if h : (okO x && okO y) = true then
      match hg : cmpI op with
      | some g => qCmp P o op t x y t' g ho h hg
      | none => match hg : numI op with
        | some g => qNum P o op t x y t' g ho h hg
        | none => if hb : divOp op = true then qDiv P o op t x y t' ho h hb else qRead P o
    else qNone P o
  | .load t x => if hx : okO x = true then qLoad P o t x ho hx else qNone P o
  | .fieldAddr s x f => if hx : okO x = true then qOne P o x (fun _ v => rFieldAddr P s f v) (fun T H v hv => by unfold aread; rw [ho]; simp only; rw [if_pos hx]; exact hv) else qNone P o
  | .field t x f => if hx : okO x = true then qOne P o x (fun _ v => rField P t f v) (fun T H v hv => by unfold aread; rw [ho]; simp only; rw [if_pos hx]; exact hv) else qNone P o
  | .extract x i => if hx : okO x = true then qOne P o x (fun _ v => rExtract i v) (fun T H v hv => by unfold aread; rw [ho]; simp only; rw [if_pos hx]; exact hv) else qNone P o
  | .alloc _ | .box _ _ | .buildSlice _ _ _ | .store _ _ _ | .makeMap _ _ | .mapUpdate _ _ _ _ | .defer _ | .panic _ => qNone P o
  | .call { callee := .value _, .. } => qNone P o
  | .call { callee := .builtin b, args := args, argTypes := ts } =>
    if hb : mmOp b = true then if hx : args.toList.all okO = true then qMm P o b args ts ho hx hb else qRead P o else qRead P o
  | .unOp u t x => if hx : okO x = true then qUn P o u t x ho hx else qNone P o
  | .index t x y => if hx : (okO x && okO y) = true then qIdx P o t x y ho hx else qNone P o
  | _ => qRead P o

/-! ### Operations -/
structure BC (P : Program) (o : Oper) where
  run : Self → Option Nat → St → (St → R) → R
  ok : ∀ self rd s K, run self rd s K = bodyOp P self rd o s K

def bQuiet (P : Program) (o : Oper) (q : QC P o) : BC P o :=
  match hd : o.dst with
  | none => ⟨fun self rd s K => q.f s.t s.h.bl (fun _ => K s) (bodyOp P self rd o s K), fun self rd s K => by
      rcases q.ok s.t s.h.bl (fun _ => K s) (bodyOp P self rd o s K) with ⟨v, h1, h2⟩ | h
      · rw [h2]; unfold bodyOp aop; rw [h1]; simp only [putK_eq, forceH_eq, hd, put]
      · exact h⟩
  | some d => ⟨fun self rd s K => q.f s.t s.h.bl (fun v => lsetK s.t d v fun t => K ⟨t, s.d, s.h⟩) (bodyOp P self rd o s K), fun self rd s K => by
      rcases q.ok s.t s.h.bl (fun v => lsetK s.t d v fun t => K ⟨t, s.d, s.h⟩) (bodyOp P self rd o s K) with ⟨v, h1, h2⟩ | h
      · rw [h2]; unfold bodyOp aop; rw [h1]; simp only [putK_eq, forceH_eq, lsetK_eq, hd, put]
      · exact h⟩

def afterCall (dst : Option Tmp) (s : St) (K : St → R) (y : Option Out) : R :=
  match y with
  | some (.ret v h) => putK s.t dst v fun t => forceS h.bl fun bl => forceN h.base fun base => K ⟨t, s.d, ⟨bl, base, h.wr⟩⟩
  | some (.pan v h) => some (.ex (.panic v) { s with h := h })
  | _ => none

def bCall (P : Program) (o : Oper) (g : FuncId) (args : Array Operand) (ts : Array TypeId) (ho : o.op = .call { callee := .value (.func g), args := args, argTypes := ts }) (hok : args.toList.all okO = true) (hb : bodied P g = true) : BC P o :=
  ⟨fun self _ s K => mapC args.toList s.t fun l => afterCall o.dst s K (self (.call g ⟨l⟩ s.h)), fun self rd s K => by
    rw [mapC_eq]
    have ha : aop P (evalT s.t) s.h o = some (.enter g ⟨args.toList.map (evalT s.t)⟩) := by
      unfold aop aread aloud
      rw [ho]
      simp only [okO, evalT, hok, hb, Bool.and_self, if_true]
      congr 2
      apply Array.ext'
      simp [Array.toList_map]
    unfold bodyOp afterCall
    rw [ha]
    simp only
    split <;> simp only [putK_eq, forceH_eq, forceS_eq, forceN_eq]⟩

def bStore (P : Program) (o : Oper) (t : TypeId) (a x : Operand) (ho : o.op = .store t a x) (hok : (okO a && okO x) = true) (hd : o.dst = none) : BC P o :=
  ⟨fun self rd s K => storeK P s.h t ((cO a).f s.t) ((cO x).f s.t) (fun h => K ⟨s.t, s.d, h⟩) (bodyOp P self rd o s K), fun self rd s K => by
    rw [(cO a).ok, (cO x).ok]
    rcases storeK_ok (P := P) (h := s.h) (t := t) (x := evalT s.t a) (v := evalT s.t x) (k := fun h => K ⟨s.t, s.d, h⟩) (e := bodyOp P self rd o s K) with ⟨h', h1, h2⟩ | h
    · rw [h2]
      have ha : aop P (evalT s.t) s.h o = some (.val undef h') := by
        unfold aop aread aloud
        rw [ho]
        simp only [hok, if_true, h1, Option.map_some]
      unfold bodyOp
      rw [ha]
      simp only [putK_eq, forceH_eq, hd, put]
    · exact h⟩

def cB (P : Program) (o : Oper) : BC P o :=
  match ho : o.op with
  | .call { callee := .value (.func g), args := args, argTypes := ts } =>
    if h : (args.toList.all okO && bodied P g) = true then bCall P o g args ts ho (Bool.and_eq_true _ _ ▸ h).1 (Bool.and_eq_true _ _ ▸ h).2 else ⟨fun self rd s K => bodyOp P self rd o s K, fun _ _ _ _ => rfl⟩
  | .store t a x =>
    if h : (okO a && okO x) = true then (match hd : o.dst with | none => bStore P o t a x ho h hd | some _ => ⟨fun self rd s K => bodyOp P self rd o s K, fun _ _ _ _ => rfl⟩)
    else ⟨fun self rd s K => bodyOp P self rd o s K, fun _ _ _ _ => rfl⟩
  | _ => bQuiet P o (cQ P o)

structure SC (P : Program) (os : Array Oper) (o : Oper) where
  run : Self → Option Nat → St → (St → R) → R
  ok : ∀ self rd s K, run self rd s K = if wantedT os s.t o then bodyOp P self rd o s K else putK s.t o.dst undef fun t => K { s with t := t }

def isB (want : Bool) (v : Value) : Bool := match v with | .bool b => b == want | _ => false
theorem wanted_some {os : Array Oper} {T : List Value} {o : Oper} {j : Nat} {want : Bool} {d : Tmp} (hg : o.guard = some (j, want)) (hd : (os[j]?).bind (·.dst) = some d) : wantedT os T o = isB want (lget T d) := by
  unfold wantedT
  rw [hg]
  simp only
  split
  · rename_i d' hd'; rw [hd] at hd'; cases hd'; rfl
  · rename_i hd'; rw [hd] at hd'; cases hd'
theorem wanted_none {os : Array Oper} {T : List Value} {o : Oper} {j : Nat} {want : Bool} (hg : o.guard = some (j, want)) (hd : (os[j]?).bind (·.dst) = none) : wantedT os T o = false := by
  unfold wantedT
  rw [hg]
  simp only
  split
  · rename_i d' hd'; rw [hd] at hd'; cases hd'
  · rfl
def cS (P : Program) (os : Array Oper) (o : Oper) : SC P os o :=
  match hg : o.guard with
  | none => ⟨(cB P o).run, fun self rd s K => by rw [(cB P o).ok]; unfold wantedT; rw [hg]; rfl⟩
  | some (j, want) =>
    match hd : (os[j]?).bind (·.dst) with
    | some d => ⟨fun self rd s K => Bool.rec (motive := fun _ => R) (putK s.t o.dst undef fun t => K { s with t := t }) ((cB P o).run self rd s K) (isB want (lget s.t d)), fun self rd s K => by
        rw [(cB P o).ok, wanted_some hg hd]
        cases isB want (lget s.t d) <;> rfl⟩
    | none => ⟨fun _ _ s K => putK s.t o.dst undef fun t => K { s with t := t }, fun self rd s K => by rw [wanted_none hg hd]; rfl⟩

structure LC (P : Program) (os : Array Oper) (l : List Nat) where
  run : Self → Option Nat → St → R
  ok : ∀ self rd s, run self rd s = runOps P self rd os l s

def cL (P : Program) (os : Array Oper) (l : List Nat) : LC P os l :=
  List.rec (motive := fun l => LC P os l) ⟨fun _ _ s => some (.ex .normal s), fun _ _ _ => rfl⟩
    (fun i r ih => match hi : os[i]? with
      | none => ⟨ih.run, fun self rd s => by rw [ih.ok, runOps_cons, hi]⟩
      | some o => ⟨fun self rd s => (cS P os o).run self rd s (fun s => ih.run self rd s), fun self rd s => by
          rw [(cS P os o).ok, runOps_cons, hi, show (fun s => ih.run self rd s) = runOps P self rd os r from funext fun s => ih.ok self rd s]
          simp only [ih.ok]⟩) l
end
end Go.Gh

/- The run made quick: code and calls. Conditions: none. -/
namespace Go.Gh
open Go.RowKit
noncomputable section

/-! ### Code, one node at a time: each alternative small -/
def zSeq (self : Self) (rd : Option Nat) (b : Code) : Option Out → R
  | some (.ex .normal s') => (match self (.code rd b s') with | some (.ex e s2) => some (.ex e s2) | _ => none)
  | some (.ex e s') => some (.ex e s')
  | _ => none
def zEx : Option Out → R
  | some (.ex e s') => some (.ex e s')
  | _ => none
def zBlock (id : Nat) : Option Out → R
  | some (.ex (.exit id') s') => if id' = id then some (.ex .normal s') else some (.ex (.exit id') s')
  | some (.ex e s') => some (.ex e s')
  | _ => none
def zLoop (self : Self) (rd : Option Nat) (c : Code) : Option Out → R
  | some (.ex .normal s') => zEx (self (.code rd (.loop c) s'))
  | some (.ex e s') => some (.ex e s')
  | _ => none
def zCond (self : Self) (rd : Option Nat) (x y : Code) (s : St) (v : Value) : R :=
  match v with
  | .bool b => Bool.rec (motive := fun _ => R) (zEx (self (.code rd y s))) (zEx (self (.code rd x s))) b
  | _ => none
def zCode (drawn : Program → Self → Option Nat → Nat → Array Oper → St → Option Out) (P : Program) (self : Self) (rd : Option Nat) (c : Code) (s : St) : R :=
  match c with
  | .seq a b => zSeq self rd b (self (.code rd a s))
  | .cond c x y => Bool.rec (motive := fun _ => R) none (zCond self rd x y s ((cO c).f s.t)) (okO c)
  | .block id c => zBlock id (self (.code rd c s))
  | .loop c => zLoop self rd c (self (.code rd c s))
  | .region id os dr => Bool.rec (motive := fun _ => R) ((cL P os (List.range os.size)).run self rd s) (drawn P self rd id os s) dr
  | .ret => some (.ex .ret s)
  | .skip => some (.ex .normal s)
  | .exit id => some (.ex (.exit id) s)
  | c => stepF drawn P self (.code rd c s)

/-- The frame of a call: what is handed over, and room. -/
def framed (n : Nat) (l : List Value) : List Value :=
  List.rec (motive := fun _ => Nat → List Value) (fun n => List.replicate n undef) (fun v _ ih n => v :: ih (n - 1)) l n
theorem framed_eq : ∀ (l : List Value) (n : Nat), framed n l = l ++ List.replicate (n - l.length) undef
  | [], n => rfl
  | v :: r, n => by
    show v :: framed (n - 1) r = _
    rw [framed_eq r (n - 1)]
    simp only [List.length_cons, List.cons_append]
    congr 3
    omega
def frameK (n : Nat) (l : List Value) : (List Value → R) → R :=
  List.rec (motive := fun _ => Nat → (List Value → R) → R) (fun n k => forceN n fun n => k (List.replicate n undef)) (fun v _ ih n k => ih (Nat.sub n 1) fun r => k (v :: r)) l n
theorem frameK_eq : ∀ (l : List Value) (n : Nat) (k : List Value → R), frameK n l k = k (l ++ List.replicate (n - l.length) undef)
  | [], n, k => rfl
  | v :: r, n, k => by
    show frameK (n - 1) r _ = _
    rw [frameK_eq r (n - 1)]
    simp only [List.length_cons, List.cons_append]
    congr 4
    omega

def zLeave (P : Program) (self : Self) (fn : Func) (h : Hp) : Option Out → R
  | some (.ex .normal s) => leave P self fn s.t h s.d .returning s.h
  | some (.ex .ret s) => leave P self fn s.t h s.d .returning s.h
  | some (.ex (.panic v) s) => leave P self fn s.t h s.d (.panicking v false) s.h
  | _ => none
def zCall (P : Program) (self : Self) (args : Array Value) (h : Hp) (fn : Func) (c : Code) : R :=
  frameK fn.ntmps args.toList fun t => forceN h.bl.length fun n => zLeave P self fn h (self (.code none c { t := t, d := [], h := ⟨h.bl, n, []⟩ }))

/-- The body of a function. -/
def bodyOf (P : Program) (f : FuncId) : Option (Func × Code) :=
  match P.funcs[f]? with
  | some fn => match fn.body with
    | some c => some (fn, c)
    | none => none
  | none => none

def stepQ (drawn : Program → Self → Option Nat → Nat → Array Oper → St → Option Out) (P : Program) (self : Self) (task : Task) : R :=
  match task with
  | .code rd c s => zCode drawn P self rd c s
  | .call f args h => (match bodyOf P f with | some (fn, c) => zCall P self args h fn c | none => none)
  | .dcall f args m h => stepF drawn P self (.dcall f args m h)
  | .round l args h => stepF drawn P self (.round l args h)

theorem stepQ_eq (drawn : Program → Self → Option Nat → Nat → Array Oper → St → Option Out) (P : Program) (self : Self) (task : Task) : stepQ drawn P self task = stepF drawn P self task := by
  cases task with
  | dcall f args m h => rfl
  | round l args h => rfl
  | call f args h =>
    simp only [stepQ, stepF, bodyOf]
    cases P.funcs[f]? with
    | none => rfl
    | some fn =>
      simp only
      cases fn.body with
      | none => rfl
      | some c =>
        simp only [zCall, frameK_eq, forceN_eq, forceL1_eq, frame, enterH, Array.length_toList]
        generalize self (.code none c _) = y
        unfold zLeave
        rcases y with _ | y
        · rfl
        · cases y with
          | ex e s => cases e <;> rfl
          | _ => rfl
  | code rd c s =>
    cases c with
    | seq a b =>
      simp only [stepQ, zCode, stepF]
      generalize self (.code rd a s) = y
      rcases y with _ | y
      · rfl
      · cases y with
        | ex e s => cases e <;> rfl
        | _ => rfl
    | cond c x y =>
      simp only [stepQ, zCode, stepF]
      cases okO c with
      | false => rfl
      | true =>
        simp only [(cO c).ok, zCond, if_true]
        generalize evalT s.t c = v
        cases v with
        | bool b =>
          cases b with
          | true =>
            simp only
            generalize self (.code rd x s) = y
            rcases y with _ | y
            · rfl
            · cases y <;> rfl
          | false =>
            simp only
            generalize self (.code rd y s) = y
            rcases y with _ | y
            · rfl
            · cases y <;> rfl
        | _ => rfl
    | block id c =>
      simp only [stepQ, zCode, stepF]
      generalize self (.code rd c s) = y
      rcases y with _ | y
      · rfl
      · cases y with
        | ex e s => cases e <;> rfl
        | _ => rfl
    | loop c =>
      simp only [stepQ, zCode, stepF]
      generalize self (.code rd c s) = y
      rcases y with _ | y
      · rfl
      · cases y with
        | ex e s => cases e <;> (first | rfl | (simp only [zLoop, zEx]; split <;> simp_all))
        | _ => rfl
    | region id os dr =>
      simp only [stepQ, zCode, stepF]
      cases dr with
      | false => exact (cL P os (List.range os.size)).ok self rd s
      | true => rfl
    | _ => rfl

def iterQ (drawn : Program → Self → Option Nat → Nat → Array Oper → St → Option Out) (P : Program) (n : Nat) : Self :=
  Nat.rec (motive := fun _ => Self) (fun _ => none) (fun _ ih => stepQ drawn P ih) n
theorem iterQ_eq (drawn : Program → Self → Option Nat → Nat → Array Oper → St → Option Out) (P : Program) : ∀ n, iterQ drawn P n = iter drawn P n
  | 0 => rfl
  | n + 1 => by
    show stepQ drawn P (iterQ drawn P n) = stepF drawn P (iter drawn P n)
    rw [iterQ_eq drawn P n]
    exact funext fun t => stepQ_eq drawn P _ t
end
end Go.Gh

/- Regions that leave their order open: what can be checked once is checked once. Conditions: none. -/
namespace Go.Gh
open Go.RowKit
noncomputable section

/-- May it be loud? -/
def loudS (o : Oper) : Bool :=
  match o.op with
  | .alloc _ | .box _ _ | .buildSlice _ _ _ | .store _ _ _ | .convert _ _ _ | .makeMap _ _ | .mapUpdate _ _ _ _ | .insert _ _ _ _ => true
  | .call { callee := .builtin b, .. } => (match b with | .len | .cap | .max | .min => false | _ => true)
  | .call _ => true
  | _ => false

def dstOk1 (os : Array Oper) (clo : List Nat) (i j : Nat) : Bool :=
  i == j || match os[i]?, os[j]? with
    | some a, some b => (match a.dst with
      | some t => (b.dst != some t) && (!(looks os b).contains t || cl clo j i || cl clo i j)
      | none => true)
    | _, _ => true
def dstOk (os : Array Oper) (clo : List Nat) : Bool := (List.range os.size).all fun i => (List.range os.size).all fun j => dstOk1 os clo i j
def need1 (os : Array Oper) (clo : List Nat) (i j : Nat) : Bool :=
  match os[i]?, os[j]? with
  | some a, some b => loudS a && (loudS b || memOp b.op) && unord clo i j
  | _, _ => false
def need (os : Array Oper) (clo : List Nat) : List (Nat × Nat) :=
  (List.range os.size).flatMap fun i => ((List.range os.size).filter fun j => need1 os clo i j).map fun j => (i, j)

def dchkQ (P : Program) (os : Array Oper) (clo : List Nat) (recs : List Rec) : Bool :=
  dstOk os clo && recs.all (fun r => !r.loud || loudS r.o) && (need os clo).all fun x => recs.all fun r => !(r.i == x.1) || recs.all fun q => !(q.i == x.2) || pairOk P os clo r q

theorem dchkQ_ok {P : Program} {os : Array Oper} {clo : List Nat} {recs : List Rec} (ho : ∀ r ∈ recs, os[r.i]? = some r.o) (h : dchkQ P os clo recs = true) : dchk P os clo recs = true := by
  simp only [dchkQ, Bool.and_eq_true, List.all_eq_true] at h
  obtain ⟨⟨h1, h2⟩, h3⟩ := h
  simp only [dchk, List.all_eq_true]
  intro r hr q hq
  have hri := ho r hr
  have hqi := ho q hq
  have hrl : r.i < os.size := (Array.getElem?_eq_some_iff.1 hri).1
  have hql : q.i < os.size := (Array.getElem?_eq_some_iff.1 hqi).1
  by_cases hn : need1 os clo r.i q.i = true
  · have hm : (r.i, q.i) ∈ need os clo := by
      simp only [need, List.mem_flatMap, List.mem_map, List.mem_filter, List.mem_range]
      exact ⟨r.i, hrl, q.i, ⟨hql, hn⟩, rfl⟩
    have := h3 _ hm r hr
    simp only [beq_self_eq_true, Bool.not_true, Bool.false_or, List.all_eq_true] at this
    have := this q hq
    simpa using this
  · have hd : dstOk1 os clo r.i q.i = true := by
      simp only [dstOk, List.all_eq_true, List.mem_range] at h1
      exact h1 r.i hrl q.i hql
    simp only [dstOk1, hri, hqi] at hd
    simp only [need1, hri, hqi] at hn
    unfold pairOk
    cases he : r.i == q.i with
    | true => rfl
    | false =>
      rw [he, Bool.false_or] at hd
      rw [Bool.false_or, Bool.and_eq_true]
      refine ⟨hd, ?_⟩
      have hl1 := h2 r hr
      have hl2 := h2 q hq
      cases hrL : r.loud with
      | false => rfl
      | true =>
        simp only [hrL, Bool.not_true, Bool.false_or] at hl1
        simp only [hl1, Bool.true_and] at hn
        cases hu : unord clo r.i q.i with
        | false => simp
        | true =>
          simp only [hu, Bool.and_true, Bool.or_eq_true, not_or, Bool.not_eq_true] at hn
          cases hqL : q.loud with
          | true => simp only [hqL, hn.1, Bool.not_true, Bool.or_false] at hl2; cases hl2
          | false => simp [hn.2]

def drawnQ (P : Program) (self : Self) (_ : Option Nat) (_ : Nat) (os : Array Oper) (s : St) : Option Out :=
  if planOk os (Region.linearise .any os 0) (mkClo os (Region.linearise .any os 0) (List.replicate os.size 0)) then
    match drun P self os (Region.linearise .any os 0) s.t s.h with
    | some (recs, T, h) => if dchkQ P os (mkClo os (Region.linearise .any os 0) (List.replicate os.size 0)) recs then some (.ex .normal { s with t := T, h := h }) else none
    | none => none
  else none

theorem drawnQ_le {P : Program} {self : Self} {rd : Option Nat} {id : Nat} {os : Array Oper} {s : St} {o : Out} (h : drawnQ P self rd id os s = some o) : drawn P self rd id os s = some o := by
  unfold drawnQ at h
  unfold drawn
  split at h
  case isFalse => cases h
  rename_i hp
  rw [if_pos hp]
  split at h
  case h_2 => cases h
  rename_i recs T h1 hr
  split at h
  case isFalse => cases h
  rename_i hc
  rw [hr]
  simp only
  rw [if_pos (dchkQ_ok (fun r hm => ((drun_tr _ _ _ _ _ _ hr).1.recs r hm).1) hc)]
  exact h

theorem drawnQ_ok {P : Program} (hN : NoNG P) (hm : P.follows .mixedOrders = true) : DrawnOk P drawnQ :=
  fun self hs rd id os s o h => drawn_ok hN hm self hs rd id os s o (drawnQ_le h)

/-- What the run gives is what every call gives. -/
theorem calls_of_run {P : Program} (hN : NoNG P) (hm : P.follows .mixedOrders = true) {n : Nat} {f : FuncId} {v : Value} {h : Hp} (hc : iterQ drawnQ P n (.call f #[] { bl := [], base := 0, wr := [] }) = some (.ret v h)) (hg : gr v = true) (w : World) :
    Calls P f #[] w fun e w' => e = .returned v ∧ Below w.heap.size w w' :=
  calls_of_iter hN (drawnQ_ok hN hm) (by rw [← iterQ_eq]; exact hc) hg w
end
end Go.Gh

/- The program is awake: its function Awake returns true, over whatever heap. Conditions: none. -/
namespace Go.Proofs.Ytohpmnfplglbdaa
open Go.Gh Go.RowKit
noncomputable section

/-- Has a run ended with true, and nothing left? -/
def saysTrue (o : Option Out) : Bool := match o with | some (.ret (.bool true) ⟨[], 0, []⟩) => true | _ => false
theorem saysTrue_iff {o : Option Out} (h : saysTrue o = true) : o = some (.ret (.bool true) ⟨[], 0, []⟩) := by
  unfold saysTrue at h
  split at h
  · rfl
  · cases h
theorem awake_run : saysTrue (iterQ drawnQ Try.prog 600 (.call 24 #[] { bl := [], base := 0, wr := [] })) = true := by kernel_rfl
theorem awakeFact : Fact Try.prog (.call 24 #[] ⟨[], 0, []⟩) (.ret (.bool true) ⟨[], 0, []⟩) := by
  have h := saysTrue_iff awake_run
  rw [iterQ_eq] at h
  exact ⟨(iter_ok noNG (drawnQ_ok noNG mixed) 600).1 _ _ h, trivial⟩
theorem known24 : Known Try.prog p24 := by
  intro t x o h ho
  unfold p24 at h
  split at h
  case h_2 => cases h
  rename_i hp
  simp only [Option.some.injEq] at h
  subst h
  simp only [AT.out, Option.some.injEq] at ho
  subst ho
  exact awakeFact.frame (fun i => i) (Nat.le_refl 0) rfl (fun i ob hi => by simp at hi) (by simp) rfl
end
end Go.Proofs.Ytohpmnfplglbdaa

/- What both Checks return, told of the first three blocks alone. Conditions: none. -/
namespace Go.Proofs.Ytohpmnfplglbdaa
open Go.Gh Go.RowKit
noncomputable section
set_option maxRecDepth 100000
set_option linter.unusedSimpArgs false
set_option linter.unusedVariables false
def ck1 (a b d : Option Addr) (n n2 n3 : Nat) (age shear : Int) (H : List Ob) : Int := (ckR a b d n n2 n3 age shear H).1
def ck2 (a b d : Option Addr) (n n2 n3 : Nat) (age shear : Int) (H : List Ob) : Int := (ckR a b d n n2 n3 age shear H).2.1
def ck3 (a b d : Option Addr) (n n2 n3 : Nat) (age shear : Int) (H : List Ob) : Int := (ckR a b d n n2 n3 age shear H).2.2
/-- A task over three blocks. -/
def TaskOn (a b d : Option Addr) (n z n2 z2 n3 z3 : Nat) (H : List Ob) : Prop :=
  SliceL L7 a n z H ∧ SliceL L5 b n2 z2 H ∧ SliceL L1 d n3 z3 H ∧ sc1 3 (.slice a n z) = true ∧ sc1 3 (.slice b n2 z2) = true ∧ sc1 3 (.slice d n3 z3) = true
def okT (a b d : Option Addr) (n z n2 z2 n3 z3 : Nat) (H : List Ob) : Bool := dec (TaskOn a b d n z n2 z2 n3 z3 H)
def p20v (f : Nat) : Ans
  | .call g ⟨[.agg ⟨[.slice a n z, .slice b n2 z2, .slice d n3 z3, .int .i64 age, .int .i64 shear]⟩]⟩ ⟨o0 :: o1 :: o2 :: G, base, wr⟩ => (match Nat.beq g f with
    | true => some (.br (okT a b d n z n2 z2 n3 z3 [o0, o1, o2]) (.leaf (.ret (.tuple ⟨[.int .i64 (ck1 a b d n n2 n3 age shear [o0, o1, o2]), .int .i64 (ck2 a b d n n2 n3 age shear [o0, o1, o2]), .int .i64 (ck3 a b d n n2 n3 age shear [o0, o1, o2])]⟩) ⟨o0 :: o1 :: o2 :: G, base, wr⟩)) .no)
    | false => none)
  | _ => none
theorem p21_at (g : Nat) (a b d : Option Addr) (n z n2 z2 n3 z3 : Nat) (age shear : Int) (h : Hp) : p21 g (.call g ⟨[.agg ⟨[.slice a n z, .slice b n2 z2, .slice d n3 z3, .int .i64 age, .int .i64 shear]⟩]⟩ h) =
    some (.br (c21 a b d n z n2 z2 n3 z3 h.bl) (.leaf (.ret (.tuple ⟨[.int .i64 (ckR a b d n n2 n3 age shear h.bl).1, .int .i64 (ckR a b d n n2 n3 age shear h.bl).2.1, .int .i64 (ckR a b d n n2 n3 age shear h.bl).2.2]⟩) h)) .no) := by
  have hg : Nat.beq g g = true := Nat.beq_refl g
  simp only [p21, hg]
theorem known20v {f : Nat} (hk : Known Try.prog (p21 f)) : Known Try.prog (p20v f) := by
  intro t xx o h ho
  unfold p20v at h
  split at h
  case h_2 => cases h
  rename_i g a n z b n2 z2 d n3 z3 age shear o0 o1 o2 G base wr
  split at h
  case h_2 => cases h
  rename_i hgg
  obtain rfl := Nat.eq_of_beq_eq_true hgg
  simp only [Option.some.injEq] at h
  subst h
  simp only [AT.out] at ho
  obtain ⟨hok, ho⟩ := cond_some ho
  obtain ⟨ha, hb, hd, sa, sb, sd⟩ := dec_iff.1 hok
  have e : ckR a b d n n2 n3 age shear (o0 :: o1 :: o2 :: G) = ckR a b d n n2 n3 age shear [o0, o1, o2] :=
    ckR_congr (.inr (arr3 sa)) (.inr (arr3 sb)) (arr3 sd) rfl rfl rfl
  refine hk _ _ o (p21_at ..) ?_
  have hc : c21 a b d n z n2 z2 n3 z3 (o0 :: o1 :: o2 :: G) = true := dec_iff.2 ⟨sliceL3 sa ha, sliceL3 sb hb, sliceL3 sd hd, nilOk_of sa, nilOk_of sb, nilOk_of sd⟩
  simp only [AT.out, hc, cond_true]
  rw [e]
  exact ho
end
end Go.Proofs.Ytohpmnfplglbdaa

/- What a task does over some blocks, it does over every heap that has them elsewhere: what it changes there is changed here, and what it makes is made here. Conditions: none. -/
namespace Go.Gh
open Go.RowKit
noncomputable section

/-- Where i is there, j is here. -/
def Agree (σ : Nat → Nat → Prop) (φ ψ : Phi) : Prop := ∀ (i j : Nat) (x : Nat × Nat × Nat), σ i j → φ i = some x → ψ j = some x
/-- Whatever the one stands for, the other one stands for. -/
def TR (σ : Nat → Nat → Prop) (v v' : Value) : Prop := ∀ φ ψ, Agree σ φ ψ → ∀ x, VR φ v x → VR ψ v' x
def TRs (σ : Nat → Nat → Prop) (l l' : List Value) : Prop := ∀ φ ψ, Agree σ φ ψ → ∀ x, VRs φ l.toArray x → VRs ψ l'.toArray x
def ObTR (σ : Nat → Nat → Prop) (o o' : Ob) : Prop := ∀ φ ψ, Agree σ φ ψ → ∀ w B bs tot, ObR φ w o B bs tot → ObR ψ w o' B bs tot

def inS (ρ : Nat → Nat) (H0 : List Ob) (j i : Nat) : Prop := i < H0.length ∧ ρ i = j
def outS (ρ : Nat → Nat) (κ : Nat → Option Nat) (H0 Hb Hb1 : List Ob) (i j : Nat) : Prop :=
  (i < H0.length ∧ ρ i = j) ∨ (κ j = some i ∧ Hb.length ≤ j ∧ j < Hb1.length)
structure Carry (ρ : Nat → Nat) (κ : Nat → Option Nat) (H0 H1 Hb Hb1 : List Ob) : Prop where
  inn : ∀ (i : Nat) (ob : Ob), H0[i]? = some ob → ob.live = true → ∃ ob', Hb[ρ i]? = some ob' ∧ ob'.live = true ∧ (ob.rw = true → ob'.rw = true) ∧ ObTR (inS ρ H0) ob' ob
  inj : ∀ (i i' : Nat), i < H0.length → i' < H0.length → ρ i = ρ i' → i = i'
  low : ∀ i, i < H0.length → ρ i < Hb.length
  len : Hb.length ≤ Hb1.length
  kin : ∀ j i, κ j = some i → Hb.length ≤ j → H0.length ≤ i
  kinj : ∀ j j' i, Hb.length ≤ j → Hb.length ≤ j' → κ j = some i → κ j' = some i → j = j'
  out : ∀ (j : Nat) (ob' : Ob), Hb1[j]? = some ob' → ob'.live = true →
    (Hb[j]? = some ob' ∧ ∀ (i : Nat) (ob0 : Ob), H0[i]? = some ob0 → ob0.rw = true → ρ i ≠ j) ∨
    (∃ (i : Nat) (ob : Ob), H1[i]? = some ob ∧ ob.live = true ∧ (ob'.rw = true → ob.rw = true) ∧ (ob.rw = true ∨ ∃ ob0 : Ob, H0[i]? = some ob0 ∧ ob0.live = true) ∧ ObTR (outS ρ κ H0 Hb Hb1) ob ob' ∧ outS ρ κ H0 Hb Hb1 i j)

def pullP (φ : Phi) (ρ : Nat → Nat) (n : Nat) : Phi := fun i => if i < n then φ (ρ i) else none
open Classical in
noncomputable def backP (ρ : Nat → Nat) (n j : Nat) : Option Nat := if h : ∃ i, i < n ∧ ρ i = j then some (Classical.choose h) else none
def pushP (φ φ1 : Phi) (ρ : Nat → Nat) (κ : Nat → Option Nat) (n N N1 : Nat) : Phi := fun j => if j < N then (match φ j with | some x => some x | none => (backP ρ n j).bind φ1) else if j < N1 then (κ j).bind φ1 else none

section
variable {P : Program} {K : Nat → Prop} {w0 w w' : World} {φ φ1 : Phi} {H0 H1 Hb Hb1 : List Ob} {ρ : Nat → Nat} {κ : Nat → Option Nat}
theorem lt_of_get {α : Type} {l : List α} {i : Nat} {a : α} (h : l[i]? = some a) : i < l.length := (List.getElem?_eq_some_iff.1 h).1
theorem pull_at {i : Nat} (h : i < H0.length) : pullP φ ρ H0.length i = φ (ρ i) := if_pos h
theorem agree_in : Agree (inS ρ H0) φ (pullP φ ρ H0.length) := by
  rintro j i x ⟨h1, h2⟩ h3
  rw [pull_at h1, h2]; exact h3

theorem Inv.pull (hI : Inv K w0 φ Hb w) (hc : Carry ρ κ H0 H1 Hb Hb1) :
    Inv (fun k => k < w.heap.size ∧ ¬ RwAt (pullP φ ρ H0.length) H0 k) w (pullP φ ρ H0.length) H0 w := by
  refine ⟨?_, ?_, ?_, fun _ _ => rfl, fun _ h => h.1, Nat.le_refl _, rfl, rfl, rfl, fun b hb => by unfold pullP; rw [if_neg (by omega)]⟩
  · intro i ob hi hl
    obtain ⟨ob', h1, h2, _, h4⟩ := hc.inn i ob hi hl
    obtain ⟨B, base, tot, h5, h6⟩ := hI.obs _ ob' h1 h2
    exact ⟨B, base, tot, (pull_at (lt_of_get hi)).trans h5, h4 φ _ agree_in _ _ _ _ h6⟩
  · intro b b' ob ob' x y hne hb hb' hrw hl hx hy
    rw [pull_at (lt_of_get hb)] at hx
    rw [pull_at (lt_of_get hb')] at hy
    obtain ⟨o1, h1, h2, h3, _⟩ := hc.inn b ob hb (Ob.live_of_rw hrw)
    obtain ⟨o2, h4, h5, _, _⟩ := hc.inn b' ob' hb' hl
    exact hI.sep (ρ b) (ρ b') o1 o2 x y (fun he => hne (hc.inj b b' (lt_of_get hb) (lt_of_get hb') he)) h1 h4 (h3 hrw) h5 hx hy
  · intro b ob x hb hrw hx hk
    exact hk.2 ⟨b, ob, x, hb, hrw, hx, rfl⟩

theorem Inv.push (hI : Inv K w0 φ Hb w) (hc : Carry ρ κ H0 H1 Hb Hb1) (hF : Inv (fun k => k < w.heap.size ∧ ¬ RwAt (pullP φ ρ H0.length) H0 k) w φ1 H1 w') (hle : le (pullP φ ρ H0.length) φ1) :
    ∃ φ2, le φ φ2 ∧ Agree (outS ρ κ H0 Hb Hb1) φ1 φ2 ∧ Inv K w0 φ2 Hb1 w' := by
  have hdom : ∀ {j : Nat} {x : Nat × Nat × Nat}, φ j = some x → j < Hb.length := fun {j} {x} hx => by
    rcases Nat.lt_or_ge j Hb.length with h | h
    · exact h
    · rw [hI.top j h] at hx; cases hx
  have hleφ : le φ (pushP φ φ1 ρ κ H0.length Hb.length Hb1.length) := fun j x hx => by
    unfold pushP; rw [if_pos (hdom hx), hx]
  have hlt : ∀ {j : Nat} {ob' : Ob}, Hb[j]? = some ob' → ob'.live = true → pushP φ φ1 ρ κ H0.length Hb.length Hb1.length j = φ j := by
    intro j ob' h1 h2
    obtain ⟨B, base, tot, h3, _⟩ := hI.obs j ob' h1 h2
    rw [h3]; exact hleφ _ _ h3
  have htop1 : ∀ {i : Nat} {x : Nat × Nat × Nat}, φ1 i = some x → i < H1.length := fun {i} {x} hx => by
    rcases Nat.lt_or_ge i H1.length with h | h
    · exact h
    · rw [hF.top i h] at hx; cases hx
  -- blocks that were there: where they lie
  have hold : ∀ {i : Nat} {ob0 : Ob}, H0[i]? = some ob0 → ob0.live = true → ∃ x, φ (ρ i) = some x ∧ φ1 i = some x := by
    intro i ob0 h1 h2
    obtain ⟨ob', h3, h4, _, _⟩ := hc.inn i ob0 h1 h2
    obtain ⟨B, base, tot, h5, _⟩ := hI.obs _ ob' h3 h4
    exact ⟨_, h5, hle i _ ((pull_at (lt_of_get h1)).trans h5)⟩
  have hnew : ∀ {j : Nat}, Hb.length ≤ j → j < Hb1.length → pushP φ φ1 ρ κ H0.length Hb.length Hb1.length j = (κ j).bind φ1 := fun h1 h2 => by
    unfold pushP; rw [if_neg (by omega), if_pos h2]
  have hkeep : ∀ {j : Nat} {ob' : Ob} {x : Nat × Nat × Nat}, Hb[j]? = some ob' → ob'.live = true → φ j = some x → x.1 < w.heap.size → (∀ (i : Nat) (ob0 : Ob), H0[i]? = some ob0 → ob0.rw = true → ρ i ≠ j) → x.1 < w.heap.size ∧ ¬ RwAt (pullP φ ρ H0.length) H0 x.1 := by
    intro j ob' x h1 h2 h3 h4 h5
    refine ⟨h4, ?_⟩
    rintro ⟨b0, ob0, y, h6, h7, h8, h9⟩
    rw [pull_at (lt_of_get h6)] at h8
    obtain ⟨o1, h10, _, h11, _⟩ := hc.inn b0 ob0 h6 (Ob.live_of_rw h7)
    exact hI.sep (ρ b0) j o1 ob' y x (h5 b0 ob0 h6 h7) h10 h1 (h11 h7) h2 h8 h3 h9
  have hsz : ∀ {j : Nat} {ob' : Ob} {x : Nat × Nat × Nat}, Hb[j]? = some ob' → ob'.live = true → φ j = some x → x.1 < w.heap.size := by
    intro j ob' x h1 h2 h3
    obtain ⟨B, base, tot, h4, h5⟩ := hI.obs j ob' h1 h2
    rw [h3] at h4
    simp only [Option.some.injEq] at h4
    subst h4
    exact h5.lt h2
  have hagree : Agree (outS ρ κ H0 Hb Hb1) φ1 (pushP φ φ1 ρ κ H0.length Hb.length Hb1.length) := by
    rintro i j x (⟨h1, rfl⟩ | ⟨h1, h2, hj⟩) hx
    · cases hφ : φ (ρ i) with
      | some y =>
        have h4 := hle i y ((pull_at h1).trans hφ)
        rw [hx] at h4
        rw [h4]; exact hleφ _ _ hφ
      | none =>
        unfold pushP
        rw [if_pos (hc.low i h1), hφ]
        have hex : ∃ i', i' < H0.length ∧ ρ i' = ρ i := ⟨i, h1, rfl⟩
        have hb : backP ρ H0.length (ρ i) = some i := by
          unfold backP
          rw [dif_pos hex]
          have := Classical.choose_spec hex
          rw [hc.inj _ _ this.1 h1 this.2]
        show (backP ρ H0.length (ρ i)).bind φ1 = some x
        rw [hb]; exact hx
    · rw [hnew h2 hj, h1]
      exact hx
  have hlen := hc.len
  -- one of these: its place
  have hB : ∀ {i j : Nat} {ob : Ob} {x : Nat × Nat × Nat}, outS ρ κ H0 Hb Hb1 i j → H1[i]? = some ob → ob.live = true → pushP φ φ1 ρ κ H0.length Hb.length Hb1.length j = some x → φ1 i = some x := by
    intro i j ob x hs h1 h2 hx
    obtain ⟨B, base, tot, h3, _⟩ := hF.obs i ob h1 h2
    have := hagree i j _ hs h3
    rw [hx] at this
    rw [h3, this]
  have hfun : ∀ {i j j' : Nat}, outS ρ κ H0 Hb Hb1 i j → outS ρ κ H0 Hb Hb1 i j' → j = j' := by
    rintro i j j' (⟨h1, rfl⟩ | ⟨h1, h2, h3⟩) (⟨h1', rfl⟩ | ⟨h1', h2', h3'⟩)
    · rfl
    · have := hc.kin _ _ h1' h2'
      omega
    · have := hc.kin _ _ h1 h2
      omega
    · exact hc.kinj _ _ _ h2 h2' h1 h1'
  refine ⟨pushP φ φ1 ρ κ H0.length Hb.length Hb1.length, hleφ, hagree, ?_, ?_, ?_, ?_, hI.klt, Nat.le_trans hI.size hF.size, hF.os.trans hI.os, hF.tape.trans hI.tape, hF.output.trans hI.output, ?_⟩
  · intro j ob' h1 h2
    rcases hc.out j ob' h1 h2 with ⟨h3, h4⟩ | ⟨i, ob, h3, h4, h5, h6, h7, h8⟩
    · obtain ⟨B, base, tot, h5, h6⟩ := hI.obs j ob' h3 h2
      exact ⟨B, base, tot, hleφ _ _ h5, h6.keep hleφ (hF.keep B (hkeep h3 h2 h5 (h6.lt h2) h4))⟩
    · obtain ⟨B, base, tot, h9, h10⟩ := hF.obs i ob h3 h4
      exact ⟨B, base, tot, hagree i j _ h8 h9, h7 _ _ hagree _ _ _ _ h10⟩
  · intro j j' ob ob' x y hne hj hj' hrw hl hx hy
    rcases hc.out j ob hj (Ob.live_of_rw hrw) with ⟨h3, h4⟩ | ⟨i, o, h3, h4, h5, h6, h7, h8⟩
    · have hx' : φ j = some x := by rw [← hlt h3 (Ob.live_of_rw hrw)]; exact hx
      rcases hc.out j' ob' hj' hl with ⟨h3', h4'⟩ | ⟨i', o', h3', h4', h5', h6', h7', h8'⟩
      · have hy' : φ j' = some y := by rw [← hlt h3' hl]; exact hy
        exact hI.sep j j' ob ob' x y hne h3 h3' hrw hl hx' hy'
      · have hy' := hB h8' h3' h4' hy
        rcases h6' with hrw' | ⟨ob0, k0, kl⟩
        · intro he
          exact hF.prot i' o' y h3' hrw' hy' (he ▸ hkeep h3 (Ob.live_of_rw hrw) hx' (hsz h3 (Ob.live_of_rw hrw) hx') h4)
        · have k3 : ρ i' = j' := by
            rcases h8' with ⟨k1, k3⟩ | ⟨k1, k2, _⟩
            · exact k3
            · have := hc.kin _ _ k1 k2
              have := lt_of_get k0
              omega
          obtain ⟨o1, k4, k5, _, _⟩ := hc.inn i' ob0 k0 kl
          obtain ⟨y', k6, k7⟩ := hold k0 kl
          rw [hy'] at k7
          simp only [Option.some.injEq] at k7
          subst k7
          exact hI.sep j (ρ i') ob o1 x y (by rw [k3]; exact hne) h3 k4 hrw k5 hx' k6
    · have hx' := hB h8 h3 h4 hx
      rcases hc.out j' ob' hj' hl with ⟨h3', h4'⟩ | ⟨i', o', h3', h4', h5', h6', h7', h8'⟩
      · have hy' : φ j' = some y := by rw [← hlt h3' hl]; exact hy
        intro he
        exact hF.prot i o x h3 (h5 hrw) hx' (he.symm ▸ hkeep h3' hl hy' (hsz h3' hl hy') h4')
      · have hy' := hB h8' h3' h4' hy
        exact hF.sep i i' o o' x y (fun he => hne (hfun (he ▸ h8) h8')) h3 h3' (h5 hrw) h4' hx' hy'
  · intro j ob x hj hrw hx hk
    rcases hc.out j ob hj (Ob.live_of_rw hrw) with ⟨h3, h4⟩ | ⟨i, o, h3, h4, h5, h6, h7, h8⟩
    · have hx' : φ j = some x := by rw [← hlt h3 (Ob.live_of_rw hrw)]; exact hx
      exact hI.prot j ob x h3 hrw hx' hk
    · have hx' := hB h8 h3 h4 hx
      refine hF.prot i o x h3 (h5 hrw) hx' ⟨Nat.lt_of_lt_of_le (hI.klt _ hk) hI.size, ?_⟩
      rintro ⟨b0, ob0, y, k1, k2, k3, k4⟩
      rw [pull_at (lt_of_get k1)] at k3
      obtain ⟨o1, k5, _, k6, _⟩ := hc.inn b0 ob0 k1 (Ob.live_of_rw k2)
      exact hI.prot (ρ b0) o1 y k5 (k6 k2) k3 (k4 ▸ hk)
  · intro k hk
    have h1 := hI.klt k hk
    have h2 := hI.size
    rw [hF.keep k ⟨by omega, ?_⟩]
    · exact hI.keep k hk
    · rintro ⟨b0, ob0, y, k1, k2, k3, k4⟩
      rw [pull_at (lt_of_get k1)] at k3
      obtain ⟨o1, k5, _, k6, _⟩ := hc.inn b0 ob0 k1 (Ob.live_of_rw k2)
      exact hI.prot (ρ b0) o1 y k5 (k6 k2) k3 (k4 ▸ hk)
  · intro j hj
    unfold pushP
    rw [if_neg (by omega), if_neg (by omega)]

/-- What a piece of code does, elsewhere. -/
theorem Fact.carryCode {c : Code} {t t0 L T : List Value} {base base1 bb : Nat} {wr wr1 wb wb1 : List Nat} {e : Ex}
    (hf : Fact P (.code none c ⟨t0, [], ⟨H0, base, wr⟩⟩) (.ex e ⟨L, [], ⟨H1, base1, wr1⟩⟩)) (hb : base ≤ H0.length) (hc : Carry ρ κ H0 H1 Hb Hb1)
    (ht : TRs (inS ρ H0) t t0) (hT : TRs (outS ρ κ H0 Hb Hb1) L T) (he : noPanic e = true) (hp : bb ≤ Hb.length → Pres ⟨Hb, bb, wb⟩ ⟨Hb1, bb, wb1⟩) :
    Fact P (.code none c ⟨t, [], ⟨Hb, bb, wb⟩⟩) (.ex e ⟨T, [], ⟨Hb1, bb, wb1⟩⟩) := by
  obtain ⟨_, hh⟩ := hf.1 hb
  have key : ∀ {K : Nat → Prop} {w0 w : World} {φ : Phi} {x : Exit} {a' : Act} {w' : World}, Inv K w0 φ Hb w → CodeR (fun k => k < w.heap.size ∧ ¬ RwAt (pullP φ ρ H0.length) H0 k) w (pullP φ ρ H0.length) e ⟨L, [], ⟨H1, base1, wr1⟩⟩ x a' w' →
      CodeR K w0 φ e ⟨T, [], ⟨Hb1, bb, wb1⟩⟩ x a' w' := by
    rintro K w0 w φ x a' w' hI ⟨φ1, hle, hx, ht', hd', hI'⟩
    obtain ⟨φ2, h1, h2, h3⟩ := hI.push hc hI' hle
    refine ⟨φ2, h1, hx.any he, hT _ _ h2 _ ht', ?_, h3⟩
    have hd0 : a'.defers = [] := by
      have : DRs φ1 [] a'.defers := hd'
      generalize a'.defers = l at this
      cases this; rfl
    rw [hd0]; exact .nil
  have dnil : ∀ {φ ψ : Phi} {l : List Deferred}, DRs φ [] l → DRs ψ [] l := fun h => by cases h; exact .nil
  refine ⟨fun hbl => ⟨hp hbl, ?_⟩, ?_⟩
  · intro K w0 φ w a F n hI hta hd hF
    exact wpIn_mono (hh _ w (pullP φ ρ H0.length) w a F n (hI.pull hc) (ht _ _ agree_in _ hta) (dnil hd) hF) fun x a' w' h => key hI h
  · cases c with
    | loop c =>
      intro _ K w0 φ w a F n hI hta hd hF
      have hl := hf.2 hb
      exact wpLoopIn_mono (hl _ w (pullP φ ρ H0.length) w a F n (hI.pull hc) (ht _ _ agree_in _ hta) (dnil hd) hF) fun x a' w' h => key hI h
    | _ => trivial

/-- What a call does, elsewhere. -/
theorem Fact.carryCall {f : FuncId} {args args0 : Array Value} {v v0 : Value} {base base1 : Nat} {wr wr1 : List Nat} {hb hb1 : Hp}
    (hf : Fact P (.call f args0 ⟨H0, base, wr⟩) (.ret v0 ⟨H1, base1, wr1⟩)) (hbase : base ≤ H0.length) (hc : Carry ρ κ H0 H1 hb.bl hb1.bl)
    (ha : TRs (inS ρ H0) args.toList args0.toList) (hv : TR (outS ρ κ H0 hb.bl hb1.bl) v0 v) (hp : hb.base ≤ hb.bl.length → Pres hb hb1) :
    Fact P (.call f args hb) (.ret v hb1) := by
  obtain ⟨_, hh⟩ := hf.1 hbase
  refine ⟨fun hbl => ⟨hp hbl, ?_⟩, trivial⟩
  intro K w0 φ w args' n hI hA
  refine (hh _ w (pullP φ ρ H0.length) w args' n (hI.pull hc) (ha _ _ agree_in _ hA)).mono ?_
  intro e w' he
  cases e with
  | returned v' =>
    obtain ⟨φ1, hle, hv', hI'⟩ := he
    obtain ⟨φ2, h1, h2, h3⟩ := hI.push hc hI' hle
    exact ⟨φ2, h1, hv _ _ h2 _ hv', h3⟩
  | panicked ch => exact he.elim
  | outgrown => exact he.elim
end
end
end Go.Gh

