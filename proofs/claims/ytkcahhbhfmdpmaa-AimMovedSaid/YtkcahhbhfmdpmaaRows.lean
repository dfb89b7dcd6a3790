/-
  No cell of these rows narrows 'for every input' (looked for: loops, veiled, ifaces, maps, wideKeys, modest, calm, conditions, laid).
  DERIVED. THE GIVEN ROWS OF THIS SEAT. 11 by the template 'for every input the law returns true; each argument reads behind the call as it read before'; 0 by the template 'total and deterministic' (their statements: YtkcahhbhfmdpmaaTotals.lean).
  GIVEN WITH THE SEED: the statements are not yours to turn. If you find one false, say at which input.
  Laid BY PROGRAM, IN A SANDBOX (cutbox-rows.mjs): the forced cells as the released guide's own fill.sh prints them over the translation cc51b315a8957d49… (all of the seat's roots in one cut). By AI agents, Wed Nov 11 2026. No macro, syntax, notation, axiom, sorry.
-/
import Derived.Test.YtkcahhbhfmdpmaaChecked
import GoSem.Claim
import GoSem.ClaimJoined
import GoSem.ClaimMapViews
import Derived.JoinedTies
import Derived.KernelRfl
namespace Go.Proofs.Ytkcahhbhfmdpmaa
/- THE CELL 'sum', in the pinned program and in every row, IS THE sha256 OF THE DUMP (.gsa) THAT YtkcahhbhfmdpmaaProg.lean LOADS. Nothing in Lean hashes anything: it is a label: what it is worth is what the hold of that sum in a sandbox is worth. -/
noncomputable def Try.pinned : Pinned := { name := "ytkcahhbhfmdpmaa", sum := "cc51b315a8957d49d09fd9cb2c63dd6a3f840293f2d0b1b29ceed94a5d1b4563", checked := Try.checked }
namespace Rows
def none {H : Type} : Left H := { results := [], args := [] }

/-- 'hangfirelaw03.AimChecks': WHATEVER THE INPUT: true; the input reads as it did. -/
def aimChecksSpec : ChangeSpec := { name := "aimChecks", fn := fun _ => fun
  | [d] => { results := [.lit (.bool true)], args := [d] }
  | _ => none }
def aimChecksRow : OpenClaim := { program := "ytkcahhbhfmdpmaa", sum := "cc51b315a8957d49d09fd9cb2c63dd6a3f840293f2d0b1b29ceed94a5d1b4563", func := "hangfire/hangfirelaw03.AimChecks", spec := "aimChecks", unfollowed := true, recurses := true, plainKeys := false, apart := false }
def AimChecksSaid : Prop := aimChecksRow.holds Try.pinned (OpenSpec.ofChange aimChecksSpec)

/-- ITS FALSE NEIGHBOUR: 'it returns false'. Refute it at one input. -/
def aimChecksWrong : ChangeSpec := { name := "aimChecks", fn := fun _ => fun
  | [d] => { results := [.lit (.bool false)], args := [d] }
  | _ => none }
def AimChecksWrongFalsely : Prop := aimChecksRow.holds Try.pinned (OpenSpec.ofChange aimChecksWrong)

/-- 'hangfirelaw03.AimKnown': WHATEVER THE INPUT: true; the input reads as it did. -/
def aimKnownSpec : ChangeSpec := { name := "aimKnown", fn := fun _ => fun
  | [] => { results := [.lit (.bool true)], args := [] }
  | _ => none }
def aimKnownRow : OpenClaim := { program := "ytkcahhbhfmdpmaa", sum := "cc51b315a8957d49d09fd9cb2c63dd6a3f840293f2d0b1b29ceed94a5d1b4563", func := "hangfire/hangfirelaw03.AimKnown", spec := "aimKnown", unfollowed := true, recurses := true, plainKeys := false, apart := false }
def AimKnownSaid : Prop := aimKnownRow.holds Try.pinned (OpenSpec.ofChange aimKnownSpec)

/-- ITS FALSE NEIGHBOUR: 'it returns false'. Refute it at one input. -/
def aimKnownWrong : ChangeSpec := { name := "aimKnown", fn := fun _ => fun
  | [] => { results := [.lit (.bool false)], args := [] }
  | _ => none }
def AimKnownWrongFalsely : Prop := aimKnownRow.holds Try.pinned (OpenSpec.ofChange aimKnownWrong)

/-- 'hangfirelaw03.AimTrue': WHATEVER THE INPUT: true; the input reads as it did. -/
def aimTrueSpec : ChangeSpec := { name := "aimTrue", fn := fun _ => fun
  | [d1, d2, d3] => { results := [.lit (.bool true)], args := [d1, d2, d3] }
  | _ => none }
def aimTrueRow : OpenClaim := { program := "ytkcahhbhfmdpmaa", sum := "cc51b315a8957d49d09fd9cb2c63dd6a3f840293f2d0b1b29ceed94a5d1b4563", func := "hangfire/hangfirelaw03.AimTrue", spec := "aimTrue", unfollowed := true, recurses := true, plainKeys := false, apart := false }
def AimTrueSaid : Prop := aimTrueRow.holds Try.pinned (OpenSpec.ofChange aimTrueSpec)

/-- ITS FALSE NEIGHBOUR: 'it returns false'. Refute it at one input. -/
def aimTrueWrong : ChangeSpec := { name := "aimTrue", fn := fun _ => fun
  | [d1, d2, d3] => { results := [.lit (.bool false)], args := [d1, d2, d3] }
  | _ => none }
def AimTrueWrongFalsely : Prop := aimTrueRow.holds Try.pinned (OpenSpec.ofChange aimTrueWrong)

/-- 'hangfirelaw03.AimBest': WHATEVER THE INPUT: true; the input reads as it did. -/
def aimBestSpec : ChangeSpec := { name := "aimBest", fn := fun _ => fun
  | [d1, d2] => { results := [.lit (.bool true)], args := [d1, d2] }
  | _ => none }
def aimBestRow : OpenClaim := { program := "ytkcahhbhfmdpmaa", sum := "cc51b315a8957d49d09fd9cb2c63dd6a3f840293f2d0b1b29ceed94a5d1b4563", func := "hangfire/hangfirelaw03.AimBest", spec := "aimBest", unfollowed := true, recurses := true, plainKeys := false, apart := false }
def AimBestSaid : Prop := aimBestRow.holds Try.pinned (OpenSpec.ofChange aimBestSpec)

/-- ITS FALSE NEIGHBOUR: 'it returns false'. Refute it at one input. -/
def aimBestWrong : ChangeSpec := { name := "aimBest", fn := fun _ => fun
  | [d1, d2] => { results := [.lit (.bool false)], args := [d1, d2] }
  | _ => none }
def AimBestWrongFalsely : Prop := aimBestRow.holds Try.pinned (OpenSpec.ofChange aimBestWrong)

/-- 'hangfirelaw03.AimProves': WHATEVER THE INPUT: true; the input reads as it did. -/
def aimProvesSpec : ChangeSpec := { name := "aimProves", fn := fun _ => fun
  | [d1, d2, d3] => { results := [.lit (.bool true)], args := [d1, d2, d3] }
  | _ => none }
def aimProvesRow : OpenClaim := { program := "ytkcahhbhfmdpmaa", sum := "cc51b315a8957d49d09fd9cb2c63dd6a3f840293f2d0b1b29ceed94a5d1b4563", func := "hangfire/hangfirelaw03.AimProves", spec := "aimProves", unfollowed := true, recurses := true, plainKeys := false, apart := false }
def AimProvesSaid : Prop := aimProvesRow.holds Try.pinned (OpenSpec.ofChange aimProvesSpec)

/-- ITS FALSE NEIGHBOUR: 'it returns false'. Refute it at one input. -/
def aimProvesWrong : ChangeSpec := { name := "aimProves", fn := fun _ => fun
  | [d1, d2, d3] => { results := [.lit (.bool false)], args := [d1, d2, d3] }
  | _ => none }
def AimProvesWrongFalsely : Prop := aimProvesRow.holds Try.pinned (OpenSpec.ofChange aimProvesWrong)

/-- 'hangfirelaw03.AimCovered': WHATEVER THE INPUT: true; the input reads as it did. -/
def aimCoveredSpec : ChangeSpec := { name := "aimCovered", fn := fun _ => fun
  | [d1, d2, d3] => { results := [.lit (.bool true)], args := [d1, d2, d3] }
  | _ => none }
def aimCoveredRow : OpenClaim := { program := "ytkcahhbhfmdpmaa", sum := "cc51b315a8957d49d09fd9cb2c63dd6a3f840293f2d0b1b29ceed94a5d1b4563", func := "hangfire/hangfirelaw03.AimCovered", spec := "aimCovered", unfollowed := true, recurses := true, plainKeys := false, apart := false }
def AimCoveredSaid : Prop := aimCoveredRow.holds Try.pinned (OpenSpec.ofChange aimCoveredSpec)

/-- ITS FALSE NEIGHBOUR: 'it returns false'. Refute it at one input. -/
def aimCoveredWrong : ChangeSpec := { name := "aimCovered", fn := fun _ => fun
  | [d1, d2, d3] => { results := [.lit (.bool false)], args := [d1, d2, d3] }
  | _ => none }
def AimCoveredWrongFalsely : Prop := aimCoveredRow.holds Try.pinned (OpenSpec.ofChange aimCoveredWrong)

/-- 'hangfirelaw03.AimPrefix': WHATEVER THE INPUT: true; the input reads as it did. -/
def aimPrefixSpec : ChangeSpec := { name := "aimPrefix", fn := fun _ => fun
  | [d1, d2] => { results := [.lit (.bool true)], args := [d1, d2] }
  | _ => none }
def aimPrefixRow : OpenClaim := { program := "ytkcahhbhfmdpmaa", sum := "cc51b315a8957d49d09fd9cb2c63dd6a3f840293f2d0b1b29ceed94a5d1b4563", func := "hangfire/hangfirelaw03.AimPrefix", spec := "aimPrefix", unfollowed := true, recurses := true, plainKeys := false, apart := false }
def AimPrefixSaid : Prop := aimPrefixRow.holds Try.pinned (OpenSpec.ofChange aimPrefixSpec)

/-- ITS FALSE NEIGHBOUR: 'it returns false'. Refute it at one input. -/
def aimPrefixWrong : ChangeSpec := { name := "aimPrefix", fn := fun _ => fun
  | [d1, d2] => { results := [.lit (.bool false)], args := [d1, d2] }
  | _ => none }
def AimPrefixWrongFalsely : Prop := aimPrefixRow.holds Try.pinned (OpenSpec.ofChange aimPrefixWrong)

/-- 'hangfirelaw03.AimUnknown': WHATEVER THE INPUT: true; the input reads as it did. -/
def aimUnknownSpec : ChangeSpec := { name := "aimUnknown", fn := fun _ => fun
  | [d1, d2, d3] => { results := [.lit (.bool true)], args := [d1, d2, d3] }
  | _ => none }
def aimUnknownRow : OpenClaim := { program := "ytkcahhbhfmdpmaa", sum := "cc51b315a8957d49d09fd9cb2c63dd6a3f840293f2d0b1b29ceed94a5d1b4563", func := "hangfire/hangfirelaw03.AimUnknown", spec := "aimUnknown", unfollowed := true, recurses := true, plainKeys := false, apart := false }
def AimUnknownSaid : Prop := aimUnknownRow.holds Try.pinned (OpenSpec.ofChange aimUnknownSpec)

/-- ITS FALSE NEIGHBOUR: 'it returns false'. Refute it at one input. -/
def aimUnknownWrong : ChangeSpec := { name := "aimUnknown", fn := fun _ => fun
  | [d1, d2, d3] => { results := [.lit (.bool false)], args := [d1, d2, d3] }
  | _ => none }
def AimUnknownWrongFalsely : Prop := aimUnknownRow.holds Try.pinned (OpenSpec.ofChange aimUnknownWrong)

/-- 'hangfirelaw03.AimHeld': WHATEVER THE INPUT: true; the input reads as it did. -/
def aimHeldSpec : ChangeSpec := { name := "aimHeld", fn := fun _ => fun
  | [d1, d2] => { results := [.lit (.bool true)], args := [d1, d2] }
  | _ => none }
def aimHeldRow : OpenClaim := { program := "ytkcahhbhfmdpmaa", sum := "cc51b315a8957d49d09fd9cb2c63dd6a3f840293f2d0b1b29ceed94a5d1b4563", func := "hangfire/hangfirelaw03.AimHeld", spec := "aimHeld", unfollowed := true, recurses := true, plainKeys := false, apart := false }
def AimHeldSaid : Prop := aimHeldRow.holds Try.pinned (OpenSpec.ofChange aimHeldSpec)

/-- ITS FALSE NEIGHBOUR: 'it returns false'. Refute it at one input. -/
def aimHeldWrong : ChangeSpec := { name := "aimHeld", fn := fun _ => fun
  | [d1, d2] => { results := [.lit (.bool false)], args := [d1, d2] }
  | _ => none }
def AimHeldWrongFalsely : Prop := aimHeldRow.holds Try.pinned (OpenSpec.ofChange aimHeldWrong)

/-- 'hangfirelaw03.AimInTime': WHATEVER THE INPUT: true; the input reads as it did. -/
def aimInTimeSpec : ChangeSpec := { name := "aimInTime", fn := fun _ => fun
  | [d1, d2] => { results := [.lit (.bool true)], args := [d1, d2] }
  | _ => none }
def aimInTimeRow : OpenClaim := { program := "ytkcahhbhfmdpmaa", sum := "cc51b315a8957d49d09fd9cb2c63dd6a3f840293f2d0b1b29ceed94a5d1b4563", func := "hangfire/hangfirelaw03.AimInTime", spec := "aimInTime", unfollowed := true, recurses := true, plainKeys := false, apart := false }
def AimInTimeSaid : Prop := aimInTimeRow.holds Try.pinned (OpenSpec.ofChange aimInTimeSpec)

/-- ITS FALSE NEIGHBOUR: 'it returns false'. Refute it at one input. -/
def aimInTimeWrong : ChangeSpec := { name := "aimInTime", fn := fun _ => fun
  | [d1, d2] => { results := [.lit (.bool false)], args := [d1, d2] }
  | _ => none }
def AimInTimeWrongFalsely : Prop := aimInTimeRow.holds Try.pinned (OpenSpec.ofChange aimInTimeWrong)

/-- 'hangfirelaw03.AimMoved': WHATEVER THE INPUT: true; the input reads as it did. -/
def aimMovedSpec : ChangeSpec := { name := "aimMoved", fn := fun _ => fun
  | [d1, d2, d3] => { results := [.lit (.bool true)], args := [d1, d2, d3] }
  | _ => none }
def aimMovedRow : OpenClaim := { program := "ytkcahhbhfmdpmaa", sum := "cc51b315a8957d49d09fd9cb2c63dd6a3f840293f2d0b1b29ceed94a5d1b4563", func := "hangfire/hangfirelaw03.AimMoved", spec := "aimMoved", unfollowed := true, recurses := true, plainKeys := false, apart := false }
def AimMovedSaid : Prop := aimMovedRow.holds Try.pinned (OpenSpec.ofChange aimMovedSpec)

/-- ITS FALSE NEIGHBOUR: 'it returns false'. Refute it at one input. -/
def aimMovedWrong : ChangeSpec := { name := "aimMoved", fn := fun _ => fun
  | [d1, d2, d3] => { results := [.lit (.bool false)], args := [d1, d2, d3] }
  | _ => none }
def AimMovedWrongFalsely : Prop := aimMovedRow.holds Try.pinned (OpenSpec.ofChange aimMovedWrong)

/- THE SECOND FORM. 'bulk': how many values and letters a reading holds, each counted each time it is reached (what is shared counts as often as it is met; a slice's spare places count too). A statement '..UptoSaid' is the law's where the arguments, and the package variables that the reading takes, are together of bulk at most 1048576: NARROWER than '..Said'. Prove '..Said' where nothing that the law and all that it calls make is longer than what came in: it says more and counts as full. Else prove '..UptoSaid'. A law counts once. -/
mutual
def uptoBulk {H : Type} : DataW H → Nat
  | .lit (.string bytes) => bytes.length + 1
  | .lit _ => 1
  | .nil => 1
  | .ptr d => uptoBulk d + 1
  | .slice elems spare => uptoBulkAll elems + uptoBulkAll spare + 1
  | .agg parts => uptoBulkAll parts + 1
  | .iface _ d => uptoBulk d + 1
  | .map entries => uptoBulkEntries entries + 1
  | .held _ => 1
def uptoBulkAll {H : Type} : List (DataW H) → Nat
  | [] => 0
  | d :: r => uptoBulk d + uptoBulkAll r
def uptoBulkEntries {H : Type} : List (Lit × DataW H) → Nat
  | [] => 0
  | x :: r => uptoBulkEntry x + uptoBulkEntries r
def uptoBulkEntry {H : Type} : Lit × DataW H → Nat
  | (.string bytes, d) => bytes.length + uptoBulk d + 1
  | (_, d) => uptoBulk d + 1
 end
def uptoSmall : (H : Type) → List (DataW H) → Bool := fun _ ds => decide (uptoBulkAll ds ≤ 1048576)
def OpenSpec.upto (s : _root_.Go.ChangeSpec) : _root_.Go.OpenSpec := { _root_.Go.OpenSpec.ofChange s with cond := some uptoSmall }

/-- 'hangfirelaw03.AimChecks', WHERE WHAT IT READS IS OF BULK AT MOST 1048576: true; the input reads as it did. -/
def aimChecksUptoRow : OpenClaim := { program := "ytkcahhbhfmdpmaa", sum := "cc51b315a8957d49d09fd9cb2c63dd6a3f840293f2d0b1b29ceed94a5d1b4563", func := "hangfire/hangfirelaw03.AimChecks", spec := "aimChecks", unfollowed := true, recurses := true, plainKeys := false, apart := false, narrowed := true }
def AimChecksUptoSaid : Prop := aimChecksUptoRow.holds Try.pinned (OpenSpec.upto aimChecksSpec)

/-- 'hangfirelaw03.AimKnown', WHERE WHAT IT READS IS OF BULK AT MOST 1048576: true; the input reads as it did. -/
def aimKnownUptoRow : OpenClaim := { program := "ytkcahhbhfmdpmaa", sum := "cc51b315a8957d49d09fd9cb2c63dd6a3f840293f2d0b1b29ceed94a5d1b4563", func := "hangfire/hangfirelaw03.AimKnown", spec := "aimKnown", unfollowed := true, recurses := true, plainKeys := false, apart := false, narrowed := true }
def AimKnownUptoSaid : Prop := aimKnownUptoRow.holds Try.pinned (OpenSpec.upto aimKnownSpec)

/-- 'hangfirelaw03.AimTrue', WHERE WHAT IT READS IS OF BULK AT MOST 1048576: true; the input reads as it did. -/
def aimTrueUptoRow : OpenClaim := { program := "ytkcahhbhfmdpmaa", sum := "cc51b315a8957d49d09fd9cb2c63dd6a3f840293f2d0b1b29ceed94a5d1b4563", func := "hangfire/hangfirelaw03.AimTrue", spec := "aimTrue", unfollowed := true, recurses := true, plainKeys := false, apart := false, narrowed := true }
def AimTrueUptoSaid : Prop := aimTrueUptoRow.holds Try.pinned (OpenSpec.upto aimTrueSpec)

/-- 'hangfirelaw03.AimBest', WHERE WHAT IT READS IS OF BULK AT MOST 1048576: true; the input reads as it did. -/
def aimBestUptoRow : OpenClaim := { program := "ytkcahhbhfmdpmaa", sum := "cc51b315a8957d49d09fd9cb2c63dd6a3f840293f2d0b1b29ceed94a5d1b4563", func := "hangfire/hangfirelaw03.AimBest", spec := "aimBest", unfollowed := true, recurses := true, plainKeys := false, apart := false, narrowed := true }
def AimBestUptoSaid : Prop := aimBestUptoRow.holds Try.pinned (OpenSpec.upto aimBestSpec)

/-- 'hangfirelaw03.AimProves', WHERE WHAT IT READS IS OF BULK AT MOST 1048576: true; the input reads as it did. -/
def aimProvesUptoRow : OpenClaim := { program := "ytkcahhbhfmdpmaa", sum := "cc51b315a8957d49d09fd9cb2c63dd6a3f840293f2d0b1b29ceed94a5d1b4563", func := "hangfire/hangfirelaw03.AimProves", spec := "aimProves", unfollowed := true, recurses := true, plainKeys := false, apart := false, narrowed := true }
def AimProvesUptoSaid : Prop := aimProvesUptoRow.holds Try.pinned (OpenSpec.upto aimProvesSpec)

/-- 'hangfirelaw03.AimCovered', WHERE WHAT IT READS IS OF BULK AT MOST 1048576: true; the input reads as it did. -/
def aimCoveredUptoRow : OpenClaim := { program := "ytkcahhbhfmdpmaa", sum := "cc51b315a8957d49d09fd9cb2c63dd6a3f840293f2d0b1b29ceed94a5d1b4563", func := "hangfire/hangfirelaw03.AimCovered", spec := "aimCovered", unfollowed := true, recurses := true, plainKeys := false, apart := false, narrowed := true }
def AimCoveredUptoSaid : Prop := aimCoveredUptoRow.holds Try.pinned (OpenSpec.upto aimCoveredSpec)

/-- 'hangfirelaw03.AimPrefix', WHERE WHAT IT READS IS OF BULK AT MOST 1048576: true; the input reads as it did. -/
def aimPrefixUptoRow : OpenClaim := { program := "ytkcahhbhfmdpmaa", sum := "cc51b315a8957d49d09fd9cb2c63dd6a3f840293f2d0b1b29ceed94a5d1b4563", func := "hangfire/hangfirelaw03.AimPrefix", spec := "aimPrefix", unfollowed := true, recurses := true, plainKeys := false, apart := false, narrowed := true }
def AimPrefixUptoSaid : Prop := aimPrefixUptoRow.holds Try.pinned (OpenSpec.upto aimPrefixSpec)

/-- 'hangfirelaw03.AimUnknown', WHERE WHAT IT READS IS OF BULK AT MOST 1048576: true; the input reads as it did. -/
def aimUnknownUptoRow : OpenClaim := { program := "ytkcahhbhfmdpmaa", sum := "cc51b315a8957d49d09fd9cb2c63dd6a3f840293f2d0b1b29ceed94a5d1b4563", func := "hangfire/hangfirelaw03.AimUnknown", spec := "aimUnknown", unfollowed := true, recurses := true, plainKeys := false, apart := false, narrowed := true }
def AimUnknownUptoSaid : Prop := aimUnknownUptoRow.holds Try.pinned (OpenSpec.upto aimUnknownSpec)

/-- 'hangfirelaw03.AimHeld', WHERE WHAT IT READS IS OF BULK AT MOST 1048576: true; the input reads as it did. -/
def aimHeldUptoRow : OpenClaim := { program := "ytkcahhbhfmdpmaa", sum := "cc51b315a8957d49d09fd9cb2c63dd6a3f840293f2d0b1b29ceed94a5d1b4563", func := "hangfire/hangfirelaw03.AimHeld", spec := "aimHeld", unfollowed := true, recurses := true, plainKeys := false, apart := false, narrowed := true }
def AimHeldUptoSaid : Prop := aimHeldUptoRow.holds Try.pinned (OpenSpec.upto aimHeldSpec)

/-- 'hangfirelaw03.AimInTime', WHERE WHAT IT READS IS OF BULK AT MOST 1048576: true; the input reads as it did. -/
def aimInTimeUptoRow : OpenClaim := { program := "ytkcahhbhfmdpmaa", sum := "cc51b315a8957d49d09fd9cb2c63dd6a3f840293f2d0b1b29ceed94a5d1b4563", func := "hangfire/hangfirelaw03.AimInTime", spec := "aimInTime", unfollowed := true, recurses := true, plainKeys := false, apart := false, narrowed := true }
def AimInTimeUptoSaid : Prop := aimInTimeUptoRow.holds Try.pinned (OpenSpec.upto aimInTimeSpec)

/-- 'hangfirelaw03.AimMoved', WHERE WHAT IT READS IS OF BULK AT MOST 1048576: true; the input reads as it did. -/
def aimMovedUptoRow : OpenClaim := { program := "ytkcahhbhfmdpmaa", sum := "cc51b315a8957d49d09fd9cb2c63dd6a3f840293f2d0b1b29ceed94a5d1b4563", func := "hangfire/hangfirelaw03.AimMoved", spec := "aimMoved", unfollowed := true, recurses := true, plainKeys := false, apart := false, narrowed := true }
def AimMovedUptoSaid : Prop := aimMovedUptoRow.holds Try.pinned (OpenSpec.upto aimMovedSpec)

end Rows
end Go.Proofs.Ytkcahhbhfmdpmaa
