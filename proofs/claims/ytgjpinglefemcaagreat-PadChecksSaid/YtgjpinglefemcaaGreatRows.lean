/-
  No cell of these rows narrows 'for every input' (looked for: loops, veiled, ifaces, maps, wideKeys, modest, calm, conditions, laid).
  DERIVED. THE GIVEN ROWS OF THIS SEAT. 17 by the template 'for every input the law returns true; each argument reads behind the call as it read before'; 0 by the template 'total and deterministic' (their statements: YtgjpinglefemcaaGreatTotals.lean).
  GIVEN WITH THE SEED: the statements are not yours to turn. If you find one false, say at which input.
  Laid BY PROGRAM, IN A SANDBOX (cutbox-rows.mjs): the forced cells as the released guide's own fill.sh prints them over the translation 7a20cd8202e6bbb7… (all of the seat's roots in one cut). By AI agents, Wed Nov 11 2026. No macro, syntax, notation, axiom, sorry.
-/
import Derived.Test.YtgjpinglefemcaaGreatChecked
import GoSem.Claim
import GoSem.ClaimJoined
import GoSem.ClaimMapViews
import Derived.JoinedTies
import Derived.KernelRfl
namespace Go.Proofs.YtgjpinglefemcaaGreat
/- THE CELL 'sum', in the pinned program and in every row, IS THE sha256 OF THE DUMP (.gsa) THAT YtgjpinglefemcaaGreatProg.lean LOADS. Nothing in Lean hashes anything: it is a label: what it is worth is what the hold of that sum in a sandbox is worth. -/
noncomputable def Tryz.pinned : Pinned := { name := "ytgjpinglefemcaagreat", sum := "7a20cd8202e6bbb796d5ac2b3b5053590331052a2b7c659a74a20cd2cc584e9f", checked := Tryz.checked }
namespace Rows
def none {H : Type} : Left H := { results := [], args := [] }

/-- 'hangfirelaw07.PadChecks': WHATEVER THE INPUT: true; the input reads as it did. -/
def padChecksSpec : ChangeSpec := { name := "padChecks", fn := fun _ => fun
  | [d] => { results := [.lit (.bool true)], args := [d] }
  | _ => none }
def padChecksRow : OpenClaim := { program := "ytgjpinglefemcaagreat", sum := "7a20cd8202e6bbb796d5ac2b3b5053590331052a2b7c659a74a20cd2cc584e9f", func := "hangfire/hangfirelaw07.PadChecks", spec := "padChecks", unfollowed := true, recurses := true, apart := false }
def PadChecksSaid : Prop := padChecksRow.holds Tryz.pinned (OpenSpec.ofChange padChecksSpec)

/-- ITS FALSE NEIGHBOUR: 'it returns false'. Refute it at one input. -/
def padChecksWrong : ChangeSpec := { name := "padChecks", fn := fun _ => fun
  | [d] => { results := [.lit (.bool false)], args := [d] }
  | _ => none }
def PadChecksWrongFalsely : Prop := padChecksRow.holds Tryz.pinned (OpenSpec.ofChange padChecksWrong)

/-- 'hangfirelaw07.PadNear': WHATEVER THE INPUT: true; the input reads as it did. -/
def padNearSpec : ChangeSpec := { name := "padNear", fn := fun _ => fun
  | [d1, d2, d3] => { results := [.lit (.bool true)], args := [d1, d2, d3] }
  | _ => none }
def padNearRow : OpenClaim := { program := "ytgjpinglefemcaagreat", sum := "7a20cd8202e6bbb796d5ac2b3b5053590331052a2b7c659a74a20cd2cc584e9f", func := "hangfire/hangfirelaw07.PadNear", spec := "padNear", unfollowed := true, recurses := true, apart := false }
def PadNearSaid : Prop := padNearRow.holds Tryz.pinned (OpenSpec.ofChange padNearSpec)

/-- ITS FALSE NEIGHBOUR: 'it returns false'. Refute it at one input. -/
def padNearWrong : ChangeSpec := { name := "padNear", fn := fun _ => fun
  | [d1, d2, d3] => { results := [.lit (.bool false)], args := [d1, d2, d3] }
  | _ => none }
def PadNearWrongFalsely : Prop := padNearRow.holds Tryz.pinned (OpenSpec.ofChange padNearWrong)

/-- 'hangfirelaw07.PadStates': WHATEVER THE INPUT: true; the input reads as it did. -/
def padStatesSpec : ChangeSpec := { name := "padStates", fn := fun _ => fun
  | [d1, d2] => { results := [.lit (.bool true)], args := [d1, d2] }
  | _ => none }
def padStatesRow : OpenClaim := { program := "ytgjpinglefemcaagreat", sum := "7a20cd8202e6bbb796d5ac2b3b5053590331052a2b7c659a74a20cd2cc584e9f", func := "hangfire/hangfirelaw07.PadStates", spec := "padStates", unfollowed := true, recurses := true, apart := false }
def PadStatesSaid : Prop := padStatesRow.holds Tryz.pinned (OpenSpec.ofChange padStatesSpec)

/-- ITS FALSE NEIGHBOUR: 'it returns false'. Refute it at one input. -/
def padStatesWrong : ChangeSpec := { name := "padStates", fn := fun _ => fun
  | [d1, d2] => { results := [.lit (.bool false)], args := [d1, d2] }
  | _ => none }
def PadStatesWrongFalsely : Prop := padStatesRow.holds Tryz.pinned (OpenSpec.ofChange padStatesWrong)

/-- 'hangfirelaw07.PadDoes': WHATEVER THE INPUT: true; the input reads as it did. -/
def padDoesSpec : ChangeSpec := { name := "padDoes", fn := fun _ => fun
  | [d1, d2, d3] => { results := [.lit (.bool true)], args := [d1, d2, d3] }
  | _ => none }
def padDoesRow : OpenClaim := { program := "ytgjpinglefemcaagreat", sum := "7a20cd8202e6bbb796d5ac2b3b5053590331052a2b7c659a74a20cd2cc584e9f", func := "hangfire/hangfirelaw07.PadDoes", spec := "padDoes", unfollowed := true, recurses := true, apart := false }
def PadDoesSaid : Prop := padDoesRow.holds Tryz.pinned (OpenSpec.ofChange padDoesSpec)

/-- ITS FALSE NEIGHBOUR: 'it returns false'. Refute it at one input. -/
def padDoesWrong : ChangeSpec := { name := "padDoes", fn := fun _ => fun
  | [d1, d2, d3] => { results := [.lit (.bool false)], args := [d1, d2, d3] }
  | _ => none }
def PadDoesWrongFalsely : Prop := padDoesRow.holds Tryz.pinned (OpenSpec.ofChange padDoesWrong)

/-- 'hangfirelaw07.PadPlays': WHATEVER THE INPUT: true; the input reads as it did. -/
def padPlaysSpec : ChangeSpec := { name := "padPlays", fn := fun _ => fun
  | [d1, d2, d3] => { results := [.lit (.bool true)], args := [d1, d2, d3] }
  | _ => none }
def padPlaysRow : OpenClaim := { program := "ytgjpinglefemcaagreat", sum := "7a20cd8202e6bbb796d5ac2b3b5053590331052a2b7c659a74a20cd2cc584e9f", func := "hangfire/hangfirelaw07.PadPlays", spec := "padPlays", unfollowed := true, recurses := true, apart := false }
def PadPlaysSaid : Prop := padPlaysRow.holds Tryz.pinned (OpenSpec.ofChange padPlaysSpec)

/-- ITS FALSE NEIGHBOUR: 'it returns false'. Refute it at one input. -/
def padPlaysWrong : ChangeSpec := { name := "padPlays", fn := fun _ => fun
  | [d1, d2, d3] => { results := [.lit (.bool false)], args := [d1, d2, d3] }
  | _ => none }
def PadPlaysWrongFalsely : Prop := padPlaysRow.holds Tryz.pinned (OpenSpec.ofChange padPlaysWrong)

/-- 'hangfirelaw07.PadAsks': WHATEVER THE INPUT: true; the input reads as it did. -/
def padAsksSpec : ChangeSpec := { name := "padAsks", fn := fun _ => fun
  | [d1, d2, d3] => { results := [.lit (.bool true)], args := [d1, d2, d3] }
  | _ => none }
def padAsksRow : OpenClaim := { program := "ytgjpinglefemcaagreat", sum := "7a20cd8202e6bbb796d5ac2b3b5053590331052a2b7c659a74a20cd2cc584e9f", func := "hangfire/hangfirelaw07.PadAsks", spec := "padAsks", unfollowed := true, recurses := true, apart := false }
def PadAsksSaid : Prop := padAsksRow.holds Tryz.pinned (OpenSpec.ofChange padAsksSpec)

/-- ITS FALSE NEIGHBOUR: 'it returns false'. Refute it at one input. -/
def padAsksWrong : ChangeSpec := { name := "padAsks", fn := fun _ => fun
  | [d1, d2, d3] => { results := [.lit (.bool false)], args := [d1, d2, d3] }
  | _ => none }
def PadAsksWrongFalsely : Prop := padAsksRow.holds Tryz.pinned (OpenSpec.ofChange padAsksWrong)

/-- 'hangfirelaw07.PadKnown': WHATEVER THE INPUT: true; the input reads as it did. -/
def padKnownSpec : ChangeSpec := { name := "padKnown", fn := fun _ => fun
  | [] => { results := [.lit (.bool true)], args := [] }
  | _ => none }
def padKnownRow : OpenClaim := { program := "ytgjpinglefemcaagreat", sum := "7a20cd8202e6bbb796d5ac2b3b5053590331052a2b7c659a74a20cd2cc584e9f", func := "hangfire/hangfirelaw07.PadKnown", spec := "padKnown", unfollowed := true, recurses := true, apart := false }
def PadKnownSaid : Prop := padKnownRow.holds Tryz.pinned (OpenSpec.ofChange padKnownSpec)

/-- ITS FALSE NEIGHBOUR: 'it returns false'. Refute it at one input. -/
def padKnownWrong : ChangeSpec := { name := "padKnown", fn := fun _ => fun
  | [] => { results := [.lit (.bool false)], args := [] }
  | _ => none }
def PadKnownWrongFalsely : Prop := padKnownRow.holds Tryz.pinned (OpenSpec.ofChange padKnownWrong)

/-- 'hangfirelaw07.PadNever': WHATEVER THE INPUT: true; the input reads as it did. -/
def padNeverSpec : ChangeSpec := { name := "padNever", fn := fun _ => fun
  | [d1, d2] => { results := [.lit (.bool true)], args := [d1, d2] }
  | _ => none }
def padNeverRow : OpenClaim := { program := "ytgjpinglefemcaagreat", sum := "7a20cd8202e6bbb796d5ac2b3b5053590331052a2b7c659a74a20cd2cc584e9f", func := "hangfire/hangfirelaw07.PadNever", spec := "padNever", unfollowed := true, recurses := true, apart := false }
def PadNeverSaid : Prop := padNeverRow.holds Tryz.pinned (OpenSpec.ofChange padNeverSpec)

/-- ITS FALSE NEIGHBOUR: 'it returns false'. Refute it at one input. -/
def padNeverWrong : ChangeSpec := { name := "padNever", fn := fun _ => fun
  | [d1, d2] => { results := [.lit (.bool false)], args := [d1, d2] }
  | _ => none }
def PadNeverWrongFalsely : Prop := padNeverRow.holds Tryz.pinned (OpenSpec.ofChange padNeverWrong)

/-- 'hangfirelaw07.PadSound': WHATEVER THE INPUT: true; the input reads as it did. -/
def padSoundSpec : ChangeSpec := { name := "padSound", fn := fun _ => fun
  | [d1, d2, d3] => { results := [.lit (.bool true)], args := [d1, d2, d3] }
  | _ => none }
def padSoundRow : OpenClaim := { program := "ytgjpinglefemcaagreat", sum := "7a20cd8202e6bbb796d5ac2b3b5053590331052a2b7c659a74a20cd2cc584e9f", func := "hangfire/hangfirelaw07.PadSound", spec := "padSound", unfollowed := true, recurses := true, apart := false }
def PadSoundSaid : Prop := padSoundRow.holds Tryz.pinned (OpenSpec.ofChange padSoundSpec)

/-- ITS FALSE NEIGHBOUR: 'it returns false'. Refute it at one input. -/
def padSoundWrong : ChangeSpec := { name := "padSound", fn := fun _ => fun
  | [d1, d2, d3] => { results := [.lit (.bool false)], args := [d1, d2, d3] }
  | _ => none }
def PadSoundWrongFalsely : Prop := padSoundRow.holds Tryz.pinned (OpenSpec.ofChange padSoundWrong)

/-- 'hangfirelaw07.PadKeyed': WHATEVER THE INPUT: true; the input reads as it did. -/
def padKeyedSpec : ChangeSpec := { name := "padKeyed", fn := fun _ => fun
  | [d1, d2, d3] => { results := [.lit (.bool true)], args := [d1, d2, d3] }
  | _ => none }
def padKeyedRow : OpenClaim := { program := "ytgjpinglefemcaagreat", sum := "7a20cd8202e6bbb796d5ac2b3b5053590331052a2b7c659a74a20cd2cc584e9f", func := "hangfire/hangfirelaw07.PadKeyed", spec := "padKeyed", unfollowed := true, recurses := true, apart := false }
def PadKeyedSaid : Prop := padKeyedRow.holds Tryz.pinned (OpenSpec.ofChange padKeyedSpec)

/-- ITS FALSE NEIGHBOUR: 'it returns false'. Refute it at one input. -/
def padKeyedWrong : ChangeSpec := { name := "padKeyed", fn := fun _ => fun
  | [d1, d2, d3] => { results := [.lit (.bool false)], args := [d1, d2, d3] }
  | _ => none }
def PadKeyedWrongFalsely : Prop := padKeyedRow.holds Tryz.pinned (OpenSpec.ofChange padKeyedWrong)

/-- 'hangfirelaw07.PadMoves': WHATEVER THE INPUT: true; the input reads as it did. -/
def padMovesSpec : ChangeSpec := { name := "padMoves", fn := fun _ => fun
  | [d1, d2, d3] => { results := [.lit (.bool true)], args := [d1, d2, d3] }
  | _ => none }
def padMovesRow : OpenClaim := { program := "ytgjpinglefemcaagreat", sum := "7a20cd8202e6bbb796d5ac2b3b5053590331052a2b7c659a74a20cd2cc584e9f", func := "hangfire/hangfirelaw07.PadMoves", spec := "padMoves", unfollowed := true, recurses := true, apart := false }
def PadMovesSaid : Prop := padMovesRow.holds Tryz.pinned (OpenSpec.ofChange padMovesSpec)

/-- ITS FALSE NEIGHBOUR: 'it returns false'. Refute it at one input. -/
def padMovesWrong : ChangeSpec := { name := "padMoves", fn := fun _ => fun
  | [d1, d2, d3] => { results := [.lit (.bool false)], args := [d1, d2, d3] }
  | _ => none }
def PadMovesWrongFalsely : Prop := padMovesRow.holds Tryz.pinned (OpenSpec.ofChange padMovesWrong)

/-- 'hangfirelaw07.PadPrefix': WHATEVER THE INPUT: true; the input reads as it did. -/
def padPrefixSpec : ChangeSpec := { name := "padPrefix", fn := fun _ => fun
  | [d1, d2, d3] => { results := [.lit (.bool true)], args := [d1, d2, d3] }
  | _ => none }
def padPrefixRow : OpenClaim := { program := "ytgjpinglefemcaagreat", sum := "7a20cd8202e6bbb796d5ac2b3b5053590331052a2b7c659a74a20cd2cc584e9f", func := "hangfire/hangfirelaw07.PadPrefix", spec := "padPrefix", unfollowed := true, recurses := true, apart := false }
def PadPrefixSaid : Prop := padPrefixRow.holds Tryz.pinned (OpenSpec.ofChange padPrefixSpec)

/-- ITS FALSE NEIGHBOUR: 'it returns false'. Refute it at one input. -/
def padPrefixWrong : ChangeSpec := { name := "padPrefix", fn := fun _ => fun
  | [d1, d2, d3] => { results := [.lit (.bool false)], args := [d1, d2, d3] }
  | _ => none }
def PadPrefixWrongFalsely : Prop := padPrefixRow.holds Tryz.pinned (OpenSpec.ofChange padPrefixWrong)

/-- 'hangfirelaw07.PadWithout': WHATEVER THE INPUT: true; the input reads as it did. -/
def padWithoutSpec : ChangeSpec := { name := "padWithout", fn := fun _ => fun
  | [d1, d2, d3] => { results := [.lit (.bool true)], args := [d1, d2, d3] }
  | _ => none }
def padWithoutRow : OpenClaim := { program := "ytgjpinglefemcaagreat", sum := "7a20cd8202e6bbb796d5ac2b3b5053590331052a2b7c659a74a20cd2cc584e9f", func := "hangfire/hangfirelaw07.PadWithout", spec := "padWithout", unfollowed := true, recurses := true, apart := false }
def PadWithoutSaid : Prop := padWithoutRow.holds Tryz.pinned (OpenSpec.ofChange padWithoutSpec)

/-- ITS FALSE NEIGHBOUR: 'it returns false'. Refute it at one input. -/
def padWithoutWrong : ChangeSpec := { name := "padWithout", fn := fun _ => fun
  | [d1, d2, d3] => { results := [.lit (.bool false)], args := [d1, d2, d3] }
  | _ => none }
def PadWithoutWrongFalsely : Prop := padWithoutRow.holds Tryz.pinned (OpenSpec.ofChange padWithoutWrong)

/-- 'hangfirelaw07.PadClear': WHATEVER THE INPUT: true; the input reads as it did. -/
def padClearSpec : ChangeSpec := { name := "padClear", fn := fun _ => fun
  | [d1, d2, d3] => { results := [.lit (.bool true)], args := [d1, d2, d3] }
  | _ => none }
def padClearRow : OpenClaim := { program := "ytgjpinglefemcaagreat", sum := "7a20cd8202e6bbb796d5ac2b3b5053590331052a2b7c659a74a20cd2cc584e9f", func := "hangfire/hangfirelaw07.PadClear", spec := "padClear", unfollowed := true, recurses := true, apart := false }
def PadClearSaid : Prop := padClearRow.holds Tryz.pinned (OpenSpec.ofChange padClearSpec)

/-- ITS FALSE NEIGHBOUR: 'it returns false'. Refute it at one input. -/
def padClearWrong : ChangeSpec := { name := "padClear", fn := fun _ => fun
  | [d1, d2, d3] => { results := [.lit (.bool false)], args := [d1, d2, d3] }
  | _ => none }
def PadClearWrongFalsely : Prop := padClearRow.holds Tryz.pinned (OpenSpec.ofChange padClearWrong)

/-- 'hangfirelaw07.PadStorms': WHATEVER THE INPUT: true; the input reads as it did. -/
def padStormsSpec : ChangeSpec := { name := "padStorms", fn := fun _ => fun
  | [d1, d2, d3] => { results := [.lit (.bool true)], args := [d1, d2, d3] }
  | _ => none }
def padStormsRow : OpenClaim := { program := "ytgjpinglefemcaagreat", sum := "7a20cd8202e6bbb796d5ac2b3b5053590331052a2b7c659a74a20cd2cc584e9f", func := "hangfire/hangfirelaw07.PadStorms", spec := "padStorms", unfollowed := true, recurses := true, apart := false }
def PadStormsSaid : Prop := padStormsRow.holds Tryz.pinned (OpenSpec.ofChange padStormsSpec)

/-- ITS FALSE NEIGHBOUR: 'it returns false'. Refute it at one input. -/
def padStormsWrong : ChangeSpec := { name := "padStorms", fn := fun _ => fun
  | [d1, d2, d3] => { results := [.lit (.bool false)], args := [d1, d2, d3] }
  | _ => none }
def PadStormsWrongFalsely : Prop := padStormsRow.holds Tryz.pinned (OpenSpec.ofChange padStormsWrong)

/-- 'hangfirelaw07.PadCloser': WHATEVER THE INPUT: true; the input reads as it did. -/
def padCloserSpec : ChangeSpec := { name := "padCloser", fn := fun _ => fun
  | [d1, d2, d3] => { results := [.lit (.bool true)], args := [d1, d2, d3] }
  | _ => none }
def padCloserRow : OpenClaim := { program := "ytgjpinglefemcaagreat", sum := "7a20cd8202e6bbb796d5ac2b3b5053590331052a2b7c659a74a20cd2cc584e9f", func := "hangfire/hangfirelaw07.PadCloser", spec := "padCloser", unfollowed := true, recurses := true, apart := false }
def PadCloserSaid : Prop := padCloserRow.holds Tryz.pinned (OpenSpec.ofChange padCloserSpec)

/-- ITS FALSE NEIGHBOUR: 'it returns false'. Refute it at one input. -/
def padCloserWrong : ChangeSpec := { name := "padCloser", fn := fun _ => fun
  | [d1, d2, d3] => { results := [.lit (.bool false)], args := [d1, d2, d3] }
  | _ => none }
def PadCloserWrongFalsely : Prop := padCloserRow.holds Tryz.pinned (OpenSpec.ofChange padCloserWrong)

/-- 'hangfirelaw07.PadMay': WHATEVER THE INPUT: true; the input reads as it did. -/
def padMaySpec : ChangeSpec := { name := "padMay", fn := fun _ => fun
  | [d1, d2, d3] => { results := [.lit (.bool true)], args := [d1, d2, d3] }
  | _ => none }
def padMayRow : OpenClaim := { program := "ytgjpinglefemcaagreat", sum := "7a20cd8202e6bbb796d5ac2b3b5053590331052a2b7c659a74a20cd2cc584e9f", func := "hangfire/hangfirelaw07.PadMay", spec := "padMay", unfollowed := true, recurses := true, apart := false }
def PadMaySaid : Prop := padMayRow.holds Tryz.pinned (OpenSpec.ofChange padMaySpec)

/-- ITS FALSE NEIGHBOUR: 'it returns false'. Refute it at one input. -/
def padMayWrong : ChangeSpec := { name := "padMay", fn := fun _ => fun
  | [d1, d2, d3] => { results := [.lit (.bool false)], args := [d1, d2, d3] }
  | _ => none }
def PadMayWrongFalsely : Prop := padMayRow.holds Tryz.pinned (OpenSpec.ofChange padMayWrong)

/- THE SECOND FORM. 'bulk': how many values and letters a reading holds, each counted each time it is reached (what is shared counts as often as it is met; a slice's spare places count too). A statement '..UptoSaid' is the law's where the arguments, and the package variables that the reading takes, are together of bulk at most 1048576: NARROWER than '..Said'. Prove '..Said' where nothing that the law and all that it calls make is longer than what came in: it says more and counts as full. Else prove '..UptoSaid'. A law counts once. -/
mutual
def uptoBulk {H : Type} : DataW H → Nat
  | .lit (.string bytes) => bytes.length + 1
  | .lit _ => 1
  | .nil => 1
  | .ptr d => uptoBulk d + 1
  | .slice elems spare => uptoBulkAll elems + uptoBulkAll spare + 1
  | .agg parts => uptoBulkAll parts + 1
  | .iface _ d => uptoBulk d + 1
  | .map entries => uptoBulkEntries entries + 1
  | .held _ => 1
def uptoBulkAll {H : Type} : List (DataW H) → Nat
  | [] => 0
  | d :: r => uptoBulk d + uptoBulkAll r
def uptoBulkEntries {H : Type} : List (Lit × DataW H) → Nat
  | [] => 0
  | x :: r => uptoBulkEntry x + uptoBulkEntries r
def uptoBulkEntry {H : Type} : Lit × DataW H → Nat
  | (.string bytes, d) => bytes.length + uptoBulk d + 1
  | (_, d) => uptoBulk d + 1
 end
def uptoSmall : (H : Type) → List (DataW H) → Bool := fun _ ds => decide (uptoBulkAll ds ≤ 1048576)
def OpenSpec.upto (s : _root_.Go.ChangeSpec) : _root_.Go.OpenSpec := { _root_.Go.OpenSpec.ofChange s with cond := some uptoSmall }

/-- 'hangfirelaw07.PadChecks', WHERE WHAT IT READS IS OF BULK AT MOST 1048576: true; the input reads as it did. -/
def padChecksUptoRow : OpenClaim := { program := "ytgjpinglefemcaagreat", sum := "7a20cd8202e6bbb796d5ac2b3b5053590331052a2b7c659a74a20cd2cc584e9f", func := "hangfire/hangfirelaw07.PadChecks", spec := "padChecks", unfollowed := true, recurses := true, apart := false, narrowed := true }
def PadChecksUptoSaid : Prop := padChecksUptoRow.holds Tryz.pinned (OpenSpec.upto padChecksSpec)

/-- 'hangfirelaw07.PadNear', WHERE WHAT IT READS IS OF BULK AT MOST 1048576: true; the input reads as it did. -/
def padNearUptoRow : OpenClaim := { program := "ytgjpinglefemcaagreat", sum := "7a20cd8202e6bbb796d5ac2b3b5053590331052a2b7c659a74a20cd2cc584e9f", func := "hangfire/hangfirelaw07.PadNear", spec := "padNear", unfollowed := true, recurses := true, apart := false, narrowed := true }
def PadNearUptoSaid : Prop := padNearUptoRow.holds Tryz.pinned (OpenSpec.upto padNearSpec)

/-- 'hangfirelaw07.PadStates', WHERE WHAT IT READS IS OF BULK AT MOST 1048576: true; the input reads as it did. -/
def padStatesUptoRow : OpenClaim := { program := "ytgjpinglefemcaagreat", sum := "7a20cd8202e6bbb796d5ac2b3b5053590331052a2b7c659a74a20cd2cc584e9f", func := "hangfire/hangfirelaw07.PadStates", spec := "padStates", unfollowed := true, recurses := true, apart := false, narrowed := true }
def PadStatesUptoSaid : Prop := padStatesUptoRow.holds Tryz.pinned (OpenSpec.upto padStatesSpec)

/-- 'hangfirelaw07.PadDoes', WHERE WHAT IT READS IS OF BULK AT MOST 1048576: true; the input reads as it did. -/
def padDoesUptoRow : OpenClaim := { program := "ytgjpinglefemcaagreat", sum := "7a20cd8202e6bbb796d5ac2b3b5053590331052a2b7c659a74a20cd2cc584e9f", func := "hangfire/hangfirelaw07.PadDoes", spec := "padDoes", unfollowed := true, recurses := true, apart := false, narrowed := true }
def PadDoesUptoSaid : Prop := padDoesUptoRow.holds Tryz.pinned (OpenSpec.upto padDoesSpec)

/-- 'hangfirelaw07.PadPlays', WHERE WHAT IT READS IS OF BULK AT MOST 1048576: true; the input reads as it did. -/
def padPlaysUptoRow : OpenClaim := { program := "ytgjpinglefemcaagreat", sum := "7a20cd8202e6bbb796d5ac2b3b5053590331052a2b7c659a74a20cd2cc584e9f", func := "hangfire/hangfirelaw07.PadPlays", spec := "padPlays", unfollowed := true, recurses := true, apart := false, narrowed := true }
def PadPlaysUptoSaid : Prop := padPlaysUptoRow.holds Tryz.pinned (OpenSpec.upto padPlaysSpec)

/-- 'hangfirelaw07.PadAsks', WHERE WHAT IT READS IS OF BULK AT MOST 1048576: true; the input reads as it did. -/
def padAsksUptoRow : OpenClaim := { program := "ytgjpinglefemcaagreat", sum := "7a20cd8202e6bbb796d5ac2b3b5053590331052a2b7c659a74a20cd2cc584e9f", func := "hangfire/hangfirelaw07.PadAsks", spec := "padAsks", unfollowed := true, recurses := true, apart := false, narrowed := true }
def PadAsksUptoSaid : Prop := padAsksUptoRow.holds Tryz.pinned (OpenSpec.upto padAsksSpec)

/-- 'hangfirelaw07.PadKnown', WHERE WHAT IT READS IS OF BULK AT MOST 1048576: true; the input reads as it did. -/
def padKnownUptoRow : OpenClaim := { program := "ytgjpinglefemcaagreat", sum := "7a20cd8202e6bbb796d5ac2b3b5053590331052a2b7c659a74a20cd2cc584e9f", func := "hangfire/hangfirelaw07.PadKnown", spec := "padKnown", unfollowed := true, recurses := true, apart := false, narrowed := true }
def PadKnownUptoSaid : Prop := padKnownUptoRow.holds Tryz.pinned (OpenSpec.upto padKnownSpec)

/-- 'hangfirelaw07.PadNever', WHERE WHAT IT READS IS OF BULK AT MOST 1048576: true; the input reads as it did. -/
def padNeverUptoRow : OpenClaim := { program := "ytgjpinglefemcaagreat", sum := "7a20cd8202e6bbb796d5ac2b3b5053590331052a2b7c659a74a20cd2cc584e9f", func := "hangfire/hangfirelaw07.PadNever", spec := "padNever", unfollowed := true, recurses := true, apart := false, narrowed := true }
def PadNeverUptoSaid : Prop := padNeverUptoRow.holds Tryz.pinned (OpenSpec.upto padNeverSpec)

/-- 'hangfirelaw07.PadSound', WHERE WHAT IT READS IS OF BULK AT MOST 1048576: true; the input reads as it did. -/
def padSoundUptoRow : OpenClaim := { program := "ytgjpinglefemcaagreat", sum := "7a20cd8202e6bbb796d5ac2b3b5053590331052a2b7c659a74a20cd2cc584e9f", func := "hangfire/hangfirelaw07.PadSound", spec := "padSound", unfollowed := true, recurses := true, apart := false, narrowed := true }
def PadSoundUptoSaid : Prop := padSoundUptoRow.holds Tryz.pinned (OpenSpec.upto padSoundSpec)

/-- 'hangfirelaw07.PadKeyed', WHERE WHAT IT READS IS OF BULK AT MOST 1048576: true; the input reads as it did. -/
def padKeyedUptoRow : OpenClaim := { program := "ytgjpinglefemcaagreat", sum := "7a20cd8202e6bbb796d5ac2b3b5053590331052a2b7c659a74a20cd2cc584e9f", func := "hangfire/hangfirelaw07.PadKeyed", spec := "padKeyed", unfollowed := true, recurses := true, apart := false, narrowed := true }
def PadKeyedUptoSaid : Prop := padKeyedUptoRow.holds Tryz.pinned (OpenSpec.upto padKeyedSpec)

/-- 'hangfirelaw07.PadMoves', WHERE WHAT IT READS IS OF BULK AT MOST 1048576: true; the input reads as it did. -/
def padMovesUptoRow : OpenClaim := { program := "ytgjpinglefemcaagreat", sum := "7a20cd8202e6bbb796d5ac2b3b5053590331052a2b7c659a74a20cd2cc584e9f", func := "hangfire/hangfirelaw07.PadMoves", spec := "padMoves", unfollowed := true, recurses := true, apart := false, narrowed := true }
def PadMovesUptoSaid : Prop := padMovesUptoRow.holds Tryz.pinned (OpenSpec.upto padMovesSpec)

/-- 'hangfirelaw07.PadPrefix', WHERE WHAT IT READS IS OF BULK AT MOST 1048576: true; the input reads as it did. -/
def padPrefixUptoRow : OpenClaim := { program := "ytgjpinglefemcaagreat", sum := "7a20cd8202e6bbb796d5ac2b3b5053590331052a2b7c659a74a20cd2cc584e9f", func := "hangfire/hangfirelaw07.PadPrefix", spec := "padPrefix", unfollowed := true, recurses := true, apart := false, narrowed := true }
def PadPrefixUptoSaid : Prop := padPrefixUptoRow.holds Tryz.pinned (OpenSpec.upto padPrefixSpec)

/-- 'hangfirelaw07.PadWithout', WHERE WHAT IT READS IS OF BULK AT MOST 1048576: true; the input reads as it did. -/
def padWithoutUptoRow : OpenClaim := { program := "ytgjpinglefemcaagreat", sum := "7a20cd8202e6bbb796d5ac2b3b5053590331052a2b7c659a74a20cd2cc584e9f", func := "hangfire/hangfirelaw07.PadWithout", spec := "padWithout", unfollowed := true, recurses := true, apart := false, narrowed := true }
def PadWithoutUptoSaid : Prop := padWithoutUptoRow.holds Tryz.pinned (OpenSpec.upto padWithoutSpec)

/-- 'hangfirelaw07.PadClear', WHERE WHAT IT READS IS OF BULK AT MOST 1048576: true; the input reads as it did. -/
def padClearUptoRow : OpenClaim := { program := "ytgjpinglefemcaagreat", sum := "7a20cd8202e6bbb796d5ac2b3b5053590331052a2b7c659a74a20cd2cc584e9f", func := "hangfire/hangfirelaw07.PadClear", spec := "padClear", unfollowed := true, recurses := true, apart := false, narrowed := true }
def PadClearUptoSaid : Prop := padClearUptoRow.holds Tryz.pinned (OpenSpec.upto padClearSpec)

/-- 'hangfirelaw07.PadStorms', WHERE WHAT IT READS IS OF BULK AT MOST 1048576: true; the input reads as it did. -/
def padStormsUptoRow : OpenClaim := { program := "ytgjpinglefemcaagreat", sum := "7a20cd8202e6bbb796d5ac2b3b5053590331052a2b7c659a74a20cd2cc584e9f", func := "hangfire/hangfirelaw07.PadStorms", spec := "padStorms", unfollowed := true, recurses := true, apart := false, narrowed := true }
def PadStormsUptoSaid : Prop := padStormsUptoRow.holds Tryz.pinned (OpenSpec.upto padStormsSpec)

/-- 'hangfirelaw07.PadCloser', WHERE WHAT IT READS IS OF BULK AT MOST 1048576: true; the input reads as it did. -/
def padCloserUptoRow : OpenClaim := { program := "ytgjpinglefemcaagreat", sum := "7a20cd8202e6bbb796d5ac2b3b5053590331052a2b7c659a74a20cd2cc584e9f", func := "hangfire/hangfirelaw07.PadCloser", spec := "padCloser", unfollowed := true, recurses := true, apart := false, narrowed := true }
def PadCloserUptoSaid : Prop := padCloserUptoRow.holds Tryz.pinned (OpenSpec.upto padCloserSpec)

/-- 'hangfirelaw07.PadMay', WHERE WHAT IT READS IS OF BULK AT MOST 1048576: true; the input reads as it did. -/
def padMayUptoRow : OpenClaim := { program := "ytgjpinglefemcaagreat", sum := "7a20cd8202e6bbb796d5ac2b3b5053590331052a2b7c659a74a20cd2cc584e9f", func := "hangfire/hangfirelaw07.PadMay", spec := "padMay", unfollowed := true, recurses := true, apart := false, narrowed := true }
def PadMayUptoSaid : Prop := padMayUptoRow.holds Tryz.pinned (OpenSpec.upto padMaySpec)

end Rows
end Go.Proofs.YtgjpinglefemcaaGreat
