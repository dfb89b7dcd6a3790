/-
  No cell of these rows narrows 'for every input' (looked for: loops, veiled, ifaces, maps, wideKeys, modest, calm, conditions, laid).
  DERIVED. THE GIVEN ROWS OF THIS SEAT. 5 by the template 'for every input the law returns true; each argument reads behind the call as it read before'; 0 by the template 'total and deterministic' (their statements: YtkcahhbhfmdpmaaGreatTotals.lean).
  GIVEN WITH THE SEED: the statements are not yours to turn. If you find one false, say at which input.
  Laid BY PROGRAM, IN A SANDBOX (cutbox-rows.mjs): the forced cells as the released guide's own fill.sh prints them over the translation 0c2f637657528e20… (all of the seat's roots in one cut). By AI agents, Wed Nov 11 2026. No macro, syntax, notation, axiom, sorry.
-/
import Derived.Test.YtkcahhbhfmdpmaaGreatChecked
import GoSem.Claim
import GoSem.ClaimJoined
import GoSem.ClaimMapViews
import Derived.JoinedTies
import Derived.KernelRfl
namespace Go.Proofs.YtkcahhbhfmdpmaaGreat
/- THE CELL 'sum', in the pinned program and in every row, IS THE sha256 OF THE DUMP (.gsa) THAT YtkcahhbhfmdpmaaGreatProg.lean LOADS. Nothing in Lean hashes anything: it is a label: what it is worth is what the hold of that sum in a sandbox is worth. -/
noncomputable def Tryz.pinned : Pinned := { name := "ytkcahhbhfmdpmaagreat", sum := "0c2f637657528e2070f6efca210a16bb3ad79cd003cb3165c1fbc3c51432d218", checked := Tryz.checked }
namespace Rows
def none {H : Type} : Left H := { results := [], args := [] }

/-- 'hangfirelaw03.AimWeighs': WHATEVER THE INPUT: true; the input reads as it did. -/
def aimWeighsSpec : ChangeSpec := { name := "aimWeighs", fn := fun _ => fun
  | [d1, d2, d3] => { results := [.lit (.bool true)], args := [d1, d2, d3] }
  | _ => none }
def aimWeighsRow : OpenClaim := { program := "ytkcahhbhfmdpmaagreat", sum := "0c2f637657528e2070f6efca210a16bb3ad79cd003cb3165c1fbc3c51432d218", func := "hangfire/hangfirelaw03.AimWeighs", spec := "aimWeighs", unfollowed := true, recurses := true, plainKeys := false, apart := false }
def AimWeighsSaid : Prop := aimWeighsRow.holds Tryz.pinned (OpenSpec.ofChange aimWeighsSpec)

/-- ITS FALSE NEIGHBOUR: 'it returns false'. Refute it at one input. -/
def aimWeighsWrong : ChangeSpec := { name := "aimWeighs", fn := fun _ => fun
  | [d1, d2, d3] => { results := [.lit (.bool false)], args := [d1, d2, d3] }
  | _ => none }
def AimWeighsWrongFalsely : Prop := aimWeighsRow.holds Tryz.pinned (OpenSpec.ofChange aimWeighsWrong)

/-- 'hangfirelaw03.AimAsks': WHATEVER THE INPUT: true; the input reads as it did. -/
def aimAsksSpec : ChangeSpec := { name := "aimAsks", fn := fun _ => fun
  | [d1, d2, d3] => { results := [.lit (.bool true)], args := [d1, d2, d3] }
  | _ => none }
def aimAsksRow : OpenClaim := { program := "ytkcahhbhfmdpmaagreat", sum := "0c2f637657528e2070f6efca210a16bb3ad79cd003cb3165c1fbc3c51432d218", func := "hangfire/hangfirelaw03.AimAsks", spec := "aimAsks", unfollowed := true, recurses := true, plainKeys := false, apart := false }
def AimAsksSaid : Prop := aimAsksRow.holds Tryz.pinned (OpenSpec.ofChange aimAsksSpec)

/-- ITS FALSE NEIGHBOUR: 'it returns false'. Refute it at one input. -/
def aimAsksWrong : ChangeSpec := { name := "aimAsks", fn := fun _ => fun
  | [d1, d2, d3] => { results := [.lit (.bool false)], args := [d1, d2, d3] }
  | _ => none }
def AimAsksWrongFalsely : Prop := aimAsksRow.holds Tryz.pinned (OpenSpec.ofChange aimAsksWrong)

/-- 'hangfirelaw03.AimBests': WHATEVER THE INPUT: true; the input reads as it did. -/
def aimBestsSpec : ChangeSpec := { name := "aimBests", fn := fun _ => fun
  | [d1, d2] => { results := [.lit (.bool true)], args := [d1, d2] }
  | _ => none }
def aimBestsRow : OpenClaim := { program := "ytkcahhbhfmdpmaagreat", sum := "0c2f637657528e2070f6efca210a16bb3ad79cd003cb3165c1fbc3c51432d218", func := "hangfire/hangfirelaw03.AimBests", spec := "aimBests", unfollowed := true, recurses := true, plainKeys := false, apart := false }
def AimBestsSaid : Prop := aimBestsRow.holds Tryz.pinned (OpenSpec.ofChange aimBestsSpec)

/-- ITS FALSE NEIGHBOUR: 'it returns false'. Refute it at one input. -/
def aimBestsWrong : ChangeSpec := { name := "aimBests", fn := fun _ => fun
  | [d1, d2] => { results := [.lit (.bool false)], args := [d1, d2] }
  | _ => none }
def AimBestsWrongFalsely : Prop := aimBestsRow.holds Tryz.pinned (OpenSpec.ofChange aimBestsWrong)

/-- 'hangfirelaw03.AimAccepts': WHATEVER THE INPUT: true; the input reads as it did. -/
def aimAcceptsSpec : ChangeSpec := { name := "aimAccepts", fn := fun _ => fun
  | [d1, d2, d3] => { results := [.lit (.bool true)], args := [d1, d2, d3] }
  | _ => none }
def aimAcceptsRow : OpenClaim := { program := "ytkcahhbhfmdpmaagreat", sum := "0c2f637657528e2070f6efca210a16bb3ad79cd003cb3165c1fbc3c51432d218", func := "hangfire/hangfirelaw03.AimAccepts", spec := "aimAccepts", unfollowed := true, recurses := true, plainKeys := false, apart := false }
def AimAcceptsSaid : Prop := aimAcceptsRow.holds Tryz.pinned (OpenSpec.ofChange aimAcceptsSpec)

/-- ITS FALSE NEIGHBOUR: 'it returns false'. Refute it at one input. -/
def aimAcceptsWrong : ChangeSpec := { name := "aimAccepts", fn := fun _ => fun
  | [d1, d2, d3] => { results := [.lit (.bool false)], args := [d1, d2, d3] }
  | _ => none }
def AimAcceptsWrongFalsely : Prop := aimAcceptsRow.holds Tryz.pinned (OpenSpec.ofChange aimAcceptsWrong)

/-- 'hangfirelaw03.AimRounds': WHATEVER THE INPUT: true; the input reads as it did. -/
def aimRoundsSpec : ChangeSpec := { name := "aimRounds", fn := fun _ => fun
  | [d1, d2] => { results := [.lit (.bool true)], args := [d1, d2] }
  | _ => none }
def aimRoundsRow : OpenClaim := { program := "ytkcahhbhfmdpmaagreat", sum := "0c2f637657528e2070f6efca210a16bb3ad79cd003cb3165c1fbc3c51432d218", func := "hangfire/hangfirelaw03.AimRounds", spec := "aimRounds", unfollowed := true, recurses := true, plainKeys := false, apart := false }
def AimRoundsSaid : Prop := aimRoundsRow.holds Tryz.pinned (OpenSpec.ofChange aimRoundsSpec)

/-- ITS FALSE NEIGHBOUR: 'it returns false'. Refute it at one input. -/
def aimRoundsWrong : ChangeSpec := { name := "aimRounds", fn := fun _ => fun
  | [d1, d2] => { results := [.lit (.bool false)], args := [d1, d2] }
  | _ => none }
def AimRoundsWrongFalsely : Prop := aimRoundsRow.holds Tryz.pinned (OpenSpec.ofChange aimRoundsWrong)

/- THE SECOND FORM. 'bulk': how many values and letters a reading holds, each counted each time it is reached (what is shared counts as often as it is met; a slice's spare places count too). A statement '..UptoSaid' is the law's where the arguments, and the package variables that the reading takes, are together of bulk at most 1048576: NARROWER than '..Said'. Prove '..Said' where nothing that the law and all that it calls make is longer than what came in: it says more and counts as full. Else prove '..UptoSaid'. A law counts once. -/
mutual
def uptoBulk {H : Type} : DataW H → Nat
  | .lit (.string bytes) => bytes.length + 1
  | .lit _ => 1
  | .nil => 1
  | .ptr d => uptoBulk d + 1
  | .slice elems spare => uptoBulkAll elems + uptoBulkAll spare + 1
  | .agg parts => uptoBulkAll parts + 1
  | .iface _ d => uptoBulk d + 1
  | .map entries => uptoBulkEntries entries + 1
  | .held _ => 1
def uptoBulkAll {H : Type} : List (DataW H) → Nat
  | [] => 0
  | d :: r => uptoBulk d + uptoBulkAll r
def uptoBulkEntries {H : Type} : List (Lit × DataW H) → Nat
  | [] => 0
  | x :: r => uptoBulkEntry x + uptoBulkEntries r
def uptoBulkEntry {H : Type} : Lit × DataW H → Nat
  | (.string bytes, d) => bytes.length + uptoBulk d + 1
  | (_, d) => uptoBulk d + 1
 end
def uptoSmall : (H : Type) → List (DataW H) → Bool := fun _ ds => decide (uptoBulkAll ds ≤ 1048576)
def OpenSpec.upto (s : _root_.Go.ChangeSpec) : _root_.Go.OpenSpec := { _root_.Go.OpenSpec.ofChange s with cond := some uptoSmall }

/-- 'hangfirelaw03.AimWeighs', WHERE WHAT IT READS IS OF BULK AT MOST 1048576: true; the input reads as it did. -/
def aimWeighsUptoRow : OpenClaim := { program := "ytkcahhbhfmdpmaagreat", sum := "0c2f637657528e2070f6efca210a16bb3ad79cd003cb3165c1fbc3c51432d218", func := "hangfire/hangfirelaw03.AimWeighs", spec := "aimWeighs", unfollowed := true, recurses := true, plainKeys := false, apart := false, narrowed := true }
def AimWeighsUptoSaid : Prop := aimWeighsUptoRow.holds Tryz.pinned (OpenSpec.upto aimWeighsSpec)

/-- 'hangfirelaw03.AimAsks', WHERE WHAT IT READS IS OF BULK AT MOST 1048576: true; the input reads as it did. -/
def aimAsksUptoRow : OpenClaim := { program := "ytkcahhbhfmdpmaagreat", sum := "0c2f637657528e2070f6efca210a16bb3ad79cd003cb3165c1fbc3c51432d218", func := "hangfire/hangfirelaw03.AimAsks", spec := "aimAsks", unfollowed := true, recurses := true, plainKeys := false, apart := false, narrowed := true }
def AimAsksUptoSaid : Prop := aimAsksUptoRow.holds Tryz.pinned (OpenSpec.upto aimAsksSpec)

/-- 'hangfirelaw03.AimBests', WHERE WHAT IT READS IS OF BULK AT MOST 1048576: true; the input reads as it did. -/
def aimBestsUptoRow : OpenClaim := { program := "ytkcahhbhfmdpmaagreat", sum := "0c2f637657528e2070f6efca210a16bb3ad79cd003cb3165c1fbc3c51432d218", func := "hangfire/hangfirelaw03.AimBests", spec := "aimBests", unfollowed := true, recurses := true, plainKeys := false, apart := false, narrowed := true }
def AimBestsUptoSaid : Prop := aimBestsUptoRow.holds Tryz.pinned (OpenSpec.upto aimBestsSpec)

/-- 'hangfirelaw03.AimAccepts', WHERE WHAT IT READS IS OF BULK AT MOST 1048576: true; the input reads as it did. -/
def aimAcceptsUptoRow : OpenClaim := { program := "ytkcahhbhfmdpmaagreat", sum := "0c2f637657528e2070f6efca210a16bb3ad79cd003cb3165c1fbc3c51432d218", func := "hangfire/hangfirelaw03.AimAccepts", spec := "aimAccepts", unfollowed := true, recurses := true, plainKeys := false, apart := false, narrowed := true }
def AimAcceptsUptoSaid : Prop := aimAcceptsUptoRow.holds Tryz.pinned (OpenSpec.upto aimAcceptsSpec)

/-- 'hangfirelaw03.AimRounds', WHERE WHAT IT READS IS OF BULK AT MOST 1048576: true; the input reads as it did. -/
def aimRoundsUptoRow : OpenClaim := { program := "ytkcahhbhfmdpmaagreat", sum := "0c2f637657528e2070f6efca210a16bb3ad79cd003cb3165c1fbc3c51432d218", func := "hangfire/hangfirelaw03.AimRounds", spec := "aimRounds", unfollowed := true, recurses := true, plainKeys := false, apart := false, narrowed := true }
def AimRoundsUptoSaid : Prop := aimRoundsUptoRow.holds Tryz.pinned (OpenSpec.upto aimRoundsSpec)

end Rows
end Go.Proofs.YtkcahhbhfmdpmaaGreat
