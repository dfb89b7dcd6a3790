/-
  No cell of these rows narrows 'for every input' (looked for: loops, veiled, ifaces, maps, wideKeys, modest, calm, conditions, laid).
  DERIVED. THE GIVEN ROWS OF THIS SEAT. 17 by the template 'for every input the law returns true; each argument reads behind the call as it read before'; 0 by the template 'total and deterministic' (their statements: YtmppkpdoonljpaaTotals.lean).
  GIVEN WITH THE SEED: the statements are not yours to turn. If you find one false, say at which input.
  Laid BY PROGRAM, IN A SANDBOX (cutbox-rows.mjs): the forced cells as the released guide's own fill.sh prints them over the translation 4f7e85d1a69d210d… (all of the seat's roots in one cut). By AI agents, Wed Nov 11 2026. No macro, syntax, notation, axiom, sorry.
-/
import Derived.Test.YtmppkpdoonljpaaChecked
import GoSem.Claim
import GoSem.ClaimJoined
import GoSem.ClaimMapViews
import Derived.JoinedTies
import Derived.KernelRfl
namespace Go.Proofs.Ytmppkpdoonljpaa
/- THE CELL 'sum', in the pinned program and in every row, IS THE sha256 OF THE DUMP (.gsa) THAT YtmppkpdoonljpaaProg.lean LOADS. Nothing in Lean hashes anything: it is a label: what it is worth is what the hold of that sum in a sandbox is worth. -/
noncomputable def Try.pinned : Pinned := { name := "ytmppkpdoonljpaa", sum := "4f7e85d1a69d210d31b11d585023f5bf7e6120a6965f7a92ad7a398e0fe429ac", checked := Try.checked }
namespace Rows
def none {H : Type} : Left H := { results := [], args := [] }

/-- 'hangfirelaw05.TrackChecks': WHATEVER THE INPUT: true; the input reads as it did. -/
def trackChecksSpec : ChangeSpec := { name := "trackChecks", fn := fun _ => fun
  | [d] => { results := [.lit (.bool true)], args := [d] }
  | _ => none }
def trackChecksRow : OpenClaim := { program := "ytmppkpdoonljpaa", sum := "4f7e85d1a69d210d31b11d585023f5bf7e6120a6965f7a92ad7a398e0fe429ac", func := "hangfire/hangfirelaw05.TrackChecks", spec := "trackChecks", unfollowed := true, recurses := true, plainKeys := false, apart := false }
def TrackChecksSaid : Prop := trackChecksRow.holds Try.pinned (OpenSpec.ofChange trackChecksSpec)

/-- ITS FALSE NEIGHBOUR: 'it returns false'. Refute it at one input. -/
def trackChecksWrong : ChangeSpec := { name := "trackChecks", fn := fun _ => fun
  | [d] => { results := [.lit (.bool false)], args := [d] }
  | _ => none }
def TrackChecksWrongFalsely : Prop := trackChecksRow.holds Try.pinned (OpenSpec.ofChange trackChecksWrong)

/-- 'hangfirelaw05.TrackKnows': WHATEVER THE INPUT: true; the input reads as it did. -/
def trackKnowsSpec : ChangeSpec := { name := "trackKnows", fn := fun _ => fun
  | [d1, d2] => { results := [.lit (.bool true)], args := [d1, d2] }
  | _ => none }
def trackKnowsRow : OpenClaim := { program := "ytmppkpdoonljpaa", sum := "4f7e85d1a69d210d31b11d585023f5bf7e6120a6965f7a92ad7a398e0fe429ac", func := "hangfire/hangfirelaw05.TrackKnows", spec := "trackKnows", unfollowed := true, recurses := true, plainKeys := false, apart := false }
def TrackKnowsSaid : Prop := trackKnowsRow.holds Try.pinned (OpenSpec.ofChange trackKnowsSpec)

/-- ITS FALSE NEIGHBOUR: 'it returns false'. Refute it at one input. -/
def trackKnowsWrong : ChangeSpec := { name := "trackKnows", fn := fun _ => fun
  | [d1, d2] => { results := [.lit (.bool false)], args := [d1, d2] }
  | _ => none }
def TrackKnowsWrongFalsely : Prop := trackKnowsRow.holds Try.pinned (OpenSpec.ofChange trackKnowsWrong)

/-- 'hangfirelaw05.TrackWhere': WHATEVER THE INPUT: true; the input reads as it did. -/
def trackWhereSpec : ChangeSpec := { name := "trackWhere", fn := fun _ => fun
  | [d1, d2] => { results := [.lit (.bool true)], args := [d1, d2] }
  | _ => none }
def trackWhereRow : OpenClaim := { program := "ytmppkpdoonljpaa", sum := "4f7e85d1a69d210d31b11d585023f5bf7e6120a6965f7a92ad7a398e0fe429ac", func := "hangfire/hangfirelaw05.TrackWhere", spec := "trackWhere", unfollowed := true, recurses := true, plainKeys := false, apart := false }
def TrackWhereSaid : Prop := trackWhereRow.holds Try.pinned (OpenSpec.ofChange trackWhereSpec)

/-- ITS FALSE NEIGHBOUR: 'it returns false'. Refute it at one input. -/
def trackWhereWrong : ChangeSpec := { name := "trackWhere", fn := fun _ => fun
  | [d1, d2] => { results := [.lit (.bool false)], args := [d1, d2] }
  | _ => none }
def TrackWhereWrongFalsely : Prop := trackWhereRow.holds Try.pinned (OpenSpec.ofChange trackWhereWrong)

/-- 'hangfirelaw05.TrackSpares': WHATEVER THE INPUT: true; the input reads as it did. -/
def trackSparesSpec : ChangeSpec := { name := "trackSpares", fn := fun _ => fun
  | [d1, d2] => { results := [.lit (.bool true)], args := [d1, d2] }
  | _ => none }
def trackSparesRow : OpenClaim := { program := "ytmppkpdoonljpaa", sum := "4f7e85d1a69d210d31b11d585023f5bf7e6120a6965f7a92ad7a398e0fe429ac", func := "hangfire/hangfirelaw05.TrackSpares", spec := "trackSpares", unfollowed := true, recurses := true, plainKeys := false, apart := false }
def TrackSparesSaid : Prop := trackSparesRow.holds Try.pinned (OpenSpec.ofChange trackSparesSpec)

/-- ITS FALSE NEIGHBOUR: 'it returns false'. Refute it at one input. -/
def trackSparesWrong : ChangeSpec := { name := "trackSpares", fn := fun _ => fun
  | [d1, d2] => { results := [.lit (.bool false)], args := [d1, d2] }
  | _ => none }
def TrackSparesWrongFalsely : Prop := trackSparesRow.holds Try.pinned (OpenSpec.ofChange trackSparesWrong)

/-- 'hangfirelaw05.TrackAheads': WHATEVER THE INPUT: true; the input reads as it did. -/
def trackAheadsSpec : ChangeSpec := { name := "trackAheads", fn := fun _ => fun
  | [d1, d2, d3] => { results := [.lit (.bool true)], args := [d1, d2, d3] }
  | _ => none }
def trackAheadsRow : OpenClaim := { program := "ytmppkpdoonljpaa", sum := "4f7e85d1a69d210d31b11d585023f5bf7e6120a6965f7a92ad7a398e0fe429ac", func := "hangfire/hangfirelaw05.TrackAheads", spec := "trackAheads", unfollowed := true, recurses := true, plainKeys := false, apart := false }
def TrackAheadsSaid : Prop := trackAheadsRow.holds Try.pinned (OpenSpec.ofChange trackAheadsSpec)

/-- ITS FALSE NEIGHBOUR: 'it returns false'. Refute it at one input. -/
def trackAheadsWrong : ChangeSpec := { name := "trackAheads", fn := fun _ => fun
  | [d1, d2, d3] => { results := [.lit (.bool false)], args := [d1, d2, d3] }
  | _ => none }
def TrackAheadsWrongFalsely : Prop := trackAheadsRow.holds Try.pinned (OpenSpec.ofChange trackAheadsWrong)

/-- 'hangfirelaw05.TrackGapped': WHATEVER THE INPUT: true; the input reads as it did. -/
def trackGappedSpec : ChangeSpec := { name := "trackGapped", fn := fun _ => fun
  | [d1, d2] => { results := [.lit (.bool true)], args := [d1, d2] }
  | _ => none }
def trackGappedRow : OpenClaim := { program := "ytmppkpdoonljpaa", sum := "4f7e85d1a69d210d31b11d585023f5bf7e6120a6965f7a92ad7a398e0fe429ac", func := "hangfire/hangfirelaw05.TrackGapped", spec := "trackGapped", unfollowed := true, recurses := true, plainKeys := false, apart := false }
def TrackGappedSaid : Prop := trackGappedRow.holds Try.pinned (OpenSpec.ofChange trackGappedSpec)

/-- ITS FALSE NEIGHBOUR: 'it returns false'. Refute it at one input. -/
def trackGappedWrong : ChangeSpec := { name := "trackGapped", fn := fun _ => fun
  | [d1, d2] => { results := [.lit (.bool false)], args := [d1, d2] }
  | _ => none }
def TrackGappedWrongFalsely : Prop := trackGappedRow.holds Try.pinned (OpenSpec.ofChange trackGappedWrong)

/-- 'hangfirelaw05.TrackKnown': WHATEVER THE INPUT: true; the input reads as it did. -/
def trackKnownSpec : ChangeSpec := { name := "trackKnown", fn := fun _ => fun
  | [] => { results := [.lit (.bool true)], args := [] }
  | _ => none }
def trackKnownRow : OpenClaim := { program := "ytmppkpdoonljpaa", sum := "4f7e85d1a69d210d31b11d585023f5bf7e6120a6965f7a92ad7a398e0fe429ac", func := "hangfire/hangfirelaw05.TrackKnown", spec := "trackKnown", unfollowed := true, recurses := true, plainKeys := false, apart := false }
def TrackKnownSaid : Prop := trackKnownRow.holds Try.pinned (OpenSpec.ofChange trackKnownSpec)

/-- ITS FALSE NEIGHBOUR: 'it returns false'. Refute it at one input. -/
def trackKnownWrong : ChangeSpec := { name := "trackKnown", fn := fun _ => fun
  | [] => { results := [.lit (.bool false)], args := [] }
  | _ => none }
def TrackKnownWrongFalsely : Prop := trackKnownRow.holds Try.pinned (OpenSpec.ofChange trackKnownWrong)

/-- 'hangfirelaw05.TrackTrue': WHATEVER THE INPUT: true; the input reads as it did. -/
def trackTrueSpec : ChangeSpec := { name := "trackTrue", fn := fun _ => fun
  | [d1, d2, d3] => { results := [.lit (.bool true)], args := [d1, d2, d3] }
  | _ => none }
def trackTrueRow : OpenClaim := { program := "ytmppkpdoonljpaa", sum := "4f7e85d1a69d210d31b11d585023f5bf7e6120a6965f7a92ad7a398e0fe429ac", func := "hangfire/hangfirelaw05.TrackTrue", spec := "trackTrue", unfollowed := true, recurses := true, plainKeys := false, apart := false }
def TrackTrueSaid : Prop := trackTrueRow.holds Try.pinned (OpenSpec.ofChange trackTrueSpec)

/-- ITS FALSE NEIGHBOUR: 'it returns false'. Refute it at one input. -/
def trackTrueWrong : ChangeSpec := { name := "trackTrue", fn := fun _ => fun
  | [d1, d2, d3] => { results := [.lit (.bool false)], args := [d1, d2, d3] }
  | _ => none }
def TrackTrueWrongFalsely : Prop := trackTrueRow.holds Try.pinned (OpenSpec.ofChange trackTrueWrong)

/-- 'hangfirelaw05.TrackOne': WHATEVER THE INPUT: true; the input reads as it did. -/
def trackOneSpec : ChangeSpec := { name := "trackOne", fn := fun _ => fun
  | [d1, d2, d3] => { results := [.lit (.bool true)], args := [d1, d2, d3] }
  | _ => none }
def trackOneRow : OpenClaim := { program := "ytmppkpdoonljpaa", sum := "4f7e85d1a69d210d31b11d585023f5bf7e6120a6965f7a92ad7a398e0fe429ac", func := "hangfire/hangfirelaw05.TrackOne", spec := "trackOne", unfollowed := true, recurses := true, plainKeys := false, apart := false }
def TrackOneSaid : Prop := trackOneRow.holds Try.pinned (OpenSpec.ofChange trackOneSpec)

/-- ITS FALSE NEIGHBOUR: 'it returns false'. Refute it at one input. -/
def trackOneWrong : ChangeSpec := { name := "trackOne", fn := fun _ => fun
  | [d1, d2, d3] => { results := [.lit (.bool false)], args := [d1, d2, d3] }
  | _ => none }
def TrackOneWrongFalsely : Prop := trackOneRow.holds Try.pinned (OpenSpec.ofChange trackOneWrong)

/-- 'hangfirelaw05.TrackOn': WHATEVER THE INPUT: true; the input reads as it did. -/
def trackOnSpec : ChangeSpec := { name := "trackOn", fn := fun _ => fun
  | [d1, d2, d3] => { results := [.lit (.bool true)], args := [d1, d2, d3] }
  | _ => none }
def trackOnRow : OpenClaim := { program := "ytmppkpdoonljpaa", sum := "4f7e85d1a69d210d31b11d585023f5bf7e6120a6965f7a92ad7a398e0fe429ac", func := "hangfire/hangfirelaw05.TrackOn", spec := "trackOn", unfollowed := true, recurses := true, plainKeys := false, apart := false }
def TrackOnSaid : Prop := trackOnRow.holds Try.pinned (OpenSpec.ofChange trackOnSpec)

/-- ITS FALSE NEIGHBOUR: 'it returns false'. Refute it at one input. -/
def trackOnWrong : ChangeSpec := { name := "trackOn", fn := fun _ => fun
  | [d1, d2, d3] => { results := [.lit (.bool false)], args := [d1, d2, d3] }
  | _ => none }
def TrackOnWrongFalsely : Prop := trackOnRow.holds Try.pinned (OpenSpec.ofChange trackOnWrong)

/-- 'hangfirelaw05.TrackUnknown': WHATEVER THE INPUT: true; the input reads as it did. -/
def trackUnknownSpec : ChangeSpec := { name := "trackUnknown", fn := fun _ => fun
  | [d1, d2, d3] => { results := [.lit (.bool true)], args := [d1, d2, d3] }
  | _ => none }
def trackUnknownRow : OpenClaim := { program := "ytmppkpdoonljpaa", sum := "4f7e85d1a69d210d31b11d585023f5bf7e6120a6965f7a92ad7a398e0fe429ac", func := "hangfire/hangfirelaw05.TrackUnknown", spec := "trackUnknown", unfollowed := true, recurses := true, plainKeys := false, apart := false }
def TrackUnknownSaid : Prop := trackUnknownRow.holds Try.pinned (OpenSpec.ofChange trackUnknownSpec)

/-- ITS FALSE NEIGHBOUR: 'it returns false'. Refute it at one input. -/
def trackUnknownWrong : ChangeSpec := { name := "trackUnknown", fn := fun _ => fun
  | [d1, d2, d3] => { results := [.lit (.bool false)], args := [d1, d2, d3] }
  | _ => none }
def TrackUnknownWrongFalsely : Prop := trackUnknownRow.holds Try.pinned (OpenSpec.ofChange trackUnknownWrong)

/-- 'hangfirelaw05.TrackMore': WHATEVER THE INPUT: true; the input reads as it did. -/
def trackMoreSpec : ChangeSpec := { name := "trackMore", fn := fun _ => fun
  | [d1, d2, d3] => { results := [.lit (.bool true)], args := [d1, d2, d3] }
  | _ => none }
def trackMoreRow : OpenClaim := { program := "ytmppkpdoonljpaa", sum := "4f7e85d1a69d210d31b11d585023f5bf7e6120a6965f7a92ad7a398e0fe429ac", func := "hangfire/hangfirelaw05.TrackMore", spec := "trackMore", unfollowed := true, recurses := true, plainKeys := false, apart := false }
def TrackMoreSaid : Prop := trackMoreRow.holds Try.pinned (OpenSpec.ofChange trackMoreSpec)

/-- ITS FALSE NEIGHBOUR: 'it returns false'. Refute it at one input. -/
def trackMoreWrong : ChangeSpec := { name := "trackMore", fn := fun _ => fun
  | [d1, d2, d3] => { results := [.lit (.bool false)], args := [d1, d2, d3] }
  | _ => none }
def TrackMoreWrongFalsely : Prop := trackMoreRow.holds Try.pinned (OpenSpec.ofChange trackMoreWrong)

/-- 'hangfirelaw05.TrackAgree': WHATEVER THE INPUT: true; the input reads as it did. -/
def trackAgreeSpec : ChangeSpec := { name := "trackAgree", fn := fun _ => fun
  | [d1, d2] => { results := [.lit (.bool true)], args := [d1, d2] }
  | _ => none }
def trackAgreeRow : OpenClaim := { program := "ytmppkpdoonljpaa", sum := "4f7e85d1a69d210d31b11d585023f5bf7e6120a6965f7a92ad7a398e0fe429ac", func := "hangfire/hangfirelaw05.TrackAgree", spec := "trackAgree", unfollowed := true, recurses := true, plainKeys := false, apart := false }
def TrackAgreeSaid : Prop := trackAgreeRow.holds Try.pinned (OpenSpec.ofChange trackAgreeSpec)

/-- ITS FALSE NEIGHBOUR: 'it returns false'. Refute it at one input. -/
def trackAgreeWrong : ChangeSpec := { name := "trackAgree", fn := fun _ => fun
  | [d1, d2] => { results := [.lit (.bool false)], args := [d1, d2] }
  | _ => none }
def TrackAgreeWrongFalsely : Prop := trackAgreeRow.holds Try.pinned (OpenSpec.ofChange trackAgreeWrong)

/-- 'hangfirelaw05.TrackLooser': WHATEVER THE INPUT: true; the input reads as it did. -/
def trackLooserSpec : ChangeSpec := { name := "trackLooser", fn := fun _ => fun
  | [d1, d2, d3] => { results := [.lit (.bool true)], args := [d1, d2, d3] }
  | _ => none }
def trackLooserRow : OpenClaim := { program := "ytmppkpdoonljpaa", sum := "4f7e85d1a69d210d31b11d585023f5bf7e6120a6965f7a92ad7a398e0fe429ac", func := "hangfire/hangfirelaw05.TrackLooser", spec := "trackLooser", unfollowed := true, recurses := true, plainKeys := false, apart := false }
def TrackLooserSaid : Prop := trackLooserRow.holds Try.pinned (OpenSpec.ofChange trackLooserSpec)

/-- ITS FALSE NEIGHBOUR: 'it returns false'. Refute it at one input. -/
def trackLooserWrong : ChangeSpec := { name := "trackLooser", fn := fun _ => fun
  | [d1, d2, d3] => { results := [.lit (.bool false)], args := [d1, d2, d3] }
  | _ => none }
def TrackLooserWrongFalsely : Prop := trackLooserRow.holds Try.pinned (OpenSpec.ofChange trackLooserWrong)

/-- 'hangfirelaw05.TrackBest': WHATEVER THE INPUT: true; the input reads as it did. -/
def trackBestSpec : ChangeSpec := { name := "trackBest", fn := fun _ => fun
  | [d1, d2] => { results := [.lit (.bool true)], args := [d1, d2] }
  | _ => none }
def trackBestRow : OpenClaim := { program := "ytmppkpdoonljpaa", sum := "4f7e85d1a69d210d31b11d585023f5bf7e6120a6965f7a92ad7a398e0fe429ac", func := "hangfire/hangfirelaw05.TrackBest", spec := "trackBest", unfollowed := true, recurses := true, plainKeys := false, apart := false }
def TrackBestSaid : Prop := trackBestRow.holds Try.pinned (OpenSpec.ofChange trackBestSpec)

/-- ITS FALSE NEIGHBOUR: 'it returns false'. Refute it at one input. -/
def trackBestWrong : ChangeSpec := { name := "trackBest", fn := fun _ => fun
  | [d1, d2] => { results := [.lit (.bool false)], args := [d1, d2] }
  | _ => none }
def TrackBestWrongFalsely : Prop := trackBestRow.holds Try.pinned (OpenSpec.ofChange trackBestWrong)

/-- 'hangfirelaw05.TrackGaps': WHATEVER THE INPUT: true; the input reads as it did. -/
def trackGapsSpec : ChangeSpec := { name := "trackGaps", fn := fun _ => fun
  | [d1, d2, d3] => { results := [.lit (.bool true)], args := [d1, d2, d3] }
  | _ => none }
def trackGapsRow : OpenClaim := { program := "ytmppkpdoonljpaa", sum := "4f7e85d1a69d210d31b11d585023f5bf7e6120a6965f7a92ad7a398e0fe429ac", func := "hangfire/hangfirelaw05.TrackGaps", spec := "trackGaps", unfollowed := true, recurses := true, plainKeys := false, apart := false }
def TrackGapsSaid : Prop := trackGapsRow.holds Try.pinned (OpenSpec.ofChange trackGapsSpec)

/-- ITS FALSE NEIGHBOUR: 'it returns false'. Refute it at one input. -/
def trackGapsWrong : ChangeSpec := { name := "trackGaps", fn := fun _ => fun
  | [d1, d2, d3] => { results := [.lit (.bool false)], args := [d1, d2, d3] }
  | _ => none }
def TrackGapsWrongFalsely : Prop := trackGapsRow.holds Try.pinned (OpenSpec.ofChange trackGapsWrong)

/-- 'hangfirelaw05.TrackReach': WHATEVER THE INPUT: true; the input reads as it did. -/
def trackReachSpec : ChangeSpec := { name := "trackReach", fn := fun _ => fun
  | [d1, d2, d3] => { results := [.lit (.bool true)], args := [d1, d2, d3] }
  | _ => none }
def trackReachRow : OpenClaim := { program := "ytmppkpdoonljpaa", sum := "4f7e85d1a69d210d31b11d585023f5bf7e6120a6965f7a92ad7a398e0fe429ac", func := "hangfire/hangfirelaw05.TrackReach", spec := "trackReach", unfollowed := true, recurses := true, plainKeys := false, apart := false }
def TrackReachSaid : Prop := trackReachRow.holds Try.pinned (OpenSpec.ofChange trackReachSpec)

/-- ITS FALSE NEIGHBOUR: 'it returns false'. Refute it at one input. -/
def trackReachWrong : ChangeSpec := { name := "trackReach", fn := fun _ => fun
  | [d1, d2, d3] => { results := [.lit (.bool false)], args := [d1, d2, d3] }
  | _ => none }
def TrackReachWrongFalsely : Prop := trackReachRow.holds Try.pinned (OpenSpec.ofChange trackReachWrong)

/- THE SECOND FORM. 'bulk': how many values and letters a reading holds, each counted each time it is reached (what is shared counts as often as it is met; a slice's spare places count too). A statement '..UptoSaid' is the law's where the arguments, and the package variables that the reading takes, are together of bulk at most 1048576: NARROWER than '..Said'. Prove '..Said' where nothing that the law and all that it calls make is longer than what came in: it says more and counts as full. Else prove '..UptoSaid'. A law counts once. -/
mutual
def uptoBulk {H : Type} : DataW H → Nat
  | .lit (.string bytes) => bytes.length + 1
  | .lit _ => 1
  | .nil => 1
  | .ptr d => uptoBulk d + 1
  | .slice elems spare => uptoBulkAll elems + uptoBulkAll spare + 1
  | .agg parts => uptoBulkAll parts + 1
  | .iface _ d => uptoBulk d + 1
  | .map entries => uptoBulkEntries entries + 1
  | .held _ => 1
def uptoBulkAll {H : Type} : List (DataW H) → Nat
  | [] => 0
  | d :: r => uptoBulk d + uptoBulkAll r
def uptoBulkEntries {H : Type} : List (Lit × DataW H) → Nat
  | [] => 0
  | x :: r => uptoBulkEntry x + uptoBulkEntries r
def uptoBulkEntry {H : Type} : Lit × DataW H → Nat
  | (.string bytes, d) => bytes.length + uptoBulk d + 1
  | (_, d) => uptoBulk d + 1
 end
def uptoSmall : (H : Type) → List (DataW H) → Bool := fun _ ds => decide (uptoBulkAll ds ≤ 1048576)
def OpenSpec.upto (s : _root_.Go.ChangeSpec) : _root_.Go.OpenSpec := { _root_.Go.OpenSpec.ofChange s with cond := some uptoSmall }

/-- 'hangfirelaw05.TrackChecks', WHERE WHAT IT READS IS OF BULK AT MOST 1048576: true; the input reads as it did. -/
def trackChecksUptoRow : OpenClaim := { program := "ytmppkpdoonljpaa", sum := "4f7e85d1a69d210d31b11d585023f5bf7e6120a6965f7a92ad7a398e0fe429ac", func := "hangfire/hangfirelaw05.TrackChecks", spec := "trackChecks", unfollowed := true, recurses := true, plainKeys := false, apart := false, narrowed := true }
def TrackChecksUptoSaid : Prop := trackChecksUptoRow.holds Try.pinned (OpenSpec.upto trackChecksSpec)

/-- 'hangfirelaw05.TrackKnows', WHERE WHAT IT READS IS OF BULK AT MOST 1048576: true; the input reads as it did. -/
def trackKnowsUptoRow : OpenClaim := { program := "ytmppkpdoonljpaa", sum := "4f7e85d1a69d210d31b11d585023f5bf7e6120a6965f7a92ad7a398e0fe429ac", func := "hangfire/hangfirelaw05.TrackKnows", spec := "trackKnows", unfollowed := true, recurses := true, plainKeys := false, apart := false, narrowed := true }
def TrackKnowsUptoSaid : Prop := trackKnowsUptoRow.holds Try.pinned (OpenSpec.upto trackKnowsSpec)

/-- 'hangfirelaw05.TrackWhere', WHERE WHAT IT READS IS OF BULK AT MOST 1048576: true; the input reads as it did. -/
def trackWhereUptoRow : OpenClaim := { program := "ytmppkpdoonljpaa", sum := "4f7e85d1a69d210d31b11d585023f5bf7e6120a6965f7a92ad7a398e0fe429ac", func := "hangfire/hangfirelaw05.TrackWhere", spec := "trackWhere", unfollowed := true, recurses := true, plainKeys := false, apart := false, narrowed := true }
def TrackWhereUptoSaid : Prop := trackWhereUptoRow.holds Try.pinned (OpenSpec.upto trackWhereSpec)

/-- 'hangfirelaw05.TrackSpares', WHERE WHAT IT READS IS OF BULK AT MOST 1048576: true; the input reads as it did. -/
def trackSparesUptoRow : OpenClaim := { program := "ytmppkpdoonljpaa", sum := "4f7e85d1a69d210d31b11d585023f5bf7e6120a6965f7a92ad7a398e0fe429ac", func := "hangfire/hangfirelaw05.TrackSpares", spec := "trackSpares", unfollowed := true, recurses := true, plainKeys := false, apart := false, narrowed := true }
def TrackSparesUptoSaid : Prop := trackSparesUptoRow.holds Try.pinned (OpenSpec.upto trackSparesSpec)

/-- 'hangfirelaw05.TrackAheads', WHERE WHAT IT READS IS OF BULK AT MOST 1048576: true; the input reads as it did. -/
def trackAheadsUptoRow : OpenClaim := { program := "ytmppkpdoonljpaa", sum := "4f7e85d1a69d210d31b11d585023f5bf7e6120a6965f7a92ad7a398e0fe429ac", func := "hangfire/hangfirelaw05.TrackAheads", spec := "trackAheads", unfollowed := true, recurses := true, plainKeys := false, apart := false, narrowed := true }
def TrackAheadsUptoSaid : Prop := trackAheadsUptoRow.holds Try.pinned (OpenSpec.upto trackAheadsSpec)

/-- 'hangfirelaw05.TrackGapped', WHERE WHAT IT READS IS OF BULK AT MOST 1048576: true; the input reads as it did. -/
def trackGappedUptoRow : OpenClaim := { program := "ytmppkpdoonljpaa", sum := "4f7e85d1a69d210d31b11d585023f5bf7e6120a6965f7a92ad7a398e0fe429ac", func := "hangfire/hangfirelaw05.TrackGapped", spec := "trackGapped", unfollowed := true, recurses := true, plainKeys := false, apart := false, narrowed := true }
def TrackGappedUptoSaid : Prop := trackGappedUptoRow.holds Try.pinned (OpenSpec.upto trackGappedSpec)

/-- 'hangfirelaw05.TrackKnown', WHERE WHAT IT READS IS OF BULK AT MOST 1048576: true; the input reads as it did. -/
def trackKnownUptoRow : OpenClaim := { program := "ytmppkpdoonljpaa", sum := "4f7e85d1a69d210d31b11d585023f5bf7e6120a6965f7a92ad7a398e0fe429ac", func := "hangfire/hangfirelaw05.TrackKnown", spec := "trackKnown", unfollowed := true, recurses := true, plainKeys := false, apart := false, narrowed := true }
def TrackKnownUptoSaid : Prop := trackKnownUptoRow.holds Try.pinned (OpenSpec.upto trackKnownSpec)

/-- 'hangfirelaw05.TrackTrue', WHERE WHAT IT READS IS OF BULK AT MOST 1048576: true; the input reads as it did. -/
def trackTrueUptoRow : OpenClaim := { program := "ytmppkpdoonljpaa", sum := "4f7e85d1a69d210d31b11d585023f5bf7e6120a6965f7a92ad7a398e0fe429ac", func := "hangfire/hangfirelaw05.TrackTrue", spec := "trackTrue", unfollowed := true, recurses := true, plainKeys := false, apart := false, narrowed := true }
def TrackTrueUptoSaid : Prop := trackTrueUptoRow.holds Try.pinned (OpenSpec.upto trackTrueSpec)

/-- 'hangfirelaw05.TrackOne', WHERE WHAT IT READS IS OF BULK AT MOST 1048576: true; the input reads as it did. -/
def trackOneUptoRow : OpenClaim := { program := "ytmppkpdoonljpaa", sum := "4f7e85d1a69d210d31b11d585023f5bf7e6120a6965f7a92ad7a398e0fe429ac", func := "hangfire/hangfirelaw05.TrackOne", spec := "trackOne", unfollowed := true, recurses := true, plainKeys := false, apart := false, narrowed := true }
def TrackOneUptoSaid : Prop := trackOneUptoRow.holds Try.pinned (OpenSpec.upto trackOneSpec)

/-- 'hangfirelaw05.TrackOn', WHERE WHAT IT READS IS OF BULK AT MOST 1048576: true; the input reads as it did. -/
def trackOnUptoRow : OpenClaim := { program := "ytmppkpdoonljpaa", sum := "4f7e85d1a69d210d31b11d585023f5bf7e6120a6965f7a92ad7a398e0fe429ac", func := "hangfire/hangfirelaw05.TrackOn", spec := "trackOn", unfollowed := true, recurses := true, plainKeys := false, apart := false, narrowed := true }
def TrackOnUptoSaid : Prop := trackOnUptoRow.holds Try.pinned (OpenSpec.upto trackOnSpec)

/-- 'hangfirelaw05.TrackUnknown', WHERE WHAT IT READS IS OF BULK AT MOST 1048576: true; the input reads as it did. -/
def trackUnknownUptoRow : OpenClaim := { program := "ytmppkpdoonljpaa", sum := "4f7e85d1a69d210d31b11d585023f5bf7e6120a6965f7a92ad7a398e0fe429ac", func := "hangfire/hangfirelaw05.TrackUnknown", spec := "trackUnknown", unfollowed := true, recurses := true, plainKeys := false, apart := false, narrowed := true }
def TrackUnknownUptoSaid : Prop := trackUnknownUptoRow.holds Try.pinned (OpenSpec.upto trackUnknownSpec)

/-- 'hangfirelaw05.TrackMore', WHERE WHAT IT READS IS OF BULK AT MOST 1048576: true; the input reads as it did. -/
def trackMoreUptoRow : OpenClaim := { program := "ytmppkpdoonljpaa", sum := "4f7e85d1a69d210d31b11d585023f5bf7e6120a6965f7a92ad7a398e0fe429ac", func := "hangfire/hangfirelaw05.TrackMore", spec := "trackMore", unfollowed := true, recurses := true, plainKeys := false, apart := false, narrowed := true }
def TrackMoreUptoSaid : Prop := trackMoreUptoRow.holds Try.pinned (OpenSpec.upto trackMoreSpec)

/-- 'hangfirelaw05.TrackAgree', WHERE WHAT IT READS IS OF BULK AT MOST 1048576: true; the input reads as it did. -/
def trackAgreeUptoRow : OpenClaim := { program := "ytmppkpdoonljpaa", sum := "4f7e85d1a69d210d31b11d585023f5bf7e6120a6965f7a92ad7a398e0fe429ac", func := "hangfire/hangfirelaw05.TrackAgree", spec := "trackAgree", unfollowed := true, recurses := true, plainKeys := false, apart := false, narrowed := true }
def TrackAgreeUptoSaid : Prop := trackAgreeUptoRow.holds Try.pinned (OpenSpec.upto trackAgreeSpec)

/-- 'hangfirelaw05.TrackLooser', WHERE WHAT IT READS IS OF BULK AT MOST 1048576: true; the input reads as it did. -/
def trackLooserUptoRow : OpenClaim := { program := "ytmppkpdoonljpaa", sum := "4f7e85d1a69d210d31b11d585023f5bf7e6120a6965f7a92ad7a398e0fe429ac", func := "hangfire/hangfirelaw05.TrackLooser", spec := "trackLooser", unfollowed := true, recurses := true, plainKeys := false, apart := false, narrowed := true }
def TrackLooserUptoSaid : Prop := trackLooserUptoRow.holds Try.pinned (OpenSpec.upto trackLooserSpec)

/-- 'hangfirelaw05.TrackBest', WHERE WHAT IT READS IS OF BULK AT MOST 1048576: true; the input reads as it did. -/
def trackBestUptoRow : OpenClaim := { program := "ytmppkpdoonljpaa", sum := "4f7e85d1a69d210d31b11d585023f5bf7e6120a6965f7a92ad7a398e0fe429ac", func := "hangfire/hangfirelaw05.TrackBest", spec := "trackBest", unfollowed := true, recurses := true, plainKeys := false, apart := false, narrowed := true }
def TrackBestUptoSaid : Prop := trackBestUptoRow.holds Try.pinned (OpenSpec.upto trackBestSpec)

/-- 'hangfirelaw05.TrackGaps', WHERE WHAT IT READS IS OF BULK AT MOST 1048576: true; the input reads as it did. -/
def trackGapsUptoRow : OpenClaim := { program := "ytmppkpdoonljpaa", sum := "4f7e85d1a69d210d31b11d585023f5bf7e6120a6965f7a92ad7a398e0fe429ac", func := "hangfire/hangfirelaw05.TrackGaps", spec := "trackGaps", unfollowed := true, recurses := true, plainKeys := false, apart := false, narrowed := true }
def TrackGapsUptoSaid : Prop := trackGapsUptoRow.holds Try.pinned (OpenSpec.upto trackGapsSpec)

/-- 'hangfirelaw05.TrackReach', WHERE WHAT IT READS IS OF BULK AT MOST 1048576: true; the input reads as it did. -/
def trackReachUptoRow : OpenClaim := { program := "ytmppkpdoonljpaa", sum := "4f7e85d1a69d210d31b11d585023f5bf7e6120a6965f7a92ad7a398e0fe429ac", func := "hangfire/hangfirelaw05.TrackReach", spec := "trackReach", unfollowed := true, recurses := true, plainKeys := false, apart := false, narrowed := true }
def TrackReachUptoSaid : Prop := trackReachUptoRow.holds Try.pinned (OpenSpec.upto trackReachSpec)

end Rows
end Go.Proofs.Ytmppkpdoonljpaa
