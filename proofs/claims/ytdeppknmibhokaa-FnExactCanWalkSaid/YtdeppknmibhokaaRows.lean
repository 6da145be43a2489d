/-
  No cell of these rows narrows 'for every input' (looked for: loops, veiled, ifaces, maps, wideKeys, modest, calm, conditions, laid).
  DERIVED. THE GIVEN ROWS OF THIS SEAT. 12 by the template 'for every input the law returns true; each argument reads behind the call as it read before'; 0 by the template 'total and deterministic' (their statements: YtdeppknmibhokaaTotals.lean).
  GIVEN WITH THE SEED: the statements are not yours to turn. If you find one false, say at which input.
  Laid BY PROGRAM, IN A SANDBOX (cutbox-rows.mjs): the forced cells as the released guide's own fill.sh prints them over the translation 888ea142ff54695d… (all of the seat's roots in one cut). By AI agents, Wed Nov 11 2026. No macro, syntax, notation, axiom, sorry.
-/
import Derived.Test.YtdeppknmibhokaaChecked
import GoSem.Claim
import GoSem.ClaimJoined
import GoSem.ClaimMapViews
import Derived.JoinedTies
import Derived.KernelRfl
namespace Go.Proofs.Ytdeppknmibhokaa
/- THE CELL 'sum', in the pinned program and in every row, IS THE sha256 OF THE DUMP (.gsa) THAT YtdeppknmibhokaaProg.lean LOADS. Nothing in Lean hashes anything: it is a label: what it is worth is what the hold of that sum in a sandbox is worth. -/
noncomputable def Try.pinned : Pinned := { name := "ytdeppknmibhokaa", sum := "888ea142ff54695db466b0f4244c604c047d9499290f1eadd6bfc516f19c936a", checked := Try.checked }
namespace Rows
def none {H : Type} : Left H := { results := [], args := [] }

/-- 'laws.FnExactIsRoute': WHATEVER THE INPUT: true; the input reads as it did. -/
def fnExactIsRouteSpec : ChangeSpec := { name := "fnExactIsRoute", fn := fun _ => fun
  | [d] => { results := [.lit (.bool true)], args := [d] }
  | _ => none }
def fnExactIsRouteRow : OpenClaim := { program := "ytdeppknmibhokaa", sum := "888ea142ff54695db466b0f4244c604c047d9499290f1eadd6bfc516f19c936a", func := "loop.example/g01276/laws.FnExactIsRoute", spec := "fnExactIsRoute", plainKeys := false, apart := false }
def FnExactIsRouteSaid : Prop := fnExactIsRouteRow.holds Try.pinned (OpenSpec.ofChange fnExactIsRouteSpec)

/-- ITS FALSE NEIGHBOUR: 'it returns false'. Refute it at one input. -/
def fnExactIsRouteWrong : ChangeSpec := { name := "fnExactIsRoute", fn := fun _ => fun
  | [d] => { results := [.lit (.bool false)], args := [d] }
  | _ => none }
def FnExactIsRouteWrongFalsely : Prop := fnExactIsRouteRow.holds Try.pinned (OpenSpec.ofChange fnExactIsRouteWrong)

/-- 'laws.FnExactRingRoute': WHATEVER THE INPUT: true; the input reads as it did. -/
def fnExactRingRouteSpec : ChangeSpec := { name := "fnExactRingRoute", fn := fun _ => fun
  | [d] => { results := [.lit (.bool true)], args := [d] }
  | _ => none }
def fnExactRingRouteRow : OpenClaim := { program := "ytdeppknmibhokaa", sum := "888ea142ff54695db466b0f4244c604c047d9499290f1eadd6bfc516f19c936a", func := "loop.example/g01276/laws.FnExactRingRoute", spec := "fnExactRingRoute", plainKeys := false, apart := false }
def FnExactRingRouteSaid : Prop := fnExactRingRouteRow.holds Try.pinned (OpenSpec.ofChange fnExactRingRouteSpec)

/-- ITS FALSE NEIGHBOUR: 'it returns false'. Refute it at one input. -/
def fnExactRingRouteWrong : ChangeSpec := { name := "fnExactRingRoute", fn := fun _ => fun
  | [d] => { results := [.lit (.bool false)], args := [d] }
  | _ => none }
def FnExactRingRouteWrongFalsely : Prop := fnExactRingRouteRow.holds Try.pinned (OpenSpec.ofChange fnExactRingRouteWrong)

/-- 'laws.FnExactLineRoute': WHATEVER THE INPUT: true; the input reads as it did. -/
def fnExactLineRouteSpec : ChangeSpec := { name := "fnExactLineRoute", fn := fun _ => fun
  | [d] => { results := [.lit (.bool true)], args := [d] }
  | _ => none }
def fnExactLineRouteRow : OpenClaim := { program := "ytdeppknmibhokaa", sum := "888ea142ff54695db466b0f4244c604c047d9499290f1eadd6bfc516f19c936a", func := "loop.example/g01276/laws.FnExactLineRoute", spec := "fnExactLineRoute", plainKeys := false, apart := false }
def FnExactLineRouteSaid : Prop := fnExactLineRouteRow.holds Try.pinned (OpenSpec.ofChange fnExactLineRouteSpec)

/-- ITS FALSE NEIGHBOUR: 'it returns false'. Refute it at one input. -/
def fnExactLineRouteWrong : ChangeSpec := { name := "fnExactLineRoute", fn := fun _ => fun
  | [d] => { results := [.lit (.bool false)], args := [d] }
  | _ => none }
def FnExactLineRouteWrongFalsely : Prop := fnExactLineRouteRow.holds Try.pinned (OpenSpec.ofChange fnExactLineRouteWrong)

/-- 'laws.FnExactStepRoute': WHATEVER THE INPUT: true; the input reads as it did. -/
def fnExactStepRouteSpec : ChangeSpec := { name := "fnExactStepRoute", fn := fun _ => fun
  | [d1, d2] => { results := [.lit (.bool true)], args := [d1, d2] }
  | _ => none }
def fnExactStepRouteRow : OpenClaim := { program := "ytdeppknmibhokaa", sum := "888ea142ff54695db466b0f4244c604c047d9499290f1eadd6bfc516f19c936a", func := "loop.example/g01276/laws.FnExactStepRoute", spec := "fnExactStepRoute", plainKeys := false, apart := false }
def FnExactStepRouteSaid : Prop := fnExactStepRouteRow.holds Try.pinned (OpenSpec.ofChange fnExactStepRouteSpec)

/-- ITS FALSE NEIGHBOUR: 'it returns false'. Refute it at one input. -/
def fnExactStepRouteWrong : ChangeSpec := { name := "fnExactStepRoute", fn := fun _ => fun
  | [d1, d2] => { results := [.lit (.bool false)], args := [d1, d2] }
  | _ => none }
def FnExactStepRouteWrongFalsely : Prop := fnExactStepRouteRow.holds Try.pinned (OpenSpec.ofChange fnExactStepRouteWrong)

/-- 'laws.FnExactWalkAfter': WHATEVER THE INPUT: true; the input reads as it did. -/
def fnExactWalkAfterSpec : ChangeSpec := { name := "fnExactWalkAfter", fn := fun _ => fun
  | [d1, d2, d3] => { results := [.lit (.bool true)], args := [d1, d2, d3] }
  | _ => none }
def fnExactWalkAfterRow : OpenClaim := { program := "ytdeppknmibhokaa", sum := "888ea142ff54695db466b0f4244c604c047d9499290f1eadd6bfc516f19c936a", func := "loop.example/g01276/laws.FnExactWalkAfter", spec := "fnExactWalkAfter", plainKeys := false, apart := false }
def FnExactWalkAfterSaid : Prop := fnExactWalkAfterRow.holds Try.pinned (OpenSpec.ofChange fnExactWalkAfterSpec)

/-- ITS FALSE NEIGHBOUR: 'it returns false'. Refute it at one input. -/
def fnExactWalkAfterWrong : ChangeSpec := { name := "fnExactWalkAfter", fn := fun _ => fun
  | [d1, d2, d3] => { results := [.lit (.bool false)], args := [d1, d2, d3] }
  | _ => none }
def FnExactWalkAfterWrongFalsely : Prop := fnExactWalkAfterRow.holds Try.pinned (OpenSpec.ofChange fnExactWalkAfterWrong)

/-- 'laws.FnExactTrackOfWalk': WHATEVER THE INPUT: true; the input reads as it did. -/
def fnExactTrackOfWalkSpec : ChangeSpec := { name := "fnExactTrackOfWalk", fn := fun _ => fun
  | [d1, d2, d3] => { results := [.lit (.bool true)], args := [d1, d2, d3] }
  | _ => none }
def fnExactTrackOfWalkRow : OpenClaim := { program := "ytdeppknmibhokaa", sum := "888ea142ff54695db466b0f4244c604c047d9499290f1eadd6bfc516f19c936a", func := "loop.example/g01276/laws.FnExactTrackOfWalk", spec := "fnExactTrackOfWalk", plainKeys := false, apart := false }
def FnExactTrackOfWalkSaid : Prop := fnExactTrackOfWalkRow.holds Try.pinned (OpenSpec.ofChange fnExactTrackOfWalkSpec)

/-- ITS FALSE NEIGHBOUR: 'it returns false'. Refute it at one input. -/
def fnExactTrackOfWalkWrong : ChangeSpec := { name := "fnExactTrackOfWalk", fn := fun _ => fun
  | [d1, d2, d3] => { results := [.lit (.bool false)], args := [d1, d2, d3] }
  | _ => none }
def FnExactTrackOfWalkWrongFalsely : Prop := fnExactTrackOfWalkRow.holds Try.pinned (OpenSpec.ofChange fnExactTrackOfWalkWrong)

/-- 'laws.FnExactVisitsOfWalk': WHATEVER THE INPUT: true; the input reads as it did. -/
def fnExactVisitsOfWalkSpec : ChangeSpec := { name := "fnExactVisitsOfWalk", fn := fun _ => fun
  | [d1, d2, d3] => { results := [.lit (.bool true)], args := [d1, d2, d3] }
  | _ => none }
def fnExactVisitsOfWalkRow : OpenClaim := { program := "ytdeppknmibhokaa", sum := "888ea142ff54695db466b0f4244c604c047d9499290f1eadd6bfc516f19c936a", func := "loop.example/g01276/laws.FnExactVisitsOfWalk", spec := "fnExactVisitsOfWalk", plainKeys := false, apart := false }
def FnExactVisitsOfWalkSaid : Prop := fnExactVisitsOfWalkRow.holds Try.pinned (OpenSpec.ofChange fnExactVisitsOfWalkSpec)

/-- ITS FALSE NEIGHBOUR: 'it returns false'. Refute it at one input. -/
def fnExactVisitsOfWalkWrong : ChangeSpec := { name := "fnExactVisitsOfWalk", fn := fun _ => fun
  | [d1, d2, d3] => { results := [.lit (.bool false)], args := [d1, d2, d3] }
  | _ => none }
def FnExactVisitsOfWalkWrongFalsely : Prop := fnExactVisitsOfWalkRow.holds Try.pinned (OpenSpec.ofChange fnExactVisitsOfWalkWrong)

/-- 'laws.FnExactLinesUsed': WHATEVER THE INPUT: true; the input reads as it did. -/
def fnExactLinesUsedSpec : ChangeSpec := { name := "fnExactLinesUsed", fn := fun _ => fun
  | [d1, d2, d3] => { results := [.lit (.bool true)], args := [d1, d2, d3] }
  | _ => none }
def fnExactLinesUsedRow : OpenClaim := { program := "ytdeppknmibhokaa", sum := "888ea142ff54695db466b0f4244c604c047d9499290f1eadd6bfc516f19c936a", func := "loop.example/g01276/laws.FnExactLinesUsed", spec := "fnExactLinesUsed", plainKeys := false, apart := false }
def FnExactLinesUsedSaid : Prop := fnExactLinesUsedRow.holds Try.pinned (OpenSpec.ofChange fnExactLinesUsedSpec)

/-- ITS FALSE NEIGHBOUR: 'it returns false'. Refute it at one input. -/
def fnExactLinesUsedWrong : ChangeSpec := { name := "fnExactLinesUsed", fn := fun _ => fun
  | [d1, d2, d3] => { results := [.lit (.bool false)], args := [d1, d2, d3] }
  | _ => none }
def FnExactLinesUsedWrongFalsely : Prop := fnExactLinesUsedRow.holds Try.pinned (OpenSpec.ofChange fnExactLinesUsedWrong)

/-- 'laws.FnExactStepsToNode': WHATEVER THE INPUT: true; the input reads as it did. -/
def fnExactStepsToNodeSpec : ChangeSpec := { name := "fnExactStepsToNode", fn := fun _ => fun
  | [d1, d2, d3] => { results := [.lit (.bool true)], args := [d1, d2, d3] }
  | _ => none }
def fnExactStepsToNodeRow : OpenClaim := { program := "ytdeppknmibhokaa", sum := "888ea142ff54695db466b0f4244c604c047d9499290f1eadd6bfc516f19c936a", func := "loop.example/g01276/laws.FnExactStepsToNode", spec := "fnExactStepsToNode", plainKeys := false, apart := false }
def FnExactStepsToNodeSaid : Prop := fnExactStepsToNodeRow.holds Try.pinned (OpenSpec.ofChange fnExactStepsToNodeSpec)

/-- ITS FALSE NEIGHBOUR: 'it returns false'. Refute it at one input. -/
def fnExactStepsToNodeWrong : ChangeSpec := { name := "fnExactStepsToNode", fn := fun _ => fun
  | [d1, d2, d3] => { results := [.lit (.bool false)], args := [d1, d2, d3] }
  | _ => none }
def FnExactStepsToNodeWrongFalsely : Prop := fnExactStepsToNodeRow.holds Try.pinned (OpenSpec.ofChange fnExactStepsToNodeWrong)

/-- 'laws.FnExactWalkLoop': WHATEVER THE INPUT: true; the input reads as it did. -/
def fnExactWalkLoopSpec : ChangeSpec := { name := "fnExactWalkLoop", fn := fun _ => fun
  | [d1, d2] => { results := [.lit (.bool true)], args := [d1, d2] }
  | _ => none }
def fnExactWalkLoopRow : OpenClaim := { program := "ytdeppknmibhokaa", sum := "888ea142ff54695db466b0f4244c604c047d9499290f1eadd6bfc516f19c936a", func := "loop.example/g01276/laws.FnExactWalkLoop", spec := "fnExactWalkLoop", plainKeys := false, apart := false }
def FnExactWalkLoopSaid : Prop := fnExactWalkLoopRow.holds Try.pinned (OpenSpec.ofChange fnExactWalkLoopSpec)

/-- ITS FALSE NEIGHBOUR: 'it returns false'. Refute it at one input. -/
def fnExactWalkLoopWrong : ChangeSpec := { name := "fnExactWalkLoop", fn := fun _ => fun
  | [d1, d2] => { results := [.lit (.bool false)], args := [d1, d2] }
  | _ => none }
def FnExactWalkLoopWrongFalsely : Prop := fnExactWalkLoopRow.holds Try.pinned (OpenSpec.ofChange fnExactWalkLoopWrong)

/-- 'laws.FnExactCanWalk': WHATEVER THE INPUT: true; the input reads as it did. -/
def fnExactCanWalkSpec : ChangeSpec := { name := "fnExactCanWalk", fn := fun _ => fun
  | [d1, d2, d3] => { results := [.lit (.bool true)], args := [d1, d2, d3] }
  | _ => none }
def fnExactCanWalkRow : OpenClaim := { program := "ytdeppknmibhokaa", sum := "888ea142ff54695db466b0f4244c604c047d9499290f1eadd6bfc516f19c936a", func := "loop.example/g01276/laws.FnExactCanWalk", spec := "fnExactCanWalk", plainKeys := false, apart := false }
def FnExactCanWalkSaid : Prop := fnExactCanWalkRow.holds Try.pinned (OpenSpec.ofChange fnExactCanWalkSpec)

/-- ITS FALSE NEIGHBOUR: 'it returns false'. Refute it at one input. -/
def fnExactCanWalkWrong : ChangeSpec := { name := "fnExactCanWalk", fn := fun _ => fun
  | [d1, d2, d3] => { results := [.lit (.bool false)], args := [d1, d2, d3] }
  | _ => none }
def FnExactCanWalkWrongFalsely : Prop := fnExactCanWalkRow.holds Try.pinned (OpenSpec.ofChange fnExactCanWalkWrong)

/-- 'laws.FnExactSendWalkers': WHATEVER THE INPUT: true; the input reads as it did. -/
def fnExactSendWalkersSpec : ChangeSpec := { name := "fnExactSendWalkers", fn := fun _ => fun
  | [d1, d2, d3, d4] => { results := [.lit (.bool true)], args := [d1, d2, d3, d4] }
  | _ => none }
def fnExactSendWalkersRow : OpenClaim := { program := "ytdeppknmibhokaa", sum := "888ea142ff54695db466b0f4244c604c047d9499290f1eadd6bfc516f19c936a", func := "loop.example/g01276/laws.FnExactSendWalkers", spec := "fnExactSendWalkers", inPlace := ["(*sync.WaitGroup).Add", "internal/race.ReleaseMerge", "internal/race.Disable", "internal/race.Enable", "internal/synctest.IsInBubble", "internal/synctest.Associate[sync.WaitGroup]", "sync.fatal", "sync/atomic.OrUint64", "sync/atomic.AddUint64", "internal/race.Read", "sync/atomic.LoadUint64", "sync/atomic.StoreUint64", "internal/synctest.Disassociate[sync.WaitGroup]", "sync.runtime_Semrelease", "(*sync.WaitGroup).Done", "(*sync.WaitGroup).Wait", "internal/race.Acquire", "internal/synctest.IsAssociated[sync.WaitGroup]", "sync/atomic.CompareAndSwapUint64", "internal/race.Write", "sync.runtime_SemacquireWaitGroup"], unfollowed := true, recurses := true, plainKeys := false, leaving := true, apart := false }
def FnExactSendWalkersSaid : Prop := fnExactSendWalkersRow.holds Try.pinned (OpenSpec.ofChange fnExactSendWalkersSpec)

/-- ITS FALSE NEIGHBOUR: 'it returns false'. Refute it at one input. -/
def fnExactSendWalkersWrong : ChangeSpec := { name := "fnExactSendWalkers", fn := fun _ => fun
  | [d1, d2, d3, d4] => { results := [.lit (.bool false)], args := [d1, d2, d3, d4] }
  | _ => none }
def FnExactSendWalkersWrongFalsely : Prop := fnExactSendWalkersRow.holds Try.pinned (OpenSpec.ofChange fnExactSendWalkersWrong)

/- THE SECOND FORM. 'bulk': how many values and letters a reading holds, each counted each time it is reached (what is shared counts as often as it is met; a slice's spare places count too). A statement '..UptoSaid' is the law's where the arguments, and the package variables that the reading takes, are together of bulk at most 1048576: NARROWER than '..Said'. Prove '..Said' where nothing that the law and all that it calls make is longer than what came in: it says more and counts as full. Else prove '..UptoSaid'. A law counts once. -/
mutual
def uptoBulk {H : Type} : DataW H → Nat
  | .lit (.string bytes) => bytes.length + 1
  | .lit _ => 1
  | .nil => 1
  | .ptr d => uptoBulk d + 1
  | .slice elems spare => uptoBulkAll elems + uptoBulkAll spare + 1
  | .agg parts => uptoBulkAll parts + 1
  | .iface _ d => uptoBulk d + 1
  | .map entries => uptoBulkEntries entries + 1
  | .held _ => 1
def uptoBulkAll {H : Type} : List (DataW H) → Nat
  | [] => 0
  | d :: r => uptoBulk d + uptoBulkAll r
def uptoBulkEntries {H : Type} : List (Lit × DataW H) → Nat
  | [] => 0
  | x :: r => uptoBulkEntry x + uptoBulkEntries r
def uptoBulkEntry {H : Type} : Lit × DataW H → Nat
  | (.string bytes, d) => bytes.length + uptoBulk d + 1
  | (_, d) => uptoBulk d + 1
 end
def uptoSmall : (H : Type) → List (DataW H) → Bool := fun _ ds => decide (uptoBulkAll ds ≤ 1048576)
def OpenSpec.upto (s : _root_.Go.ChangeSpec) : _root_.Go.OpenSpec := { _root_.Go.OpenSpec.ofChange s with cond := some uptoSmall }

/-- 'laws.FnExactIsRoute', WHERE WHAT IT READS IS OF BULK AT MOST 1048576: true; the input reads as it did. -/
def fnExactIsRouteUptoRow : OpenClaim := { program := "ytdeppknmibhokaa", sum := "888ea142ff54695db466b0f4244c604c047d9499290f1eadd6bfc516f19c936a", func := "loop.example/g01276/laws.FnExactIsRoute", spec := "fnExactIsRoute", plainKeys := false, apart := false, narrowed := true }
def FnExactIsRouteUptoSaid : Prop := fnExactIsRouteUptoRow.holds Try.pinned (OpenSpec.upto fnExactIsRouteSpec)

/-- 'laws.FnExactRingRoute', WHERE WHAT IT READS IS OF BULK AT MOST 1048576: true; the input reads as it did. -/
def fnExactRingRouteUptoRow : OpenClaim := { program := "ytdeppknmibhokaa", sum := "888ea142ff54695db466b0f4244c604c047d9499290f1eadd6bfc516f19c936a", func := "loop.example/g01276/laws.FnExactRingRoute", spec := "fnExactRingRoute", plainKeys := false, apart := false, narrowed := true }
def FnExactRingRouteUptoSaid : Prop := fnExactRingRouteUptoRow.holds Try.pinned (OpenSpec.upto fnExactRingRouteSpec)

/-- 'laws.FnExactLineRoute', WHERE WHAT IT READS IS OF BULK AT MOST 1048576: true; the input reads as it did. -/
def fnExactLineRouteUptoRow : OpenClaim := { program := "ytdeppknmibhokaa", sum := "888ea142ff54695db466b0f4244c604c047d9499290f1eadd6bfc516f19c936a", func := "loop.example/g01276/laws.FnExactLineRoute", spec := "fnExactLineRoute", plainKeys := false, apart := false, narrowed := true }
def FnExactLineRouteUptoSaid : Prop := fnExactLineRouteUptoRow.holds Try.pinned (OpenSpec.upto fnExactLineRouteSpec)

/-- 'laws.FnExactStepRoute', WHERE WHAT IT READS IS OF BULK AT MOST 1048576: true; the input reads as it did. -/
def fnExactStepRouteUptoRow : OpenClaim := { program := "ytdeppknmibhokaa", sum := "888ea142ff54695db466b0f4244c604c047d9499290f1eadd6bfc516f19c936a", func := "loop.example/g01276/laws.FnExactStepRoute", spec := "fnExactStepRoute", plainKeys := false, apart := false, narrowed := true }
def FnExactStepRouteUptoSaid : Prop := fnExactStepRouteUptoRow.holds Try.pinned (OpenSpec.upto fnExactStepRouteSpec)

/-- 'laws.FnExactWalkAfter', WHERE WHAT IT READS IS OF BULK AT MOST 1048576: true; the input reads as it did. -/
def fnExactWalkAfterUptoRow : OpenClaim := { program := "ytdeppknmibhokaa", sum := "888ea142ff54695db466b0f4244c604c047d9499290f1eadd6bfc516f19c936a", func := "loop.example/g01276/laws.FnExactWalkAfter", spec := "fnExactWalkAfter", plainKeys := false, apart := false, narrowed := true }
def FnExactWalkAfterUptoSaid : Prop := fnExactWalkAfterUptoRow.holds Try.pinned (OpenSpec.upto fnExactWalkAfterSpec)

/-- 'laws.FnExactTrackOfWalk', WHERE WHAT IT READS IS OF BULK AT MOST 1048576: true; the input reads as it did. -/
def fnExactTrackOfWalkUptoRow : OpenClaim := { program := "ytdeppknmibhokaa", sum := "888ea142ff54695db466b0f4244c604c047d9499290f1eadd6bfc516f19c936a", func := "loop.example/g01276/laws.FnExactTrackOfWalk", spec := "fnExactTrackOfWalk", plainKeys := false, apart := false, narrowed := true }
def FnExactTrackOfWalkUptoSaid : Prop := fnExactTrackOfWalkUptoRow.holds Try.pinned (OpenSpec.upto fnExactTrackOfWalkSpec)

/-- 'laws.FnExactVisitsOfWalk', WHERE WHAT IT READS IS OF BULK AT MOST 1048576: true; the input reads as it did. -/
def fnExactVisitsOfWalkUptoRow : OpenClaim := { program := "ytdeppknmibhokaa", sum := "888ea142ff54695db466b0f4244c604c047d9499290f1eadd6bfc516f19c936a", func := "loop.example/g01276/laws.FnExactVisitsOfWalk", spec := "fnExactVisitsOfWalk", plainKeys := false, apart := false, narrowed := true }
def FnExactVisitsOfWalkUptoSaid : Prop := fnExactVisitsOfWalkUptoRow.holds Try.pinned (OpenSpec.upto fnExactVisitsOfWalkSpec)

/-- 'laws.FnExactLinesUsed', WHERE WHAT IT READS IS OF BULK AT MOST 1048576: true; the input reads as it did. -/
def fnExactLinesUsedUptoRow : OpenClaim := { program := "ytdeppknmibhokaa", sum := "888ea142ff54695db466b0f4244c604c047d9499290f1eadd6bfc516f19c936a", func := "loop.example/g01276/laws.FnExactLinesUsed", spec := "fnExactLinesUsed", plainKeys := false, apart := false, narrowed := true }
def FnExactLinesUsedUptoSaid : Prop := fnExactLinesUsedUptoRow.holds Try.pinned (OpenSpec.upto fnExactLinesUsedSpec)

/-- 'laws.FnExactStepsToNode', WHERE WHAT IT READS IS OF BULK AT MOST 1048576: true; the input reads as it did. -/
def fnExactStepsToNodeUptoRow : OpenClaim := { program := "ytdeppknmibhokaa", sum := "888ea142ff54695db466b0f4244c604c047d9499290f1eadd6bfc516f19c936a", func := "loop.example/g01276/laws.FnExactStepsToNode", spec := "fnExactStepsToNode", plainKeys := false, apart := false, narrowed := true }
def FnExactStepsToNodeUptoSaid : Prop := fnExactStepsToNodeUptoRow.holds Try.pinned (OpenSpec.upto fnExactStepsToNodeSpec)

/-- 'laws.FnExactWalkLoop', WHERE WHAT IT READS IS OF BULK AT MOST 1048576: true; the input reads as it did. -/
def fnExactWalkLoopUptoRow : OpenClaim := { program := "ytdeppknmibhokaa", sum := "888ea142ff54695db466b0f4244c604c047d9499290f1eadd6bfc516f19c936a", func := "loop.example/g01276/laws.FnExactWalkLoop", spec := "fnExactWalkLoop", plainKeys := false, apart := false, narrowed := true }
def FnExactWalkLoopUptoSaid : Prop := fnExactWalkLoopUptoRow.holds Try.pinned (OpenSpec.upto fnExactWalkLoopSpec)

/-- 'laws.FnExactCanWalk', WHERE WHAT IT READS IS OF BULK AT MOST 1048576: true; the input reads as it did. -/
def fnExactCanWalkUptoRow : OpenClaim := { program := "ytdeppknmibhokaa", sum := "888ea142ff54695db466b0f4244c604c047d9499290f1eadd6bfc516f19c936a", func := "loop.example/g01276/laws.FnExactCanWalk", spec := "fnExactCanWalk", plainKeys := false, apart := false, narrowed := true }
def FnExactCanWalkUptoSaid : Prop := fnExactCanWalkUptoRow.holds Try.pinned (OpenSpec.upto fnExactCanWalkSpec)

/-- 'laws.FnExactSendWalkers', WHERE WHAT IT READS IS OF BULK AT MOST 1048576: true; the input reads as it did. -/
def fnExactSendWalkersUptoRow : OpenClaim := { program := "ytdeppknmibhokaa", sum := "888ea142ff54695db466b0f4244c604c047d9499290f1eadd6bfc516f19c936a", func := "loop.example/g01276/laws.FnExactSendWalkers", spec := "fnExactSendWalkers", inPlace := ["(*sync.WaitGroup).Add", "internal/race.ReleaseMerge", "internal/race.Disable", "internal/race.Enable", "internal/synctest.IsInBubble", "internal/synctest.Associate[sync.WaitGroup]", "sync.fatal", "sync/atomic.OrUint64", "sync/atomic.AddUint64", "internal/race.Read", "sync/atomic.LoadUint64", "sync/atomic.StoreUint64", "internal/synctest.Disassociate[sync.WaitGroup]", "sync.runtime_Semrelease", "(*sync.WaitGroup).Done", "(*sync.WaitGroup).Wait", "internal/race.Acquire", "internal/synctest.IsAssociated[sync.WaitGroup]", "sync/atomic.CompareAndSwapUint64", "internal/race.Write", "sync.runtime_SemacquireWaitGroup"], unfollowed := true, recurses := true, plainKeys := false, leaving := true, apart := false, narrowed := true }
def FnExactSendWalkersUptoSaid : Prop := fnExactSendWalkersUptoRow.holds Try.pinned (OpenSpec.upto fnExactSendWalkersSpec)

end Rows
end Go.Proofs.Ytdeppknmibhokaa
