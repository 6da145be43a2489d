/-
  No cell of these rows narrows 'for every input' (looked for: loops, veiled, ifaces, maps, wideKeys, modest, calm, conditions, laid).
  DERIVED. THE GIVEN ROWS OF THIS SEAT. 5 by the template 'for every input the law returns true; each argument reads behind the call as it read before'; 0 by the template 'total and deterministic' (their statements: YtopolpgligoldacTotals.lean).
  GIVEN WITH THE SEED: the statements are not yours to turn. If you find one false, say at which input.
  Laid BY PROGRAM, IN A SANDBOX (cutbox-rows.mjs): the forced cells as the released guide's own fill.sh prints them over the translation f3ee6d4a07c7948c… (all of the seat's roots in one cut). By AI agents, Wed Nov 11 2026. No macro, syntax, notation, axiom, sorry.
-/
import Derived.Test.YtopolpgligoldacChecked
import GoSem.Claim
import GoSem.ClaimJoined
import GoSem.ClaimMapViews
import Derived.JoinedTies
import Derived.KernelRfl
namespace Go.Proofs.Ytopolpgligoldac
/- THE CELL 'sum', in the pinned program and in every row, IS THE sha256 OF THE DUMP (.gsa) THAT YtopolpgligoldacProg.lean LOADS. Nothing in Lean hashes anything: it is a label: what it is worth is what the hold of that sum in a sandbox is worth. -/
noncomputable def Try.pinned : Pinned := { name := "ytopolpgligoldac", sum := "f3ee6d4a07c7948cd1f50e4bf92607966e39d012feb0b07b4145eb504fbcbf58", checked := Try.checked }
namespace Rows
def none {H : Type} : Left H := { results := [], args := [] }

/-- 'laws.FnExactLinesUsed': WHATEVER THE INPUT: true; the input reads as it did. -/
def fnExactLinesUsedSpec : ChangeSpec := { name := "fnExactLinesUsed", fn := fun _ => fun
  | [d1, d2, d3] => { results := [.lit (.bool true)], args := [d1, d2, d3] }
  | _ => none }
def fnExactLinesUsedRow : OpenClaim := { program := "ytopolpgligoldac", sum := "f3ee6d4a07c7948cd1f50e4bf92607966e39d012feb0b07b4145eb504fbcbf58", func := "loop.example/g01276/laws.FnExactLinesUsed", spec := "fnExactLinesUsed", plainKeys := false, apart := false }
def FnExactLinesUsedSaid : Prop := fnExactLinesUsedRow.holds Try.pinned (OpenSpec.ofChange fnExactLinesUsedSpec)

/-- ITS FALSE NEIGHBOUR: 'it returns false'. Refute it at one input. -/
def fnExactLinesUsedWrong : ChangeSpec := { name := "fnExactLinesUsed", fn := fun _ => fun
  | [d1, d2, d3] => { results := [.lit (.bool false)], args := [d1, d2, d3] }
  | _ => none }
def FnExactLinesUsedWrongFalsely : Prop := fnExactLinesUsedRow.holds Try.pinned (OpenSpec.ofChange fnExactLinesUsedWrong)

/-- 'laws.FnExactStepsToNode': WHATEVER THE INPUT: true; the input reads as it did. -/
def fnExactStepsToNodeSpec : ChangeSpec := { name := "fnExactStepsToNode", fn := fun _ => fun
  | [d1, d2, d3] => { results := [.lit (.bool true)], args := [d1, d2, d3] }
  | _ => none }
def fnExactStepsToNodeRow : OpenClaim := { program := "ytopolpgligoldac", sum := "f3ee6d4a07c7948cd1f50e4bf92607966e39d012feb0b07b4145eb504fbcbf58", func := "loop.example/g01276/laws.FnExactStepsToNode", spec := "fnExactStepsToNode", plainKeys := false, apart := false }
def FnExactStepsToNodeSaid : Prop := fnExactStepsToNodeRow.holds Try.pinned (OpenSpec.ofChange fnExactStepsToNodeSpec)

/-- ITS FALSE NEIGHBOUR: 'it returns false'. Refute it at one input. -/
def fnExactStepsToNodeWrong : ChangeSpec := { name := "fnExactStepsToNode", fn := fun _ => fun
  | [d1, d2, d3] => { results := [.lit (.bool false)], args := [d1, d2, d3] }
  | _ => none }
def FnExactStepsToNodeWrongFalsely : Prop := fnExactStepsToNodeRow.holds Try.pinned (OpenSpec.ofChange fnExactStepsToNodeWrong)

/-- 'laws.FnExactWalkLoop': WHATEVER THE INPUT: true; the input reads as it did. -/
def fnExactWalkLoopSpec : ChangeSpec := { name := "fnExactWalkLoop", fn := fun _ => fun
  | [d1, d2] => { results := [.lit (.bool true)], args := [d1, d2] }
  | _ => none }
def fnExactWalkLoopRow : OpenClaim := { program := "ytopolpgligoldac", sum := "f3ee6d4a07c7948cd1f50e4bf92607966e39d012feb0b07b4145eb504fbcbf58", func := "loop.example/g01276/laws.FnExactWalkLoop", spec := "fnExactWalkLoop", plainKeys := false, apart := false }
def FnExactWalkLoopSaid : Prop := fnExactWalkLoopRow.holds Try.pinned (OpenSpec.ofChange fnExactWalkLoopSpec)

/-- ITS FALSE NEIGHBOUR: 'it returns false'. Refute it at one input. -/
def fnExactWalkLoopWrong : ChangeSpec := { name := "fnExactWalkLoop", fn := fun _ => fun
  | [d1, d2] => { results := [.lit (.bool false)], args := [d1, d2] }
  | _ => none }
def FnExactWalkLoopWrongFalsely : Prop := fnExactWalkLoopRow.holds Try.pinned (OpenSpec.ofChange fnExactWalkLoopWrong)

/-- 'laws.FnExactResetRoute': WHATEVER THE INPUT: true; the input reads as it did. -/
def fnExactResetRouteSpec : ChangeSpec := { name := "fnExactResetRoute", fn := fun _ => fun
  | [d] => { results := [.lit (.bool true)], args := [d] }
  | _ => none }
def fnExactResetRouteRow : OpenClaim := { program := "ytopolpgligoldac", sum := "f3ee6d4a07c7948cd1f50e4bf92607966e39d012feb0b07b4145eb504fbcbf58", func := "loop.example/g01276/laws.FnExactResetRoute", spec := "fnExactResetRoute", plainKeys := false, apart := false }
def FnExactResetRouteSaid : Prop := fnExactResetRouteRow.holds Try.pinned (OpenSpec.ofChange fnExactResetRouteSpec)

/-- ITS FALSE NEIGHBOUR: 'it returns false'. Refute it at one input. -/
def fnExactResetRouteWrong : ChangeSpec := { name := "fnExactResetRoute", fn := fun _ => fun
  | [d] => { results := [.lit (.bool false)], args := [d] }
  | _ => none }
def FnExactResetRouteWrongFalsely : Prop := fnExactResetRouteRow.holds Try.pinned (OpenSpec.ofChange fnExactResetRouteWrong)

/-- 'laws.FnExactTurnRotor': WHATEVER THE INPUT: true; the input reads as it did. -/
def fnExactTurnRotorSpec : ChangeSpec := { name := "fnExactTurnRotor", fn := fun _ => fun
  | [d1, d2] => { results := [.lit (.bool true)], args := [d1, d2] }
  | _ => none }
def fnExactTurnRotorRow : OpenClaim := { program := "ytopolpgligoldac", sum := "f3ee6d4a07c7948cd1f50e4bf92607966e39d012feb0b07b4145eb504fbcbf58", func := "loop.example/g01276/laws.FnExactTurnRotor", spec := "fnExactTurnRotor", plainKeys := false, apart := false }
def FnExactTurnRotorSaid : Prop := fnExactTurnRotorRow.holds Try.pinned (OpenSpec.ofChange fnExactTurnRotorSpec)

/-- ITS FALSE NEIGHBOUR: 'it returns false'. Refute it at one input. -/
def fnExactTurnRotorWrong : ChangeSpec := { name := "fnExactTurnRotor", fn := fun _ => fun
  | [d1, d2] => { results := [.lit (.bool false)], args := [d1, d2] }
  | _ => none }
def FnExactTurnRotorWrongFalsely : Prop := fnExactTurnRotorRow.holds Try.pinned (OpenSpec.ofChange fnExactTurnRotorWrong)

/- THE SECOND FORM. 'bulk': how many values and letters a reading holds, each counted each time it is reached (what is shared counts as often as it is met; a slice's spare places count too). A statement '..UptoSaid' is the law's where the arguments, and the package variables that the reading takes, are together of bulk at most 1048576: NARROWER than '..Said'. Prove '..Said' where nothing that the law and all that it calls make is longer than what came in: it says more and counts as full. Else prove '..UptoSaid'. A law counts once. -/
mutual
def uptoBulk {H : Type} : DataW H → Nat
  | .lit (.string bytes) => bytes.length + 1
  | .lit _ => 1
  | .nil => 1
  | .ptr d => uptoBulk d + 1
  | .slice elems spare => uptoBulkAll elems + uptoBulkAll spare + 1
  | .agg parts => uptoBulkAll parts + 1
  | .iface _ d => uptoBulk d + 1
  | .map entries => uptoBulkEntries entries + 1
  | .held _ => 1
def uptoBulkAll {H : Type} : List (DataW H) → Nat
  | [] => 0
  | d :: r => uptoBulk d + uptoBulkAll r
def uptoBulkEntries {H : Type} : List (Lit × DataW H) → Nat
  | [] => 0
  | x :: r => uptoBulkEntry x + uptoBulkEntries r
def uptoBulkEntry {H : Type} : Lit × DataW H → Nat
  | (.string bytes, d) => bytes.length + uptoBulk d + 1
  | (_, d) => uptoBulk d + 1
 end
def uptoSmall : (H : Type) → List (DataW H) → Bool := fun _ ds => decide (uptoBulkAll ds ≤ 1048576)
def OpenSpec.upto (s : _root_.Go.ChangeSpec) : _root_.Go.OpenSpec := { _root_.Go.OpenSpec.ofChange s with cond := some uptoSmall }

/-- 'laws.FnExactLinesUsed', WHERE WHAT IT READS IS OF BULK AT MOST 1048576: true; the input reads as it did. -/
def fnExactLinesUsedUptoRow : OpenClaim := { program := "ytopolpgligoldac", sum := "f3ee6d4a07c7948cd1f50e4bf92607966e39d012feb0b07b4145eb504fbcbf58", func := "loop.example/g01276/laws.FnExactLinesUsed", spec := "fnExactLinesUsed", plainKeys := false, apart := false, narrowed := true }
def FnExactLinesUsedUptoSaid : Prop := fnExactLinesUsedUptoRow.holds Try.pinned (OpenSpec.upto fnExactLinesUsedSpec)

/-- 'laws.FnExactStepsToNode', WHERE WHAT IT READS IS OF BULK AT MOST 1048576: true; the input reads as it did. -/
def fnExactStepsToNodeUptoRow : OpenClaim := { program := "ytopolpgligoldac", sum := "f3ee6d4a07c7948cd1f50e4bf92607966e39d012feb0b07b4145eb504fbcbf58", func := "loop.example/g01276/laws.FnExactStepsToNode", spec := "fnExactStepsToNode", plainKeys := false, apart := false, narrowed := true }
def FnExactStepsToNodeUptoSaid : Prop := fnExactStepsToNodeUptoRow.holds Try.pinned (OpenSpec.upto fnExactStepsToNodeSpec)

/-- 'laws.FnExactWalkLoop', WHERE WHAT IT READS IS OF BULK AT MOST 1048576: true; the input reads as it did. -/
def fnExactWalkLoopUptoRow : OpenClaim := { program := "ytopolpgligoldac", sum := "f3ee6d4a07c7948cd1f50e4bf92607966e39d012feb0b07b4145eb504fbcbf58", func := "loop.example/g01276/laws.FnExactWalkLoop", spec := "fnExactWalkLoop", plainKeys := false, apart := false, narrowed := true }
def FnExactWalkLoopUptoSaid : Prop := fnExactWalkLoopUptoRow.holds Try.pinned (OpenSpec.upto fnExactWalkLoopSpec)

/-- 'laws.FnExactResetRoute', WHERE WHAT IT READS IS OF BULK AT MOST 1048576: true; the input reads as it did. -/
def fnExactResetRouteUptoRow : OpenClaim := { program := "ytopolpgligoldac", sum := "f3ee6d4a07c7948cd1f50e4bf92607966e39d012feb0b07b4145eb504fbcbf58", func := "loop.example/g01276/laws.FnExactResetRoute", spec := "fnExactResetRoute", plainKeys := false, apart := false, narrowed := true }
def FnExactResetRouteUptoSaid : Prop := fnExactResetRouteUptoRow.holds Try.pinned (OpenSpec.upto fnExactResetRouteSpec)

/-- 'laws.FnExactTurnRotor', WHERE WHAT IT READS IS OF BULK AT MOST 1048576: true; the input reads as it did. -/
def fnExactTurnRotorUptoRow : OpenClaim := { program := "ytopolpgligoldac", sum := "f3ee6d4a07c7948cd1f50e4bf92607966e39d012feb0b07b4145eb504fbcbf58", func := "loop.example/g01276/laws.FnExactTurnRotor", spec := "fnExactTurnRotor", plainKeys := false, apart := false, narrowed := true }
def FnExactTurnRotorUptoSaid : Prop := fnExactTurnRotorUptoRow.holds Try.pinned (OpenSpec.upto fnExactTurnRotorSpec)

end Rows
end Go.Proofs.Ytopolpgligoldac
