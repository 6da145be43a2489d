/-
  No cell of these rows narrows 'for every input' (looked for: loops, veiled, ifaces, maps, wideKeys, modest, calm, conditions, laid).
  DERIVED. THE GIVEN ROWS OF THIS SEAT. 7 by the template 'for every input the law returns true; each argument reads behind the call as it read before'; 0 by the template 'total and deterministic' (their statements: YtopolpgligoldabTotals.lean).
  GIVEN WITH THE SEED: the statements are not yours to turn. If you find one false, say at which input.
  Laid BY PROGRAM, IN A SANDBOX (cutbox-rows.mjs): the forced cells as the released guide's own fill.sh prints them over the translation 9525127374d92c9d… (all of the seat's roots in one cut). By AI agents, Wed Nov 11 2026. No macro, syntax, notation, axiom, sorry.
-/
import Derived.Test.YtopolpgligoldabChecked
import GoSem.Claim
import GoSem.ClaimJoined
import GoSem.ClaimMapViews
import Derived.JoinedTies
import Derived.KernelRfl
namespace Go.Proofs.Ytopolpgligoldab
/- THE CELL 'sum', in the pinned program and in every row, IS THE sha256 OF THE DUMP (.gsa) THAT YtopolpgligoldabProg.lean LOADS. Nothing in Lean hashes anything: it is a label: what it is worth is what the hold of that sum in a sandbox is worth. -/
noncomputable def Try.pinned : Pinned := { name := "ytopolpgligoldab", sum := "9525127374d92c9d953cd9b053f1c0a05e4a7d41c5d1f9299ad52141641b5616", checked := Try.checked }
namespace Rows
def none {H : Type} : Left H := { results := [], args := [] }

/-- 'laws.FnExactCountTables': WHATEVER THE INPUT: true; the input reads as it did. -/
def fnExactCountTablesSpec : ChangeSpec := { name := "fnExactCountTables", fn := fun _ => fun
  | [d1, d2] => { results := [.lit (.bool true)], args := [d1, d2] }
  | _ => none }
def fnExactCountTablesRow : OpenClaim := { program := "ytopolpgligoldab", sum := "9525127374d92c9d953cd9b053f1c0a05e4a7d41c5d1f9299ad52141641b5616", func := "loop.example/g01276/laws.FnExactCountTables", spec := "fnExactCountTables", apart := false }
def FnExactCountTablesSaid : Prop := fnExactCountTablesRow.holds Try.pinned (OpenSpec.ofChange fnExactCountTablesSpec)

/-- ITS FALSE NEIGHBOUR: 'it returns false'. Refute it at one input. -/
def fnExactCountTablesWrong : ChangeSpec := { name := "fnExactCountTables", fn := fun _ => fun
  | [d1, d2] => { results := [.lit (.bool false)], args := [d1, d2] }
  | _ => none }
def FnExactCountTablesWrongFalsely : Prop := fnExactCountTablesRow.holds Try.pinned (OpenSpec.ofChange fnExactCountTablesWrong)

/-- 'laws.FnExactCountUndoable': WHATEVER THE INPUT: true; the input reads as it did. -/
def fnExactCountUndoableSpec : ChangeSpec := { name := "fnExactCountUndoable", fn := fun _ => fun
  | [d1, d2] => { results := [.lit (.bool true)], args := [d1, d2] }
  | _ => none }
def fnExactCountUndoableRow : OpenClaim := { program := "ytopolpgligoldab", sum := "9525127374d92c9d953cd9b053f1c0a05e4a7d41c5d1f9299ad52141641b5616", func := "loop.example/g01276/laws.FnExactCountUndoable", spec := "fnExactCountUndoable", apart := false }
def FnExactCountUndoableSaid : Prop := fnExactCountUndoableRow.holds Try.pinned (OpenSpec.ofChange fnExactCountUndoableSpec)

/-- ITS FALSE NEIGHBOUR: 'it returns false'. Refute it at one input. -/
def fnExactCountUndoableWrong : ChangeSpec := { name := "fnExactCountUndoable", fn := fun _ => fun
  | [d1, d2] => { results := [.lit (.bool false)], args := [d1, d2] }
  | _ => none }
def FnExactCountUndoableWrongFalsely : Prop := fnExactCountUndoableRow.holds Try.pinned (OpenSpec.ofChange fnExactCountUndoableWrong)

/-- 'laws.FnExactLineRoute': WHATEVER THE INPUT: true; the input reads as it did. -/
def fnExactLineRouteSpec : ChangeSpec := { name := "fnExactLineRoute", fn := fun _ => fun
  | [d] => { results := [.lit (.bool true)], args := [d] }
  | _ => none }
def fnExactLineRouteRow : OpenClaim := { program := "ytopolpgligoldab", sum := "9525127374d92c9d953cd9b053f1c0a05e4a7d41c5d1f9299ad52141641b5616", func := "loop.example/g01276/laws.FnExactLineRoute", spec := "fnExactLineRoute", apart := false }
def FnExactLineRouteSaid : Prop := fnExactLineRouteRow.holds Try.pinned (OpenSpec.ofChange fnExactLineRouteSpec)

/-- ITS FALSE NEIGHBOUR: 'it returns false'. Refute it at one input. -/
def fnExactLineRouteWrong : ChangeSpec := { name := "fnExactLineRoute", fn := fun _ => fun
  | [d] => { results := [.lit (.bool false)], args := [d] }
  | _ => none }
def FnExactLineRouteWrongFalsely : Prop := fnExactLineRouteRow.holds Try.pinned (OpenSpec.ofChange fnExactLineRouteWrong)

/-- 'laws.FnExactStepRoute': WHATEVER THE INPUT: true; the input reads as it did. -/
def fnExactStepRouteSpec : ChangeSpec := { name := "fnExactStepRoute", fn := fun _ => fun
  | [d1, d2] => { results := [.lit (.bool true)], args := [d1, d2] }
  | _ => none }
def fnExactStepRouteRow : OpenClaim := { program := "ytopolpgligoldab", sum := "9525127374d92c9d953cd9b053f1c0a05e4a7d41c5d1f9299ad52141641b5616", func := "loop.example/g01276/laws.FnExactStepRoute", spec := "fnExactStepRoute", apart := false }
def FnExactStepRouteSaid : Prop := fnExactStepRouteRow.holds Try.pinned (OpenSpec.ofChange fnExactStepRouteSpec)

/-- ITS FALSE NEIGHBOUR: 'it returns false'. Refute it at one input. -/
def fnExactStepRouteWrong : ChangeSpec := { name := "fnExactStepRoute", fn := fun _ => fun
  | [d1, d2] => { results := [.lit (.bool false)], args := [d1, d2] }
  | _ => none }
def FnExactStepRouteWrongFalsely : Prop := fnExactStepRouteRow.holds Try.pinned (OpenSpec.ofChange fnExactStepRouteWrong)

/-- 'laws.FnExactWalkAfter': WHATEVER THE INPUT: true; the input reads as it did. -/
def fnExactWalkAfterSpec : ChangeSpec := { name := "fnExactWalkAfter", fn := fun _ => fun
  | [d1, d2, d3] => { results := [.lit (.bool true)], args := [d1, d2, d3] }
  | _ => none }
def fnExactWalkAfterRow : OpenClaim := { program := "ytopolpgligoldab", sum := "9525127374d92c9d953cd9b053f1c0a05e4a7d41c5d1f9299ad52141641b5616", func := "loop.example/g01276/laws.FnExactWalkAfter", spec := "fnExactWalkAfter", apart := false }
def FnExactWalkAfterSaid : Prop := fnExactWalkAfterRow.holds Try.pinned (OpenSpec.ofChange fnExactWalkAfterSpec)

/-- ITS FALSE NEIGHBOUR: 'it returns false'. Refute it at one input. -/
def fnExactWalkAfterWrong : ChangeSpec := { name := "fnExactWalkAfter", fn := fun _ => fun
  | [d1, d2, d3] => { results := [.lit (.bool false)], args := [d1, d2, d3] }
  | _ => none }
def FnExactWalkAfterWrongFalsely : Prop := fnExactWalkAfterRow.holds Try.pinned (OpenSpec.ofChange fnExactWalkAfterWrong)

/-- 'laws.FnExactTrackOfWalk': WHATEVER THE INPUT: true; the input reads as it did. -/
def fnExactTrackOfWalkSpec : ChangeSpec := { name := "fnExactTrackOfWalk", fn := fun _ => fun
  | [d1, d2, d3] => { results := [.lit (.bool true)], args := [d1, d2, d3] }
  | _ => none }
def fnExactTrackOfWalkRow : OpenClaim := { program := "ytopolpgligoldab", sum := "9525127374d92c9d953cd9b053f1c0a05e4a7d41c5d1f9299ad52141641b5616", func := "loop.example/g01276/laws.FnExactTrackOfWalk", spec := "fnExactTrackOfWalk", apart := false }
def FnExactTrackOfWalkSaid : Prop := fnExactTrackOfWalkRow.holds Try.pinned (OpenSpec.ofChange fnExactTrackOfWalkSpec)

/-- ITS FALSE NEIGHBOUR: 'it returns false'. Refute it at one input. -/
def fnExactTrackOfWalkWrong : ChangeSpec := { name := "fnExactTrackOfWalk", fn := fun _ => fun
  | [d1, d2, d3] => { results := [.lit (.bool false)], args := [d1, d2, d3] }
  | _ => none }
def FnExactTrackOfWalkWrongFalsely : Prop := fnExactTrackOfWalkRow.holds Try.pinned (OpenSpec.ofChange fnExactTrackOfWalkWrong)

/-- 'laws.FnExactVisitsOfWalk': WHATEVER THE INPUT: true; the input reads as it did. -/
def fnExactVisitsOfWalkSpec : ChangeSpec := { name := "fnExactVisitsOfWalk", fn := fun _ => fun
  | [d1, d2, d3] => { results := [.lit (.bool true)], args := [d1, d2, d3] }
  | _ => none }
def fnExactVisitsOfWalkRow : OpenClaim := { program := "ytopolpgligoldab", sum := "9525127374d92c9d953cd9b053f1c0a05e4a7d41c5d1f9299ad52141641b5616", func := "loop.example/g01276/laws.FnExactVisitsOfWalk", spec := "fnExactVisitsOfWalk", apart := false }
def FnExactVisitsOfWalkSaid : Prop := fnExactVisitsOfWalkRow.holds Try.pinned (OpenSpec.ofChange fnExactVisitsOfWalkSpec)

/-- ITS FALSE NEIGHBOUR: 'it returns false'. Refute it at one input. -/
def fnExactVisitsOfWalkWrong : ChangeSpec := { name := "fnExactVisitsOfWalk", fn := fun _ => fun
  | [d1, d2, d3] => { results := [.lit (.bool false)], args := [d1, d2, d3] }
  | _ => none }
def FnExactVisitsOfWalkWrongFalsely : Prop := fnExactVisitsOfWalkRow.holds Try.pinned (OpenSpec.ofChange fnExactVisitsOfWalkWrong)

/- THE SECOND FORM. 'bulk': how many values and letters a reading holds, each counted each time it is reached (what is shared counts as often as it is met; a slice's spare places count too). A statement '..UptoSaid' is the law's where the arguments, and the package variables that the reading takes, are together of bulk at most 1048576: NARROWER than '..Said'. Prove '..Said' where nothing that the law and all that it calls make is longer than what came in: it says more and counts as full. Else prove '..UptoSaid'. A law counts once. -/
mutual
def uptoBulk {H : Type} : DataW H → Nat
  | .lit (.string bytes) => bytes.length + 1
  | .lit _ => 1
  | .nil => 1
  | .ptr d => uptoBulk d + 1
  | .slice elems spare => uptoBulkAll elems + uptoBulkAll spare + 1
  | .agg parts => uptoBulkAll parts + 1
  | .iface _ d => uptoBulk d + 1
  | .map entries => uptoBulkEntries entries + 1
  | .held _ => 1
def uptoBulkAll {H : Type} : List (DataW H) → Nat
  | [] => 0
  | d :: r => uptoBulk d + uptoBulkAll r
def uptoBulkEntries {H : Type} : List (Lit × DataW H) → Nat
  | [] => 0
  | x :: r => uptoBulkEntry x + uptoBulkEntries r
def uptoBulkEntry {H : Type} : Lit × DataW H → Nat
  | (.string bytes, d) => bytes.length + uptoBulk d + 1
  | (_, d) => uptoBulk d + 1
 end
def uptoSmall : (H : Type) → List (DataW H) → Bool := fun _ ds => decide (uptoBulkAll ds ≤ 1048576)
def OpenSpec.upto (s : _root_.Go.ChangeSpec) : _root_.Go.OpenSpec := { _root_.Go.OpenSpec.ofChange s with cond := some uptoSmall }

/-- 'laws.FnExactCountTables', WHERE WHAT IT READS IS OF BULK AT MOST 1048576: true; the input reads as it did. -/
def fnExactCountTablesUptoRow : OpenClaim := { program := "ytopolpgligoldab", sum := "9525127374d92c9d953cd9b053f1c0a05e4a7d41c5d1f9299ad52141641b5616", func := "loop.example/g01276/laws.FnExactCountTables", spec := "fnExactCountTables", apart := false, narrowed := true }
def FnExactCountTablesUptoSaid : Prop := fnExactCountTablesUptoRow.holds Try.pinned (OpenSpec.upto fnExactCountTablesSpec)

/-- 'laws.FnExactCountUndoable', WHERE WHAT IT READS IS OF BULK AT MOST 1048576: true; the input reads as it did. -/
def fnExactCountUndoableUptoRow : OpenClaim := { program := "ytopolpgligoldab", sum := "9525127374d92c9d953cd9b053f1c0a05e4a7d41c5d1f9299ad52141641b5616", func := "loop.example/g01276/laws.FnExactCountUndoable", spec := "fnExactCountUndoable", apart := false, narrowed := true }
def FnExactCountUndoableUptoSaid : Prop := fnExactCountUndoableUptoRow.holds Try.pinned (OpenSpec.upto fnExactCountUndoableSpec)

/-- 'laws.FnExactLineRoute', WHERE WHAT IT READS IS OF BULK AT MOST 1048576: true; the input reads as it did. -/
def fnExactLineRouteUptoRow : OpenClaim := { program := "ytopolpgligoldab", sum := "9525127374d92c9d953cd9b053f1c0a05e4a7d41c5d1f9299ad52141641b5616", func := "loop.example/g01276/laws.FnExactLineRoute", spec := "fnExactLineRoute", apart := false, narrowed := true }
def FnExactLineRouteUptoSaid : Prop := fnExactLineRouteUptoRow.holds Try.pinned (OpenSpec.upto fnExactLineRouteSpec)

/-- 'laws.FnExactStepRoute', WHERE WHAT IT READS IS OF BULK AT MOST 1048576: true; the input reads as it did. -/
def fnExactStepRouteUptoRow : OpenClaim := { program := "ytopolpgligoldab", sum := "9525127374d92c9d953cd9b053f1c0a05e4a7d41c5d1f9299ad52141641b5616", func := "loop.example/g01276/laws.FnExactStepRoute", spec := "fnExactStepRoute", apart := false, narrowed := true }
def FnExactStepRouteUptoSaid : Prop := fnExactStepRouteUptoRow.holds Try.pinned (OpenSpec.upto fnExactStepRouteSpec)

/-- 'laws.FnExactWalkAfter', WHERE WHAT IT READS IS OF BULK AT MOST 1048576: true; the input reads as it did. -/
def fnExactWalkAfterUptoRow : OpenClaim := { program := "ytopolpgligoldab", sum := "9525127374d92c9d953cd9b053f1c0a05e4a7d41c5d1f9299ad52141641b5616", func := "loop.example/g01276/laws.FnExactWalkAfter", spec := "fnExactWalkAfter", apart := false, narrowed := true }
def FnExactWalkAfterUptoSaid : Prop := fnExactWalkAfterUptoRow.holds Try.pinned (OpenSpec.upto fnExactWalkAfterSpec)

/-- 'laws.FnExactTrackOfWalk', WHERE WHAT IT READS IS OF BULK AT MOST 1048576: true; the input reads as it did. -/
def fnExactTrackOfWalkUptoRow : OpenClaim := { program := "ytopolpgligoldab", sum := "9525127374d92c9d953cd9b053f1c0a05e4a7d41c5d1f9299ad52141641b5616", func := "loop.example/g01276/laws.FnExactTrackOfWalk", spec := "fnExactTrackOfWalk", apart := false, narrowed := true }
def FnExactTrackOfWalkUptoSaid : Prop := fnExactTrackOfWalkUptoRow.holds Try.pinned (OpenSpec.upto fnExactTrackOfWalkSpec)

/-- 'laws.FnExactVisitsOfWalk', WHERE WHAT IT READS IS OF BULK AT MOST 1048576: true; the input reads as it did. -/
def fnExactVisitsOfWalkUptoRow : OpenClaim := { program := "ytopolpgligoldab", sum := "9525127374d92c9d953cd9b053f1c0a05e4a7d41c5d1f9299ad52141641b5616", func := "loop.example/g01276/laws.FnExactVisitsOfWalk", spec := "fnExactVisitsOfWalk", apart := false, narrowed := true }
def FnExactVisitsOfWalkUptoSaid : Prop := fnExactVisitsOfWalkUptoRow.holds Try.pinned (OpenSpec.upto fnExactVisitsOfWalkSpec)

end Rows
end Go.Proofs.Ytopolpgligoldab
