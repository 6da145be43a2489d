/-
  No cell of these rows narrows 'for every input' (looked for: loops, veiled, ifaces, maps, wideKeys, modest, calm, conditions, laid).
  DERIVED. THE GIVEN ROWS OF THIS SEAT. 3 by the template 'for every input the law returns true; each argument reads behind the call as it read before'; 0 by the template 'total and deterministic' (their statements: YtllocclgllappabTotals.lean).
  GIVEN WITH THE SEED: the statements are not yours to turn. If you find one false, say at which input.
  Laid BY PROGRAM, IN A SANDBOX (cutbox-rows.mjs): the forced cells as the released guide's own fill.sh prints them over the translation 66c2472083ec5c5d… (all of the seat's roots in one cut). By AI agents, Wed Nov 11 2026. No macro, syntax, notation, axiom, sorry.
-/
import Derived.Test.YtllocclgllappabChecked
import GoSem.Claim
import GoSem.ClaimJoined
import GoSem.ClaimMapViews
import Derived.JoinedTies
import Derived.KernelRfl
namespace Go.Proofs.Ytllocclgllappab
/- THE CELL 'sum', in the pinned program and in every row, IS THE sha256 OF THE DUMP (.gsa) THAT YtllocclgllappabProg.lean LOADS. Nothing in Lean hashes anything: it is a label: what it is worth is what the hold of that sum in a sandbox is worth. -/
noncomputable def Try.pinned : Pinned := { name := "ytllocclgllappab", sum := "66c2472083ec5c5d77d7e6de5221bc58baaa992c8dc0e2562696cfde50a4f4de", checked := Try.checked }
namespace Rows
def none {H : Type} : Left H := { results := [], args := [] }

/-- 'laws.FnExactOtherProgram': WHATEVER THE INPUT: true; the input reads as it did. -/
def fnExactOtherProgramSpec : ChangeSpec := { name := "fnExactOtherProgram", fn := fun _ => fun
  | [d] => { results := [.lit (.bool true)], args := [d] }
  | _ => none }
def fnExactOtherProgramRow : OpenClaim := { program := "ytllocclgllappab", sum := "66c2472083ec5c5d77d7e6de5221bc58baaa992c8dc0e2562696cfde50a4f4de", func := "loop.example/g01276/laws.FnExactOtherProgram", spec := "fnExactOtherProgram", apart := false }
def FnExactOtherProgramSaid : Prop := fnExactOtherProgramRow.holds Try.pinned (OpenSpec.ofChange fnExactOtherProgramSpec)

/-- ITS FALSE NEIGHBOUR: 'it returns false'. Refute it at one input. -/
def fnExactOtherProgramWrong : ChangeSpec := { name := "fnExactOtherProgram", fn := fun _ => fun
  | [d] => { results := [.lit (.bool false)], args := [d] }
  | _ => none }
def FnExactOtherProgramWrongFalsely : Prop := fnExactOtherProgramRow.holds Try.pinned (OpenSpec.ofChange fnExactOtherProgramWrong)

/-- 'laws.FnExactJoinPrograms': WHATEVER THE INPUT: true; the input reads as it did. -/
def fnExactJoinProgramsSpec : ChangeSpec := { name := "fnExactJoinPrograms", fn := fun _ => fun
  | [d1, d2] => { results := [.lit (.bool true)], args := [d1, d2] }
  | _ => none }
def fnExactJoinProgramsRow : OpenClaim := { program := "ytllocclgllappab", sum := "66c2472083ec5c5d77d7e6de5221bc58baaa992c8dc0e2562696cfde50a4f4de", func := "loop.example/g01276/laws.FnExactJoinPrograms", spec := "fnExactJoinPrograms", apart := false }
def FnExactJoinProgramsSaid : Prop := fnExactJoinProgramsRow.holds Try.pinned (OpenSpec.ofChange fnExactJoinProgramsSpec)

/-- ITS FALSE NEIGHBOUR: 'it returns false'. Refute it at one input. -/
def fnExactJoinProgramsWrong : ChangeSpec := { name := "fnExactJoinPrograms", fn := fun _ => fun
  | [d1, d2] => { results := [.lit (.bool false)], args := [d1, d2] }
  | _ => none }
def FnExactJoinProgramsWrongFalsely : Prop := fnExactJoinProgramsRow.holds Try.pinned (OpenSpec.ofChange fnExactJoinProgramsWrong)

/-- 'laws.FnExactBoxOfPlain': WHATEVER THE INPUT: true; the input reads as it did. -/
def fnExactBoxOfPlainSpec : ChangeSpec := { name := "fnExactBoxOfPlain", fn := fun _ => fun
  | [d] => { results := [.lit (.bool true)], args := [d] }
  | _ => none }
def fnExactBoxOfPlainRow : OpenClaim := { program := "ytllocclgllappab", sum := "66c2472083ec5c5d77d7e6de5221bc58baaa992c8dc0e2562696cfde50a4f4de", func := "loop.example/g01276/laws.FnExactBoxOfPlain", spec := "fnExactBoxOfPlain", apart := false }
def FnExactBoxOfPlainSaid : Prop := fnExactBoxOfPlainRow.holds Try.pinned (OpenSpec.ofChange fnExactBoxOfPlainSpec)

/-- ITS FALSE NEIGHBOUR: 'it returns false'. Refute it at one input. -/
def fnExactBoxOfPlainWrong : ChangeSpec := { name := "fnExactBoxOfPlain", fn := fun _ => fun
  | [d] => { results := [.lit (.bool false)], args := [d] }
  | _ => none }
def FnExactBoxOfPlainWrongFalsely : Prop := fnExactBoxOfPlainRow.holds Try.pinned (OpenSpec.ofChange fnExactBoxOfPlainWrong)

/- THE SECOND FORM. 'bulk': how many values and letters a reading holds, each counted each time it is reached (what is shared counts as often as it is met; a slice's spare places count too). A statement '..UptoSaid' is the law's where the arguments, and the package variables that the reading takes, are together of bulk at most 1048576: NARROWER than '..Said'. Prove '..Said' where nothing that the law and all that it calls make is longer than what came in: it says more and counts as full. Else prove '..UptoSaid'. A law counts once. -/
mutual
def uptoBulk {H : Type} : DataW H → Nat
  | .lit (.string bytes) => bytes.length + 1
  | .lit _ => 1
  | .nil => 1
  | .ptr d => uptoBulk d + 1
  | .slice elems spare => uptoBulkAll elems + uptoBulkAll spare + 1
  | .agg parts => uptoBulkAll parts + 1
  | .iface _ d => uptoBulk d + 1
  | .map entries => uptoBulkEntries entries + 1
  | .held _ => 1
def uptoBulkAll {H : Type} : List (DataW H) → Nat
  | [] => 0
  | d :: r => uptoBulk d + uptoBulkAll r
def uptoBulkEntries {H : Type} : List (Lit × DataW H) → Nat
  | [] => 0
  | x :: r => uptoBulkEntry x + uptoBulkEntries r
def uptoBulkEntry {H : Type} : Lit × DataW H → Nat
  | (.string bytes, d) => bytes.length + uptoBulk d + 1
  | (_, d) => uptoBulk d + 1
 end
def uptoSmall : (H : Type) → List (DataW H) → Bool := fun _ ds => decide (uptoBulkAll ds ≤ 1048576)
def OpenSpec.upto (s : _root_.Go.ChangeSpec) : _root_.Go.OpenSpec := { _root_.Go.OpenSpec.ofChange s with cond := some uptoSmall }

/-- 'laws.FnExactOtherProgram', WHERE WHAT IT READS IS OF BULK AT MOST 1048576: true; the input reads as it did. -/
def fnExactOtherProgramUptoRow : OpenClaim := { program := "ytllocclgllappab", sum := "66c2472083ec5c5d77d7e6de5221bc58baaa992c8dc0e2562696cfde50a4f4de", func := "loop.example/g01276/laws.FnExactOtherProgram", spec := "fnExactOtherProgram", apart := false, narrowed := true }
def FnExactOtherProgramUptoSaid : Prop := fnExactOtherProgramUptoRow.holds Try.pinned (OpenSpec.upto fnExactOtherProgramSpec)

/-- 'laws.FnExactJoinPrograms', WHERE WHAT IT READS IS OF BULK AT MOST 1048576: true; the input reads as it did. -/
def fnExactJoinProgramsUptoRow : OpenClaim := { program := "ytllocclgllappab", sum := "66c2472083ec5c5d77d7e6de5221bc58baaa992c8dc0e2562696cfde50a4f4de", func := "loop.example/g01276/laws.FnExactJoinPrograms", spec := "fnExactJoinPrograms", apart := false, narrowed := true }
def FnExactJoinProgramsUptoSaid : Prop := fnExactJoinProgramsUptoRow.holds Try.pinned (OpenSpec.upto fnExactJoinProgramsSpec)

/-- 'laws.FnExactBoxOfPlain', WHERE WHAT IT READS IS OF BULK AT MOST 1048576: true; the input reads as it did. -/
def fnExactBoxOfPlainUptoRow : OpenClaim := { program := "ytllocclgllappab", sum := "66c2472083ec5c5d77d7e6de5221bc58baaa992c8dc0e2562696cfde50a4f4de", func := "loop.example/g01276/laws.FnExactBoxOfPlain", spec := "fnExactBoxOfPlain", apart := false, narrowed := true }
def FnExactBoxOfPlainUptoSaid : Prop := fnExactBoxOfPlainUptoRow.holds Try.pinned (OpenSpec.upto fnExactBoxOfPlainSpec)

end Rows
end Go.Proofs.Ytllocclgllappab
