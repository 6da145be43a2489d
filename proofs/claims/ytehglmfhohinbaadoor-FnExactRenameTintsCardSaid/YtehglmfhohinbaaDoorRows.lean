/-
  NARROWER THAN 'FOR EVERY INPUT', by the rows' own cells (each row's printed sentence says how): FnExactRenameStates: laid · FnExactRenameTints: laid · FnExactMirrorTable: laid · FnExactStatesReached: laid.
  DERIVED. THE GIVEN ROWS OF THIS SEAT. 4 by the template 'for every input the law returns true; each argument reads behind the call as it read before'; 0 by the template 'total and deterministic' (their statements: YtehglmfhohinbaaDoorTotals.lean).
  GIVEN WITH THE SEED: the statements are not yours to turn. If you find one false, say at which input.
  Laid BY PROGRAM, IN A SANDBOX (cutbox-rows.mjs): the forced cells as the released guide's own fill.sh prints them over the translation 129717abe71cdc98… (all of the seat's roots in one cut). By AI agents, Wed Nov 11 2026. No macro, syntax, notation, axiom, sorry.
-/
import Derived.Test.YtehglmfhohinbaaDoorChecked
import GoSem.Claim
import GoSem.ClaimJoined
import GoSem.ClaimMapViews
import Derived.JoinedTies
import Derived.KernelRfl
namespace Go.Proofs.YtehglmfhohinbaaDoor
/- THE CELL 'sum', in the pinned program and in every row, IS THE sha256 OF THE DUMP (.gsa) THAT YtehglmfhohinbaaDoorProg.lean LOADS. Nothing in Lean hashes anything: it is a label: what it is worth is what the hold of that sum in a sandbox is worth. -/
noncomputable def Tryd.pinned : Pinned := { name := "ytehglmfhohinbaadoor", sum := "129717abe71cdc98efe731bbfead929dcf2a8f331c5eb73d351619e1d3bc278d", checked := Tryd.checked }
namespace Rows
def none {H : Type} : Left H := { results := [], args := [] }

/- WHAT THE LISTED PACKAGE-LEVEL VARIABLES READ AS WHEN THE CALL BEGINS. Each datum BY PROGRAM (the guide's laid-datum.mjs) off the statement by which the dump's own 'gosem.cut.vars' lays the variable. In a bare row this is a premise. The card (YtehglmfhohinbaaDoorCards.lean) ties it to the program's text. -/
def laid_loop_example_g01276_impl_turnSigns {H : Type} : DataW H := .agg [.lit (.string [78]), .lit (.string [82]), .lit (.string [85]), .lit (.string [76])]

/-- 'laws.FnExactRenameStates': WHATEVER THE INPUT: true; the input reads as it did. -/
def fnExactRenameStatesSpec : ChangeSpec := { name := "fnExactRenameStates", vars := ["loop.example/g01276/impl.turnSigns"], fn := fun _ => fun
  | [d1, d2, g1] => { results := [.lit (.bool true)], args := [d1, d2], vars := [g1] }
  | _ => none }
def fnExactRenameStatesRow : OpenClaim := { program := "ytehglmfhohinbaadoor", sum := "129717abe71cdc98efe731bbfead929dcf2a8f331c5eb73d351619e1d3bc278d", func := "loop.example/g01276/laws.FnExactRenameStates", spec := "fnExactRenameStates", unfollowed := true, recurses := true, named := ["loop.example/g01276/impl.turnSigns"], apart := false, laid := [("loop.example/g01276/impl.turnSigns", laid_loop_example_g01276_impl_turnSigns)] }
def FnExactRenameStatesSaid : Prop := fnExactRenameStatesRow.holds Tryd.pinned (OpenSpec.ofChange fnExactRenameStatesSpec)

/-- ITS FALSE NEIGHBOUR: 'it returns false'. Refute it at one input. -/
def fnExactRenameStatesWrong : ChangeSpec := { name := "fnExactRenameStates", vars := ["loop.example/g01276/impl.turnSigns"], fn := fun _ => fun
  | [d1, d2, g1] => { results := [.lit (.bool false)], args := [d1, d2], vars := [g1] }
  | _ => none }
def FnExactRenameStatesWrongFalsely : Prop := fnExactRenameStatesRow.holds Tryd.pinned (OpenSpec.ofChange fnExactRenameStatesWrong)

/-- 'laws.FnExactRenameTints': WHATEVER THE INPUT: true; the input reads as it did. -/
def fnExactRenameTintsSpec : ChangeSpec := { name := "fnExactRenameTints", vars := ["loop.example/g01276/impl.turnSigns"], fn := fun _ => fun
  | [d1, d2, g1] => { results := [.lit (.bool true)], args := [d1, d2], vars := [g1] }
  | _ => none }
def fnExactRenameTintsRow : OpenClaim := { program := "ytehglmfhohinbaadoor", sum := "129717abe71cdc98efe731bbfead929dcf2a8f331c5eb73d351619e1d3bc278d", func := "loop.example/g01276/laws.FnExactRenameTints", spec := "fnExactRenameTints", unfollowed := true, recurses := true, named := ["loop.example/g01276/impl.turnSigns"], apart := false, laid := [("loop.example/g01276/impl.turnSigns", laid_loop_example_g01276_impl_turnSigns)] }
def FnExactRenameTintsSaid : Prop := fnExactRenameTintsRow.holds Tryd.pinned (OpenSpec.ofChange fnExactRenameTintsSpec)

/-- ITS FALSE NEIGHBOUR: 'it returns false'. Refute it at one input. -/
def fnExactRenameTintsWrong : ChangeSpec := { name := "fnExactRenameTints", vars := ["loop.example/g01276/impl.turnSigns"], fn := fun _ => fun
  | [d1, d2, g1] => { results := [.lit (.bool false)], args := [d1, d2], vars := [g1] }
  | _ => none }
def FnExactRenameTintsWrongFalsely : Prop := fnExactRenameTintsRow.holds Tryd.pinned (OpenSpec.ofChange fnExactRenameTintsWrong)

/-- 'laws.FnExactMirrorTable': WHATEVER THE INPUT: true; the input reads as it did. -/
def fnExactMirrorTableSpec : ChangeSpec := { name := "fnExactMirrorTable", vars := ["loop.example/g01276/impl.turnSigns"], fn := fun _ => fun
  | [d, g1] => { results := [.lit (.bool true)], args := [d], vars := [g1] }
  | _ => none }
def fnExactMirrorTableRow : OpenClaim := { program := "ytehglmfhohinbaadoor", sum := "129717abe71cdc98efe731bbfead929dcf2a8f331c5eb73d351619e1d3bc278d", func := "loop.example/g01276/laws.FnExactMirrorTable", spec := "fnExactMirrorTable", named := ["loop.example/g01276/impl.turnSigns"], apart := false, laid := [("loop.example/g01276/impl.turnSigns", laid_loop_example_g01276_impl_turnSigns)] }
def FnExactMirrorTableSaid : Prop := fnExactMirrorTableRow.holds Tryd.pinned (OpenSpec.ofChange fnExactMirrorTableSpec)

/-- ITS FALSE NEIGHBOUR: 'it returns false'. Refute it at one input. -/
def fnExactMirrorTableWrong : ChangeSpec := { name := "fnExactMirrorTable", vars := ["loop.example/g01276/impl.turnSigns"], fn := fun _ => fun
  | [d, g1] => { results := [.lit (.bool false)], args := [d], vars := [g1] }
  | _ => none }
def FnExactMirrorTableWrongFalsely : Prop := fnExactMirrorTableRow.holds Tryd.pinned (OpenSpec.ofChange fnExactMirrorTableWrong)

/-- 'laws.FnExactStatesReached': WHATEVER THE INPUT: true; the input reads as it did. -/
def fnExactStatesReachedSpec : ChangeSpec := { name := "fnExactStatesReached", vars := ["loop.example/g01276/impl.turnSigns"], fn := fun _ => fun
  | [d, g1] => { results := [.lit (.bool true)], args := [d], vars := [g1] }
  | _ => none }
def fnExactStatesReachedRow : OpenClaim := { program := "ytehglmfhohinbaadoor", sum := "129717abe71cdc98efe731bbfead929dcf2a8f331c5eb73d351619e1d3bc278d", func := "loop.example/g01276/laws.FnExactStatesReached", spec := "fnExactStatesReached", recurses := true, named := ["loop.example/g01276/impl.turnSigns"], apart := false, laid := [("loop.example/g01276/impl.turnSigns", laid_loop_example_g01276_impl_turnSigns)] }
def FnExactStatesReachedSaid : Prop := fnExactStatesReachedRow.holds Tryd.pinned (OpenSpec.ofChange fnExactStatesReachedSpec)

/-- ITS FALSE NEIGHBOUR: 'it returns false'. Refute it at one input. -/
def fnExactStatesReachedWrong : ChangeSpec := { name := "fnExactStatesReached", vars := ["loop.example/g01276/impl.turnSigns"], fn := fun _ => fun
  | [d, g1] => { results := [.lit (.bool false)], args := [d], vars := [g1] }
  | _ => none }
def FnExactStatesReachedWrongFalsely : Prop := fnExactStatesReachedRow.holds Tryd.pinned (OpenSpec.ofChange fnExactStatesReachedWrong)

/- THE SECOND FORM. 'bulk': how many values and letters a reading holds, each counted each time it is reached (what is shared counts as often as it is met; a slice's spare places count too). A statement '..UptoSaid' is the law's where the arguments, and the package variables that the reading takes, are together of bulk at most 1048576: NARROWER than '..Said'. Prove '..Said' where nothing that the law and all that it calls make is longer than what came in: it says more and counts as full. Else prove '..UptoSaid'. A law counts once. -/
mutual
def uptoBulk {H : Type} : DataW H → Nat
  | .lit (.string bytes) => bytes.length + 1
  | .lit _ => 1
  | .nil => 1
  | .ptr d => uptoBulk d + 1
  | .slice elems spare => uptoBulkAll elems + uptoBulkAll spare + 1
  | .agg parts => uptoBulkAll parts + 1
  | .iface _ d => uptoBulk d + 1
  | .map entries => uptoBulkEntries entries + 1
  | .held _ => 1
def uptoBulkAll {H : Type} : List (DataW H) → Nat
  | [] => 0
  | d :: r => uptoBulk d + uptoBulkAll r
def uptoBulkEntries {H : Type} : List (Lit × DataW H) → Nat
  | [] => 0
  | x :: r => uptoBulkEntry x + uptoBulkEntries r
def uptoBulkEntry {H : Type} : Lit × DataW H → Nat
  | (.string bytes, d) => bytes.length + uptoBulk d + 1
  | (_, d) => uptoBulk d + 1
 end
def uptoSmall : (H : Type) → List (DataW H) → Bool := fun _ ds => decide (uptoBulkAll ds ≤ 1048576)
def OpenSpec.upto (s : _root_.Go.ChangeSpec) : _root_.Go.OpenSpec := { _root_.Go.OpenSpec.ofChange s with cond := some uptoSmall }

/-- 'laws.FnExactRenameStates', WHERE WHAT IT READS IS OF BULK AT MOST 1048576: true; the input reads as it did. -/
def fnExactRenameStatesUptoRow : OpenClaim := { program := "ytehglmfhohinbaadoor", sum := "129717abe71cdc98efe731bbfead929dcf2a8f331c5eb73d351619e1d3bc278d", func := "loop.example/g01276/laws.FnExactRenameStates", spec := "fnExactRenameStates", unfollowed := true, recurses := true, named := ["loop.example/g01276/impl.turnSigns"], apart := false, laid := [("loop.example/g01276/impl.turnSigns", laid_loop_example_g01276_impl_turnSigns)], narrowed := true }
def FnExactRenameStatesUptoSaid : Prop := fnExactRenameStatesUptoRow.holds Tryd.pinned (OpenSpec.upto fnExactRenameStatesSpec)

/-- 'laws.FnExactRenameTints', WHERE WHAT IT READS IS OF BULK AT MOST 1048576: true; the input reads as it did. -/
def fnExactRenameTintsUptoRow : OpenClaim := { program := "ytehglmfhohinbaadoor", sum := "129717abe71cdc98efe731bbfead929dcf2a8f331c5eb73d351619e1d3bc278d", func := "loop.example/g01276/laws.FnExactRenameTints", spec := "fnExactRenameTints", unfollowed := true, recurses := true, named := ["loop.example/g01276/impl.turnSigns"], apart := false, laid := [("loop.example/g01276/impl.turnSigns", laid_loop_example_g01276_impl_turnSigns)], narrowed := true }
def FnExactRenameTintsUptoSaid : Prop := fnExactRenameTintsUptoRow.holds Tryd.pinned (OpenSpec.upto fnExactRenameTintsSpec)

/-- 'laws.FnExactMirrorTable', WHERE WHAT IT READS IS OF BULK AT MOST 1048576: true; the input reads as it did. -/
def fnExactMirrorTableUptoRow : OpenClaim := { program := "ytehglmfhohinbaadoor", sum := "129717abe71cdc98efe731bbfead929dcf2a8f331c5eb73d351619e1d3bc278d", func := "loop.example/g01276/laws.FnExactMirrorTable", spec := "fnExactMirrorTable", named := ["loop.example/g01276/impl.turnSigns"], apart := false, laid := [("loop.example/g01276/impl.turnSigns", laid_loop_example_g01276_impl_turnSigns)], narrowed := true }
def FnExactMirrorTableUptoSaid : Prop := fnExactMirrorTableUptoRow.holds Tryd.pinned (OpenSpec.upto fnExactMirrorTableSpec)

/-- 'laws.FnExactStatesReached', WHERE WHAT IT READS IS OF BULK AT MOST 1048576: true; the input reads as it did. -/
def fnExactStatesReachedUptoRow : OpenClaim := { program := "ytehglmfhohinbaadoor", sum := "129717abe71cdc98efe731bbfead929dcf2a8f331c5eb73d351619e1d3bc278d", func := "loop.example/g01276/laws.FnExactStatesReached", spec := "fnExactStatesReached", recurses := true, named := ["loop.example/g01276/impl.turnSigns"], apart := false, laid := [("loop.example/g01276/impl.turnSigns", laid_loop_example_g01276_impl_turnSigns)], narrowed := true }
def FnExactStatesReachedUptoSaid : Prop := fnExactStatesReachedUptoRow.holds Tryd.pinned (OpenSpec.upto fnExactStatesReachedSpec)

end Rows
end Go.Proofs.YtehglmfhohinbaaDoor
