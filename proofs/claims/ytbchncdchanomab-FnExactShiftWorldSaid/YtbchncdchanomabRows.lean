/-
  No cell of these rows narrows 'for every input' (looked for: loops, veiled, ifaces, maps, wideKeys, modest, calm, conditions, laid).
  DERIVED. THE GIVEN ROWS OF THIS SEAT. 6 by the template 'for every input the law returns true; each argument reads behind the call as it read before'; 0 by the template 'total and deterministic' (their statements: YtbchncdchanomabTotals.lean).
  GIVEN WITH THE SEED: the statements are not yours to turn. If you find one false, say at which input.
  Laid BY PROGRAM, IN A SANDBOX (cutbox-rows.mjs): the forced cells as the released guide's own fill.sh prints them over the translation 74b503c3434b3125… (all of the seat's roots in one cut). By AI agents, Wed Nov 11 2026. No macro, syntax, notation, axiom, sorry.
-/
import Derived.Test.YtbchncdchanomabChecked
import GoSem.Claim
import GoSem.ClaimJoined
import GoSem.ClaimMapViews
import Derived.JoinedTies
import Derived.KernelRfl
namespace Go.Proofs.Ytbchncdchanomab
/- THE CELL 'sum', in the pinned program and in every row, IS THE sha256 OF THE DUMP (.gsa) THAT YtbchncdchanomabProg.lean LOADS. Nothing in Lean hashes anything: it is a label: what it is worth is what the hold of that sum in a sandbox is worth. -/
noncomputable def Try.pinned : Pinned := { name := "ytbchncdchanomab", sum := "74b503c3434b3125bbfba83deca219379354d16e14c88cb5c56e5064290daad4", checked := Try.checked }
namespace Rows
def none {H : Type} : Left H := { results := [], args := [] }

/-- 'laws.FnExactCountColours': WHATEVER THE INPUT: true; the input reads as it did. -/
def fnExactCountColoursSpec : ChangeSpec := { name := "fnExactCountColours", fn := fun _ => fun
  | [d] => { results := [.lit (.bool true)], args := [d] }
  | _ => none }
def fnExactCountColoursRow : OpenClaim := { program := "ytbchncdchanomab", sum := "74b503c3434b3125bbfba83deca219379354d16e14c88cb5c56e5064290daad4", func := "loop.example/g01276/laws.FnExactCountColours", spec := "fnExactCountColours", plainKeys := false, apart := false }
def FnExactCountColoursSaid : Prop := fnExactCountColoursRow.holds Try.pinned (OpenSpec.ofChange fnExactCountColoursSpec)

/-- ITS FALSE NEIGHBOUR: 'it returns false'. Refute it at one input. -/
def fnExactCountColoursWrong : ChangeSpec := { name := "fnExactCountColours", fn := fun _ => fun
  | [d] => { results := [.lit (.bool false)], args := [d] }
  | _ => none }
def FnExactCountColoursWrongFalsely : Prop := fnExactCountColoursRow.holds Try.pinned (OpenSpec.ofChange fnExactCountColoursWrong)

/-- 'laws.FnExactShiftWorld': WHATEVER THE INPUT: true; the input reads as it did. -/
def fnExactShiftWorldSpec : ChangeSpec := { name := "fnExactShiftWorld", fn := fun _ => fun
  | [d1, d2, d3] => { results := [.lit (.bool true)], args := [d1, d2, d3] }
  | _ => none }
def fnExactShiftWorldRow : OpenClaim := { program := "ytbchncdchanomab", sum := "74b503c3434b3125bbfba83deca219379354d16e14c88cb5c56e5064290daad4", func := "loop.example/g01276/laws.FnExactShiftWorld", spec := "fnExactShiftWorld", unfollowed := true, recurses := true, plainKeys := false, apart := false }
def FnExactShiftWorldSaid : Prop := fnExactShiftWorldRow.holds Try.pinned (OpenSpec.ofChange fnExactShiftWorldSpec)

/-- ITS FALSE NEIGHBOUR: 'it returns false'. Refute it at one input. -/
def fnExactShiftWorldWrong : ChangeSpec := { name := "fnExactShiftWorld", fn := fun _ => fun
  | [d1, d2, d3] => { results := [.lit (.bool false)], args := [d1, d2, d3] }
  | _ => none }
def FnExactShiftWorldWrongFalsely : Prop := fnExactShiftWorldRow.holds Try.pinned (OpenSpec.ofChange fnExactShiftWorldWrong)

/-- 'laws.FnExactTurnWorld': WHATEVER THE INPUT: true; the input reads as it did. -/
def fnExactTurnWorldSpec : ChangeSpec := { name := "fnExactTurnWorld", fn := fun _ => fun
  | [d] => { results := [.lit (.bool true)], args := [d] }
  | _ => none }
def fnExactTurnWorldRow : OpenClaim := { program := "ytbchncdchanomab", sum := "74b503c3434b3125bbfba83deca219379354d16e14c88cb5c56e5064290daad4", func := "loop.example/g01276/laws.FnExactTurnWorld", spec := "fnExactTurnWorld", unfollowed := true, recurses := true, plainKeys := false, apart := false }
def FnExactTurnWorldSaid : Prop := fnExactTurnWorldRow.holds Try.pinned (OpenSpec.ofChange fnExactTurnWorldSpec)

/-- ITS FALSE NEIGHBOUR: 'it returns false'. Refute it at one input. -/
def fnExactTurnWorldWrong : ChangeSpec := { name := "fnExactTurnWorld", fn := fun _ => fun
  | [d] => { results := [.lit (.bool false)], args := [d] }
  | _ => none }
def FnExactTurnWorldWrongFalsely : Prop := fnExactTurnWorldRow.holds Try.pinned (OpenSpec.ofChange fnExactTurnWorldWrong)

/-- 'laws.FnExactMirrorWorld': WHATEVER THE INPUT: true; the input reads as it did. -/
def fnExactMirrorWorldSpec : ChangeSpec := { name := "fnExactMirrorWorld", fn := fun _ => fun
  | [d] => { results := [.lit (.bool true)], args := [d] }
  | _ => none }
def fnExactMirrorWorldRow : OpenClaim := { program := "ytbchncdchanomab", sum := "74b503c3434b3125bbfba83deca219379354d16e14c88cb5c56e5064290daad4", func := "loop.example/g01276/laws.FnExactMirrorWorld", spec := "fnExactMirrorWorld", unfollowed := true, recurses := true, plainKeys := false, apart := false }
def FnExactMirrorWorldSaid : Prop := fnExactMirrorWorldRow.holds Try.pinned (OpenSpec.ofChange fnExactMirrorWorldSpec)

/-- ITS FALSE NEIGHBOUR: 'it returns false'. Refute it at one input. -/
def fnExactMirrorWorldWrong : ChangeSpec := { name := "fnExactMirrorWorld", fn := fun _ => fun
  | [d] => { results := [.lit (.bool false)], args := [d] }
  | _ => none }
def FnExactMirrorWorldWrongFalsely : Prop := fnExactMirrorWorldRow.holds Try.pinned (OpenSpec.ofChange fnExactMirrorWorldWrong)

/-- 'laws.FnExactBackWorld': WHATEVER THE INPUT: true; the input reads as it did. -/
def fnExactBackWorldSpec : ChangeSpec := { name := "fnExactBackWorld", fn := fun _ => fun
  | [d] => { results := [.lit (.bool true)], args := [d] }
  | _ => none }
def fnExactBackWorldRow : OpenClaim := { program := "ytbchncdchanomab", sum := "74b503c3434b3125bbfba83deca219379354d16e14c88cb5c56e5064290daad4", func := "loop.example/g01276/laws.FnExactBackWorld", spec := "fnExactBackWorld", recurses := true, plainKeys := false, apart := false }
def FnExactBackWorldSaid : Prop := fnExactBackWorldRow.holds Try.pinned (OpenSpec.ofChange fnExactBackWorldSpec)

/-- ITS FALSE NEIGHBOUR: 'it returns false'. Refute it at one input. -/
def fnExactBackWorldWrong : ChangeSpec := { name := "fnExactBackWorld", fn := fun _ => fun
  | [d] => { results := [.lit (.bool false)], args := [d] }
  | _ => none }
def FnExactBackWorldWrongFalsely : Prop := fnExactBackWorldRow.holds Try.pinned (OpenSpec.ofChange fnExactBackWorldWrong)

/-- 'laws.FnExactTurnsOfPlain': WHATEVER THE INPUT: true; the input reads as it did. -/
def fnExactTurnsOfPlainSpec : ChangeSpec := { name := "fnExactTurnsOfPlain", fn := fun _ => fun
  | [d1, d2] => { results := [.lit (.bool true)], args := [d1, d2] }
  | _ => none }
def fnExactTurnsOfPlainRow : OpenClaim := { program := "ytbchncdchanomab", sum := "74b503c3434b3125bbfba83deca219379354d16e14c88cb5c56e5064290daad4", func := "loop.example/g01276/laws.FnExactTurnsOfPlain", spec := "fnExactTurnsOfPlain", unfollowed := true, recurses := true, plainKeys := false, apart := false }
def FnExactTurnsOfPlainSaid : Prop := fnExactTurnsOfPlainRow.holds Try.pinned (OpenSpec.ofChange fnExactTurnsOfPlainSpec)

/-- ITS FALSE NEIGHBOUR: 'it returns false'. Refute it at one input. -/
def fnExactTurnsOfPlainWrong : ChangeSpec := { name := "fnExactTurnsOfPlain", fn := fun _ => fun
  | [d1, d2] => { results := [.lit (.bool false)], args := [d1, d2] }
  | _ => none }
def FnExactTurnsOfPlainWrongFalsely : Prop := fnExactTurnsOfPlainRow.holds Try.pinned (OpenSpec.ofChange fnExactTurnsOfPlainWrong)

/- THE SECOND FORM. 'bulk': how many values and letters a reading holds, each counted each time it is reached (what is shared counts as often as it is met; a slice's spare places count too). A statement '..UptoSaid' is the law's where the arguments, and the package variables that the reading takes, are together of bulk at most 1048576: NARROWER than '..Said'. Prove '..Said' where nothing that the law and all that it calls make is longer than what came in: it says more and counts as full. Else prove '..UptoSaid'. A law counts once. -/
mutual
def uptoBulk {H : Type} : DataW H → Nat
  | .lit (.string bytes) => bytes.length + 1
  | .lit _ => 1
  | .nil => 1
  | .ptr d => uptoBulk d + 1
  | .slice elems spare => uptoBulkAll elems + uptoBulkAll spare + 1
  | .agg parts => uptoBulkAll parts + 1
  | .iface _ d => uptoBulk d + 1
  | .map entries => uptoBulkEntries entries + 1
  | .held _ => 1
def uptoBulkAll {H : Type} : List (DataW H) → Nat
  | [] => 0
  | d :: r => uptoBulk d + uptoBulkAll r
def uptoBulkEntries {H : Type} : List (Lit × DataW H) → Nat
  | [] => 0
  | x :: r => uptoBulkEntry x + uptoBulkEntries r
def uptoBulkEntry {H : Type} : Lit × DataW H → Nat
  | (.string bytes, d) => bytes.length + uptoBulk d + 1
  | (_, d) => uptoBulk d + 1
 end
def uptoSmall : (H : Type) → List (DataW H) → Bool := fun _ ds => decide (uptoBulkAll ds ≤ 1048576)
def OpenSpec.upto (s : _root_.Go.ChangeSpec) : _root_.Go.OpenSpec := { _root_.Go.OpenSpec.ofChange s with cond := some uptoSmall }

/-- 'laws.FnExactCountColours', WHERE WHAT IT READS IS OF BULK AT MOST 1048576: true; the input reads as it did. -/
def fnExactCountColoursUptoRow : OpenClaim := { program := "ytbchncdchanomab", sum := "74b503c3434b3125bbfba83deca219379354d16e14c88cb5c56e5064290daad4", func := "loop.example/g01276/laws.FnExactCountColours", spec := "fnExactCountColours", plainKeys := false, apart := false, narrowed := true }
def FnExactCountColoursUptoSaid : Prop := fnExactCountColoursUptoRow.holds Try.pinned (OpenSpec.upto fnExactCountColoursSpec)

/-- 'laws.FnExactShiftWorld', WHERE WHAT IT READS IS OF BULK AT MOST 1048576: true; the input reads as it did. -/
def fnExactShiftWorldUptoRow : OpenClaim := { program := "ytbchncdchanomab", sum := "74b503c3434b3125bbfba83deca219379354d16e14c88cb5c56e5064290daad4", func := "loop.example/g01276/laws.FnExactShiftWorld", spec := "fnExactShiftWorld", unfollowed := true, recurses := true, plainKeys := false, apart := false, narrowed := true }
def FnExactShiftWorldUptoSaid : Prop := fnExactShiftWorldUptoRow.holds Try.pinned (OpenSpec.upto fnExactShiftWorldSpec)

/-- 'laws.FnExactTurnWorld', WHERE WHAT IT READS IS OF BULK AT MOST 1048576: true; the input reads as it did. -/
def fnExactTurnWorldUptoRow : OpenClaim := { program := "ytbchncdchanomab", sum := "74b503c3434b3125bbfba83deca219379354d16e14c88cb5c56e5064290daad4", func := "loop.example/g01276/laws.FnExactTurnWorld", spec := "fnExactTurnWorld", unfollowed := true, recurses := true, plainKeys := false, apart := false, narrowed := true }
def FnExactTurnWorldUptoSaid : Prop := fnExactTurnWorldUptoRow.holds Try.pinned (OpenSpec.upto fnExactTurnWorldSpec)

/-- 'laws.FnExactMirrorWorld', WHERE WHAT IT READS IS OF BULK AT MOST 1048576: true; the input reads as it did. -/
def fnExactMirrorWorldUptoRow : OpenClaim := { program := "ytbchncdchanomab", sum := "74b503c3434b3125bbfba83deca219379354d16e14c88cb5c56e5064290daad4", func := "loop.example/g01276/laws.FnExactMirrorWorld", spec := "fnExactMirrorWorld", unfollowed := true, recurses := true, plainKeys := false, apart := false, narrowed := true }
def FnExactMirrorWorldUptoSaid : Prop := fnExactMirrorWorldUptoRow.holds Try.pinned (OpenSpec.upto fnExactMirrorWorldSpec)

/-- 'laws.FnExactBackWorld', WHERE WHAT IT READS IS OF BULK AT MOST 1048576: true; the input reads as it did. -/
def fnExactBackWorldUptoRow : OpenClaim := { program := "ytbchncdchanomab", sum := "74b503c3434b3125bbfba83deca219379354d16e14c88cb5c56e5064290daad4", func := "loop.example/g01276/laws.FnExactBackWorld", spec := "fnExactBackWorld", recurses := true, plainKeys := false, apart := false, narrowed := true }
def FnExactBackWorldUptoSaid : Prop := fnExactBackWorldUptoRow.holds Try.pinned (OpenSpec.upto fnExactBackWorldSpec)

/-- 'laws.FnExactTurnsOfPlain', WHERE WHAT IT READS IS OF BULK AT MOST 1048576: true; the input reads as it did. -/
def fnExactTurnsOfPlainUptoRow : OpenClaim := { program := "ytbchncdchanomab", sum := "74b503c3434b3125bbfba83deca219379354d16e14c88cb5c56e5064290daad4", func := "loop.example/g01276/laws.FnExactTurnsOfPlain", spec := "fnExactTurnsOfPlain", unfollowed := true, recurses := true, plainKeys := false, apart := false, narrowed := true }
def FnExactTurnsOfPlainUptoSaid : Prop := fnExactTurnsOfPlainUptoRow.holds Try.pinned (OpenSpec.upto fnExactTurnsOfPlainSpec)

end Rows
end Go.Proofs.Ytbchncdchanomab
