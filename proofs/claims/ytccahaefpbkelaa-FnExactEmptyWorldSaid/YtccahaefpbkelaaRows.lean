/-
  No cell of these rows narrows 'for every input' (looked for: loops, veiled, ifaces, maps, wideKeys, modest, calm, conditions, laid).
  DERIVED. THE GIVEN ROWS OF THIS SEAT. 7 by the template 'for every input the law returns true; each argument reads behind the call as it read before'; 0 by the template 'total and deterministic' (their statements: YtccahaefpbkelaaTotals.lean).
  GIVEN WITH THE SEED: the statements are not yours to turn. If you find one false, say at which input.
  Laid BY PROGRAM, IN A SANDBOX (cutbox-rows.mjs): the forced cells as the released guide's own fill.sh prints them over the translation fc5b89b8a670962f… (all of the seat's roots in one cut). By AI agents, Wed Nov 11 2026. No macro, syntax, notation, axiom, sorry.
-/
import Derived.Test.YtccahaefpbkelaaChecked
import GoSem.Claim
import GoSem.ClaimJoined
import GoSem.ClaimMapViews
import Derived.JoinedTies
import Derived.KernelRfl
namespace Go.Proofs.Ytccahaefpbkelaa
/- THE CELL 'sum', in the pinned program and in every row, IS THE sha256 OF THE DUMP (.gsa) THAT YtccahaefpbkelaaProg.lean LOADS. Nothing in Lean hashes anything: it is a label: what it is worth is what the hold of that sum in a sandbox is worth. -/
noncomputable def Try.pinned : Pinned := { name := "ytccahaefpbkelaa", sum := "fc5b89b8a670962f13951bbf007746991e2e41120e324a2ddd5827c1ff4998a8", checked := Try.checked }
namespace Rows
def none {H : Type} : Left H := { results := [], args := [] }

/-- 'laws.FnExactIsRule': WHATEVER THE INPUT: true; the input reads as it did. -/
def fnExactIsRuleSpec : ChangeSpec := { name := "fnExactIsRule", fn := fun _ => fun
  | [d] => { results := [.lit (.bool true)], args := [d] }
  | _ => none }
def fnExactIsRuleRow : OpenClaim := { program := "ytccahaefpbkelaa", sum := "fc5b89b8a670962f13951bbf007746991e2e41120e324a2ddd5827c1ff4998a8", func := "loop.example/g01276/laws.FnExactIsRule", spec := "fnExactIsRule", apart := false }
def FnExactIsRuleSaid : Prop := fnExactIsRuleRow.holds Try.pinned (OpenSpec.ofChange fnExactIsRuleSpec)

/-- ITS FALSE NEIGHBOUR: 'it returns false'. Refute it at one input. -/
def fnExactIsRuleWrong : ChangeSpec := { name := "fnExactIsRule", fn := fun _ => fun
  | [d] => { results := [.lit (.bool false)], args := [d] }
  | _ => none }
def FnExactIsRuleWrongFalsely : Prop := fnExactIsRuleRow.holds Try.pinned (OpenSpec.ofChange fnExactIsRuleWrong)

/-- 'laws.FnExactIsWorld': WHATEVER THE INPUT: true; the input reads as it did. -/
def fnExactIsWorldSpec : ChangeSpec := { name := "fnExactIsWorld", fn := fun _ => fun
  | [d] => { results := [.lit (.bool true)], args := [d] }
  | _ => none }
def fnExactIsWorldRow : OpenClaim := { program := "ytccahaefpbkelaa", sum := "fc5b89b8a670962f13951bbf007746991e2e41120e324a2ddd5827c1ff4998a8", func := "loop.example/g01276/laws.FnExactIsWorld", spec := "fnExactIsWorld", apart := false }
def FnExactIsWorldSaid : Prop := fnExactIsWorldRow.holds Try.pinned (OpenSpec.ofChange fnExactIsWorldSpec)

/-- ITS FALSE NEIGHBOUR: 'it returns false'. Refute it at one input. -/
def fnExactIsWorldWrong : ChangeSpec := { name := "fnExactIsWorld", fn := fun _ => fun
  | [d] => { results := [.lit (.bool false)], args := [d] }
  | _ => none }
def FnExactIsWorldWrongFalsely : Prop := fnExactIsWorldRow.holds Try.pinned (OpenSpec.ofChange fnExactIsWorldWrong)

/-- 'laws.FnExactEmptyWorld': WHATEVER THE INPUT: true; the input reads as it did. -/
def fnExactEmptyWorldSpec : ChangeSpec := { name := "fnExactEmptyWorld", fn := fun _ => fun
  | [d1, d2, d3] => { results := [.lit (.bool true)], args := [d1, d2, d3] }
  | _ => none }
def fnExactEmptyWorldRow : OpenClaim := { program := "ytccahaefpbkelaa", sum := "fc5b89b8a670962f13951bbf007746991e2e41120e324a2ddd5827c1ff4998a8", func := "loop.example/g01276/laws.FnExactEmptyWorld", spec := "fnExactEmptyWorld", inPlace := ["internal/abi.NoEscape", "internal/bytealg.MakeNoZero"], apart := false }
def FnExactEmptyWorldSaid : Prop := fnExactEmptyWorldRow.holds Try.pinned (OpenSpec.ofChange fnExactEmptyWorldSpec)

/-- ITS FALSE NEIGHBOUR: 'it returns false'. Refute it at one input. -/
def fnExactEmptyWorldWrong : ChangeSpec := { name := "fnExactEmptyWorld", fn := fun _ => fun
  | [d1, d2, d3] => { results := [.lit (.bool false)], args := [d1, d2, d3] }
  | _ => none }
def FnExactEmptyWorldWrongFalsely : Prop := fnExactEmptyWorldRow.holds Try.pinned (OpenSpec.ofChange fnExactEmptyWorldWrong)

/-- 'laws.FnExactColourAt': WHATEVER THE INPUT: true; the input reads as it did. -/
def fnExactColourAtSpec : ChangeSpec := { name := "fnExactColourAt", fn := fun _ => fun
  | [d1, d2, d3] => { results := [.lit (.bool true)], args := [d1, d2, d3] }
  | _ => none }
def fnExactColourAtRow : OpenClaim := { program := "ytccahaefpbkelaa", sum := "fc5b89b8a670962f13951bbf007746991e2e41120e324a2ddd5827c1ff4998a8", func := "loop.example/g01276/laws.FnExactColourAt", spec := "fnExactColourAt", apart := false }
def FnExactColourAtSaid : Prop := fnExactColourAtRow.holds Try.pinned (OpenSpec.ofChange fnExactColourAtSpec)

/-- ITS FALSE NEIGHBOUR: 'it returns false'. Refute it at one input. -/
def fnExactColourAtWrong : ChangeSpec := { name := "fnExactColourAt", fn := fun _ => fun
  | [d1, d2, d3] => { results := [.lit (.bool false)], args := [d1, d2, d3] }
  | _ => none }
def FnExactColourAtWrongFalsely : Prop := fnExactColourAtRow.holds Try.pinned (OpenSpec.ofChange fnExactColourAtWrong)

/-- 'laws.FnExactPlaceAnt': WHATEVER THE INPUT: true; the input reads as it did. -/
def fnExactPlaceAntSpec : ChangeSpec := { name := "fnExactPlaceAnt", fn := fun _ => fun
  | [d1, d2, d3, d4] => { results := [.lit (.bool true)], args := [d1, d2, d3, d4] }
  | _ => none }
def fnExactPlaceAntRow : OpenClaim := { program := "ytccahaefpbkelaa", sum := "fc5b89b8a670962f13951bbf007746991e2e41120e324a2ddd5827c1ff4998a8", func := "loop.example/g01276/laws.FnExactPlaceAnt", spec := "fnExactPlaceAnt", apart := false }
def FnExactPlaceAntSaid : Prop := fnExactPlaceAntRow.holds Try.pinned (OpenSpec.ofChange fnExactPlaceAntSpec)

/-- ITS FALSE NEIGHBOUR: 'it returns false'. Refute it at one input. -/
def fnExactPlaceAntWrong : ChangeSpec := { name := "fnExactPlaceAnt", fn := fun _ => fun
  | [d1, d2, d3, d4] => { results := [.lit (.bool false)], args := [d1, d2, d3, d4] }
  | _ => none }
def FnExactPlaceAntWrongFalsely : Prop := fnExactPlaceAntRow.holds Try.pinned (OpenSpec.ofChange fnExactPlaceAntWrong)

/-- 'laws.FnExactCountColours': WHATEVER THE INPUT: true; the input reads as it did. -/
def fnExactCountColoursSpec : ChangeSpec := { name := "fnExactCountColours", fn := fun _ => fun
  | [d] => { results := [.lit (.bool true)], args := [d] }
  | _ => none }
def fnExactCountColoursRow : OpenClaim := { program := "ytccahaefpbkelaa", sum := "fc5b89b8a670962f13951bbf007746991e2e41120e324a2ddd5827c1ff4998a8", func := "loop.example/g01276/laws.FnExactCountColours", spec := "fnExactCountColours", apart := false }
def FnExactCountColoursSaid : Prop := fnExactCountColoursRow.holds Try.pinned (OpenSpec.ofChange fnExactCountColoursSpec)

/-- ITS FALSE NEIGHBOUR: 'it returns false'. Refute it at one input. -/
def fnExactCountColoursWrong : ChangeSpec := { name := "fnExactCountColours", fn := fun _ => fun
  | [d] => { results := [.lit (.bool false)], args := [d] }
  | _ => none }
def FnExactCountColoursWrongFalsely : Prop := fnExactCountColoursRow.holds Try.pinned (OpenSpec.ofChange fnExactCountColoursWrong)

/-- 'laws.FnExactShiftWorld': WHATEVER THE INPUT: true; the input reads as it did. -/
def fnExactShiftWorldSpec : ChangeSpec := { name := "fnExactShiftWorld", fn := fun _ => fun
  | [d1, d2, d3] => { results := [.lit (.bool true)], args := [d1, d2, d3] }
  | _ => none }
def fnExactShiftWorldRow : OpenClaim := { program := "ytccahaefpbkelaa", sum := "fc5b89b8a670962f13951bbf007746991e2e41120e324a2ddd5827c1ff4998a8", func := "loop.example/g01276/laws.FnExactShiftWorld", spec := "fnExactShiftWorld", unfollowed := true, recurses := true, apart := false }
def FnExactShiftWorldSaid : Prop := fnExactShiftWorldRow.holds Try.pinned (OpenSpec.ofChange fnExactShiftWorldSpec)

/-- ITS FALSE NEIGHBOUR: 'it returns false'. Refute it at one input. -/
def fnExactShiftWorldWrong : ChangeSpec := { name := "fnExactShiftWorld", fn := fun _ => fun
  | [d1, d2, d3] => { results := [.lit (.bool false)], args := [d1, d2, d3] }
  | _ => none }
def FnExactShiftWorldWrongFalsely : Prop := fnExactShiftWorldRow.holds Try.pinned (OpenSpec.ofChange fnExactShiftWorldWrong)

/- THE SECOND FORM. 'bulk': how many values and letters a reading holds, each counted each time it is reached (what is shared counts as often as it is met; a slice's spare places count too). A statement '..UptoSaid' is the law's where the arguments, and the package variables that the reading takes, are together of bulk at most 1048576: NARROWER than '..Said'. Prove '..Said' where nothing that the law and all that it calls make is longer than what came in: it says more and counts as full. Else prove '..UptoSaid'. A law counts once. -/
mutual
def uptoBulk {H : Type} : DataW H → Nat
  | .lit (.string bytes) => bytes.length + 1
  | .lit _ => 1
  | .nil => 1
  | .ptr d => uptoBulk d + 1
  | .slice elems spare => uptoBulkAll elems + uptoBulkAll spare + 1
  | .agg parts => uptoBulkAll parts + 1
  | .iface _ d => uptoBulk d + 1
  | .map entries => uptoBulkEntries entries + 1
  | .held _ => 1
def uptoBulkAll {H : Type} : List (DataW H) → Nat
  | [] => 0
  | d :: r => uptoBulk d + uptoBulkAll r
def uptoBulkEntries {H : Type} : List (Lit × DataW H) → Nat
  | [] => 0
  | x :: r => uptoBulkEntry x + uptoBulkEntries r
def uptoBulkEntry {H : Type} : Lit × DataW H → Nat
  | (.string bytes, d) => bytes.length + uptoBulk d + 1
  | (_, d) => uptoBulk d + 1
 end
def uptoSmall : (H : Type) → List (DataW H) → Bool := fun _ ds => decide (uptoBulkAll ds ≤ 1048576)
def OpenSpec.upto (s : _root_.Go.ChangeSpec) : _root_.Go.OpenSpec := { _root_.Go.OpenSpec.ofChange s with cond := some uptoSmall }

/-- 'laws.FnExactIsRule', WHERE WHAT IT READS IS OF BULK AT MOST 1048576: true; the input reads as it did. -/
def fnExactIsRuleUptoRow : OpenClaim := { program := "ytccahaefpbkelaa", sum := "fc5b89b8a670962f13951bbf007746991e2e41120e324a2ddd5827c1ff4998a8", func := "loop.example/g01276/laws.FnExactIsRule", spec := "fnExactIsRule", apart := false, narrowed := true }
def FnExactIsRuleUptoSaid : Prop := fnExactIsRuleUptoRow.holds Try.pinned (OpenSpec.upto fnExactIsRuleSpec)

/-- 'laws.FnExactIsWorld', WHERE WHAT IT READS IS OF BULK AT MOST 1048576: true; the input reads as it did. -/
def fnExactIsWorldUptoRow : OpenClaim := { program := "ytccahaefpbkelaa", sum := "fc5b89b8a670962f13951bbf007746991e2e41120e324a2ddd5827c1ff4998a8", func := "loop.example/g01276/laws.FnExactIsWorld", spec := "fnExactIsWorld", apart := false, narrowed := true }
def FnExactIsWorldUptoSaid : Prop := fnExactIsWorldUptoRow.holds Try.pinned (OpenSpec.upto fnExactIsWorldSpec)

/-- 'laws.FnExactEmptyWorld', WHERE WHAT IT READS IS OF BULK AT MOST 1048576: true; the input reads as it did. -/
def fnExactEmptyWorldUptoRow : OpenClaim := { program := "ytccahaefpbkelaa", sum := "fc5b89b8a670962f13951bbf007746991e2e41120e324a2ddd5827c1ff4998a8", func := "loop.example/g01276/laws.FnExactEmptyWorld", spec := "fnExactEmptyWorld", inPlace := ["internal/abi.NoEscape", "internal/bytealg.MakeNoZero"], apart := false, narrowed := true }
def FnExactEmptyWorldUptoSaid : Prop := fnExactEmptyWorldUptoRow.holds Try.pinned (OpenSpec.upto fnExactEmptyWorldSpec)

/-- 'laws.FnExactColourAt', WHERE WHAT IT READS IS OF BULK AT MOST 1048576: true; the input reads as it did. -/
def fnExactColourAtUptoRow : OpenClaim := { program := "ytccahaefpbkelaa", sum := "fc5b89b8a670962f13951bbf007746991e2e41120e324a2ddd5827c1ff4998a8", func := "loop.example/g01276/laws.FnExactColourAt", spec := "fnExactColourAt", apart := false, narrowed := true }
def FnExactColourAtUptoSaid : Prop := fnExactColourAtUptoRow.holds Try.pinned (OpenSpec.upto fnExactColourAtSpec)

/-- 'laws.FnExactPlaceAnt', WHERE WHAT IT READS IS OF BULK AT MOST 1048576: true; the input reads as it did. -/
def fnExactPlaceAntUptoRow : OpenClaim := { program := "ytccahaefpbkelaa", sum := "fc5b89b8a670962f13951bbf007746991e2e41120e324a2ddd5827c1ff4998a8", func := "loop.example/g01276/laws.FnExactPlaceAnt", spec := "fnExactPlaceAnt", apart := false, narrowed := true }
def FnExactPlaceAntUptoSaid : Prop := fnExactPlaceAntUptoRow.holds Try.pinned (OpenSpec.upto fnExactPlaceAntSpec)

/-- 'laws.FnExactCountColours', WHERE WHAT IT READS IS OF BULK AT MOST 1048576: true; the input reads as it did. -/
def fnExactCountColoursUptoRow : OpenClaim := { program := "ytccahaefpbkelaa", sum := "fc5b89b8a670962f13951bbf007746991e2e41120e324a2ddd5827c1ff4998a8", func := "loop.example/g01276/laws.FnExactCountColours", spec := "fnExactCountColours", apart := false, narrowed := true }
def FnExactCountColoursUptoSaid : Prop := fnExactCountColoursUptoRow.holds Try.pinned (OpenSpec.upto fnExactCountColoursSpec)

/-- 'laws.FnExactShiftWorld', WHERE WHAT IT READS IS OF BULK AT MOST 1048576: true; the input reads as it did. -/
def fnExactShiftWorldUptoRow : OpenClaim := { program := "ytccahaefpbkelaa", sum := "fc5b89b8a670962f13951bbf007746991e2e41120e324a2ddd5827c1ff4998a8", func := "loop.example/g01276/laws.FnExactShiftWorld", spec := "fnExactShiftWorld", unfollowed := true, recurses := true, apart := false, narrowed := true }
def FnExactShiftWorldUptoSaid : Prop := fnExactShiftWorldUptoRow.holds Try.pinned (OpenSpec.upto fnExactShiftWorldSpec)

end Rows
end Go.Proofs.Ytccahaefpbkelaa
