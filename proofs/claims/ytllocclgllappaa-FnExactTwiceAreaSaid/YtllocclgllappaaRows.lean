/-
  No cell of these rows narrows 'for every input' (looked for: loops, veiled, ifaces, maps, wideKeys, modest, calm, conditions, laid).
  DERIVED. THE GIVEN ROWS OF THIS SEAT. 12 by the template 'for every input the law returns true; each argument reads behind the call as it read before'; 0 by the template 'total and deterministic' (their statements: YtllocclgllappaaTotals.lean).
  GIVEN WITH THE SEED: the statements are not yours to turn. If you find one false, say at which input.
  Laid BY PROGRAM, IN A SANDBOX (cutbox-rows.mjs): the forced cells as the released guide's own fill.sh prints them over the translation 044fdbd73f880f50… (all of the seat's roots in one cut). By AI agents, Wed Nov 11 2026. No macro, syntax, notation, axiom, sorry.
-/
import Derived.Test.YtllocclgllappaaChecked
import GoSem.Claim
import GoSem.ClaimJoined
import GoSem.ClaimMapViews
import Derived.JoinedTies
import Derived.KernelRfl
namespace Go.Proofs.Ytllocclgllappaa
/- THE CELL 'sum', in the pinned program and in every row, IS THE sha256 OF THE DUMP (.gsa) THAT YtllocclgllappaaProg.lean LOADS. Nothing in Lean hashes anything: it is a label: what it is worth is what the hold of that sum in a sandbox is worth. -/
noncomputable def Try.pinned : Pinned := { name := "ytllocclgllappaa", sum := "044fdbd73f880f505e7c0e1d5ae84b79b2e831cfa08144913219afb4f109df8a", checked := Try.checked }
namespace Rows
def none {H : Type} : Left H := { results := [], args := [] }

/-- 'laws.FnExactIsProgram': WHATEVER THE INPUT: true; the input reads as it did. -/
def fnExactIsProgramSpec : ChangeSpec := { name := "fnExactIsProgram", fn := fun _ => fun
  | [d] => { results := [.lit (.bool true)], args := [d] }
  | _ => none }
def fnExactIsProgramRow : OpenClaim := { program := "ytllocclgllappaa", sum := "044fdbd73f880f505e7c0e1d5ae84b79b2e831cfa08144913219afb4f109df8a", func := "loop.example/g01276/laws.FnExactIsProgram", spec := "fnExactIsProgram", plainKeys := false, apart := false }
def FnExactIsProgramSaid : Prop := fnExactIsProgramRow.holds Try.pinned (OpenSpec.ofChange fnExactIsProgramSpec)

/-- ITS FALSE NEIGHBOUR: 'it returns false'. Refute it at one input. -/
def fnExactIsProgramWrong : ChangeSpec := { name := "fnExactIsProgram", fn := fun _ => fun
  | [d] => { results := [.lit (.bool false)], args := [d] }
  | _ => none }
def FnExactIsProgramWrongFalsely : Prop := fnExactIsProgramRow.holds Try.pinned (OpenSpec.ofChange fnExactIsProgramWrong)

/-- 'laws.FnExactPlaceAfter': WHATEVER THE INPUT: true; the input reads as it did. -/
def fnExactPlaceAfterSpec : ChangeSpec := { name := "fnExactPlaceAfter", fn := fun _ => fun
  | [d1, d2] => { results := [.lit (.bool true)], args := [d1, d2] }
  | _ => none }
def fnExactPlaceAfterRow : OpenClaim := { program := "ytllocclgllappaa", sum := "044fdbd73f880f505e7c0e1d5ae84b79b2e831cfa08144913219afb4f109df8a", func := "loop.example/g01276/laws.FnExactPlaceAfter", spec := "fnExactPlaceAfter", unfollowed := true, recurses := true, plainKeys := false, apart := false }
def FnExactPlaceAfterSaid : Prop := fnExactPlaceAfterRow.holds Try.pinned (OpenSpec.ofChange fnExactPlaceAfterSpec)

/-- ITS FALSE NEIGHBOUR: 'it returns false'. Refute it at one input. -/
def fnExactPlaceAfterWrong : ChangeSpec := { name := "fnExactPlaceAfter", fn := fun _ => fun
  | [d1, d2] => { results := [.lit (.bool false)], args := [d1, d2] }
  | _ => none }
def FnExactPlaceAfterWrongFalsely : Prop := fnExactPlaceAfterRow.holds Try.pinned (OpenSpec.ofChange fnExactPlaceAfterWrong)

/-- 'laws.FnExactClosesAfter': WHATEVER THE INPUT: true; the input reads as it did. -/
def fnExactClosesAfterSpec : ChangeSpec := { name := "fnExactClosesAfter", fn := fun _ => fun
  | [d] => { results := [.lit (.bool true)], args := [d] }
  | _ => none }
def fnExactClosesAfterRow : OpenClaim := { program := "ytllocclgllappaa", sum := "044fdbd73f880f505e7c0e1d5ae84b79b2e831cfa08144913219afb4f109df8a", func := "loop.example/g01276/laws.FnExactClosesAfter", spec := "fnExactClosesAfter", unfollowed := true, recurses := true, plainKeys := false, apart := false }
def FnExactClosesAfterSaid : Prop := fnExactClosesAfterRow.holds Try.pinned (OpenSpec.ofChange fnExactClosesAfterSpec)

/-- ITS FALSE NEIGHBOUR: 'it returns false'. Refute it at one input. -/
def fnExactClosesAfterWrong : ChangeSpec := { name := "fnExactClosesAfter", fn := fun _ => fun
  | [d] => { results := [.lit (.bool false)], args := [d] }
  | _ => none }
def FnExactClosesAfterWrongFalsely : Prop := fnExactClosesAfterRow.holds Try.pinned (OpenSpec.ofChange fnExactClosesAfterWrong)

/-- 'laws.FnExactQuartersOf': WHATEVER THE INPUT: true; the input reads as it did. -/
def fnExactQuartersOfSpec : ChangeSpec := { name := "fnExactQuartersOf", fn := fun _ => fun
  | [d] => { results := [.lit (.bool true)], args := [d] }
  | _ => none }
def fnExactQuartersOfRow : OpenClaim := { program := "ytllocclgllappaa", sum := "044fdbd73f880f505e7c0e1d5ae84b79b2e831cfa08144913219afb4f109df8a", func := "loop.example/g01276/laws.FnExactQuartersOf", spec := "fnExactQuartersOf", plainKeys := false, apart := false }
def FnExactQuartersOfSaid : Prop := fnExactQuartersOfRow.holds Try.pinned (OpenSpec.ofChange fnExactQuartersOfSpec)

/-- ITS FALSE NEIGHBOUR: 'it returns false'. Refute it at one input. -/
def fnExactQuartersOfWrong : ChangeSpec := { name := "fnExactQuartersOf", fn := fun _ => fun
  | [d] => { results := [.lit (.bool false)], args := [d] }
  | _ => none }
def FnExactQuartersOfWrongFalsely : Prop := fnExactQuartersOfRow.holds Try.pinned (OpenSpec.ofChange fnExactQuartersOfWrong)

/-- 'laws.FnExactLengthOf': WHATEVER THE INPUT: true; the input reads as it did. -/
def fnExactLengthOfSpec : ChangeSpec := { name := "fnExactLengthOf", fn := fun _ => fun
  | [d1, d2] => { results := [.lit (.bool true)], args := [d1, d2] }
  | _ => none }
def fnExactLengthOfRow : OpenClaim := { program := "ytllocclgllappaa", sum := "044fdbd73f880f505e7c0e1d5ae84b79b2e831cfa08144913219afb4f109df8a", func := "loop.example/g01276/laws.FnExactLengthOf", spec := "fnExactLengthOf", plainKeys := false, apart := false }
def FnExactLengthOfSaid : Prop := fnExactLengthOfRow.holds Try.pinned (OpenSpec.ofChange fnExactLengthOfSpec)

/-- ITS FALSE NEIGHBOUR: 'it returns false'. Refute it at one input. -/
def fnExactLengthOfWrong : ChangeSpec := { name := "fnExactLengthOf", fn := fun _ => fun
  | [d1, d2] => { results := [.lit (.bool false)], args := [d1, d2] }
  | _ => none }
def FnExactLengthOfWrongFalsely : Prop := fnExactLengthOfRow.holds Try.pinned (OpenSpec.ofChange fnExactLengthOfWrong)

/-- 'laws.FnExactCornersAfter': WHATEVER THE INPUT: true; the input reads as it did. -/
def fnExactCornersAfterSpec : ChangeSpec := { name := "fnExactCornersAfter", fn := fun _ => fun
  | [d1, d2] => { results := [.lit (.bool true)], args := [d1, d2] }
  | _ => none }
def fnExactCornersAfterRow : OpenClaim := { program := "ytllocclgllappaa", sum := "044fdbd73f880f505e7c0e1d5ae84b79b2e831cfa08144913219afb4f109df8a", func := "loop.example/g01276/laws.FnExactCornersAfter", spec := "fnExactCornersAfter", unfollowed := true, recurses := true, plainKeys := false, apart := false }
def FnExactCornersAfterSaid : Prop := fnExactCornersAfterRow.holds Try.pinned (OpenSpec.ofChange fnExactCornersAfterSpec)

/-- ITS FALSE NEIGHBOUR: 'it returns false'. Refute it at one input. -/
def fnExactCornersAfterWrong : ChangeSpec := { name := "fnExactCornersAfter", fn := fun _ => fun
  | [d1, d2] => { results := [.lit (.bool false)], args := [d1, d2] }
  | _ => none }
def FnExactCornersAfterWrongFalsely : Prop := fnExactCornersAfterRow.holds Try.pinned (OpenSpec.ofChange fnExactCornersAfterWrong)

/-- 'laws.FnExactBoxAfter': WHATEVER THE INPUT: true; the input reads as it did. -/
def fnExactBoxAfterSpec : ChangeSpec := { name := "fnExactBoxAfter", fn := fun _ => fun
  | [d1, d2] => { results := [.lit (.bool true)], args := [d1, d2] }
  | _ => none }
def fnExactBoxAfterRow : OpenClaim := { program := "ytllocclgllappaa", sum := "044fdbd73f880f505e7c0e1d5ae84b79b2e831cfa08144913219afb4f109df8a", func := "loop.example/g01276/laws.FnExactBoxAfter", spec := "fnExactBoxAfter", unfollowed := true, recurses := true, plainKeys := false, apart := false }
def FnExactBoxAfterSaid : Prop := fnExactBoxAfterRow.holds Try.pinned (OpenSpec.ofChange fnExactBoxAfterSpec)

/-- ITS FALSE NEIGHBOUR: 'it returns false'. Refute it at one input. -/
def fnExactBoxAfterWrong : ChangeSpec := { name := "fnExactBoxAfter", fn := fun _ => fun
  | [d1, d2] => { results := [.lit (.bool false)], args := [d1, d2] }
  | _ => none }
def FnExactBoxAfterWrongFalsely : Prop := fnExactBoxAfterRow.holds Try.pinned (OpenSpec.ofChange fnExactBoxAfterWrong)

/-- 'laws.FnExactTwiceArea': WHATEVER THE INPUT: true; the input reads as it did. -/
def fnExactTwiceAreaSpec : ChangeSpec := { name := "fnExactTwiceArea", fn := fun _ => fun
  | [d] => { results := [.lit (.bool true)], args := [d] }
  | _ => none }
def fnExactTwiceAreaRow : OpenClaim := { program := "ytllocclgllappaa", sum := "044fdbd73f880f505e7c0e1d5ae84b79b2e831cfa08144913219afb4f109df8a", func := "loop.example/g01276/laws.FnExactTwiceArea", spec := "fnExactTwiceArea", unfollowed := true, recurses := true, plainKeys := false, apart := false }
def FnExactTwiceAreaSaid : Prop := fnExactTwiceAreaRow.holds Try.pinned (OpenSpec.ofChange fnExactTwiceAreaSpec)

/-- ITS FALSE NEIGHBOUR: 'it returns false'. Refute it at one input. -/
def fnExactTwiceAreaWrong : ChangeSpec := { name := "fnExactTwiceArea", fn := fun _ => fun
  | [d] => { results := [.lit (.bool false)], args := [d] }
  | _ => none }
def FnExactTwiceAreaWrongFalsely : Prop := fnExactTwiceAreaRow.holds Try.pinned (OpenSpec.ofChange fnExactTwiceAreaWrong)

/-- 'laws.FnExactWindingOf': WHATEVER THE INPUT: true; the input reads as it did. -/
def fnExactWindingOfSpec : ChangeSpec := { name := "fnExactWindingOf", fn := fun _ => fun
  | [d] => { results := [.lit (.bool true)], args := [d] }
  | _ => none }
def fnExactWindingOfRow : OpenClaim := { program := "ytllocclgllappaa", sum := "044fdbd73f880f505e7c0e1d5ae84b79b2e831cfa08144913219afb4f109df8a", func := "loop.example/g01276/laws.FnExactWindingOf", spec := "fnExactWindingOf", inPlace := ["internal/bytealg.IndexByteString", "internal/bytealg.IndexString"], unfollowed := true, recurses := true, named := ["internal/bytealg.MaxLen"], plainKeys := false, apart := false }
def FnExactWindingOfSaid : Prop := fnExactWindingOfRow.holds Try.pinned (OpenSpec.ofChange fnExactWindingOfSpec)

/-- ITS FALSE NEIGHBOUR: 'it returns false'. Refute it at one input. -/
def fnExactWindingOfWrong : ChangeSpec := { name := "fnExactWindingOf", fn := fun _ => fun
  | [d] => { results := [.lit (.bool false)], args := [d] }
  | _ => none }
def FnExactWindingOfWrongFalsely : Prop := fnExactWindingOfRow.holds Try.pinned (OpenSpec.ofChange fnExactWindingOfWrong)

/-- 'laws.FnExactPointsOf': WHATEVER THE INPUT: true; the input reads as it did. -/
def fnExactPointsOfSpec : ChangeSpec := { name := "fnExactPointsOf", fn := fun _ => fun
  | [d1, d2] => { results := [.lit (.bool true)], args := [d1, d2] }
  | _ => none }
def fnExactPointsOfRow : OpenClaim := { program := "ytllocclgllappaa", sum := "044fdbd73f880f505e7c0e1d5ae84b79b2e831cfa08144913219afb4f109df8a", func := "loop.example/g01276/laws.FnExactPointsOf", spec := "fnExactPointsOf", unfollowed := true, recurses := true, plainKeys := false, apart := false }
def FnExactPointsOfSaid : Prop := fnExactPointsOfRow.holds Try.pinned (OpenSpec.ofChange fnExactPointsOfSpec)

/-- ITS FALSE NEIGHBOUR: 'it returns false'. Refute it at one input. -/
def fnExactPointsOfWrong : ChangeSpec := { name := "fnExactPointsOf", fn := fun _ => fun
  | [d1, d2] => { results := [.lit (.bool false)], args := [d1, d2] }
  | _ => none }
def FnExactPointsOfWrongFalsely : Prop := fnExactPointsOfRow.holds Try.pinned (OpenSpec.ofChange fnExactPointsOfWrong)

/-- 'laws.FnExactCrossesOf': WHATEVER THE INPUT: true; the input reads as it did. -/
def fnExactCrossesOfSpec : ChangeSpec := { name := "fnExactCrossesOf", fn := fun _ => fun
  | [d1, d2] => { results := [.lit (.bool true)], args := [d1, d2] }
  | _ => none }
def fnExactCrossesOfRow : OpenClaim := { program := "ytllocclgllappaa", sum := "044fdbd73f880f505e7c0e1d5ae84b79b2e831cfa08144913219afb4f109df8a", func := "loop.example/g01276/laws.FnExactCrossesOf", spec := "fnExactCrossesOf", unfollowed := true, recurses := true, plainKeys := false, apart := false }
def FnExactCrossesOfSaid : Prop := fnExactCrossesOfRow.holds Try.pinned (OpenSpec.ofChange fnExactCrossesOfSpec)

/-- ITS FALSE NEIGHBOUR: 'it returns false'. Refute it at one input. -/
def fnExactCrossesOfWrong : ChangeSpec := { name := "fnExactCrossesOf", fn := fun _ => fun
  | [d1, d2] => { results := [.lit (.bool false)], args := [d1, d2] }
  | _ => none }
def FnExactCrossesOfWrongFalsely : Prop := fnExactCrossesOfRow.holds Try.pinned (OpenSpec.ofChange fnExactCrossesOfWrong)

/-- 'laws.FnExactTurtleDraws': WHATEVER THE INPUT: true; the input reads as it did. -/
def fnExactTurtleDrawsSpec : ChangeSpec := { name := "fnExactTurtleDraws", fn := fun _ => fun
  | [d1, d2] => { results := [.lit (.bool true)], args := [d1, d2] }
  | _ => none }
def fnExactTurtleDrawsRow : OpenClaim := { program := "ytllocclgllappaa", sum := "044fdbd73f880f505e7c0e1d5ae84b79b2e831cfa08144913219afb4f109df8a", func := "loop.example/g01276/laws.FnExactTurtleDraws", spec := "fnExactTurtleDraws", unfollowed := true, recurses := true, plainKeys := false, apart := false }
def FnExactTurtleDrawsSaid : Prop := fnExactTurtleDrawsRow.holds Try.pinned (OpenSpec.ofChange fnExactTurtleDrawsSpec)

/-- ITS FALSE NEIGHBOUR: 'it returns false'. Refute it at one input. -/
def fnExactTurtleDrawsWrong : ChangeSpec := { name := "fnExactTurtleDraws", fn := fun _ => fun
  | [d1, d2] => { results := [.lit (.bool false)], args := [d1, d2] }
  | _ => none }
def FnExactTurtleDrawsWrongFalsely : Prop := fnExactTurtleDrawsRow.holds Try.pinned (OpenSpec.ofChange fnExactTurtleDrawsWrong)

/- THE SECOND FORM. 'bulk': how many values and letters a reading holds, each counted each time it is reached (what is shared counts as often as it is met; a slice's spare places count too). A statement '..UptoSaid' is the law's where the arguments, and the package variables that the reading takes, are together of bulk at most 1048576: NARROWER than '..Said'. Prove '..Said' where nothing that the law and all that it calls make is longer than what came in: it says more and counts as full. Else prove '..UptoSaid'. A law counts once. -/
mutual
def uptoBulk {H : Type} : DataW H → Nat
  | .lit (.string bytes) => bytes.length + 1
  | .lit _ => 1
  | .nil => 1
  | .ptr d => uptoBulk d + 1
  | .slice elems spare => uptoBulkAll elems + uptoBulkAll spare + 1
  | .agg parts => uptoBulkAll parts + 1
  | .iface _ d => uptoBulk d + 1
  | .map entries => uptoBulkEntries entries + 1
  | .held _ => 1
def uptoBulkAll {H : Type} : List (DataW H) → Nat
  | [] => 0
  | d :: r => uptoBulk d + uptoBulkAll r
def uptoBulkEntries {H : Type} : List (Lit × DataW H) → Nat
  | [] => 0
  | x :: r => uptoBulkEntry x + uptoBulkEntries r
def uptoBulkEntry {H : Type} : Lit × DataW H → Nat
  | (.string bytes, d) => bytes.length + uptoBulk d + 1
  | (_, d) => uptoBulk d + 1
 end
def uptoSmall : (H : Type) → List (DataW H) → Bool := fun _ ds => decide (uptoBulkAll ds ≤ 1048576)
def OpenSpec.upto (s : _root_.Go.ChangeSpec) : _root_.Go.OpenSpec := { _root_.Go.OpenSpec.ofChange s with cond := some uptoSmall }

/-- 'laws.FnExactIsProgram', WHERE WHAT IT READS IS OF BULK AT MOST 1048576: true; the input reads as it did. -/
def fnExactIsProgramUptoRow : OpenClaim := { program := "ytllocclgllappaa", sum := "044fdbd73f880f505e7c0e1d5ae84b79b2e831cfa08144913219afb4f109df8a", func := "loop.example/g01276/laws.FnExactIsProgram", spec := "fnExactIsProgram", plainKeys := false, apart := false, narrowed := true }
def FnExactIsProgramUptoSaid : Prop := fnExactIsProgramUptoRow.holds Try.pinned (OpenSpec.upto fnExactIsProgramSpec)

/-- 'laws.FnExactPlaceAfter', WHERE WHAT IT READS IS OF BULK AT MOST 1048576: true; the input reads as it did. -/
def fnExactPlaceAfterUptoRow : OpenClaim := { program := "ytllocclgllappaa", sum := "044fdbd73f880f505e7c0e1d5ae84b79b2e831cfa08144913219afb4f109df8a", func := "loop.example/g01276/laws.FnExactPlaceAfter", spec := "fnExactPlaceAfter", unfollowed := true, recurses := true, plainKeys := false, apart := false, narrowed := true }
def FnExactPlaceAfterUptoSaid : Prop := fnExactPlaceAfterUptoRow.holds Try.pinned (OpenSpec.upto fnExactPlaceAfterSpec)

/-- 'laws.FnExactClosesAfter', WHERE WHAT IT READS IS OF BULK AT MOST 1048576: true; the input reads as it did. -/
def fnExactClosesAfterUptoRow : OpenClaim := { program := "ytllocclgllappaa", sum := "044fdbd73f880f505e7c0e1d5ae84b79b2e831cfa08144913219afb4f109df8a", func := "loop.example/g01276/laws.FnExactClosesAfter", spec := "fnExactClosesAfter", unfollowed := true, recurses := true, plainKeys := false, apart := false, narrowed := true }
def FnExactClosesAfterUptoSaid : Prop := fnExactClosesAfterUptoRow.holds Try.pinned (OpenSpec.upto fnExactClosesAfterSpec)

/-- 'laws.FnExactQuartersOf', WHERE WHAT IT READS IS OF BULK AT MOST 1048576: true; the input reads as it did. -/
def fnExactQuartersOfUptoRow : OpenClaim := { program := "ytllocclgllappaa", sum := "044fdbd73f880f505e7c0e1d5ae84b79b2e831cfa08144913219afb4f109df8a", func := "loop.example/g01276/laws.FnExactQuartersOf", spec := "fnExactQuartersOf", plainKeys := false, apart := false, narrowed := true }
def FnExactQuartersOfUptoSaid : Prop := fnExactQuartersOfUptoRow.holds Try.pinned (OpenSpec.upto fnExactQuartersOfSpec)

/-- 'laws.FnExactLengthOf', WHERE WHAT IT READS IS OF BULK AT MOST 1048576: true; the input reads as it did. -/
def fnExactLengthOfUptoRow : OpenClaim := { program := "ytllocclgllappaa", sum := "044fdbd73f880f505e7c0e1d5ae84b79b2e831cfa08144913219afb4f109df8a", func := "loop.example/g01276/laws.FnExactLengthOf", spec := "fnExactLengthOf", plainKeys := false, apart := false, narrowed := true }
def FnExactLengthOfUptoSaid : Prop := fnExactLengthOfUptoRow.holds Try.pinned (OpenSpec.upto fnExactLengthOfSpec)

/-- 'laws.FnExactCornersAfter', WHERE WHAT IT READS IS OF BULK AT MOST 1048576: true; the input reads as it did. -/
def fnExactCornersAfterUptoRow : OpenClaim := { program := "ytllocclgllappaa", sum := "044fdbd73f880f505e7c0e1d5ae84b79b2e831cfa08144913219afb4f109df8a", func := "loop.example/g01276/laws.FnExactCornersAfter", spec := "fnExactCornersAfter", unfollowed := true, recurses := true, plainKeys := false, apart := false, narrowed := true }
def FnExactCornersAfterUptoSaid : Prop := fnExactCornersAfterUptoRow.holds Try.pinned (OpenSpec.upto fnExactCornersAfterSpec)

/-- 'laws.FnExactBoxAfter', WHERE WHAT IT READS IS OF BULK AT MOST 1048576: true; the input reads as it did. -/
def fnExactBoxAfterUptoRow : OpenClaim := { program := "ytllocclgllappaa", sum := "044fdbd73f880f505e7c0e1d5ae84b79b2e831cfa08144913219afb4f109df8a", func := "loop.example/g01276/laws.FnExactBoxAfter", spec := "fnExactBoxAfter", unfollowed := true, recurses := true, plainKeys := false, apart := false, narrowed := true }
def FnExactBoxAfterUptoSaid : Prop := fnExactBoxAfterUptoRow.holds Try.pinned (OpenSpec.upto fnExactBoxAfterSpec)

/-- 'laws.FnExactTwiceArea', WHERE WHAT IT READS IS OF BULK AT MOST 1048576: true; the input reads as it did. -/
def fnExactTwiceAreaUptoRow : OpenClaim := { program := "ytllocclgllappaa", sum := "044fdbd73f880f505e7c0e1d5ae84b79b2e831cfa08144913219afb4f109df8a", func := "loop.example/g01276/laws.FnExactTwiceArea", spec := "fnExactTwiceArea", unfollowed := true, recurses := true, plainKeys := false, apart := false, narrowed := true }
def FnExactTwiceAreaUptoSaid : Prop := fnExactTwiceAreaUptoRow.holds Try.pinned (OpenSpec.upto fnExactTwiceAreaSpec)

/-- 'laws.FnExactWindingOf', WHERE WHAT IT READS IS OF BULK AT MOST 1048576: true; the input reads as it did. -/
def fnExactWindingOfUptoRow : OpenClaim := { program := "ytllocclgllappaa", sum := "044fdbd73f880f505e7c0e1d5ae84b79b2e831cfa08144913219afb4f109df8a", func := "loop.example/g01276/laws.FnExactWindingOf", spec := "fnExactWindingOf", inPlace := ["internal/bytealg.IndexByteString", "internal/bytealg.IndexString"], unfollowed := true, recurses := true, named := ["internal/bytealg.MaxLen"], plainKeys := false, apart := false, narrowed := true }
def FnExactWindingOfUptoSaid : Prop := fnExactWindingOfUptoRow.holds Try.pinned (OpenSpec.upto fnExactWindingOfSpec)

/-- 'laws.FnExactPointsOf', WHERE WHAT IT READS IS OF BULK AT MOST 1048576: true; the input reads as it did. -/
def fnExactPointsOfUptoRow : OpenClaim := { program := "ytllocclgllappaa", sum := "044fdbd73f880f505e7c0e1d5ae84b79b2e831cfa08144913219afb4f109df8a", func := "loop.example/g01276/laws.FnExactPointsOf", spec := "fnExactPointsOf", unfollowed := true, recurses := true, plainKeys := false, apart := false, narrowed := true }
def FnExactPointsOfUptoSaid : Prop := fnExactPointsOfUptoRow.holds Try.pinned (OpenSpec.upto fnExactPointsOfSpec)

/-- 'laws.FnExactCrossesOf', WHERE WHAT IT READS IS OF BULK AT MOST 1048576: true; the input reads as it did. -/
def fnExactCrossesOfUptoRow : OpenClaim := { program := "ytllocclgllappaa", sum := "044fdbd73f880f505e7c0e1d5ae84b79b2e831cfa08144913219afb4f109df8a", func := "loop.example/g01276/laws.FnExactCrossesOf", spec := "fnExactCrossesOf", unfollowed := true, recurses := true, plainKeys := false, apart := false, narrowed := true }
def FnExactCrossesOfUptoSaid : Prop := fnExactCrossesOfUptoRow.holds Try.pinned (OpenSpec.upto fnExactCrossesOfSpec)

/-- 'laws.FnExactTurtleDraws', WHERE WHAT IT READS IS OF BULK AT MOST 1048576: true; the input reads as it did. -/
def fnExactTurtleDrawsUptoRow : OpenClaim := { program := "ytllocclgllappaa", sum := "044fdbd73f880f505e7c0e1d5ae84b79b2e831cfa08144913219afb4f109df8a", func := "loop.example/g01276/laws.FnExactTurtleDraws", spec := "fnExactTurtleDraws", unfollowed := true, recurses := true, plainKeys := false, apart := false, narrowed := true }
def FnExactTurtleDrawsUptoSaid : Prop := fnExactTurtleDrawsUptoRow.holds Try.pinned (OpenSpec.upto fnExactTurtleDrawsSpec)

end Rows
end Go.Proofs.Ytllocclgllappaa
