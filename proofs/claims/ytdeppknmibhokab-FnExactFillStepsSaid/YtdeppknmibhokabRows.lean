/-
  No cell of these rows narrows 'for every input' (looked for: loops, veiled, ifaces, maps, wideKeys, modest, calm, conditions, laid).
  DERIVED. THE GIVEN ROWS OF THIS SEAT. 12 by the template 'for every input the law returns true; each argument reads behind the call as it read before'; 0 by the template 'total and deterministic' (their statements: YtdeppknmibhokabTotals.lean).
  GIVEN WITH THE SEED: the statements are not yours to turn. If you find one false, say at which input.
  Laid BY PROGRAM, IN A SANDBOX (cutbox-rows.mjs): the forced cells as the released guide's own fill.sh prints them over the translation 2a992133ec03ff89… (all of the seat's roots in one cut). By AI agents, Wed Nov 11 2026. No macro, syntax, notation, axiom, sorry.
-/
import Derived.Test.YtdeppknmibhokabChecked
import GoSem.Claim
import GoSem.ClaimJoined
import GoSem.ClaimMapViews
import Derived.JoinedTies
import Derived.KernelRfl
namespace Go.Proofs.Ytdeppknmibhokab
/- THE CELL 'sum', in the pinned program and in every row, IS THE sha256 OF THE DUMP (.gsa) THAT YtdeppknmibhokabProg.lean LOADS. Nothing in Lean hashes anything: it is a label: what it is worth is what the hold of that sum in a sandbox is worth. -/
noncomputable def Try.pinned : Pinned := { name := "ytdeppknmibhokab", sum := "2a992133ec03ff89969569e04212005fdc389f0bc9a9561a6c690fbfade829a9", checked := Try.checked }
namespace Rows
def none {H : Type} : Left H := { results := [], args := [] }

/-- 'laws.FnExactResetRoute': WHATEVER THE INPUT: true; the input reads as it did. -/
def fnExactResetRouteSpec : ChangeSpec := { name := "fnExactResetRoute", fn := fun _ => fun
  | [d] => { results := [.lit (.bool true)], args := [d] }
  | _ => none }
def fnExactResetRouteRow : OpenClaim := { program := "ytdeppknmibhokab", sum := "2a992133ec03ff89969569e04212005fdc389f0bc9a9561a6c690fbfade829a9", func := "loop.example/g01276/laws.FnExactResetRoute", spec := "fnExactResetRoute", plainKeys := false, apart := false }
def FnExactResetRouteSaid : Prop := fnExactResetRouteRow.holds Try.pinned (OpenSpec.ofChange fnExactResetRouteSpec)

/-- ITS FALSE NEIGHBOUR: 'it returns false'. Refute it at one input. -/
def fnExactResetRouteWrong : ChangeSpec := { name := "fnExactResetRoute", fn := fun _ => fun
  | [d] => { results := [.lit (.bool false)], args := [d] }
  | _ => none }
def FnExactResetRouteWrongFalsely : Prop := fnExactResetRouteRow.holds Try.pinned (OpenSpec.ofChange fnExactResetRouteWrong)

/-- 'laws.FnExactTurnRotor': WHATEVER THE INPUT: true; the input reads as it did. -/
def fnExactTurnRotorSpec : ChangeSpec := { name := "fnExactTurnRotor", fn := fun _ => fun
  | [d1, d2] => { results := [.lit (.bool true)], args := [d1, d2] }
  | _ => none }
def fnExactTurnRotorRow : OpenClaim := { program := "ytdeppknmibhokab", sum := "2a992133ec03ff89969569e04212005fdc389f0bc9a9561a6c690fbfade829a9", func := "loop.example/g01276/laws.FnExactTurnRotor", spec := "fnExactTurnRotor", plainKeys := false, apart := false }
def FnExactTurnRotorSaid : Prop := fnExactTurnRotorRow.holds Try.pinned (OpenSpec.ofChange fnExactTurnRotorSpec)

/-- ITS FALSE NEIGHBOUR: 'it returns false'. Refute it at one input. -/
def fnExactTurnRotorWrong : ChangeSpec := { name := "fnExactTurnRotor", fn := fun _ => fun
  | [d1, d2] => { results := [.lit (.bool false)], args := [d1, d2] }
  | _ => none }
def FnExactTurnRotorWrongFalsely : Prop := fnExactTurnRotorRow.holds Try.pinned (OpenSpec.ofChange fnExactTurnRotorWrong)

/-- 'laws.FnExactFillLine': WHATEVER THE INPUT: true; the input reads as it did. -/
def fnExactFillLineSpec : ChangeSpec := { name := "fnExactFillLine", fn := fun _ => fun
  | [d] => { results := [.lit (.bool true)], args := [d] }
  | _ => none }
def fnExactFillLineRow : OpenClaim := { program := "ytdeppknmibhokab", sum := "2a992133ec03ff89969569e04212005fdc389f0bc9a9561a6c690fbfade829a9", func := "loop.example/g01276/laws.FnExactFillLine", spec := "fnExactFillLine", plainKeys := false, apart := false }
def FnExactFillLineSaid : Prop := fnExactFillLineRow.holds Try.pinned (OpenSpec.ofChange fnExactFillLineSpec)

/-- ITS FALSE NEIGHBOUR: 'it returns false'. Refute it at one input. -/
def fnExactFillLineWrong : ChangeSpec := { name := "fnExactFillLine", fn := fun _ => fun
  | [d] => { results := [.lit (.bool false)], args := [d] }
  | _ => none }
def FnExactFillLineWrongFalsely : Prop := fnExactFillLineRow.holds Try.pinned (OpenSpec.ofChange fnExactFillLineWrong)

/-- 'laws.FnExactFillSteps': WHATEVER THE INPUT: true; the input reads as it did. -/
def fnExactFillStepsSpec : ChangeSpec := { name := "fnExactFillSteps", fn := fun _ => fun
  | [d] => { results := [.lit (.bool true)], args := [d] }
  | _ => none }
def fnExactFillStepsRow : OpenClaim := { program := "ytdeppknmibhokab", sum := "2a992133ec03ff89969569e04212005fdc389f0bc9a9561a6c690fbfade829a9", func := "loop.example/g01276/laws.FnExactFillSteps", spec := "fnExactFillSteps", plainKeys := false, apart := false }
def FnExactFillStepsSaid : Prop := fnExactFillStepsRow.holds Try.pinned (OpenSpec.ofChange fnExactFillStepsSpec)

/-- ITS FALSE NEIGHBOUR: 'it returns false'. Refute it at one input. -/
def fnExactFillStepsWrong : ChangeSpec := { name := "fnExactFillSteps", fn := fun _ => fun
  | [d] => { results := [.lit (.bool false)], args := [d] }
  | _ => none }
def FnExactFillStepsWrongFalsely : Prop := fnExactFillStepsRow.holds Try.pinned (OpenSpec.ofChange fnExactFillStepsWrong)

/-- 'laws.FnExactColourOfSpot': WHATEVER THE INPUT: true; the input reads as it did. -/
def fnExactColourOfSpotSpec : ChangeSpec := { name := "fnExactColourOfSpot", fn := fun _ => fun
  | [d1, d2, d3] => { results := [.lit (.bool true)], args := [d1, d2, d3] }
  | _ => none }
def fnExactColourOfSpotRow : OpenClaim := { program := "ytdeppknmibhokab", sum := "2a992133ec03ff89969569e04212005fdc389f0bc9a9561a6c690fbfade829a9", func := "loop.example/g01276/laws.FnExactColourOfSpot", spec := "fnExactColourOfSpot", plainKeys := false, apart := false }
def FnExactColourOfSpotSaid : Prop := fnExactColourOfSpotRow.holds Try.pinned (OpenSpec.ofChange fnExactColourOfSpotSpec)

/-- ITS FALSE NEIGHBOUR: 'it returns false'. Refute it at one input. -/
def fnExactColourOfSpotWrong : ChangeSpec := { name := "fnExactColourOfSpot", fn := fun _ => fun
  | [d1, d2, d3] => { results := [.lit (.bool false)], args := [d1, d2, d3] }
  | _ => none }
def FnExactColourOfSpotWrongFalsely : Prop := fnExactColourOfSpotRow.holds Try.pinned (OpenSpec.ofChange fnExactColourOfSpotWrong)

/-- 'laws.FnExactPaintSpot': WHATEVER THE INPUT: true; the input reads as it did. -/
def fnExactPaintSpotSpec : ChangeSpec := { name := "fnExactPaintSpot", fn := fun _ => fun
  | [d1, d2, d3, d4] => { results := [.lit (.bool true)], args := [d1, d2, d3, d4] }
  | _ => none }
def fnExactPaintSpotRow : OpenClaim := { program := "ytdeppknmibhokab", sum := "2a992133ec03ff89969569e04212005fdc389f0bc9a9561a6c690fbfade829a9", func := "loop.example/g01276/laws.FnExactPaintSpot", spec := "fnExactPaintSpot", unfollowed := true, recurses := true, plainKeys := false, apart := false }
def FnExactPaintSpotSaid : Prop := fnExactPaintSpotRow.holds Try.pinned (OpenSpec.ofChange fnExactPaintSpotSpec)

/-- ITS FALSE NEIGHBOUR: 'it returns false'. Refute it at one input. -/
def fnExactPaintSpotWrong : ChangeSpec := { name := "fnExactPaintSpot", fn := fun _ => fun
  | [d1, d2, d3, d4] => { results := [.lit (.bool false)], args := [d1, d2, d3, d4] }
  | _ => none }
def FnExactPaintSpotWrongFalsely : Prop := fnExactPaintSpotRow.holds Try.pinned (OpenSpec.ofChange fnExactPaintSpotWrong)

/-- 'laws.FnExactStepPlain': WHATEVER THE INPUT: true; the input reads as it did. -/
def fnExactStepPlainSpec : ChangeSpec := { name := "fnExactStepPlain", fn := fun _ => fun
  | [d] => { results := [.lit (.bool true)], args := [d] }
  | _ => none }
def fnExactStepPlainRow : OpenClaim := { program := "ytdeppknmibhokab", sum := "2a992133ec03ff89969569e04212005fdc389f0bc9a9561a6c690fbfade829a9", func := "loop.example/g01276/laws.FnExactStepPlain", spec := "fnExactStepPlain", unfollowed := true, recurses := true, plainKeys := false, apart := false }
def FnExactStepPlainSaid : Prop := fnExactStepPlainRow.holds Try.pinned (OpenSpec.ofChange fnExactStepPlainSpec)

/-- ITS FALSE NEIGHBOUR: 'it returns false'. Refute it at one input. -/
def fnExactStepPlainWrong : ChangeSpec := { name := "fnExactStepPlain", fn := fun _ => fun
  | [d] => { results := [.lit (.bool false)], args := [d] }
  | _ => none }
def FnExactStepPlainWrongFalsely : Prop := fnExactStepPlainRow.holds Try.pinned (OpenSpec.ofChange fnExactStepPlainWrong)

/-- 'laws.FnExactPlainAfter': WHATEVER THE INPUT: true; the input reads as it did. -/
def fnExactPlainAfterSpec : ChangeSpec := { name := "fnExactPlainAfter", fn := fun _ => fun
  | [d1, d2] => { results := [.lit (.bool true)], args := [d1, d2] }
  | _ => none }
def fnExactPlainAfterRow : OpenClaim := { program := "ytdeppknmibhokab", sum := "2a992133ec03ff89969569e04212005fdc389f0bc9a9561a6c690fbfade829a9", func := "loop.example/g01276/laws.FnExactPlainAfter", spec := "fnExactPlainAfter", unfollowed := true, recurses := true, plainKeys := false, apart := false }
def FnExactPlainAfterSaid : Prop := fnExactPlainAfterRow.holds Try.pinned (OpenSpec.ofChange fnExactPlainAfterSpec)

/-- ITS FALSE NEIGHBOUR: 'it returns false'. Refute it at one input. -/
def fnExactPlainAfterWrong : ChangeSpec := { name := "fnExactPlainAfter", fn := fun _ => fun
  | [d1, d2] => { results := [.lit (.bool false)], args := [d1, d2] }
  | _ => none }
def FnExactPlainAfterWrongFalsely : Prop := fnExactPlainAfterRow.holds Try.pinned (OpenSpec.ofChange fnExactPlainAfterWrong)

/-- 'laws.FnExactPlainBefore': WHATEVER THE INPUT: true; the input reads as it did. -/
def fnExactPlainBeforeSpec : ChangeSpec := { name := "fnExactPlainBefore", fn := fun _ => fun
  | [d1, d2] => { results := [.lit (.bool true)], args := [d1, d2] }
  | _ => none }
def fnExactPlainBeforeRow : OpenClaim := { program := "ytdeppknmibhokab", sum := "2a992133ec03ff89969569e04212005fdc389f0bc9a9561a6c690fbfade829a9", func := "loop.example/g01276/laws.FnExactPlainBefore", spec := "fnExactPlainBefore", unfollowed := true, recurses := true, plainKeys := false, apart := false }
def FnExactPlainBeforeSaid : Prop := fnExactPlainBeforeRow.holds Try.pinned (OpenSpec.ofChange fnExactPlainBeforeSpec)

/-- ITS FALSE NEIGHBOUR: 'it returns false'. Refute it at one input. -/
def fnExactPlainBeforeWrong : ChangeSpec := { name := "fnExactPlainBefore", fn := fun _ => fun
  | [d1, d2] => { results := [.lit (.bool false)], args := [d1, d2] }
  | _ => none }
def FnExactPlainBeforeWrongFalsely : Prop := fnExactPlainBeforeRow.holds Try.pinned (OpenSpec.ofChange fnExactPlainBeforeWrong)

/-- 'laws.FnExactTurnsOfPlain': WHATEVER THE INPUT: true; the input reads as it did. -/
def fnExactTurnsOfPlainSpec : ChangeSpec := { name := "fnExactTurnsOfPlain", fn := fun _ => fun
  | [d1, d2] => { results := [.lit (.bool true)], args := [d1, d2] }
  | _ => none }
def fnExactTurnsOfPlainRow : OpenClaim := { program := "ytdeppknmibhokab", sum := "2a992133ec03ff89969569e04212005fdc389f0bc9a9561a6c690fbfade829a9", func := "loop.example/g01276/laws.FnExactTurnsOfPlain", spec := "fnExactTurnsOfPlain", unfollowed := true, recurses := true, plainKeys := false, apart := false }
def FnExactTurnsOfPlainSaid : Prop := fnExactTurnsOfPlainRow.holds Try.pinned (OpenSpec.ofChange fnExactTurnsOfPlainSpec)

/-- ITS FALSE NEIGHBOUR: 'it returns false'. Refute it at one input. -/
def fnExactTurnsOfPlainWrong : ChangeSpec := { name := "fnExactTurnsOfPlain", fn := fun _ => fun
  | [d1, d2] => { results := [.lit (.bool false)], args := [d1, d2] }
  | _ => none }
def FnExactTurnsOfPlainWrongFalsely : Prop := fnExactTurnsOfPlainRow.holds Try.pinned (OpenSpec.ofChange fnExactTurnsOfPlainWrong)

/-- 'laws.FnExactDriftOf': WHATEVER THE INPUT: true; the input reads as it did. -/
def fnExactDriftOfSpec : ChangeSpec := { name := "fnExactDriftOf", fn := fun _ => fun
  | [d1, d2, d3] => { results := [.lit (.bool true)], args := [d1, d2, d3] }
  | _ => none }
def fnExactDriftOfRow : OpenClaim := { program := "ytdeppknmibhokab", sum := "2a992133ec03ff89969569e04212005fdc389f0bc9a9561a6c690fbfade829a9", func := "loop.example/g01276/laws.FnExactDriftOf", spec := "fnExactDriftOf", unfollowed := true, recurses := true, plainKeys := false, apart := false }
def FnExactDriftOfSaid : Prop := fnExactDriftOfRow.holds Try.pinned (OpenSpec.ofChange fnExactDriftOfSpec)

/-- ITS FALSE NEIGHBOUR: 'it returns false'. Refute it at one input. -/
def fnExactDriftOfWrong : ChangeSpec := { name := "fnExactDriftOf", fn := fun _ => fun
  | [d1, d2, d3] => { results := [.lit (.bool false)], args := [d1, d2, d3] }
  | _ => none }
def FnExactDriftOfWrongFalsely : Prop := fnExactDriftOfRow.holds Try.pinned (OpenSpec.ofChange fnExactDriftOfWrong)

/-- 'laws.FnExactIsHighway': WHATEVER THE INPUT: true; the input reads as it did. -/
def fnExactIsHighwaySpec : ChangeSpec := { name := "fnExactIsHighway", fn := fun _ => fun
  | [d1, d2, d3] => { results := [.lit (.bool true)], args := [d1, d2, d3] }
  | _ => none }
def fnExactIsHighwayRow : OpenClaim := { program := "ytdeppknmibhokab", sum := "2a992133ec03ff89969569e04212005fdc389f0bc9a9561a6c690fbfade829a9", func := "loop.example/g01276/laws.FnExactIsHighway", spec := "fnExactIsHighway", unfollowed := true, recurses := true, plainKeys := false, apart := false }
def FnExactIsHighwaySaid : Prop := fnExactIsHighwayRow.holds Try.pinned (OpenSpec.ofChange fnExactIsHighwaySpec)

/-- ITS FALSE NEIGHBOUR: 'it returns false'. Refute it at one input. -/
def fnExactIsHighwayWrong : ChangeSpec := { name := "fnExactIsHighway", fn := fun _ => fun
  | [d1, d2, d3] => { results := [.lit (.bool false)], args := [d1, d2, d3] }
  | _ => none }
def FnExactIsHighwayWrongFalsely : Prop := fnExactIsHighwayRow.holds Try.pinned (OpenSpec.ofChange fnExactIsHighwayWrong)

/- THE SECOND FORM. 'bulk': how many values and letters a reading holds, each counted each time it is reached (what is shared counts as often as it is met; a slice's spare places count too). A statement '..UptoSaid' is the law's where the arguments, and the package variables that the reading takes, are together of bulk at most 1048576: NARROWER than '..Said'. Prove '..Said' where nothing that the law and all that it calls make is longer than what came in: it says more and counts as full. Else prove '..UptoSaid'. A law counts once. -/
mutual
def uptoBulk {H : Type} : DataW H → Nat
  | .lit (.string bytes) => bytes.length + 1
  | .lit _ => 1
  | .nil => 1
  | .ptr d => uptoBulk d + 1
  | .slice elems spare => uptoBulkAll elems + uptoBulkAll spare + 1
  | .agg parts => uptoBulkAll parts + 1
  | .iface _ d => uptoBulk d + 1
  | .map entries => uptoBulkEntries entries + 1
  | .held _ => 1
def uptoBulkAll {H : Type} : List (DataW H) → Nat
  | [] => 0
  | d :: r => uptoBulk d + uptoBulkAll r
def uptoBulkEntries {H : Type} : List (Lit × DataW H) → Nat
  | [] => 0
  | x :: r => uptoBulkEntry x + uptoBulkEntries r
def uptoBulkEntry {H : Type} : Lit × DataW H → Nat
  | (.string bytes, d) => bytes.length + uptoBulk d + 1
  | (_, d) => uptoBulk d + 1
 end
def uptoSmall : (H : Type) → List (DataW H) → Bool := fun _ ds => decide (uptoBulkAll ds ≤ 1048576)
def OpenSpec.upto (s : _root_.Go.ChangeSpec) : _root_.Go.OpenSpec := { _root_.Go.OpenSpec.ofChange s with cond := some uptoSmall }

/-- 'laws.FnExactResetRoute', WHERE WHAT IT READS IS OF BULK AT MOST 1048576: true; the input reads as it did. -/
def fnExactResetRouteUptoRow : OpenClaim := { program := "ytdeppknmibhokab", sum := "2a992133ec03ff89969569e04212005fdc389f0bc9a9561a6c690fbfade829a9", func := "loop.example/g01276/laws.FnExactResetRoute", spec := "fnExactResetRoute", plainKeys := false, apart := false, narrowed := true }
def FnExactResetRouteUptoSaid : Prop := fnExactResetRouteUptoRow.holds Try.pinned (OpenSpec.upto fnExactResetRouteSpec)

/-- 'laws.FnExactTurnRotor', WHERE WHAT IT READS IS OF BULK AT MOST 1048576: true; the input reads as it did. -/
def fnExactTurnRotorUptoRow : OpenClaim := { program := "ytdeppknmibhokab", sum := "2a992133ec03ff89969569e04212005fdc389f0bc9a9561a6c690fbfade829a9", func := "loop.example/g01276/laws.FnExactTurnRotor", spec := "fnExactTurnRotor", plainKeys := false, apart := false, narrowed := true }
def FnExactTurnRotorUptoSaid : Prop := fnExactTurnRotorUptoRow.holds Try.pinned (OpenSpec.upto fnExactTurnRotorSpec)

/-- 'laws.FnExactFillLine', WHERE WHAT IT READS IS OF BULK AT MOST 1048576: true; the input reads as it did. -/
def fnExactFillLineUptoRow : OpenClaim := { program := "ytdeppknmibhokab", sum := "2a992133ec03ff89969569e04212005fdc389f0bc9a9561a6c690fbfade829a9", func := "loop.example/g01276/laws.FnExactFillLine", spec := "fnExactFillLine", plainKeys := false, apart := false, narrowed := true }
def FnExactFillLineUptoSaid : Prop := fnExactFillLineUptoRow.holds Try.pinned (OpenSpec.upto fnExactFillLineSpec)

/-- 'laws.FnExactFillSteps', WHERE WHAT IT READS IS OF BULK AT MOST 1048576: true; the input reads as it did. -/
def fnExactFillStepsUptoRow : OpenClaim := { program := "ytdeppknmibhokab", sum := "2a992133ec03ff89969569e04212005fdc389f0bc9a9561a6c690fbfade829a9", func := "loop.example/g01276/laws.FnExactFillSteps", spec := "fnExactFillSteps", plainKeys := false, apart := false, narrowed := true }
def FnExactFillStepsUptoSaid : Prop := fnExactFillStepsUptoRow.holds Try.pinned (OpenSpec.upto fnExactFillStepsSpec)

/-- 'laws.FnExactColourOfSpot', WHERE WHAT IT READS IS OF BULK AT MOST 1048576: true; the input reads as it did. -/
def fnExactColourOfSpotUptoRow : OpenClaim := { program := "ytdeppknmibhokab", sum := "2a992133ec03ff89969569e04212005fdc389f0bc9a9561a6c690fbfade829a9", func := "loop.example/g01276/laws.FnExactColourOfSpot", spec := "fnExactColourOfSpot", plainKeys := false, apart := false, narrowed := true }
def FnExactColourOfSpotUptoSaid : Prop := fnExactColourOfSpotUptoRow.holds Try.pinned (OpenSpec.upto fnExactColourOfSpotSpec)

/-- 'laws.FnExactPaintSpot', WHERE WHAT IT READS IS OF BULK AT MOST 1048576: true; the input reads as it did. -/
def fnExactPaintSpotUptoRow : OpenClaim := { program := "ytdeppknmibhokab", sum := "2a992133ec03ff89969569e04212005fdc389f0bc9a9561a6c690fbfade829a9", func := "loop.example/g01276/laws.FnExactPaintSpot", spec := "fnExactPaintSpot", unfollowed := true, recurses := true, plainKeys := false, apart := false, narrowed := true }
def FnExactPaintSpotUptoSaid : Prop := fnExactPaintSpotUptoRow.holds Try.pinned (OpenSpec.upto fnExactPaintSpotSpec)

/-- 'laws.FnExactStepPlain', WHERE WHAT IT READS IS OF BULK AT MOST 1048576: true; the input reads as it did. -/
def fnExactStepPlainUptoRow : OpenClaim := { program := "ytdeppknmibhokab", sum := "2a992133ec03ff89969569e04212005fdc389f0bc9a9561a6c690fbfade829a9", func := "loop.example/g01276/laws.FnExactStepPlain", spec := "fnExactStepPlain", unfollowed := true, recurses := true, plainKeys := false, apart := false, narrowed := true }
def FnExactStepPlainUptoSaid : Prop := fnExactStepPlainUptoRow.holds Try.pinned (OpenSpec.upto fnExactStepPlainSpec)

/-- 'laws.FnExactPlainAfter', WHERE WHAT IT READS IS OF BULK AT MOST 1048576: true; the input reads as it did. -/
def fnExactPlainAfterUptoRow : OpenClaim := { program := "ytdeppknmibhokab", sum := "2a992133ec03ff89969569e04212005fdc389f0bc9a9561a6c690fbfade829a9", func := "loop.example/g01276/laws.FnExactPlainAfter", spec := "fnExactPlainAfter", unfollowed := true, recurses := true, plainKeys := false, apart := false, narrowed := true }
def FnExactPlainAfterUptoSaid : Prop := fnExactPlainAfterUptoRow.holds Try.pinned (OpenSpec.upto fnExactPlainAfterSpec)

/-- 'laws.FnExactPlainBefore', WHERE WHAT IT READS IS OF BULK AT MOST 1048576: true; the input reads as it did. -/
def fnExactPlainBeforeUptoRow : OpenClaim := { program := "ytdeppknmibhokab", sum := "2a992133ec03ff89969569e04212005fdc389f0bc9a9561a6c690fbfade829a9", func := "loop.example/g01276/laws.FnExactPlainBefore", spec := "fnExactPlainBefore", unfollowed := true, recurses := true, plainKeys := false, apart := false, narrowed := true }
def FnExactPlainBeforeUptoSaid : Prop := fnExactPlainBeforeUptoRow.holds Try.pinned (OpenSpec.upto fnExactPlainBeforeSpec)

/-- 'laws.FnExactTurnsOfPlain', WHERE WHAT IT READS IS OF BULK AT MOST 1048576: true; the input reads as it did. -/
def fnExactTurnsOfPlainUptoRow : OpenClaim := { program := "ytdeppknmibhokab", sum := "2a992133ec03ff89969569e04212005fdc389f0bc9a9561a6c690fbfade829a9", func := "loop.example/g01276/laws.FnExactTurnsOfPlain", spec := "fnExactTurnsOfPlain", unfollowed := true, recurses := true, plainKeys := false, apart := false, narrowed := true }
def FnExactTurnsOfPlainUptoSaid : Prop := fnExactTurnsOfPlainUptoRow.holds Try.pinned (OpenSpec.upto fnExactTurnsOfPlainSpec)

/-- 'laws.FnExactDriftOf', WHERE WHAT IT READS IS OF BULK AT MOST 1048576: true; the input reads as it did. -/
def fnExactDriftOfUptoRow : OpenClaim := { program := "ytdeppknmibhokab", sum := "2a992133ec03ff89969569e04212005fdc389f0bc9a9561a6c690fbfade829a9", func := "loop.example/g01276/laws.FnExactDriftOf", spec := "fnExactDriftOf", unfollowed := true, recurses := true, plainKeys := false, apart := false, narrowed := true }
def FnExactDriftOfUptoSaid : Prop := fnExactDriftOfUptoRow.holds Try.pinned (OpenSpec.upto fnExactDriftOfSpec)

/-- 'laws.FnExactIsHighway', WHERE WHAT IT READS IS OF BULK AT MOST 1048576: true; the input reads as it did. -/
def fnExactIsHighwayUptoRow : OpenClaim := { program := "ytdeppknmibhokab", sum := "2a992133ec03ff89969569e04212005fdc389f0bc9a9561a6c690fbfade829a9", func := "loop.example/g01276/laws.FnExactIsHighway", spec := "fnExactIsHighway", unfollowed := true, recurses := true, plainKeys := false, apart := false, narrowed := true }
def FnExactIsHighwayUptoSaid : Prop := fnExactIsHighwayUptoRow.holds Try.pinned (OpenSpec.upto fnExactIsHighwaySpec)

end Rows
end Go.Proofs.Ytdeppknmibhokab
