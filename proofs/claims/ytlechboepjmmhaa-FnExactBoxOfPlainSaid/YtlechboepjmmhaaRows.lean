/-
  No cell of these rows narrows 'for every input' (looked for: loops, veiled, ifaces, maps, wideKeys, modest, calm, conditions, laid).
  DERIVED. THE GIVEN ROWS OF THIS SEAT. 12 by the template 'for every input the law returns true; each argument reads behind the call as it read before'; 0 by the template 'total and deterministic' (their statements: YtlechboepjmmhaaTotals.lean).
  GIVEN WITH THE SEED: the statements are not yours to turn. If you find one false, say at which input.
  Laid BY PROGRAM, IN A SANDBOX (cutbox-rows.mjs): the forced cells as the released guide's own fill.sh prints them over the translation 2642dcc341dfdd1e… (all of the seat's roots in one cut). By AI agents, Wed Nov 11 2026. No macro, syntax, notation, axiom, sorry.
-/
import Derived.Test.YtlechboepjmmhaaChecked
import GoSem.Claim
import GoSem.ClaimJoined
import GoSem.ClaimMapViews
import Derived.JoinedTies
import Derived.KernelRfl
namespace Go.Proofs.Ytlechboepjmmhaa
/- THE CELL 'sum', in the pinned program and in every row, IS THE sha256 OF THE DUMP (.gsa) THAT YtlechboepjmmhaaProg.lean LOADS. Nothing in Lean hashes anything: it is a label: what it is worth is what the hold of that sum in a sandbox is worth. -/
noncomputable def Try.pinned : Pinned := { name := "ytlechboepjmmhaa", sum := "2642dcc341dfdd1e42d09ebfca20c8c9e5d8fdaf4ac0ae8a01b6af3f7df277fd", checked := Try.checked }
namespace Rows
def none {H : Type} : Left H := { results := [], args := [] }

/-- 'laws.FnExactColourSum': WHATEVER THE INPUT: true; the input reads as it did. -/
def fnExactColourSumSpec : ChangeSpec := { name := "fnExactColourSum", fn := fun _ => fun
  | [d] => { results := [.lit (.bool true)], args := [d] }
  | _ => none }
def fnExactColourSumRow : OpenClaim := { program := "ytlechboepjmmhaa", sum := "2642dcc341dfdd1e42d09ebfca20c8c9e5d8fdaf4ac0ae8a01b6af3f7df277fd", func := "loop.example/g01276/laws.FnExactColourSum", spec := "fnExactColourSum", plainKeys := false, apart := false }
def FnExactColourSumSaid : Prop := fnExactColourSumRow.holds Try.pinned (OpenSpec.ofChange fnExactColourSumSpec)

/-- ITS FALSE NEIGHBOUR: 'it returns false'. Refute it at one input. -/
def fnExactColourSumWrong : ChangeSpec := { name := "fnExactColourSum", fn := fun _ => fun
  | [d] => { results := [.lit (.bool false)], args := [d] }
  | _ => none }
def FnExactColourSumWrongFalsely : Prop := fnExactColourSumRow.holds Try.pinned (OpenSpec.ofChange fnExactColourSumWrong)

/-- 'laws.FnExactCountWorlds': WHATEVER THE INPUT: true; the input reads as it did. -/
def fnExactCountWorldsSpec : ChangeSpec := { name := "fnExactCountWorlds", fn := fun _ => fun
  | [d1, d2, d3] => { results := [.lit (.bool true)], args := [d1, d2, d3] }
  | _ => none }
def fnExactCountWorldsRow : OpenClaim := { program := "ytlechboepjmmhaa", sum := "2642dcc341dfdd1e42d09ebfca20c8c9e5d8fdaf4ac0ae8a01b6af3f7df277fd", func := "loop.example/g01276/laws.FnExactCountWorlds", spec := "fnExactCountWorlds", plainKeys := false, apart := false }
def FnExactCountWorldsSaid : Prop := fnExactCountWorldsRow.holds Try.pinned (OpenSpec.ofChange fnExactCountWorldsSpec)

/-- ITS FALSE NEIGHBOUR: 'it returns false'. Refute it at one input. -/
def fnExactCountWorldsWrong : ChangeSpec := { name := "fnExactCountWorlds", fn := fun _ => fun
  | [d1, d2, d3] => { results := [.lit (.bool false)], args := [d1, d2, d3] }
  | _ => none }
def FnExactCountWorldsWrongFalsely : Prop := fnExactCountWorldsRow.holds Try.pinned (OpenSpec.ofChange fnExactCountWorldsWrong)

/-- 'laws.FnExactIsPlain': WHATEVER THE INPUT: true; the input reads as it did. -/
def fnExactIsPlainSpec : ChangeSpec := { name := "fnExactIsPlain", fn := fun _ => fun
  | [d] => { results := [.lit (.bool true)], args := [d] }
  | _ => none }
def fnExactIsPlainRow : OpenClaim := { program := "ytlechboepjmmhaa", sum := "2642dcc341dfdd1e42d09ebfca20c8c9e5d8fdaf4ac0ae8a01b6af3f7df277fd", func := "loop.example/g01276/laws.FnExactIsPlain", spec := "fnExactIsPlain", plainKeys := false, apart := false }
def FnExactIsPlainSaid : Prop := fnExactIsPlainRow.holds Try.pinned (OpenSpec.ofChange fnExactIsPlainSpec)

/-- ITS FALSE NEIGHBOUR: 'it returns false'. Refute it at one input. -/
def fnExactIsPlainWrong : ChangeSpec := { name := "fnExactIsPlain", fn := fun _ => fun
  | [d] => { results := [.lit (.bool false)], args := [d] }
  | _ => none }
def FnExactIsPlainWrongFalsely : Prop := fnExactIsPlainRow.holds Try.pinned (OpenSpec.ofChange fnExactIsPlainWrong)

/-- 'laws.FnExactBoxOfPlain': WHATEVER THE INPUT: true; the input reads as it did. -/
def fnExactBoxOfPlainSpec : ChangeSpec := { name := "fnExactBoxOfPlain", fn := fun _ => fun
  | [d] => { results := [.lit (.bool true)], args := [d] }
  | _ => none }
def fnExactBoxOfPlainRow : OpenClaim := { program := "ytlechboepjmmhaa", sum := "2642dcc341dfdd1e42d09ebfca20c8c9e5d8fdaf4ac0ae8a01b6af3f7df277fd", func := "loop.example/g01276/laws.FnExactBoxOfPlain", spec := "fnExactBoxOfPlain", plainKeys := false, apart := false }
def FnExactBoxOfPlainSaid : Prop := fnExactBoxOfPlainRow.holds Try.pinned (OpenSpec.ofChange fnExactBoxOfPlainSpec)

/-- ITS FALSE NEIGHBOUR: 'it returns false'. Refute it at one input. -/
def fnExactBoxOfPlainWrong : ChangeSpec := { name := "fnExactBoxOfPlain", fn := fun _ => fun
  | [d] => { results := [.lit (.bool false)], args := [d] }
  | _ => none }
def FnExactBoxOfPlainWrongFalsely : Prop := fnExactBoxOfPlainRow.holds Try.pinned (OpenSpec.ofChange fnExactBoxOfPlainWrong)

/-- 'laws.FnExactColourOfSpot': WHATEVER THE INPUT: true; the input reads as it did. -/
def fnExactColourOfSpotSpec : ChangeSpec := { name := "fnExactColourOfSpot", fn := fun _ => fun
  | [d1, d2, d3] => { results := [.lit (.bool true)], args := [d1, d2, d3] }
  | _ => none }
def fnExactColourOfSpotRow : OpenClaim := { program := "ytlechboepjmmhaa", sum := "2642dcc341dfdd1e42d09ebfca20c8c9e5d8fdaf4ac0ae8a01b6af3f7df277fd", func := "loop.example/g01276/laws.FnExactColourOfSpot", spec := "fnExactColourOfSpot", plainKeys := false, apart := false }
def FnExactColourOfSpotSaid : Prop := fnExactColourOfSpotRow.holds Try.pinned (OpenSpec.ofChange fnExactColourOfSpotSpec)

/-- ITS FALSE NEIGHBOUR: 'it returns false'. Refute it at one input. -/
def fnExactColourOfSpotWrong : ChangeSpec := { name := "fnExactColourOfSpot", fn := fun _ => fun
  | [d1, d2, d3] => { results := [.lit (.bool false)], args := [d1, d2, d3] }
  | _ => none }
def FnExactColourOfSpotWrongFalsely : Prop := fnExactColourOfSpotRow.holds Try.pinned (OpenSpec.ofChange fnExactColourOfSpotWrong)

/-- 'laws.FnExactPaintSpot': WHATEVER THE INPUT: true; the input reads as it did. -/
def fnExactPaintSpotSpec : ChangeSpec := { name := "fnExactPaintSpot", fn := fun _ => fun
  | [d1, d2, d3, d4] => { results := [.lit (.bool true)], args := [d1, d2, d3, d4] }
  | _ => none }
def fnExactPaintSpotRow : OpenClaim := { program := "ytlechboepjmmhaa", sum := "2642dcc341dfdd1e42d09ebfca20c8c9e5d8fdaf4ac0ae8a01b6af3f7df277fd", func := "loop.example/g01276/laws.FnExactPaintSpot", spec := "fnExactPaintSpot", unfollowed := true, recurses := true, plainKeys := false, apart := false }
def FnExactPaintSpotSaid : Prop := fnExactPaintSpotRow.holds Try.pinned (OpenSpec.ofChange fnExactPaintSpotSpec)

/-- ITS FALSE NEIGHBOUR: 'it returns false'. Refute it at one input. -/
def fnExactPaintSpotWrong : ChangeSpec := { name := "fnExactPaintSpot", fn := fun _ => fun
  | [d1, d2, d3, d4] => { results := [.lit (.bool false)], args := [d1, d2, d3, d4] }
  | _ => none }
def FnExactPaintSpotWrongFalsely : Prop := fnExactPaintSpotRow.holds Try.pinned (OpenSpec.ofChange fnExactPaintSpotWrong)

/-- 'laws.FnExactMovePlain': WHATEVER THE INPUT: true; the input reads as it did. -/
def fnExactMovePlainSpec : ChangeSpec := { name := "fnExactMovePlain", fn := fun _ => fun
  | [d1, d2, d3] => { results := [.lit (.bool true)], args := [d1, d2, d3] }
  | _ => none }
def fnExactMovePlainRow : OpenClaim := { program := "ytlechboepjmmhaa", sum := "2642dcc341dfdd1e42d09ebfca20c8c9e5d8fdaf4ac0ae8a01b6af3f7df277fd", func := "loop.example/g01276/laws.FnExactMovePlain", spec := "fnExactMovePlain", unfollowed := true, recurses := true, plainKeys := false, apart := false }
def FnExactMovePlainSaid : Prop := fnExactMovePlainRow.holds Try.pinned (OpenSpec.ofChange fnExactMovePlainSpec)

/-- ITS FALSE NEIGHBOUR: 'it returns false'. Refute it at one input. -/
def fnExactMovePlainWrong : ChangeSpec := { name := "fnExactMovePlain", fn := fun _ => fun
  | [d1, d2, d3] => { results := [.lit (.bool false)], args := [d1, d2, d3] }
  | _ => none }
def FnExactMovePlainWrongFalsely : Prop := fnExactMovePlainRow.holds Try.pinned (OpenSpec.ofChange fnExactMovePlainWrong)

/-- 'laws.FnExactTurnPlain': WHATEVER THE INPUT: true; the input reads as it did. -/
def fnExactTurnPlainSpec : ChangeSpec := { name := "fnExactTurnPlain", fn := fun _ => fun
  | [d] => { results := [.lit (.bool true)], args := [d] }
  | _ => none }
def fnExactTurnPlainRow : OpenClaim := { program := "ytlechboepjmmhaa", sum := "2642dcc341dfdd1e42d09ebfca20c8c9e5d8fdaf4ac0ae8a01b6af3f7df277fd", func := "loop.example/g01276/laws.FnExactTurnPlain", spec := "fnExactTurnPlain", unfollowed := true, recurses := true, plainKeys := false, apart := false }
def FnExactTurnPlainSaid : Prop := fnExactTurnPlainRow.holds Try.pinned (OpenSpec.ofChange fnExactTurnPlainSpec)

/-- ITS FALSE NEIGHBOUR: 'it returns false'. Refute it at one input. -/
def fnExactTurnPlainWrong : ChangeSpec := { name := "fnExactTurnPlain", fn := fun _ => fun
  | [d] => { results := [.lit (.bool false)], args := [d] }
  | _ => none }
def FnExactTurnPlainWrongFalsely : Prop := fnExactTurnPlainRow.holds Try.pinned (OpenSpec.ofChange fnExactTurnPlainWrong)

/-- 'laws.FnExactMirrorPlain': WHATEVER THE INPUT: true; the input reads as it did. -/
def fnExactMirrorPlainSpec : ChangeSpec := { name := "fnExactMirrorPlain", fn := fun _ => fun
  | [d] => { results := [.lit (.bool true)], args := [d] }
  | _ => none }
def fnExactMirrorPlainRow : OpenClaim := { program := "ytlechboepjmmhaa", sum := "2642dcc341dfdd1e42d09ebfca20c8c9e5d8fdaf4ac0ae8a01b6af3f7df277fd", func := "loop.example/g01276/laws.FnExactMirrorPlain", spec := "fnExactMirrorPlain", unfollowed := true, recurses := true, plainKeys := false, apart := false }
def FnExactMirrorPlainSaid : Prop := fnExactMirrorPlainRow.holds Try.pinned (OpenSpec.ofChange fnExactMirrorPlainSpec)

/-- ITS FALSE NEIGHBOUR: 'it returns false'. Refute it at one input. -/
def fnExactMirrorPlainWrong : ChangeSpec := { name := "fnExactMirrorPlain", fn := fun _ => fun
  | [d] => { results := [.lit (.bool false)], args := [d] }
  | _ => none }
def FnExactMirrorPlainWrongFalsely : Prop := fnExactMirrorPlainRow.holds Try.pinned (OpenSpec.ofChange fnExactMirrorPlainWrong)

/-- 'laws.FnExactStepPlain': WHATEVER THE INPUT: true; the input reads as it did. -/
def fnExactStepPlainSpec : ChangeSpec := { name := "fnExactStepPlain", fn := fun _ => fun
  | [d] => { results := [.lit (.bool true)], args := [d] }
  | _ => none }
def fnExactStepPlainRow : OpenClaim := { program := "ytlechboepjmmhaa", sum := "2642dcc341dfdd1e42d09ebfca20c8c9e5d8fdaf4ac0ae8a01b6af3f7df277fd", func := "loop.example/g01276/laws.FnExactStepPlain", spec := "fnExactStepPlain", unfollowed := true, recurses := true, plainKeys := false, apart := false }
def FnExactStepPlainSaid : Prop := fnExactStepPlainRow.holds Try.pinned (OpenSpec.ofChange fnExactStepPlainSpec)

/-- ITS FALSE NEIGHBOUR: 'it returns false'. Refute it at one input. -/
def fnExactStepPlainWrong : ChangeSpec := { name := "fnExactStepPlain", fn := fun _ => fun
  | [d] => { results := [.lit (.bool false)], args := [d] }
  | _ => none }
def FnExactStepPlainWrongFalsely : Prop := fnExactStepPlainRow.holds Try.pinned (OpenSpec.ofChange fnExactStepPlainWrong)

/-- 'laws.FnExactPlainAfter': WHATEVER THE INPUT: true; the input reads as it did. -/
def fnExactPlainAfterSpec : ChangeSpec := { name := "fnExactPlainAfter", fn := fun _ => fun
  | [d1, d2] => { results := [.lit (.bool true)], args := [d1, d2] }
  | _ => none }
def fnExactPlainAfterRow : OpenClaim := { program := "ytlechboepjmmhaa", sum := "2642dcc341dfdd1e42d09ebfca20c8c9e5d8fdaf4ac0ae8a01b6af3f7df277fd", func := "loop.example/g01276/laws.FnExactPlainAfter", spec := "fnExactPlainAfter", unfollowed := true, recurses := true, plainKeys := false, apart := false }
def FnExactPlainAfterSaid : Prop := fnExactPlainAfterRow.holds Try.pinned (OpenSpec.ofChange fnExactPlainAfterSpec)

/-- ITS FALSE NEIGHBOUR: 'it returns false'. Refute it at one input. -/
def fnExactPlainAfterWrong : ChangeSpec := { name := "fnExactPlainAfter", fn := fun _ => fun
  | [d1, d2] => { results := [.lit (.bool false)], args := [d1, d2] }
  | _ => none }
def FnExactPlainAfterWrongFalsely : Prop := fnExactPlainAfterRow.holds Try.pinned (OpenSpec.ofChange fnExactPlainAfterWrong)

/-- 'laws.FnExactPlainBefore': WHATEVER THE INPUT: true; the input reads as it did. -/
def fnExactPlainBeforeSpec : ChangeSpec := { name := "fnExactPlainBefore", fn := fun _ => fun
  | [d1, d2] => { results := [.lit (.bool true)], args := [d1, d2] }
  | _ => none }
def fnExactPlainBeforeRow : OpenClaim := { program := "ytlechboepjmmhaa", sum := "2642dcc341dfdd1e42d09ebfca20c8c9e5d8fdaf4ac0ae8a01b6af3f7df277fd", func := "loop.example/g01276/laws.FnExactPlainBefore", spec := "fnExactPlainBefore", unfollowed := true, recurses := true, plainKeys := false, apart := false }
def FnExactPlainBeforeSaid : Prop := fnExactPlainBeforeRow.holds Try.pinned (OpenSpec.ofChange fnExactPlainBeforeSpec)

/-- ITS FALSE NEIGHBOUR: 'it returns false'. Refute it at one input. -/
def fnExactPlainBeforeWrong : ChangeSpec := { name := "fnExactPlainBefore", fn := fun _ => fun
  | [d1, d2] => { results := [.lit (.bool false)], args := [d1, d2] }
  | _ => none }
def FnExactPlainBeforeWrongFalsely : Prop := fnExactPlainBeforeRow.holds Try.pinned (OpenSpec.ofChange fnExactPlainBeforeWrong)

/- THE SECOND FORM. 'bulk': how many values and letters a reading holds, each counted each time it is reached (what is shared counts as often as it is met; a slice's spare places count too). A statement '..UptoSaid' is the law's where the arguments, and the package variables that the reading takes, are together of bulk at most 1048576: NARROWER than '..Said'. Prove '..Said' where nothing that the law and all that it calls make is longer than what came in: it says more and counts as full. Else prove '..UptoSaid'. A law counts once. -/
mutual
def uptoBulk {H : Type} : DataW H → Nat
  | .lit (.string bytes) => bytes.length + 1
  | .lit _ => 1
  | .nil => 1
  | .ptr d => uptoBulk d + 1
  | .slice elems spare => uptoBulkAll elems + uptoBulkAll spare + 1
  | .agg parts => uptoBulkAll parts + 1
  | .iface _ d => uptoBulk d + 1
  | .map entries => uptoBulkEntries entries + 1
  | .held _ => 1
def uptoBulkAll {H : Type} : List (DataW H) → Nat
  | [] => 0
  | d :: r => uptoBulk d + uptoBulkAll r
def uptoBulkEntries {H : Type} : List (Lit × DataW H) → Nat
  | [] => 0
  | x :: r => uptoBulkEntry x + uptoBulkEntries r
def uptoBulkEntry {H : Type} : Lit × DataW H → Nat
  | (.string bytes, d) => bytes.length + uptoBulk d + 1
  | (_, d) => uptoBulk d + 1
 end
def uptoSmall : (H : Type) → List (DataW H) → Bool := fun _ ds => decide (uptoBulkAll ds ≤ 1048576)
def OpenSpec.upto (s : _root_.Go.ChangeSpec) : _root_.Go.OpenSpec := { _root_.Go.OpenSpec.ofChange s with cond := some uptoSmall }

/-- 'laws.FnExactColourSum', WHERE WHAT IT READS IS OF BULK AT MOST 1048576: true; the input reads as it did. -/
def fnExactColourSumUptoRow : OpenClaim := { program := "ytlechboepjmmhaa", sum := "2642dcc341dfdd1e42d09ebfca20c8c9e5d8fdaf4ac0ae8a01b6af3f7df277fd", func := "loop.example/g01276/laws.FnExactColourSum", spec := "fnExactColourSum", plainKeys := false, apart := false, narrowed := true }
def FnExactColourSumUptoSaid : Prop := fnExactColourSumUptoRow.holds Try.pinned (OpenSpec.upto fnExactColourSumSpec)

/-- 'laws.FnExactCountWorlds', WHERE WHAT IT READS IS OF BULK AT MOST 1048576: true; the input reads as it did. -/
def fnExactCountWorldsUptoRow : OpenClaim := { program := "ytlechboepjmmhaa", sum := "2642dcc341dfdd1e42d09ebfca20c8c9e5d8fdaf4ac0ae8a01b6af3f7df277fd", func := "loop.example/g01276/laws.FnExactCountWorlds", spec := "fnExactCountWorlds", plainKeys := false, apart := false, narrowed := true }
def FnExactCountWorldsUptoSaid : Prop := fnExactCountWorldsUptoRow.holds Try.pinned (OpenSpec.upto fnExactCountWorldsSpec)

/-- 'laws.FnExactIsPlain', WHERE WHAT IT READS IS OF BULK AT MOST 1048576: true; the input reads as it did. -/
def fnExactIsPlainUptoRow : OpenClaim := { program := "ytlechboepjmmhaa", sum := "2642dcc341dfdd1e42d09ebfca20c8c9e5d8fdaf4ac0ae8a01b6af3f7df277fd", func := "loop.example/g01276/laws.FnExactIsPlain", spec := "fnExactIsPlain", plainKeys := false, apart := false, narrowed := true }
def FnExactIsPlainUptoSaid : Prop := fnExactIsPlainUptoRow.holds Try.pinned (OpenSpec.upto fnExactIsPlainSpec)

/-- 'laws.FnExactBoxOfPlain', WHERE WHAT IT READS IS OF BULK AT MOST 1048576: true; the input reads as it did. -/
def fnExactBoxOfPlainUptoRow : OpenClaim := { program := "ytlechboepjmmhaa", sum := "2642dcc341dfdd1e42d09ebfca20c8c9e5d8fdaf4ac0ae8a01b6af3f7df277fd", func := "loop.example/g01276/laws.FnExactBoxOfPlain", spec := "fnExactBoxOfPlain", plainKeys := false, apart := false, narrowed := true }
def FnExactBoxOfPlainUptoSaid : Prop := fnExactBoxOfPlainUptoRow.holds Try.pinned (OpenSpec.upto fnExactBoxOfPlainSpec)

/-- 'laws.FnExactColourOfSpot', WHERE WHAT IT READS IS OF BULK AT MOST 1048576: true; the input reads as it did. -/
def fnExactColourOfSpotUptoRow : OpenClaim := { program := "ytlechboepjmmhaa", sum := "2642dcc341dfdd1e42d09ebfca20c8c9e5d8fdaf4ac0ae8a01b6af3f7df277fd", func := "loop.example/g01276/laws.FnExactColourOfSpot", spec := "fnExactColourOfSpot", plainKeys := false, apart := false, narrowed := true }
def FnExactColourOfSpotUptoSaid : Prop := fnExactColourOfSpotUptoRow.holds Try.pinned (OpenSpec.upto fnExactColourOfSpotSpec)

/-- 'laws.FnExactPaintSpot', WHERE WHAT IT READS IS OF BULK AT MOST 1048576: true; the input reads as it did. -/
def fnExactPaintSpotUptoRow : OpenClaim := { program := "ytlechboepjmmhaa", sum := "2642dcc341dfdd1e42d09ebfca20c8c9e5d8fdaf4ac0ae8a01b6af3f7df277fd", func := "loop.example/g01276/laws.FnExactPaintSpot", spec := "fnExactPaintSpot", unfollowed := true, recurses := true, plainKeys := false, apart := false, narrowed := true }
def FnExactPaintSpotUptoSaid : Prop := fnExactPaintSpotUptoRow.holds Try.pinned (OpenSpec.upto fnExactPaintSpotSpec)

/-- 'laws.FnExactMovePlain', WHERE WHAT IT READS IS OF BULK AT MOST 1048576: true; the input reads as it did. -/
def fnExactMovePlainUptoRow : OpenClaim := { program := "ytlechboepjmmhaa", sum := "2642dcc341dfdd1e42d09ebfca20c8c9e5d8fdaf4ac0ae8a01b6af3f7df277fd", func := "loop.example/g01276/laws.FnExactMovePlain", spec := "fnExactMovePlain", unfollowed := true, recurses := true, plainKeys := false, apart := false, narrowed := true }
def FnExactMovePlainUptoSaid : Prop := fnExactMovePlainUptoRow.holds Try.pinned (OpenSpec.upto fnExactMovePlainSpec)

/-- 'laws.FnExactTurnPlain', WHERE WHAT IT READS IS OF BULK AT MOST 1048576: true; the input reads as it did. -/
def fnExactTurnPlainUptoRow : OpenClaim := { program := "ytlechboepjmmhaa", sum := "2642dcc341dfdd1e42d09ebfca20c8c9e5d8fdaf4ac0ae8a01b6af3f7df277fd", func := "loop.example/g01276/laws.FnExactTurnPlain", spec := "fnExactTurnPlain", unfollowed := true, recurses := true, plainKeys := false, apart := false, narrowed := true }
def FnExactTurnPlainUptoSaid : Prop := fnExactTurnPlainUptoRow.holds Try.pinned (OpenSpec.upto fnExactTurnPlainSpec)

/-- 'laws.FnExactMirrorPlain', WHERE WHAT IT READS IS OF BULK AT MOST 1048576: true; the input reads as it did. -/
def fnExactMirrorPlainUptoRow : OpenClaim := { program := "ytlechboepjmmhaa", sum := "2642dcc341dfdd1e42d09ebfca20c8c9e5d8fdaf4ac0ae8a01b6af3f7df277fd", func := "loop.example/g01276/laws.FnExactMirrorPlain", spec := "fnExactMirrorPlain", unfollowed := true, recurses := true, plainKeys := false, apart := false, narrowed := true }
def FnExactMirrorPlainUptoSaid : Prop := fnExactMirrorPlainUptoRow.holds Try.pinned (OpenSpec.upto fnExactMirrorPlainSpec)

/-- 'laws.FnExactStepPlain', WHERE WHAT IT READS IS OF BULK AT MOST 1048576: true; the input reads as it did. -/
def fnExactStepPlainUptoRow : OpenClaim := { program := "ytlechboepjmmhaa", sum := "2642dcc341dfdd1e42d09ebfca20c8c9e5d8fdaf4ac0ae8a01b6af3f7df277fd", func := "loop.example/g01276/laws.FnExactStepPlain", spec := "fnExactStepPlain", unfollowed := true, recurses := true, plainKeys := false, apart := false, narrowed := true }
def FnExactStepPlainUptoSaid : Prop := fnExactStepPlainUptoRow.holds Try.pinned (OpenSpec.upto fnExactStepPlainSpec)

/-- 'laws.FnExactPlainAfter', WHERE WHAT IT READS IS OF BULK AT MOST 1048576: true; the input reads as it did. -/
def fnExactPlainAfterUptoRow : OpenClaim := { program := "ytlechboepjmmhaa", sum := "2642dcc341dfdd1e42d09ebfca20c8c9e5d8fdaf4ac0ae8a01b6af3f7df277fd", func := "loop.example/g01276/laws.FnExactPlainAfter", spec := "fnExactPlainAfter", unfollowed := true, recurses := true, plainKeys := false, apart := false, narrowed := true }
def FnExactPlainAfterUptoSaid : Prop := fnExactPlainAfterUptoRow.holds Try.pinned (OpenSpec.upto fnExactPlainAfterSpec)

/-- 'laws.FnExactPlainBefore', WHERE WHAT IT READS IS OF BULK AT MOST 1048576: true; the input reads as it did. -/
def fnExactPlainBeforeUptoRow : OpenClaim := { program := "ytlechboepjmmhaa", sum := "2642dcc341dfdd1e42d09ebfca20c8c9e5d8fdaf4ac0ae8a01b6af3f7df277fd", func := "loop.example/g01276/laws.FnExactPlainBefore", spec := "fnExactPlainBefore", unfollowed := true, recurses := true, plainKeys := false, apart := false, narrowed := true }
def FnExactPlainBeforeUptoSaid : Prop := fnExactPlainBeforeUptoRow.holds Try.pinned (OpenSpec.upto fnExactPlainBeforeSpec)

end Rows
end Go.Proofs.Ytlechboepjmmhaa
