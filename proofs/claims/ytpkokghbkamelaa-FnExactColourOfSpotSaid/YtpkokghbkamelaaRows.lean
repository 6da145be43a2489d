/-
  No cell of these rows narrows 'for every input' (looked for: loops, veiled, ifaces, maps, wideKeys, modest, calm, conditions, laid).
  DERIVED. THE GIVEN ROWS OF THIS SEAT. 2 by the template 'for every input the law returns true; each argument reads behind the call as it read before'; 0 by the template 'total and deterministic' (their statements: YtpkokghbkamelaaTotals.lean).
  GIVEN WITH THE SEED: the statements are not yours to turn. If you find one false, say at which input.
  Laid BY PROGRAM, IN A SANDBOX (cutbox-rows.mjs): the forced cells as the released guide's own fill.sh prints them over the translation 23efb8fa7559148e… (all of the seat's roots in one cut). By AI agents, Wed Nov 11 2026. No macro, syntax, notation, axiom, sorry.
-/
import Derived.Test.YtpkokghbkamelaaChecked
import GoSem.Claim
import GoSem.ClaimJoined
import GoSem.ClaimMapViews
import Derived.JoinedTies
import Derived.KernelRfl
namespace Go.Proofs.Ytpkokghbkamelaa
/- THE CELL 'sum', in the pinned program and in every row, IS THE sha256 OF THE DUMP (.gsa) THAT YtpkokghbkamelaaProg.lean LOADS. Nothing in Lean hashes anything: it is a label: what it is worth is what the hold of that sum in a sandbox is worth. -/
noncomputable def Try.pinned : Pinned := { name := "ytpkokghbkamelaa", sum := "23efb8fa7559148e43e38c85c6ed6c3c6a3c3394f70a3e0ac0a1791f739e947c", checked := Try.checked }
namespace Rows
def none {H : Type} : Left H := { results := [], args := [] }

/-- 'laws.FnExactColourOfSpot': WHATEVER THE INPUT: true; the input reads as it did. -/
def fnExactColourOfSpotSpec : ChangeSpec := { name := "fnExactColourOfSpot", fn := fun _ => fun
  | [d1, d2, d3] => { results := [.lit (.bool true)], args := [d1, d2, d3] }
  | _ => none }
def fnExactColourOfSpotRow : OpenClaim := { program := "ytpkokghbkamelaa", sum := "23efb8fa7559148e43e38c85c6ed6c3c6a3c3394f70a3e0ac0a1791f739e947c", func := "loop.example/g01276/laws.FnExactColourOfSpot", spec := "fnExactColourOfSpot", plainKeys := false, apart := false }
def FnExactColourOfSpotSaid : Prop := fnExactColourOfSpotRow.holds Try.pinned (OpenSpec.ofChange fnExactColourOfSpotSpec)

/-- ITS FALSE NEIGHBOUR: 'it returns false'. Refute it at one input. -/
def fnExactColourOfSpotWrong : ChangeSpec := { name := "fnExactColourOfSpot", fn := fun _ => fun
  | [d1, d2, d3] => { results := [.lit (.bool false)], args := [d1, d2, d3] }
  | _ => none }
def FnExactColourOfSpotWrongFalsely : Prop := fnExactColourOfSpotRow.holds Try.pinned (OpenSpec.ofChange fnExactColourOfSpotWrong)

/-- 'laws.FnExactPaintSpot': WHATEVER THE INPUT: true; the input reads as it did. -/
def fnExactPaintSpotSpec : ChangeSpec := { name := "fnExactPaintSpot", fn := fun _ => fun
  | [d1, d2, d3, d4] => { results := [.lit (.bool true)], args := [d1, d2, d3, d4] }
  | _ => none }
def fnExactPaintSpotRow : OpenClaim := { program := "ytpkokghbkamelaa", sum := "23efb8fa7559148e43e38c85c6ed6c3c6a3c3394f70a3e0ac0a1791f739e947c", func := "loop.example/g01276/laws.FnExactPaintSpot", spec := "fnExactPaintSpot", unfollowed := true, recurses := true, plainKeys := false, apart := false }
def FnExactPaintSpotSaid : Prop := fnExactPaintSpotRow.holds Try.pinned (OpenSpec.ofChange fnExactPaintSpotSpec)

/-- ITS FALSE NEIGHBOUR: 'it returns false'. Refute it at one input. -/
def fnExactPaintSpotWrong : ChangeSpec := { name := "fnExactPaintSpot", fn := fun _ => fun
  | [d1, d2, d3, d4] => { results := [.lit (.bool false)], args := [d1, d2, d3, d4] }
  | _ => none }
def FnExactPaintSpotWrongFalsely : Prop := fnExactPaintSpotRow.holds Try.pinned (OpenSpec.ofChange fnExactPaintSpotWrong)

/- THE SECOND FORM. 'bulk': how many values and letters a reading holds, each counted each time it is reached (what is shared counts as often as it is met; a slice's spare places count too). A statement '..UptoSaid' is the law's where the arguments, and the package variables that the reading takes, are together of bulk at most 1048576: NARROWER than '..Said'. Prove '..Said' where nothing that the law and all that it calls make is longer than what came in: it says more and counts as full. Else prove '..UptoSaid'. A law counts once. -/
mutual
def uptoBulk {H : Type} : DataW H → Nat
  | .lit (.string bytes) => bytes.length + 1
  | .lit _ => 1
  | .nil => 1
  | .ptr d => uptoBulk d + 1
  | .slice elems spare => uptoBulkAll elems + uptoBulkAll spare + 1
  | .agg parts => uptoBulkAll parts + 1
  | .iface _ d => uptoBulk d + 1
  | .map entries => uptoBulkEntries entries + 1
  | .held _ => 1
def uptoBulkAll {H : Type} : List (DataW H) → Nat
  | [] => 0
  | d :: r => uptoBulk d + uptoBulkAll r
def uptoBulkEntries {H : Type} : List (Lit × DataW H) → Nat
  | [] => 0
  | x :: r => uptoBulkEntry x + uptoBulkEntries r
def uptoBulkEntry {H : Type} : Lit × DataW H → Nat
  | (.string bytes, d) => bytes.length + uptoBulk d + 1
  | (_, d) => uptoBulk d + 1
 end
def uptoSmall : (H : Type) → List (DataW H) → Bool := fun _ ds => decide (uptoBulkAll ds ≤ 1048576)
def OpenSpec.upto (s : _root_.Go.ChangeSpec) : _root_.Go.OpenSpec := { _root_.Go.OpenSpec.ofChange s with cond := some uptoSmall }

/-- 'laws.FnExactColourOfSpot', WHERE WHAT IT READS IS OF BULK AT MOST 1048576: true; the input reads as it did. -/
def fnExactColourOfSpotUptoRow : OpenClaim := { program := "ytpkokghbkamelaa", sum := "23efb8fa7559148e43e38c85c6ed6c3c6a3c3394f70a3e0ac0a1791f739e947c", func := "loop.example/g01276/laws.FnExactColourOfSpot", spec := "fnExactColourOfSpot", plainKeys := false, apart := false, narrowed := true }
def FnExactColourOfSpotUptoSaid : Prop := fnExactColourOfSpotUptoRow.holds Try.pinned (OpenSpec.upto fnExactColourOfSpotSpec)

/-- 'laws.FnExactPaintSpot', WHERE WHAT IT READS IS OF BULK AT MOST 1048576: true; the input reads as it did. -/
def fnExactPaintSpotUptoRow : OpenClaim := { program := "ytpkokghbkamelaa", sum := "23efb8fa7559148e43e38c85c6ed6c3c6a3c3394f70a3e0ac0a1791f739e947c", func := "loop.example/g01276/laws.FnExactPaintSpot", spec := "fnExactPaintSpot", unfollowed := true, recurses := true, plainKeys := false, apart := false, narrowed := true }
def FnExactPaintSpotUptoSaid : Prop := fnExactPaintSpotUptoRow.holds Try.pinned (OpenSpec.upto fnExactPaintSpotSpec)

end Rows
end Go.Proofs.Ytpkokghbkamelaa
