/- FnExactTurnRotor: for every input the law returns true, and each argument reads as it did. No condition. -/
import Derived.Test.YtopolpgligoldacRows
import Derived.WalkKit
import Derived.ProofKit
import Derived.OpenShut
import Derived.ShutString
import Derived.ChangeOld
import Derived.Below
import Derived.Test.YtopolpgligoldacREOk
import Derived.Test.YtopolpgligoldacVik
import Derived.Test.YtopolpgligoldacLawTurnRotorPure
namespace Go.Proofs.Ytopolpgligoldac.lawTurnRotor
open Go Go.Vi
open Go.ChangeShapes Go.WideShapes Go.ChangeAt Go.RowKit
open Go.ChangeMaps (open_string shut_string)
set_option linter.unusedVariables false

theorem own : ownKnob Try.prog.godebug = none := by kernel_rfl
theorem laidOut : laidOutB Try.prog = true := by kernel_rfl

theorem eq_law (a0on : Nat) (a0o : List (List Int)) (a0rn : Nat) (a0r : List Int) (a1 : Int) (K : V → Prop) : VC_LawTurnRotor a0on a0o a0rn a0r a1 K = vin Try.prog TRE annTRE 6 7 [.agg [.row 0 a0on, .row 1 a0rn], .int .i64 a1] [⟨.mat .i64 3 a0o, 23, .amat⟩, ⟨.ints .i64 a0r, 3, .arg 1⟩] (fun v _ => K v) := by kernel_rfl
theorem walk (a0ov : Value) (a0op : Go.Vi.Place) (a0on : Nat) (a0o : List (List Int)) (a0rv : Value) (a0rp : Go.Vi.Place) (a0rn : Nat) (a0r : List Int) (a1 : Int) (ha0o : a0o.length = a0on ∧ a0on ≤ maxLen ∧ ∀ r ∈ a0o, r.length ≤ maxLen) (ra0o : Rep [a0op] (.row 0 a0on) a0ov) (ha0r : a0r.length = a0rn * 1 ∧ a0rn ≤ maxLen) (ra0r : Rep [a0rp] (.row 0 a0rn) a0rv) (ha1 : (Lit.int .i64 a1).wf = true) (w : World) (ba0o : BRel [a0op] a0op ⟨.mat .i64 3 a0o, 23, .amat⟩ w) (ba0r : BRel [a0rp] a0rp ⟨.ints .i64 a0r, 3, .arg 1⟩ w) :
    Calls Try.prog 7 #[.agg #[a0ov, a0rv], .int .i64 a1] w fun e w' => e = .returned (.bool true) ∧ Below w.heap.size w w' := by
  have hv := (congrArg At (eq_law a0on a0o a0rn a0r a1 (retP (.bool true)))).mp ⟨vc_LawTurnRotor a0on a0o a0rn a0r a1 (mat_bd ha0o) (rows_bd ha0r) (wf_i64_bd ha1)⟩
  have hr : RepL [a0op, a0rp] [.agg [.row 0 a0on, .row 1 a0rn], .int .i64 a1] [.agg #[a0ov, a0rv], .int .i64 a1] := (repL_cons (rep_agg (repL_cons (rep_row_at ra0o rfl) (repL_cons (rep_row_at ra0r rfl) repL_nil))) (repL_cons (rep_int .i64 a1) repL_nil))
  have hc := OK.callM (vin_ok TRE_ok annTRE 6 7) hv (MRel.args2 rfl ba0o.mats rfl ba0r.ints) (argsAll rfl) hr
  exact hc.mono fun e w' ⟨v, m', ρ', x, he, hk, hr, hb⟩ => ⟨by rw [he, bool_true hr hk], hb⟩

set_option maxRecDepth 100000 in
theorem lifted (os : Os) (started : os.Started) (H : Type) (enc : TypeId × Value → H) :
    ReturnsInHanded {} Try.checked os 7 .any (Rows.fnExactTurnRotorSpec.pre6 enc Try.prog Try.f7 Rows.fnExactTurnRotorRow.domain false) (Rows.fnExactTurnRotorSpec.post enc Try.prog Try.f7 false true false false) := by
  refine returnsInHanded_of_change (C := Try.checked) own started (by kernel_rfl) Try.func7
    (ChangeSpec.witness6 (enc := enc) (C := Try.checked) false ⟨#[], #[.agg #[.slice none 0 0, .slice none 0 0], .int .i64 0], []⟩ 8 (by kernel_rfl) (by kernel_rfl) (by kernel_rfl) (by kernel_rfl)) ?_
  intro W base args ds gs before hval0 hW hcnd _
  have hval : ∀ (j : Nat) t v, Try.f7.params[j]? = some t → args[j]? = some v → Value.okWide Try.prog W .any base t v := hval0
  have hW' := hW
  obtain ⟨p, q, hA0, hV, rfl, hfz, hnd⟩ := hW
  have hA : DataW.TrodAll enc Try.prog W 0 (fun _ => true) true Try.f7.params.toList args.toList ds p := hA0
  rw [Try.params7] at hA hval
  obtain ⟨v0, vs0, d0, ds0, p0, q0, hargs, rfl, rfl, h0, r0⟩ := trodAll_cons hA
  obtain ⟨v1, vs1, d1, ds1, p1, q1, rfl, rfl, rfl, h1, r1⟩ := trodAll_cons r0
  obtain ⟨rfl, rfl, rfl⟩ := trodAll_nil r1
  obtain rfl : args = #[v0, v1] := by cases args; simp_all
  obtain ⟨rfl, rfl⟩ := trodVars_none hV
  have k0 := h0
  have lt0 : ∀ x ∈ p0, x.block < W.heap.size := by obtain ⟨m, hm⟩ := k0; exact DataW.trod_lt m _ _ _ hm
  obtain ⟨cs0, e0, l0, g0⟩ := struct_cells Try.underlying25 (by kernel_rfl) (by kernel_rfl) (hval 0 25 v0 rfl rfl) h0
  obtain ⟨a0ov, y0_0, n0_0, c0_0, t0_0⟩ := g0 0 _ rfl
  obtain ⟨a0op, a0on, a0o, hla0o, hma0o, hna0o, ra0o, ba0o⟩ := open_mat Try.underlying22 Try.underlying23 Try.underlying3 (by kernel_rfl) (by kernel_rfl) t0_0 23
  have ha0o : a0o.length = a0on ∧ a0on ≤ maxLen ∧ ∀ r ∈ a0o, r.length ≤ maxLen := ⟨hla0o, hma0o, hna0o⟩
  obtain ⟨a0rv, y0_1, n0_1, c0_1, t0_1⟩ := g0 1 _ rfl
  obtain ⟨a0rp, a0rn, a0r, hla0r, hma0r, ra0r, ba0r⟩ := open_rows1 Try.underlying23 Try.underlying3 (by kernel_rfl) t0_1 3
  have ha0r : a0r.length = a0rn * 1 ∧ a0rn ≤ maxLen := ⟨hla0r, hma0r⟩
  obtain rfl := list_of2 l0 c0_0 c0_1
  subst e0
  have k1 := h1
  have lt1 : ∀ x ∈ p1, x.block < W.heap.size := by obtain ⟨m, hm⟩ := k1; exact DataW.trod_lt m _ _ _ hm
  obtain ⟨a1, rfl, _, _, ha1⟩ := open_int Try.underlying3 (hval 1 3 v1 rfl rfl) h1
  clear hA0 hval0
  refine (walk a0ov a0op a0on a0o a0rv a0rp a0rn a0r a1 ha0o ra0o ha0r ra0r ha1 W ba0o ba0r).mono fun e W' ⟨he, bel⟩ => ?_
  subst he
  exact ⟨_, rfl, _, _, _, [], _, [], hW', trodAll_mk1 (shut_bool Try.underlying4 _), (trodAll_cons_mk (Below.trod laidOut (by kernel_rfl) (of_decide_eq_true (by kernel_rfl)) k0 bel lt0) (trodAll_cons_mk (Below.trod laidOut (by kernel_rfl) (of_decide_eq_true (by kernel_rfl)) k1 bel lt1) trodAll_mk0)), rfl, bel.frame _, fun h => by cases h⟩

theorem over : Rows.fnExactTurnRotorRow.holds Try.pinned (OpenSpec.ofChange Rows.fnExactTurnRotorSpec) :=
  OpenClaim.holds_of_wide 7 Try.f7 rfl rfl rfl rfl rfl rfl rfl ⟨rfl, rfl, rfl, rfl, rfl⟩ rfl rfl rfl rfl rfl (by kernel_rfl) Try.func7 (by kernel_rfl)
    (of_decide_eq_true (by kernel_rfl)) (by unfold Func.isWrapper; first | (rw [if_pos (by decide +kernel)]; kernel_rfl) | (rw [if_neg (by decide +kernel)]; exact ⟨rfl, rfl⟩))
    (fun os started H enc _ => lifted os started H enc)

theorem proved : Rows.FnExactTurnRotorSaid := over
#print axioms proved
end Go.Proofs.Ytopolpgligoldac.lawTurnRotor
