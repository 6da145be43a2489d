/- FnExactColourSum: for every input the law returns true, and each argument reads as it did. No condition. -/
import Derived.Test.YtbdhilflnfllaabRows
import Derived.WalkKit
import Derived.ProofKit
import Derived.OpenShut
import Derived.ShutString
import Derived.ChangeOld
import Derived.Below
import Derived.Test.YtbdhilflnfllaabCSOk
import Derived.Test.YtbdhilflnfllaabVih
import Derived.Test.YtbdhilflnfllaabLawColourSumPure
namespace Go.Proofs.Ytbdhilflnfllaab.lawColourSum
open Go Go.Vi
open Go.ChangeShapes Go.WideShapes Go.ChangeAt Go.RowKit
open Go.ChangeMaps (open_string shut_string)
set_option linter.unusedVariables false

theorem own : ownKnob Try.prog.godebug = none := by kernel_rfl
theorem laidOut : laidOutB Try.prog = true := by kernel_rfl

theorem eq_law (a0r : List UInt8) (a0w : Int) (a0h : Int) (a0c : List UInt8) (a0x : Int) (a0y : Int) (a0d : Int) (K : V → Prop) : VC_LawColourSum a0r a0w a0h a0c a0x a0y a0d K = vin Try.prog TCS annTCS 6 5 [.agg [.str a0r, .int .i64 a0w, .int .i64 a0h, .str a0c, .int .i64 a0x, .int .i64 a0y, .int .i64 a0d]] [] (fun v _ => K v) := by kernel_rfl
theorem walk (a0r : ByteArray) (a0w : Int) (a0h : Int) (a0c : ByteArray) (a0x : Int) (a0y : Int) (a0d : Int) (ha0r : a0r.size ≤ maxLen) (ha0w : (Lit.int .i64 a0w).wf = true) (ha0h : (Lit.int .i64 a0h).wf = true) (ha0c : a0c.size ≤ maxLen) (ha0x : (Lit.int .i64 a0x).wf = true) (ha0y : (Lit.int .i64 a0y).wf = true) (ha0d : (Lit.int .i64 a0d).wf = true) (w : World) :
    Calls Try.prog 5 #[.agg #[.string a0r, .int .i64 a0w, .int .i64 a0h, .string a0c, .int .i64 a0x, .int .i64 a0y, .int .i64 a0d]] w fun e w' => e = .returned (.bool true) ∧ Below w.heap.size w w' := by
  have hv := (congrArg At (eq_law a0r.data.toList a0w a0h a0c.data.toList a0x a0y a0d (retP (.bool true)))).mp ⟨vc_LawColourSum a0r.data.toList a0w a0h a0c.data.toList a0x a0y a0d (str_bd ha0r) (wf_i64_bd ha0w) (wf_i64_bd ha0h) (str_bd ha0c) (wf_i64_bd ha0x) (wf_i64_bd ha0y) (wf_i64_bd ha0d)⟩
  have hr : RepL [] [.agg [.str a0r.data.toList, .int .i64 a0w, .int .i64 a0h, .str a0c.data.toList, .int .i64 a0x, .int .i64 a0y, .int .i64 a0d]] [.agg #[.string a0r, .int .i64 a0w, .int .i64 a0h, .string a0c, .int .i64 a0x, .int .i64 a0y, .int .i64 a0d]] := by simp [RepL, Rep, ofL_data]
  have hc := OK.call (vin_ok TCS_ok annTCS 6 5) hv hr w
  exact hc.mono fun e w' ⟨v, m', ρ', x, he, hk, hr, hb⟩ => ⟨by rw [he, bool_true hr hk], hb⟩

set_option maxRecDepth 100000 in
theorem lifted (os : Os) (started : os.Started) (H : Type) (enc : TypeId × Value → H) :
    ReturnsInHanded {} Try.checked os 5 .any (Rows.fnExactColourSumSpec.pre6 enc Try.prog Try.f5 Rows.fnExactColourSumRow.domain false) (Rows.fnExactColourSumSpec.post enc Try.prog Try.f5 false true false false) := by
  refine returnsInHanded_of_change (C := Try.checked) own started (by kernel_rfl) Try.func5
    (ChangeSpec.witness6 (enc := enc) (C := Try.checked) false ⟨#[], #[.agg #[.string ByteArray.empty, .int .i64 0, .int .i64 0, .string ByteArray.empty, .int .i64 0, .int .i64 0, .int .i64 0]], []⟩ 8 (by kernel_rfl) (by kernel_rfl) (by kernel_rfl) (by kernel_rfl)) ?_
  intro W base args ds gs before hval0 hW hcnd _
  have hval : ∀ (j : Nat) t v, Try.f5.params[j]? = some t → args[j]? = some v → Value.okWide Try.prog W .any base t v := hval0
  have hW' := hW
  obtain ⟨p, q, hA0, hV, rfl, hfz, hnd⟩ := hW
  have hA : DataW.TrodAll enc Try.prog W 0 (fun _ => true) true Try.f5.params.toList args.toList ds p := hA0
  rw [Try.params5] at hA hval
  obtain ⟨v0, vs0, d0, ds0, p0, q0, hargs, rfl, rfl, h0, r0⟩ := trodAll_cons hA
  obtain ⟨rfl, rfl, rfl⟩ := trodAll_nil r0
  obtain rfl : args = #[v0] := by cases args; simp_all
  obtain ⟨rfl, rfl⟩ := trodVars_none hV
  have k0 := h0
  have lt0 : ∀ x ∈ p0, x.block < W.heap.size := by obtain ⟨m, hm⟩ := k0; exact DataW.trod_lt m _ _ _ hm
  obtain ⟨cs0, e0, l0, g0⟩ := struct_cells Try.underlying43 (by kernel_rfl) (by kernel_rfl) (hval 0 43 v0 rfl rfl) h0
  obtain ⟨a0r, c0_0, ha0r⟩ := cell_string Try.underlying9 (g0 0 _ rfl)
  obtain ⟨a0w, c0_1, ha0w⟩ := cell_int Try.underlying3 (g0 1 _ rfl)
  obtain ⟨a0h, c0_2, ha0h⟩ := cell_int Try.underlying3 (g0 2 _ rfl)
  obtain ⟨a0c, c0_3, ha0c⟩ := cell_string Try.underlying9 (g0 3 _ rfl)
  obtain ⟨a0x, c0_4, ha0x⟩ := cell_int Try.underlying3 (g0 4 _ rfl)
  obtain ⟨a0y, c0_5, ha0y⟩ := cell_int Try.underlying3 (g0 5 _ rfl)
  obtain ⟨a0d, c0_6, ha0d⟩ := cell_int Try.underlying3 (g0 6 _ rfl)
  obtain rfl := list_of7 l0 c0_0 c0_1 c0_2 c0_3 c0_4 c0_5 c0_6
  subst e0
  clear hA0 hval0
  refine (walk a0r a0w a0h a0c a0x a0y a0d ha0r ha0w ha0h ha0c ha0x ha0y ha0d W).mono fun e W' ⟨he, bel⟩ => ?_
  subst he
  exact ⟨_, rfl, _, _, _, [], _, [], hW', trodAll_mk1 (shut_bool Try.underlying4 _), (trodAll_cons_mk (Below.trod laidOut (by kernel_rfl) (of_decide_eq_true (by kernel_rfl)) k0 bel lt0) trodAll_mk0), rfl, bel.frame _, fun h => by cases h⟩

theorem over : Rows.fnExactColourSumRow.holds Try.pinned (OpenSpec.ofChange Rows.fnExactColourSumSpec) :=
  OpenClaim.holds_of_wide 5 Try.f5 rfl rfl rfl rfl rfl rfl rfl ⟨rfl, rfl, rfl, rfl, rfl⟩ rfl rfl rfl rfl rfl (by kernel_rfl) Try.func5 (by kernel_rfl)
    (of_decide_eq_true (by kernel_rfl)) (by unfold Func.isWrapper; first | (rw [if_pos (by decide +kernel)]; kernel_rfl) | (rw [if_neg (by decide +kernel)]; exact ⟨rfl, rfl⟩))
    (fun os started H enc _ => lifted os started H enc)

theorem proved : Rows.FnExactColourSumSaid := over
#print axioms proved
end Go.Proofs.Ytbdhilflnfllaab.lawColourSum
