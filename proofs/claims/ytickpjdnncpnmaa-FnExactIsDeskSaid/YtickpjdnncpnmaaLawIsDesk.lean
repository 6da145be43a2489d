/- FnExactIsDesk: for every input the law returns true, and each argument reads as it did. No condition. -/
import Derived.Test.YtickpjdnncpnmaaRows
import Derived.WalkKit
import Derived.ProofKit
import Derived.OpenShut
import Derived.ShutString
import Derived.ChangeOld
import Derived.Below
import Derived.Test.YtickpjdnncpnmaaDKOk
import Derived.Test.YtickpjdnncpnmaaVik
import Derived.Test.YtickpjdnncpnmaaLawIsDeskPure
namespace Go.Proofs.Ytickpjdnncpnmaa.lawIsDesk
open Go Go.Vi
open Go.ChangeShapes Go.WideShapes Go.ChangeAt Go.RowKit
open Go.ChangeMaps (open_string shut_string)
set_option linter.unusedVariables false

theorem own : ownKnob Try.prog.godebug = none := by kernel_rfl
theorem laidOut : laidOutB Try.prog = true := by kernel_rfl

theorem list_flat0 {l : List Value} {x0 x1 x2 x3 x4 x5 x6 x7 x8 x9 x10 x11 x12 x13 x14 : Value} (h : l.length = 15) (h0 : l[0]? = some x0) (h1 : l[1]? = some x1) (h2 : l[2]? = some x2) (h3 : l[3]? = some x3) (h4 : l[4]? = some x4) (h5 : l[5]? = some x5) (h6 : l[6]? = some x6) (h7 : l[7]? = some x7) (h8 : l[8]? = some x8) (h9 : l[9]? = some x9) (h10 : l[10]? = some x10) (h11 : l[11]? = some x11) (h12 : l[12]? = some x12) (h13 : l[13]? = some x13) (h14 : l[14]? = some x14) : l = [x0, x1, x2, x3, x4, x5, x6, x7, x8, x9, x10, x11, x12, x13, x14] := by
 match l, h with
 | [_, _, _, _, _, _, _, _, _, _, _, _, _, _, _], _ => simp at h0 h1 h2 h3 h4 h5 h6 h7 h8 h9 h10 h11 h12 h13 h14; simp [h0, h1, h2, h3, h4, h5, h6, h7, h8, h9, h10, h11, h12, h13, h14]
theorem eq_law (a0wRule : List UInt8) (a0wWidth : Int) (a0wHeight : Int) (a0wCells : List UInt8) (a0wX : Int) (a0wY : Int) (a0wWay : Int) (a0kRule : List UInt8) (a0kWidth : Int) (a0kHeight : Int) (a0kCells : List UInt8) (a0kX : Int) (a0kY : Int) (a0kWay : Int) (a0Program : List UInt8) (K : V -> Prop) : VC_LawIsDesk a0wRule a0wWidth a0wHeight a0wCells a0wX a0wY a0wWay a0kRule a0kWidth a0kHeight a0kCells a0kX a0kY a0kWay a0Program K = vin Try.prog TDK annTDK 6 5 [.agg [.str a0wRule, .int .i64 a0wWidth, .int .i64 a0wHeight, .str a0wCells, .int .i64 a0wX, .int .i64 a0wY, .int .i64 a0wWay, .str a0kRule, .int .i64 a0kWidth, .int .i64 a0kHeight, .str a0kCells, .int .i64 a0kX, .int .i64 a0kY, .int .i64 a0kWay, .str a0Program]] [] (fun v _ => K v) := by kernel_rfl
theorem walk (a0wRule : ByteArray) (a0wWidth : Int) (a0wHeight : Int) (a0wCells : ByteArray) (a0wX : Int) (a0wY : Int) (a0wWay : Int) (a0kRule : ByteArray) (a0kWidth : Int) (a0kHeight : Int) (a0kCells : ByteArray) (a0kX : Int) (a0kY : Int) (a0kWay : Int) (a0Program : ByteArray) (ha0wRule : a0wRule.size <= maxLen) (ha0wWidth : (Lit.int .i64 a0wWidth).wf = true) (ha0wHeight : (Lit.int .i64 a0wHeight).wf = true) (ha0wCells : a0wCells.size <= maxLen) (ha0wX : (Lit.int .i64 a0wX).wf = true) (ha0wY : (Lit.int .i64 a0wY).wf = true) (ha0wWay : (Lit.int .i64 a0wWay).wf = true) (ha0kRule : a0kRule.size <= maxLen) (ha0kWidth : (Lit.int .i64 a0kWidth).wf = true) (ha0kHeight : (Lit.int .i64 a0kHeight).wf = true) (ha0kCells : a0kCells.size <= maxLen) (ha0kX : (Lit.int .i64 a0kX).wf = true) (ha0kY : (Lit.int .i64 a0kY).wf = true) (ha0kWay : (Lit.int .i64 a0kWay).wf = true) (ha0Program : a0Program.size <= maxLen) (w : World) :
  Calls Try.prog 5 #[.agg #[.string a0wRule, .int .i64 a0wWidth, .int .i64 a0wHeight, .string a0wCells, .int .i64 a0wX, .int .i64 a0wY, .int .i64 a0wWay, .string a0kRule, .int .i64 a0kWidth, .int .i64 a0kHeight, .string a0kCells, .int .i64 a0kX, .int .i64 a0kY, .int .i64 a0kWay, .string a0Program]] w fun e w' => e = .returned (.bool true) /\ Below w.heap.size w w' := by
 have hv := (congrArg At (eq_law a0wRule.data.toList a0wWidth a0wHeight a0wCells.data.toList a0wX a0wY a0wWay a0kRule.data.toList a0kWidth a0kHeight a0kCells.data.toList a0kX a0kY a0kWay a0Program.data.toList (retP (.bool true)))).mp ⟨vc_LawIsDesk a0wRule.data.toList a0wWidth a0wHeight a0wCells.data.toList a0wX a0wY a0wWay a0kRule.data.toList a0kWidth a0kHeight a0kCells.data.toList a0kX a0kY a0kWay a0Program.data.toList (str_bd ha0wRule) (wf_i64_bd ha0wWidth) (wf_i64_bd ha0wHeight) (str_bd ha0wCells) (wf_i64_bd ha0wX) (wf_i64_bd ha0wY) (wf_i64_bd ha0wWay) (str_bd ha0kRule) (wf_i64_bd ha0kWidth) (wf_i64_bd ha0kHeight) (str_bd ha0kCells) (wf_i64_bd ha0kX) (wf_i64_bd ha0kY) (wf_i64_bd ha0kWay) (str_bd ha0Program)⟩
 have hr : RepL [] [.agg [.str a0wRule.data.toList, .int .i64 a0wWidth, .int .i64 a0wHeight, .str a0wCells.data.toList, .int .i64 a0wX, .int .i64 a0wY, .int .i64 a0wWay, .str a0kRule.data.toList, .int .i64 a0kWidth, .int .i64 a0kHeight, .str a0kCells.data.toList, .int .i64 a0kX, .int .i64 a0kY, .int .i64 a0kWay, .str a0Program.data.toList]] [.agg #[.string a0wRule, .int .i64 a0wWidth, .int .i64 a0wHeight, .string a0wCells, .int .i64 a0wX, .int .i64 a0wY, .int .i64 a0wWay, .string a0kRule, .int .i64 a0kWidth, .int .i64 a0kHeight, .string a0kCells, .int .i64 a0kX, .int .i64 a0kY, .int .i64 a0kWay, .string a0Program]] := by simp [RepL, Rep, ofL_data]
 have hc := OK.call (vin_ok TDK_ok annTDK 6 5) hv hr w
 exact hc.mono fun e w' ⟨v, m', ρ', x, he, hk, hr, hb⟩ => ⟨by rw [he, bool_true hr hk], hb⟩

set_option maxRecDepth 100000 in
theorem lifted (os : Os) (started : os.Started) (H : Type) (enc : TypeId × Value -> H) :
  ReturnsInHanded {} Try.checked os 5 .any (Rows.fnExactIsDeskSpec.pre6 enc Try.prog Try.f5 Rows.fnExactIsDeskRow.domain false) (Rows.fnExactIsDeskSpec.post enc Try.prog Try.f5 false true false false) := by
 refine returnsInHanded_of_change (C := Try.checked) own started (by kernel_rfl) Try.func5
  (ChangeSpec.witness6 (enc := enc) (C := Try.checked) false ⟨#[], #[.agg #[.string ByteArray.empty, .int .i64 0, .int .i64 0, .string ByteArray.empty, .int .i64 0, .int .i64 0, .int .i64 0, .string ByteArray.empty, .int .i64 0, .int .i64 0, .string ByteArray.empty, .int .i64 0, .int .i64 0, .int .i64 0, .string ByteArray.empty]], []⟩ 8 (by kernel_rfl) (by kernel_rfl) (by kernel_rfl) (by kernel_rfl)) ?_
 intro W base args ds gs before hval0 hW hcnd _
 have hval : ∀ (j : Nat) t v, Try.f5.params[j]? = some t -> args[j]? = some v -> Value.okWide Try.prog W .any base t v := hval0
 have hW' := hW
 obtain ⟨p, q, hA0, hV, rfl, hfz, hnd⟩ := hW
 have hA : DataW.TrodAll enc Try.prog W 0 (fun _ => true) true Try.f5.params.toList args.toList ds p := hA0
 rw [Try.params5] at hA hval
 obtain ⟨v0, vs0, d0, ds0, p0, q0, hargs, rfl, rfl, h0, r0⟩ := trodAll_cons hA
 obtain ⟨rfl, rfl, rfl⟩ := trodAll_nil r0
 obtain rfl : args = #[v0] := by cases args; simp_all
 obtain ⟨rfl, rfl⟩ := trodVars_none hV
 have k0 := h0
 have lt0 : ∀ x ∈ p0, x.block < W.heap.size := by obtain ⟨m, hm⟩ := k0; exact DataW.trod_lt m _ _ _ hm
 obtain ⟨cs0, e0, l0, g0⟩ := struct_flat Try.underlying48 (hval 0 48 v0 rfl rfl) h0
 obtain ⟨a0wRule, c0_0, ha0wRule⟩ := cell_string Try.underlying9 (sub_cell (sub_struct Try.underlying46 (g0 0 _ rfl) 0 _ rfl (by kernel_rfl)) (by kernel_rfl) (by rw [l0]; exact of_decide_eq_true (by kernel_rfl)))
 obtain ⟨a0wWidth, c0_1, ha0wWidth⟩ := cell_int Try.underlying3 (sub_cell (sub_struct Try.underlying46 (g0 0 _ rfl) 1 _ rfl (by kernel_rfl)) (by kernel_rfl) (by rw [l0]; exact of_decide_eq_true (by kernel_rfl)))
 obtain ⟨a0wHeight, c0_2, ha0wHeight⟩ := cell_int Try.underlying3 (sub_cell (sub_struct Try.underlying46 (g0 0 _ rfl) 2 _ rfl (by kernel_rfl)) (by kernel_rfl) (by rw [l0]; exact of_decide_eq_true (by kernel_rfl)))
 obtain ⟨a0wCells, c0_3, ha0wCells⟩ := cell_string Try.underlying9 (sub_cell (sub_struct Try.underlying46 (g0 0 _ rfl) 3 _ rfl (by kernel_rfl)) (by kernel_rfl) (by rw [l0]; exact of_decide_eq_true (by kernel_rfl)))
 obtain ⟨a0wX, c0_4, ha0wX⟩ := cell_int Try.underlying3 (sub_cell (sub_struct Try.underlying46 (g0 0 _ rfl) 4 _ rfl (by kernel_rfl)) (by kernel_rfl) (by rw [l0]; exact of_decide_eq_true (by kernel_rfl)))
 obtain ⟨a0wY, c0_5, ha0wY⟩ := cell_int Try.underlying3 (sub_cell (sub_struct Try.underlying46 (g0 0 _ rfl) 5 _ rfl (by kernel_rfl)) (by kernel_rfl) (by rw [l0]; exact of_decide_eq_true (by kernel_rfl)))
 obtain ⟨a0wWay, c0_6, ha0wWay⟩ := cell_int Try.underlying3 (sub_cell (sub_struct Try.underlying46 (g0 0 _ rfl) 6 _ rfl (by kernel_rfl)) (by kernel_rfl) (by rw [l0]; exact of_decide_eq_true (by kernel_rfl)))
 obtain ⟨a0kRule, c0_7, ha0kRule⟩ := cell_string Try.underlying9 (sub_cell (sub_struct Try.underlying46 (g0 1 _ rfl) 0 _ rfl (by kernel_rfl)) (by kernel_rfl) (by rw [l0]; exact of_decide_eq_true (by kernel_rfl)))
 obtain ⟨a0kWidth, c0_8, ha0kWidth⟩ := cell_int Try.underlying3 (sub_cell (sub_struct Try.underlying46 (g0 1 _ rfl) 1 _ rfl (by kernel_rfl)) (by kernel_rfl) (by rw [l0]; exact of_decide_eq_true (by kernel_rfl)))
 obtain ⟨a0kHeight, c0_9, ha0kHeight⟩ := cell_int Try.underlying3 (sub_cell (sub_struct Try.underlying46 (g0 1 _ rfl) 2 _ rfl (by kernel_rfl)) (by kernel_rfl) (by rw [l0]; exact of_decide_eq_true (by kernel_rfl)))
 obtain ⟨a0kCells, c0_10, ha0kCells⟩ := cell_string Try.underlying9 (sub_cell (sub_struct Try.underlying46 (g0 1 _ rfl) 3 _ rfl (by kernel_rfl)) (by kernel_rfl) (by rw [l0]; exact of_decide_eq_true (by kernel_rfl)))
 obtain ⟨a0kX, c0_11, ha0kX⟩ := cell_int Try.underlying3 (sub_cell (sub_struct Try.underlying46 (g0 1 _ rfl) 4 _ rfl (by kernel_rfl)) (by kernel_rfl) (by rw [l0]; exact of_decide_eq_true (by kernel_rfl)))
 obtain ⟨a0kY, c0_12, ha0kY⟩ := cell_int Try.underlying3 (sub_cell (sub_struct Try.underlying46 (g0 1 _ rfl) 5 _ rfl (by kernel_rfl)) (by kernel_rfl) (by rw [l0]; exact of_decide_eq_true (by kernel_rfl)))
 obtain ⟨a0kWay, c0_13, ha0kWay⟩ := cell_int Try.underlying3 (sub_cell (sub_struct Try.underlying46 (g0 1 _ rfl) 6 _ rfl (by kernel_rfl)) (by kernel_rfl) (by rw [l0]; exact of_decide_eq_true (by kernel_rfl)))
 obtain ⟨a0Program, c0_14, ha0Program⟩ := cell_string Try.underlying9 (sub_cell (g0 2 _ rfl) (by kernel_rfl) (by rw [l0]; exact of_decide_eq_true (by kernel_rfl)))
 obtain rfl := list_flat0 (l0.trans (show Try.prog.cellsOf 48 = 15 by kernel_rfl)) c0_0 c0_1 c0_2 c0_3 c0_4 c0_5 c0_6 c0_7 c0_8 c0_9 c0_10 c0_11 c0_12 c0_13 c0_14
 subst e0
 clear hA0 hval0
 refine (walk a0wRule a0wWidth a0wHeight a0wCells a0wX a0wY a0wWay a0kRule a0kWidth a0kHeight a0kCells a0kX a0kY a0kWay a0Program ha0wRule ha0wWidth ha0wHeight ha0wCells ha0wX ha0wY ha0wWay ha0kRule ha0kWidth ha0kHeight ha0kCells ha0kX ha0kY ha0kWay ha0Program W).mono fun e W' ⟨he, bel⟩ => ?_
 subst he
 exact ⟨_, rfl, _, _, _, [], _, [], hW', trodAll_mk1 (shut_bool Try.underlying4 _), (trodAll_cons_mk (Below.trod laidOut (by kernel_rfl) (of_decide_eq_true (by kernel_rfl)) k0 bel lt0) trodAll_mk0), rfl, bel.frame _, fun h => by cases h⟩

theorem over : Rows.fnExactIsDeskRow.holds Try.pinned (OpenSpec.ofChange Rows.fnExactIsDeskSpec) :=
 OpenClaim.holds_of_wide 5 Try.f5 rfl rfl rfl rfl rfl rfl rfl ⟨rfl, rfl, rfl, rfl, rfl⟩ rfl rfl rfl rfl rfl (by kernel_rfl) Try.func5 (by kernel_rfl)
  (of_decide_eq_true (by kernel_rfl)) (by unfold Func.isWrapper; first | (rw [if_pos (by decide +kernel)]; kernel_rfl) | (rw [if_neg (by decide +kernel)]; exact ⟨rfl, rfl⟩))
  (fun os started H enc _ => lifted os started H enc)

theorem proved : Rows.FnExactIsDeskSaid := over
#print axioms proved
end Go.Proofs.Ytickpjdnncpnmaa.lawIsDesk
