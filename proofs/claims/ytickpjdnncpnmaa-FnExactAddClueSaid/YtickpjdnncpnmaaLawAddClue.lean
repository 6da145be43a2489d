/- FnExactAddClue: for every input the law returns true, and each argument reads as it did. No condition. -/
import Derived.Test.YtickpjdnncpnmaaRows
import Derived.WalkKit
import Derived.ProofKit
import Derived.OpenShut
import Derived.ShutString
import Derived.ChangeOld
import Derived.Below
import Derived.Test.YtickpjdnncpnmaaPOOk
import Derived.Test.YtickpjdnncpnmaaVik
import Derived.Test.YtickpjdnncpnmaaLawAddCluePure
namespace Go.Proofs.Ytickpjdnncpnmaa.lawAddClue
open Go Go.Vi
open Go.ChangeShapes Go.WideShapes Go.ChangeAt Go.RowKit
open Go.ChangeMaps (open_string shut_string)
set_option linter.unusedVariables false

theorem own : ownKnob Try.prog.godebug = none := by kernel_rfl
theorem laidOut : laidOutB Try.prog = true := by kernel_rfl

theorem eq_law (a0r : List UInt8) (a0w : Int) (a0h : Int) (a0cn : Nat) (a0c : List Int) (a1x : Int) (a1y : Int) (a1k : Int) (K : V -> Prop) : VC_LawAddClue a0r a0w a0h a0cn a0c a1x a1y a1k K = vin Try.prog TPO annTPO 6 3 [.agg [.str a0r, .int .i64 a0w, .int .i64 a0h, .row 0 a0cn], .agg [.int .i64 a1x, .int .i64 a1y, .int .i64 a1k]] [⟨.ints .i64 a0c, 26, .arg 3⟩] (fun v _ => K v) := by kernel_rfl
theorem walk (a0r : ByteArray) (a0w : Int) (a0h : Int) (a0cv : Value) (a0cp : Go.Vi.Place) (a0cn : Nat) (a0c : List Int) (a1x : Int) (a1y : Int) (a1k : Int) (ha0r : a0r.size <= maxLen) (ha0w : (Lit.int .i64 a0w).wf = true) (ha0h : (Lit.int .i64 a0h).wf = true) (ha0c : a0c.length = a0cn * 3 /\ a0cn <= maxLen) (ra0c : Rep [a0cp] (.row 0 a0cn) a0cv) (ha1x : (Lit.int .i64 a1x).wf = true) (ha1y : (Lit.int .i64 a1y).wf = true) (ha1k : (Lit.int .i64 a1k).wf = true) (w : World) (ba0c : BRel [a0cp] a0cp ⟨.ints .i64 a0c, 26, .arg 3⟩ w) :
  Calls Try.prog 3 #[.agg #[.string a0r, .int .i64 a0w, .int .i64 a0h, a0cv], .agg #[.int .i64 a1x, .int .i64 a1y, .int .i64 a1k]] w fun e w' => e = .returned (.bool true) /\ Below w.heap.size w w' := by
 have hv := (congrArg At (eq_law a0r.data.toList a0w a0h a0cn a0c a1x a1y a1k (retP (.bool true)))).mp ⟨vc_LawAddClue a0r.data.toList a0w a0h a0cn a0c a1x a1y a1k (str_bd ha0r) (wf_i64_bd ha0w) (wf_i64_bd ha0h) (rows_bd ha0c) (wf_i64_bd ha1x) (wf_i64_bd ha1y) (wf_i64_bd ha1k)⟩
 have hr : RepL [a0cp] [.agg [.str a0r.data.toList, .int .i64 a0w, .int .i64 a0h, .row 0 a0cn], .agg [.int .i64 a1x, .int .i64 a1y, .int .i64 a1k]] [.agg #[.string a0r, .int .i64 a0w, .int .i64 a0h, a0cv], .agg #[.int .i64 a1x, .int .i64 a1y, .int .i64 a1k]] := (repL_cons (rep_agg (repL_cons (rep_str a0r) (repL_cons (rep_int .i64 a0w) (repL_cons (rep_int .i64 a0h) (repL_cons (rep_row_at ra0c rfl) repL_nil))))) (repL_cons (rep_agg (repL_cons (rep_int .i64 a1x) (repL_cons (rep_int .i64 a1y) (repL_cons (rep_int .i64 a1k) repL_nil)))) repL_nil))
 have hc := OK.callM (vin_ok TPO_ok annTPO 6 3) hv (MRel.args1 rfl ba0c.ints) (argsAll rfl) hr
 exact hc.mono fun e w' ⟨v, m', ρ', x, he, hk, hr, hb⟩ => ⟨by rw [he, bool_true hr hk], hb⟩

set_option maxRecDepth 100000 in
theorem lifted (os : Os) (started : os.Started) (H : Type) (enc : TypeId × Value -> H) :
  ReturnsInHanded {} Try.checked os 3 .any (Rows.fnExactAddClueSpec.pre6 enc Try.prog Try.f3 Rows.fnExactAddClueRow.domain false) (Rows.fnExactAddClueSpec.post enc Try.prog Try.f3 false true false false) := by
 refine returnsInHanded_of_change (C := Try.checked) own started (by kernel_rfl) Try.func3
  (ChangeSpec.witness6 (enc := enc) (C := Try.checked) false ⟨#[], #[.agg #[.string ByteArray.empty, .int .i64 0, .int .i64 0, .slice none 0 0], .agg #[.int .i64 0, .int .i64 0, .int .i64 0]], []⟩ 8 (by kernel_rfl) (by kernel_rfl) (by kernel_rfl) (by kernel_rfl)) ?_
 intro W base args ds gs before hval0 hW hcnd _
 have hval : ∀ (j : Nat) t v, Try.f3.params[j]? = some t -> args[j]? = some v -> Value.okWide Try.prog W .any base t v := hval0
 have hW' := hW
 obtain ⟨p, q, hA0, hV, rfl, hfz, hnd⟩ := hW
 have hA : DataW.TrodAll enc Try.prog W 0 (fun _ => true) true Try.f3.params.toList args.toList ds p := hA0
 rw [Try.params3] at hA hval
 obtain ⟨v0, vs0, d0, ds0, p0, q0, hargs, rfl, rfl, h0, r0⟩ := trodAll_cons hA
 obtain ⟨v1, vs1, d1, ds1, p1, q1, rfl, rfl, rfl, h1, r1⟩ := trodAll_cons r0
 obtain ⟨rfl, rfl, rfl⟩ := trodAll_nil r1
 obtain rfl : args = #[v0, v1] := by cases args; simp_all
 obtain ⟨rfl, rfl⟩ := trodVars_none hV
 have k0 := h0
 have lt0 : ∀ x ∈ p0, x.block < W.heap.size := by obtain ⟨m, hm⟩ := k0; exact DataW.trod_lt m _ _ _ hm
 obtain ⟨cs0, e0, l0, g0⟩ := struct_cells Try.underlying24 (by kernel_rfl) (by kernel_rfl) (hval 0 24 v0 rfl rfl) h0
 obtain ⟨a0r, c0_0, ha0r⟩ := cell_string Try.underlying9 (g0 0 _ rfl)
 obtain ⟨a0w, c0_1, ha0w⟩ := cell_int Try.underlying3 (g0 1 _ rfl)
 obtain ⟨a0h, c0_2, ha0h⟩ := cell_int Try.underlying3 (g0 2 _ rfl)
 obtain ⟨a0cv, y0_3, n0_3, c0_3, t0_3⟩ := g0 3 _ rfl
 obtain ⟨a0cp, a0cn, a0c, hla0c, hma0c, ra0c, ba0c⟩ := open_rows Try.underlying22 Try.underlying26 (by kernel_rfl) (by kernel_rfl) (by decide) (allInts_spec (by kernel_rfl)) t0_3 26
 have ha0c : a0c.length = a0cn * 3 /\ a0cn <= maxLen := ⟨hla0c, hma0c⟩
 obtain rfl := list_of4 l0 c0_0 c0_1 c0_2 c0_3
 subst e0
 have k1 := h1
 have lt1 : ∀ x ∈ p1, x.block < W.heap.size := by obtain ⟨m, hm⟩ := k1; exact DataW.trod_lt m _ _ _ hm
 obtain ⟨cs1, e1, l1, g1⟩ := struct_cells Try.underlying26 (by kernel_rfl) (by kernel_rfl) (hval 1 26 v1 rfl rfl) h1
 obtain ⟨a1x, c1_0, ha1x⟩ := cell_int Try.underlying3 (g1 0 _ rfl)
 obtain ⟨a1y, c1_1, ha1y⟩ := cell_int Try.underlying3 (g1 1 _ rfl)
 obtain ⟨a1k, c1_2, ha1k⟩ := cell_int Try.underlying3 (g1 2 _ rfl)
 obtain rfl := list_of3 l1 c1_0 c1_1 c1_2
 subst e1
 clear hA0 hval0
 refine (walk a0r a0w a0h a0cv a0cp a0cn a0c a1x a1y a1k ha0r ha0w ha0h ha0c ra0c ha1x ha1y ha1k W ba0c).mono fun e W' ⟨he, bel⟩ => ?_
 subst he
 exact ⟨_, rfl, _, _, _, [], _, [], hW', trodAll_mk1 (shut_bool Try.underlying4 _), (trodAll_cons_mk (Below.trod laidOut (by kernel_rfl) (of_decide_eq_true (by kernel_rfl)) k0 bel lt0) (trodAll_cons_mk (Below.trod laidOut (by kernel_rfl) (of_decide_eq_true (by kernel_rfl)) k1 bel lt1) trodAll_mk0)), rfl, bel.frame _, fun h => by cases h⟩

theorem over : Rows.fnExactAddClueRow.holds Try.pinned (OpenSpec.ofChange Rows.fnExactAddClueSpec) :=
 OpenClaim.holds_of_wide 3 Try.f3 rfl rfl rfl rfl rfl rfl rfl ⟨rfl, rfl, rfl, rfl, rfl⟩ rfl rfl rfl rfl rfl (by kernel_rfl) Try.func3 (by kernel_rfl)
  (of_decide_eq_true (by kernel_rfl)) (by unfold Func.isWrapper; first | (rw [if_pos (by decide +kernel)]; kernel_rfl) | (rw [if_neg (by decide +kernel)]; exact ⟨rfl, rfl⟩))
  (fun os started H enc _ => lifted os started H enc)

theorem proved : Rows.FnExactAddClueSaid := over
#print axioms proved
end Go.Proofs.Ytickpjdnncpnmaa.lawAddClue
