/- FnExactColourOfSpot: for every input the law returns true, and each argument reads as it did. No condition. -/
import Derived.Test.YtpkokghbkamelaaRows
import Derived.WalkKit
import Derived.ProofKit
import Derived.OpenShut
import Derived.ShutString
import Derived.ChangeOld
import Derived.Below
import Derived.Test.YtpkokghbkamelaaK1Ok
import Derived.Test.YtpkokghbkamelaaVik
import Derived.Test.YtpkokghbkamelaaLawColourOfSpotPure
namespace Go.Proofs.Ytpkokghbkamelaa.lawColourOfSpot
open Go Go.Vi
open Go.ChangeShapes Go.WideShapes Go.ChangeAt Go.RowKit
open Go.ChangeMaps (open_string shut_string)
set_option linter.unusedVariables false

theorem own : ownKnob Try.prog.godebug = none := by kernel_rfl
theorem laidOut : laidOutB Try.prog = true := by kernel_rfl

theorem eq_law (a0r : List UInt8) (a0sn : Nat) (a0s : List Int) (a0x : Int) (a0y : Int) (a0d : Int) (a1 : Int) (a2 : Int) (K : V -> Prop) : VC_LawColourOfSpot a0r a0sn a0s a0x a0y a0d a1 a2 K = vin Try.prog TK1 annTK1 6 3 [.agg [.str a0r, .row 0 a0sn, .int .i64 a0x, .int .i64 a0y, .int .i64 a0d], .int .i64 a1, .int .i64 a2] [⟨.ints .i64 a0s, 65, .arg 3⟩] (fun v _ => K v) := by kernel_rfl
theorem walk (a0r : ByteArray) (a0sv : Value) (a0sp : Go.Vi.Place) (a0sn : Nat) (a0s : List Int) (a0x : Int) (a0y : Int) (a0d : Int) (a1 : Int) (a2 : Int) (ha0r : a0r.size <= maxLen) (ha0s : a0s.length = a0sn * 3 /\ a0sn <= maxLen) (ra0s : Rep [a0sp] (.row 0 a0sn) a0sv) (ha0x : (Lit.int .i64 a0x).wf = true) (ha0y : (Lit.int .i64 a0y).wf = true) (ha0d : (Lit.int .i64 a0d).wf = true) (ha1 : (Lit.int .i64 a1).wf = true) (ha2 : (Lit.int .i64 a2).wf = true) (w : World) (ba0s : BRel [a0sp] a0sp ⟨.ints .i64 a0s, 65, .arg 3⟩ w) :
  Calls Try.prog 3 #[.agg #[.string a0r, a0sv, .int .i64 a0x, .int .i64 a0y, .int .i64 a0d], .int .i64 a1, .int .i64 a2] w fun e w' => e = .returned (.bool true) /\ Below w.heap.size w w' := by
 have hv := (congrArg At (eq_law a0r.data.toList a0sn a0s a0x a0y a0d a1 a2 (retP (.bool true)))).mp ⟨vc_LawColourOfSpot a0r.data.toList a0sn a0s a0x a0y a0d a1 a2 (str_bd ha0r) (rows_bd ha0s) (wf_i64_bd ha0x) (wf_i64_bd ha0y) (wf_i64_bd ha0d) (wf_i64_bd ha1) (wf_i64_bd ha2)⟩
 have hr : RepL [a0sp] [.agg [.str a0r.data.toList, .row 0 a0sn, .int .i64 a0x, .int .i64 a0y, .int .i64 a0d], .int .i64 a1, .int .i64 a2] [.agg #[.string a0r, a0sv, .int .i64 a0x, .int .i64 a0y, .int .i64 a0d], .int .i64 a1, .int .i64 a2] := (repL_cons (rep_agg (repL_cons (rep_str a0r) (repL_cons (rep_row_at ra0s rfl) (repL_cons (rep_int .i64 a0x) (repL_cons (rep_int .i64 a0y) (repL_cons (rep_int .i64 a0d) repL_nil)))))) (repL_cons (rep_int .i64 a1) (repL_cons (rep_int .i64 a2) repL_nil)))
 have hc := OK.callM (vin_ok TK1_ok annTK1 6 3) hv (MRel.args1 rfl ba0s.ints) (argsAll rfl) hr
 exact hc.mono fun e w' ⟨v, m', ρ', x, he, hk, hr, hb⟩ => ⟨by rw [he, bool_true hr hk], hb⟩

set_option maxRecDepth 100000 in
theorem lifted (os : Os) (started : os.Started) (H : Type) (enc : TypeId × Value -> H) :
  ReturnsInHanded {} Try.checked os 3 .any (Rows.fnExactColourOfSpotSpec.pre6 enc Try.prog Try.f3 Rows.fnExactColourOfSpotRow.domain false) (Rows.fnExactColourOfSpotSpec.post enc Try.prog Try.f3 false true false false) := by
 refine returnsInHanded_of_change (C := Try.checked) own started (by kernel_rfl) Try.func3
  (ChangeSpec.witness6 (enc := enc) (C := Try.checked) false ⟨#[], #[.agg #[.string ByteArray.empty, .slice none 0 0, .int .i64 0, .int .i64 0, .int .i64 0], .int .i64 0, .int .i64 0], []⟩ 8 (by kernel_rfl) (by kernel_rfl) (by kernel_rfl) (by kernel_rfl)) ?_
 intro W base args ds gs before hval0 hW hcnd _
 have hval : ∀ (j : Nat) t v, Try.f3.params[j]? = some t -> args[j]? = some v -> Value.okWide Try.prog W .any base t v := hval0
 have hW' := hW
 obtain ⟨p, q, hA0, hV, rfl, hfz, hnd⟩ := hW
 have hA : DataW.TrodAll enc Try.prog W 0 (fun _ => true) true Try.f3.params.toList args.toList ds p := hA0
 rw [Try.params3] at hA hval
 obtain ⟨v0, vs0, d0, ds0, p0, q0, hargs, rfl, rfl, h0, r0⟩ := trodAll_cons hA
 obtain ⟨v1, vs1, d1, ds1, p1, q1, rfl, rfl, rfl, h1, r1⟩ := trodAll_cons r0
 obtain ⟨v2, vs2, d2, ds2, p2, q2, rfl, rfl, rfl, h2, r2⟩ := trodAll_cons r1
 obtain ⟨rfl, rfl, rfl⟩ := trodAll_nil r2
 obtain rfl : args = #[v0, v1, v2] := by cases args; simp_all
 obtain ⟨rfl, rfl⟩ := trodVars_none hV
 have k0 := h0
 have lt0 : ∀ x ∈ p0, x.block < W.heap.size := by obtain ⟨m, hm⟩ := k0; exact DataW.trod_lt m _ _ _ hm
 obtain ⟨cs0, e0, l0, g0⟩ := struct_cells Try.underlying24 (by kernel_rfl) (by kernel_rfl) (hval 0 24 v0 rfl rfl) h0
 obtain ⟨a0r, c0_0, ha0r⟩ := cell_string Try.underlying9 (g0 0 _ rfl)
 obtain ⟨a0sv, y0_1, n0_1, c0_1, t0_1⟩ := g0 1 _ rfl
 obtain ⟨a0sp, a0sn, a0s, hla0s, hma0s, ra0s, ba0s⟩ := open_rows Try.underlying22 Try.underlying65 (by kernel_rfl) (by kernel_rfl) (by decide) (allInts_spec (by kernel_rfl)) t0_1 65
 have ha0s : a0s.length = a0sn * 3 /\ a0sn <= maxLen := ⟨hla0s, hma0s⟩
 obtain ⟨a0x, c0_2, ha0x⟩ := cell_int Try.underlying3 (g0 2 _ rfl)
 obtain ⟨a0y, c0_3, ha0y⟩ := cell_int Try.underlying3 (g0 3 _ rfl)
 obtain ⟨a0d, c0_4, ha0d⟩ := cell_int Try.underlying3 (g0 4 _ rfl)
 obtain rfl := list_of5 l0 c0_0 c0_1 c0_2 c0_3 c0_4
 subst e0
 have k1 := h1
 have lt1 : ∀ x ∈ p1, x.block < W.heap.size := by obtain ⟨m, hm⟩ := k1; exact DataW.trod_lt m _ _ _ hm
 obtain ⟨a1, rfl, _, _, ha1⟩ := open_int Try.underlying3 (hval 1 3 v1 rfl rfl) h1
 have k2 := h2
 have lt2 : ∀ x ∈ p2, x.block < W.heap.size := by obtain ⟨m, hm⟩ := k2; exact DataW.trod_lt m _ _ _ hm
 obtain ⟨a2, rfl, _, _, ha2⟩ := open_int Try.underlying3 (hval 2 3 v2 rfl rfl) h2
 clear hA0 hval0
 refine (walk a0r a0sv a0sp a0sn a0s a0x a0y a0d a1 a2 ha0r ha0s ra0s ha0x ha0y ha0d ha1 ha2 W ba0s).mono fun e W' ⟨he, bel⟩ => ?_
 subst he
 exact ⟨_, rfl, _, _, _, [], _, [], hW', trodAll_mk1 (shut_bool Try.underlying4 _), (trodAll_cons_mk (Below.trod laidOut (by kernel_rfl) (of_decide_eq_true (by kernel_rfl)) k0 bel lt0) (trodAll_cons_mk (Below.trod laidOut (by kernel_rfl) (of_decide_eq_true (by kernel_rfl)) k1 bel lt1) (trodAll_cons_mk (Below.trod laidOut (by kernel_rfl) (of_decide_eq_true (by kernel_rfl)) k2 bel lt2) trodAll_mk0))), rfl, bel.frame _, fun h => by cases h⟩

theorem over : Rows.fnExactColourOfSpotRow.holds Try.pinned (OpenSpec.ofChange Rows.fnExactColourOfSpotSpec) :=
 OpenClaim.holds_of_wide 3 Try.f3 rfl rfl rfl rfl rfl rfl rfl ⟨rfl, rfl, rfl, rfl, rfl⟩ rfl rfl rfl rfl rfl (by kernel_rfl) Try.func3 (by kernel_rfl)
  (of_decide_eq_true (by kernel_rfl)) (by unfold Func.isWrapper; first | (rw [if_pos (by decide +kernel)]; kernel_rfl) | (rw [if_neg (by decide +kernel)]; exact ⟨rfl, rfl⟩))
  (fun os started H enc _ => lifted os started H enc)

theorem proved : Rows.FnExactColourOfSpotSaid := over
#print axioms proved
end Go.Proofs.Ytpkokghbkamelaa.lawColourOfSpot
