/- FnExactIsScene: for every input the law returns true, and each argument reads as it did. No condition. -/
import Derived.Test.YtpkokghbkamelaaDoorCards
import Derived.Test.YtpkokghbkamelaaDoorTie
import Derived.LaidMore
import Derived.Lib.LaidU8
import Derived.ChangeVars
import Derived.Lay
import Derived.Test.YtpkokghbkamelaaDoorRows
import Derived.WalkKit
import Derived.ProofKit
import Derived.OpenShut
import Derived.ShutString
import Derived.ChangeOld
import Derived.Below
import Derived.Test.YtpkokghbkamelaaDoorSCOk
import Derived.Test.YtpkokghbkamelaaDoorVik
import Derived.Test.YtpkokghbkamelaaDoorLawIsScenePure
namespace Go.Proofs.YtpkokghbkamelaaDoor.lawIsScene
open Go Go.Vi
open Go.ChangeShapes Go.WideShapes Go.ChangeAt Go.RowKit
open Go.ChangeMaps (open_string shut_string)
set_option linter.unusedVariables false

theorem own : ownKnob Tryd.prog.godebug = none := by kernel_rfl
theorem laidOut : laidOutB Tryd.prog = true := by kernel_rfl

theorem gl_rel {W : World} (h : laidMetH Tryd.prog Rows.fnExactIsSceneRow.laid W) (ρ : List Go.Vi.Place) : BRel ρ (⟨0, 0, false, 0, none, []⟩ : Go.Vi.Place) ⟨.vals [.str [78], .str [82], .str [85], .str [76]], 9, .gl 0⟩ W := by
 rw [MakeChecks.laidMetH_plain _ _ _ (by kernel_rfl)] at h
 obtain ⟨g, t, cs, fuel, p, hg, ht, hv, hd⟩ := Lib.laidMet.reads h (n := "loop.example/g01276/impl.turnSigns") (d := Rows.laid_loop_example_g01276_impl_turnSigns) (by first | exact .head _ | exact .tail _ (.head _) | exact .tail _ (.tail _ (.head _)) | exact .tail _ (.tail _ (.tail _ (.head _))))
 obtain rfl := Option.some.inj ((show Tryd.prog.globalNamed "loop.example/g01276/impl.turnSigns" = some 0 by kernel_rfl).symm.trans hg)
 obtain rfl := Option.some.inj ((show (Tryd.prog.globals[(0 : Nat)]?).map (·.type) = some 165 by kernel_rfl).symm.trans ht)
 obtain ⟨xs, m, _, ex, hcl, hl, hel⟩ := DataW.trod_array Tryd.underlying165 hd
 have c9 : Tryd.prog.cellsOf 9 = 1 := by kernel_rfl
 have hcl4 : cs.toList.length = 4 := hcl.trans (by kernel_rfl)
 have e3 : xs.map (·.1) = [.lit (.string [78]), .lit (.string [82]), .lit (.string [85]), .lit (.string [76])] := (DataW.agg.inj (show DataW.agg [.lit (.string [78]), .lit (.string [82]), .lit (.string [85]), .lit (.string [76])] = DataW.agg _ from (Prod.mk.inj ex).1)).symm
 have each : ∀ (i : Nat) (l : List UInt8), i < 4 -> (xs.map (·.1))[i]? = some (.lit (.string l)) -> cs.toList[i]? = some (.string (ofL l)) := by
  intro i l hi hx
  have hE := hel i hi
  rw [c9, Nat.mul_one, List.getElem?_eq_getElem (by omega)] at hE
  obtain ⟨s, e1, e2, _⟩ := DataW.trod_string Tryd.underlying9 hE
  rw [List.getElem?_map, List.getElem?_eq_getElem (by omega : i < xs.length), e2] at hx
  simp only [Option.map_some, Option.some.injEq, DataW.lit.injEq, Lit.string.injEq] at hx
  have h1 : cs.toList[i]? = some (.string s) := by
   have h0 : ((cs.toList.drop i).take 1)[0]? = some (.string s) := by rw [e1]; rfl
   simpa using h0
  rw [h1, <- hx, ofL_data]
 have hcs := list_of4 hcl4 (each 0 [78] (by omega) (by rw [e3]; rfl)) (each 1 [82] (by omega) (by rw [e3]; rfl)) (each 2 [85] (by omega) (by rw [e3]; rfl)) (each 3 [76] (by omega) (by rw [e3]; rfl))
 simp only [World.var?, hg, Option.bind_some] at hv
 split at hv
 ·rename_i c e fz hb
  injection hv with hv
  subst hv
  refine .inr (.inr (.inr (.inl ⟨rfl, ⟨rfl, rfl⟩, c.toList, e, fz, by simpa using hb, ?_, rfl, rfl⟩)))
  simp only [Cells.toVs, List.drop_zero, hcs]
  simp [RepL, Rep]
 ·cases hv
theorem list_flat0 {l : List Value} {x0 x1 x2 x3 x4 x5 x6 x7 x8 x9 : Value} (h : l.length = 10) (h0 : l[0]? = some x0) (h1 : l[1]? = some x1) (h2 : l[2]? = some x2) (h3 : l[3]? = some x3) (h4 : l[4]? = some x4) (h5 : l[5]? = some x5) (h6 : l[6]? = some x6) (h7 : l[7]? = some x7) (h8 : l[8]? = some x8) (h9 : l[9]? = some x9) : l = [x0, x1, x2, x3, x4, x5, x6, x7, x8, x9] := by
 match l, h with
 | [_, _, _, _, _, _, _, _, _, _], _ => simp at h0 h1 h2 h3 h4 h5 h6 h7 h8 h9; simp [h0, h1, h2, h3, h4, h5, h6, h7, h8, h9]
theorem eq_law (a0s : Int) (a0i : Int) (a0rn : Nat) (a0r : List Sc) (a0w : Int) (a0h : Int) (a0u : List UInt8) (a0x : Int) (a0y : Int) (a0d : Int) (a0q : Int) (g0 g1 g2 g3 : List UInt8) (K : V -> Prop) : VC_LawIsScene a0s a0i a0rn a0r a0w a0h a0u a0x a0y a0d a0q g0 g1 g2 g3 K = vin Tryd.prog TSC annTSC 6 3 [.agg [.int .i64 a0s, .int .i64 a0i, .row 0 a0rn, .int .i64 a0w, .int .i64 a0h, .str a0u, .int .i64 a0x, .int .i64 a0y, .int .i64 a0d, .int .i64 a0q]] [⟨.recs [.int .i64, .str, .int .i64] a0r, 139, .arg 3⟩, ⟨.vals [.str g0, .str g1, .str g2, .str g3], 9, .gl 0⟩] (fun v _ => K v) := by kernel_rfl
theorem walk (a0s : Int) (a0i : Int) (a0rv : Value) (a0rp : Go.Vi.Place) (a0rn : Nat) (a0r : List Row3) (a0w : Int) (a0h : Int) (a0u : ByteArray) (a0x : Int) (a0y : Int) (a0d : Int) (a0q : Int) (ha0s : (Lit.int .i64 a0s).wf = true) (ha0i : (Lit.int .i64 a0i).wf = true) (ha0r : a0r.length = a0rn /\ a0rn <= maxLen /\ ∀ r ∈ a0r, r.t.length <= maxLen) (ra0r : Rep [a0rp] (.row 0 a0rn) a0rv) (ha0w : (Lit.int .i64 a0w).wf = true) (ha0h : (Lit.int .i64 a0h).wf = true) (ha0u : a0u.size <= maxLen) (ha0x : (Lit.int .i64 a0x).wf = true) (ha0y : (Lit.int .i64 a0y).wf = true) (ha0d : (Lit.int .i64 a0d).wf = true) (ha0q : (Lit.int .i64 a0q).wf = true) (w : World) (ba0r : BRel [a0rp] a0rp ⟨.recs sh3 (flat3 a0r), 139, .arg 3⟩ w) (bgl : ∀ ρ, BRel ρ (⟨0, 0, false, 0, none, []⟩ : Go.Vi.Place) ⟨.vals [.str [78], .str [82], .str [85], .str [76]], 9, .gl 0⟩ w) :
  Calls Tryd.prog 3 #[.agg #[.int .i64 a0s, .int .i64 a0i, a0rv, .int .i64 a0w, .int .i64 a0h, .string a0u, .int .i64 a0x, .int .i64 a0y, .int .i64 a0d, .int .i64 a0q]] w fun e w' => e = .returned (.bool true) /\ Below w.heap.size w w' := by
 have hv := (congrArg At (eq_law a0s a0i a0rn (flat3 a0r) a0w a0h a0u.data.toList a0x a0y a0d a0q [78] [82] [85] [76] (retP (.bool true)))).mp ⟨vc_LawIsScene a0s a0i a0rn (flat3 a0r) a0w a0h a0u.data.toList a0x a0y a0d a0q [78] [82] [85] [76] (wf_i64_bd ha0s) (wf_i64_bd ha0i) (recs3_law ha0r) (wf_i64_bd ha0w) (wf_i64_bd ha0h) (str_bd ha0u) (wf_i64_bd ha0x) (wf_i64_bd ha0y) (wf_i64_bd ha0d) (wf_i64_bd ha0q) ⟨rfl, rfl, rfl, rfl⟩⟩
 have hr : RepL [a0rp, (⟨0, 0, false, 0, none, []⟩ : Go.Vi.Place)] [.agg [.int .i64 a0s, .int .i64 a0i, .row 0 a0rn, .int .i64 a0w, .int .i64 a0h, .str a0u.data.toList, .int .i64 a0x, .int .i64 a0y, .int .i64 a0d, .int .i64 a0q]] [.agg #[.int .i64 a0s, .int .i64 a0i, a0rv, .int .i64 a0w, .int .i64 a0h, .string a0u, .int .i64 a0x, .int .i64 a0y, .int .i64 a0d, .int .i64 a0q]] := (repL_cons (rep_agg (repL_cons (rep_int .i64 a0s) (repL_cons (rep_int .i64 a0i) (repL_cons (rep_row_at ra0r rfl) (repL_cons (rep_int .i64 a0w) (repL_cons (rep_int .i64 a0h) (repL_cons (rep_str a0u) (repL_cons (rep_int .i64 a0x) (repL_cons (rep_int .i64 a0y) (repL_cons (rep_int .i64 a0d) (repL_cons (rep_int .i64 a0q) repL_nil))))))))))) repL_nil)
 have hc := OK.callM (vin_ok TSC_ok annTSC 6 3) hv (MRel.args2 rfl ba0r.recs rfl (bgl _)) (argsAll rfl) hr
 exact hc.mono fun e w' ⟨v, m', ρ', x, he, hk, hr, hb⟩ => ⟨by rw [he, bool_true hr hk], hb⟩

theorem door_met (os : Os) (args : Array Value) : laidMetH Tryd.prog Rows.fnExactIsSceneRow.laid ((World.laidAll Tryd.prog os Rows.fnExactIsSceneRow.laid).forCall (fun _ _ => 0) ⟨#[], args, []⟩).memory := by
 rw [MakeChecks.laidMetH_plain _ _ _ (by kernel_rfl)]
 exact laidMet_laidAll _ (by kernel_rfl) (by kernel_rfl)
set_option maxRecDepth 100000 in
theorem lifted (os : Os) (started : os.Started) (H : Type) (enc : TypeId × Value -> H) :
  ReturnsInHanded {} Tryd.checked os 3 .any (fun w args => (Rows.fnExactIsSceneSpec.pre enc Tryd.prog Tryd.f3 Rows.fnExactIsSceneRow.domain false w args /\ laidMetH Tryd.prog Rows.fnExactIsSceneRow.laid w) /\ sizedMet enc Tryd.prog Tryd.f3 (OpenSpec.ofChange Rows.fnExactIsSceneSpec) false w args) (Rows.fnExactIsSceneSpec.post enc Tryd.prog Tryd.f3 false true false false) := by
 refine returnsInHanded_of_change_and (C := Tryd.checked) (X := fun w _ => laidMetH Tryd.prog Rows.fnExactIsSceneRow.laid w) (fun _ _ _ hh h => h.of_heap hh) own started (by kernel_rfl) Tryd.func3
  (ChangeSpec.witness_shaped (enc := enc) (C := Tryd.checked) (os := os) (X := fun w _ => laidMetH Tryd.prog Rows.fnExactIsSceneRow.laid w) false (World.laidAll Tryd.prog os Rows.fnExactIsSceneRow.laid) #[.agg #[.int .i64 0, .int .i64 0, .slice none 0 0, .int .i64 0, .int .i64 0, .string ByteArray.empty, .int .i64 0, .int .i64 0, .int .i64 0, .int .i64 0]] 8 (World.laidAll_os _ _ _) (World.shaped_of_ZipB (by kernel_rfl) (by kernel_rfl)) (by kernel_rfl) (by kernel_rfl) (by kernel_rfl) (door_met os _)) ?_
 intro W base args ds gs before hval0 hW hcnd _ hL _
 have hval : ∀ (j : Nat) t v, Tryd.f3.params[j]? = some t -> args[j]? = some v -> Value.okWide Tryd.prog W .any base t v := hval0
 have hW' := hW
 obtain ⟨p, q, hA0, hV, rfl, hfz, hnd⟩ := hW
 have hA : DataW.TrodAll enc Tryd.prog W 0 (fun _ => true) true Tryd.f3.params.toList args.toList ds p := hA0
 rw [Tryd.params3] at hA hval
 obtain ⟨v0, vs0, d0, ds0, p0, q0, hargs, rfl, rfl, h0, r0⟩ := trodAll_cons hA
 obtain ⟨rfl, rfl, rfl⟩ := trodAll_nil r0
 obtain rfl : args = #[v0] := by cases args; simp_all
 obtain ⟨gg, gt, gcs, gfuel, gd, gps, rfl, hgn, hgt, hgv, hgd, rfl⟩ := trodVars_one hV
 obtain rfl := Option.some.inj ((show Tryd.prog.globalNamed "loop.example/g01276/impl.turnSigns" = some 0 by kernel_rfl).symm.trans hgn)
 obtain rfl := Option.some.inj ((show (Tryd.prog.globals[(0 : Nat)]?).map (·.type) = some 165 by kernel_rfl).symm.trans hgt)
 have kg : DataW.Trod enc Tryd.prog W 0 (fun _ => true) true 165 (.agg gcs) gd gps := ⟨gfuel, hgd⟩
 have ltg : ∀ x ∈ gps, x.block < W.heap.size := DataW.trod_lt gfuel _ _ _ hgd
 have ltz : 0 < W.heap.size := by
  rcases Nat.lt_or_ge 0 W.heap.size with h0 | h0
  ·exact h0
  ·simp only [World.var?, hgn, Option.bind_some] at hgv
   rw [Array.getElem?_eq_none (by omega)] at hgv
   cases hgv
 have k0 := h0
 have lt0 : ∀ x ∈ p0, x.block < W.heap.size := by obtain ⟨m, hm⟩ := k0; exact DataW.trod_lt m _ _ _ hm
 obtain ⟨cs0, e0, l0, g0⟩ := struct_flat Tryd.underlying26 (hval 0 26 v0 rfl rfl) h0
 obtain ⟨a0s, c0_0, ha0s⟩ := cell_int Tryd.underlying3 (sub_cell (sub_struct Tryd.underlying24 (g0 0 _ rfl) 0 _ rfl (by kernel_rfl)) (by kernel_rfl) (by rw [l0]; exact of_decide_eq_true (by kernel_rfl)))
 obtain ⟨a0i, c0_1, ha0i⟩ := cell_int Tryd.underlying3 (sub_cell (sub_struct Tryd.underlying24 (g0 0 _ rfl) 1 _ rfl (by kernel_rfl)) (by kernel_rfl) (by rw [l0]; exact of_decide_eq_true (by kernel_rfl)))
 obtain ⟨a0rv, y0_2, n0_2, c0_2, t0_2⟩ := sub_cell (sub_struct Tryd.underlying24 (g0 0 _ rfl) 2 _ rfl (by kernel_rfl)) (by kernel_rfl) (by rw [l0]; exact of_decide_eq_true (by kernel_rfl))
 obtain ⟨a0rp, a0rn, a0r, hla0r, hma0r, hna0r, ra0r, ba0r⟩ := open_recs3 Tryd.underlying22 (by kernel_rfl) (fun _ _ _ h => trod_row3 Tryd.underlying139 (by kernel_rfl) (by kernel_rfl) (by kernel_rfl) (by kernel_rfl) (by kernel_rfl) h) t0_2 139
 have ha0r : a0r.length = a0rn /\ a0rn <= maxLen /\ ∀ r ∈ a0r, r.t.length <= maxLen := ⟨hla0r, hma0r, hna0r⟩
 obtain ⟨a0w, c0_3, ha0w⟩ := cell_int Tryd.underlying3 (sub_cell (g0 1 _ rfl) (by kernel_rfl) (by rw [l0]; exact of_decide_eq_true (by kernel_rfl)))
 obtain ⟨a0h, c0_4, ha0h⟩ := cell_int Tryd.underlying3 (sub_cell (g0 2 _ rfl) (by kernel_rfl) (by rw [l0]; exact of_decide_eq_true (by kernel_rfl)))
 obtain ⟨a0u, c0_5, ha0u⟩ := cell_string Tryd.underlying9 (sub_cell (g0 3 _ rfl) (by kernel_rfl) (by rw [l0]; exact of_decide_eq_true (by kernel_rfl)))
 obtain ⟨a0x, c0_6, ha0x⟩ := cell_int Tryd.underlying3 (sub_cell (g0 4 _ rfl) (by kernel_rfl) (by rw [l0]; exact of_decide_eq_true (by kernel_rfl)))
 obtain ⟨a0y, c0_7, ha0y⟩ := cell_int Tryd.underlying3 (sub_cell (g0 5 _ rfl) (by kernel_rfl) (by rw [l0]; exact of_decide_eq_true (by kernel_rfl)))
 obtain ⟨a0d, c0_8, ha0d⟩ := cell_int Tryd.underlying3 (sub_cell (g0 6 _ rfl) (by kernel_rfl) (by rw [l0]; exact of_decide_eq_true (by kernel_rfl)))
 obtain ⟨a0q, c0_9, ha0q⟩ := cell_int Tryd.underlying3 (sub_cell (g0 7 _ rfl) (by kernel_rfl) (by rw [l0]; exact of_decide_eq_true (by kernel_rfl)))
 obtain rfl := list_flat0 (l0.trans (show Tryd.prog.cellsOf 26 = 10 by kernel_rfl)) c0_0 c0_1 c0_2 c0_3 c0_4 c0_5 c0_6 c0_7 c0_8 c0_9
 subst e0
 clear hA0 hval0
 refine (walk a0s a0i a0rv a0rp a0rn a0r a0w a0h a0u a0x a0y a0d a0q ha0s ha0i ha0r ra0r ha0w ha0h ha0u ha0x ha0y ha0d ha0q W ba0r (gl_rel hL)).mono fun e W' ⟨he, bel⟩ => ?_
 subst he
 obtain ⟨gf, hgd'⟩ := Below.trod laidOut (by kernel_rfl) (of_decide_eq_true (by kernel_rfl)) kg bel ltg
 have hgn2 : Tryd.prog.globalNamed "loop.example/g01276/impl.turnSigns" = some 0 := hgn
 have hgv2 : W.var? Tryd.prog "loop.example/g01276/impl.turnSigns" = some gcs := hgv
 have hgv' : W'.var? Tryd.prog "loop.example/g01276/impl.turnSigns" = some gcs := by
  simp only [World.var?, hgn2, Option.bind_some] at hgv2 ⊢
  rw [bel.block 0 ltz]
  exact hgv2
 exact ⟨_, rfl, _, _, _, [], _, _, hW', trodAll_mk1 (shut_bool Tryd.underlying4 _), (trodAll_cons_mk (Below.trod laidOut (by kernel_rfl) (of_decide_eq_true (by kernel_rfl)) k0 bel lt0) trodAll_mk0), trodVars_mk1 hgn hgt hgv' hgd', bel.frame _, fun h => by cases h⟩

theorem over : Rows.fnExactIsSceneRow.holds Tryd.pinned (OpenSpec.ofChange Rows.fnExactIsSceneSpec) :=
 OpenClaim.holds_of_wide 3 Tryd.f3 rfl rfl rfl rfl rfl rfl rfl ⟨rfl, rfl, rfl, rfl, rfl⟩ rfl rfl rfl rfl rfl (by kernel_rfl) Tryd.func3 (by kernel_rfl)
  (of_decide_eq_true (by kernel_rfl)) (by unfold Func.isWrapper; first | (rw [if_pos (by decide +kernel)]; kernel_rfl) | (rw [if_neg (by decide +kernel)]; exact ⟨rfl, rfl⟩))
  (fun os started H enc _ => lifted os started H enc)

theorem card : Claim7.holds Tryd.pinned (.plain (OpenSpec.ofChange Rows.fnExactIsSceneSpec)) Rows.fnExactIsSceneCard :=
 Claim7.holds_tied_plain_at .later [] _ true _ _
  over (fun _ h => by cases h) (by kernel_rfl) (fun _ h => by cases h) fnExactIsScene_row_tie rfl ⟨rfl, rfl⟩ (by kernel_rfl) rfl
  (fun f fn hf hfn => by
   obtain rfl : f = 3 := (Option.some.inj ((show Tryd.prog.funcNamed Rows.fnExactIsSceneRow.func = some 3 by kernel_rfl).symm.trans hf)).symm
   obtain rfl : fn = Tryd.f3 := (Option.some.inj (Tryd.func3.symm.trans hfn)).symm
   exact ⟨by kernel_rfl, fun j t ht => by
    have hall : (Tryd.f3.params.toList.all fun u => !Tryd.prog.wantsStandIn u) = true := by kernel_rfl
    have hm : t ∈ Tryd.f3.params.toList := Array.mem_toList_iff.2 (Array.mem_of_getElem? ht)
    exact (show Tryd.prog.wantsStandIn t = false by simpa using List.all_eq_true.1 hall t hm)⟩)
  (by kernel_rfl)
theorem proved : Rows.FnExactIsSceneCardSaid := card
#print axioms proved
end Go.Proofs.YtpkokghbkamelaaDoor.lawIsScene
