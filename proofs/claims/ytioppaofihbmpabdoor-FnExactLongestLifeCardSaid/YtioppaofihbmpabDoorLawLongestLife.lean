/- FnExactLongestLife: for every input the law returns true, and each argument reads as it did. No condition. -/
import Derived.Test.YtioppaofihbmpabDoorCards
import Derived.Test.YtioppaofihbmpabDoorTie
import Derived.LaidMore
import Derived.Lib.LaidU8
import Derived.ChangeVars
import Derived.Lay
import Derived.Test.YtioppaofihbmpabDoorRows
import Derived.WalkKit
import Derived.ProofKit
import Derived.OpenShut
import Derived.ShutString
import Derived.ChangeOld
import Derived.Below
import Derived.Test.YtioppaofihbmpabDoorWEOk
import Derived.Test.YtioppaofihbmpabDoorVik
import Derived.Test.YtioppaofihbmpabDoorLawLongestLifePure
namespace Go.Proofs.YtioppaofihbmpabDoor.lawLongestLife
open Go Go.Vi
open Go.ChangeShapes Go.WideShapes Go.ChangeAt Go.RowKit
open Go.ChangeMaps (open_string shut_string)
set_option linter.unusedVariables false

theorem own : ownKnob Tryd.prog.godebug = none := by kernel_rfl
theorem laidOut : laidOutB Tryd.prog = true := by kernel_rfl

theorem gl_rel {W : World} (h : laidMetH Tryd.prog Rows.fnExactLongestLifeRow.laid W) (ρ : List Go.Vi.Place) : BRel ρ (⟨0, 0, false, 0, none, []⟩ : Go.Vi.Place) ⟨.vals [.str [76, 78, 82], .str [76, 82, 78], .str [78, 76, 82], .str [78, 82, 76], .str [82, 76, 78], .str [82, 78, 76]], 9, .gl 0⟩ W := by
  rw [MakeChecks.laidMetH_plain _ _ _ (by kernel_rfl)] at h
  obtain ⟨g, t, cs, fuel, p, hg, ht, hv, hd⟩ := Lib.laidMet.reads h (n := "loop.example/g01276/impl.tastes") (d := Rows.laid_loop_example_g01276_impl_tastes) (by first | exact .head _ | exact .tail _ (.head _) | exact .tail _ (.tail _ (.head _)) | exact .tail _ (.tail _ (.tail _ (.head _))))
  obtain rfl := Option.some.inj ((show Tryd.prog.globalNamed "loop.example/g01276/impl.tastes" = some 0 by kernel_rfl).symm.trans hg)
  obtain rfl := Option.some.inj ((show (Tryd.prog.globals[(0 : Nat)]?).map (·.type) = some 52 by kernel_rfl).symm.trans ht)
  obtain ⟨xs, m, _, ex, hcl, hl, hel⟩ := DataW.trod_array Tryd.underlying52 hd
  have c9 : Tryd.prog.cellsOf 9 = 1 := by kernel_rfl
  have hcl4 : cs.toList.length = 6 := hcl.trans (by kernel_rfl)
  have e3 : xs.map (·.1) = [.lit (.string [76, 78, 82]), .lit (.string [76, 82, 78]), .lit (.string [78, 76, 82]), .lit (.string [78, 82, 76]), .lit (.string [82, 76, 78]), .lit (.string [82, 78, 76])] := (DataW.agg.inj (show DataW.agg [.lit (.string [76, 78, 82]), .lit (.string [76, 82, 78]), .lit (.string [78, 76, 82]), .lit (.string [78, 82, 76]), .lit (.string [82, 76, 78]), .lit (.string [82, 78, 76])] = DataW.agg _ from (Prod.mk.inj ex).1)).symm
  have each : ∀ (i : Nat) (l : List UInt8), i < 6 → (xs.map (·.1))[i]? = some (.lit (.string l)) → cs.toList[i]? = some (.string (ofL l)) := by
    intro i l hi hx
    have hE := hel i hi
    rw [c9, Nat.mul_one, List.getElem?_eq_getElem (by omega)] at hE
    obtain ⟨s, e1, e2, _⟩ := DataW.trod_string Tryd.underlying9 hE
    rw [List.getElem?_map, List.getElem?_eq_getElem (by omega : i < xs.length), e2] at hx
    simp only [Option.map_some, Option.some.injEq, DataW.lit.injEq, Lit.string.injEq] at hx
    have h1 : cs.toList[i]? = some (.string s) := by
      have h0 : ((cs.toList.drop i).take 1)[0]? = some (.string s) := by rw [e1]; rfl
      simpa using h0
    rw [h1, ← hx, ofL_data]
  have hcs := list_of6 hcl4 (each 0 [76, 78, 82] (by omega) (by rw [e3]; rfl)) (each 1 [76, 82, 78] (by omega) (by rw [e3]; rfl)) (each 2 [78, 76, 82] (by omega) (by rw [e3]; rfl)) (each 3 [78, 82, 76] (by omega) (by rw [e3]; rfl)) (each 4 [82, 76, 78] (by omega) (by rw [e3]; rfl)) (each 5 [82, 78, 76] (by omega) (by rw [e3]; rfl))
  simp only [World.var?, hg, Option.bind_some] at hv
  split at hv
  · rename_i c e fz hb
    injection hv with hv
    subst hv
    refine .inr (.inr (.inr (.inl ⟨rfl, ⟨rfl, rfl⟩, c.toList, e, fz, by simpa using hb, ?_, rfl, rfl⟩)))
    simp only [Cells.toVs, List.drop_zero, hcs]
    simp [RepL, Rep]
  · cases hv
theorem eq_law (a0Width : Int) (a0Height : Int) (a0Right : List UInt8) (a0Down : List UInt8) (a0X : Int) (a0Y : Int) (a0Way : Int) (g0 g1 g2 g3 g4 g5 : List UInt8) (K : V → Prop) : VC_LawLongestLife a0Width a0Height a0Right a0Down a0X a0Y a0Way g0 g1 g2 g3 g4 g5 K = vin Tryd.prog TWE annTWE 6 3 [.agg [.int .i64 a0Width, .int .i64 a0Height, .str a0Right, .str a0Down, .int .i64 a0X, .int .i64 a0Y, .int .i64 a0Way]] [⟨.vals [.str g0, .str g1, .str g2, .str g3, .str g4, .str g5], 9, .gl 0⟩] (fun v _ => K v) := by kernel_rfl
theorem walk (a0Width : Int) (a0Height : Int) (a0Right : ByteArray) (a0Down : ByteArray) (a0X : Int) (a0Y : Int) (a0Way : Int) (ha0Width : (Lit.int .i64 a0Width).wf = true) (ha0Height : (Lit.int .i64 a0Height).wf = true) (ha0Right : a0Right.size ≤ maxLen) (ha0Down : a0Down.size ≤ maxLen) (ha0X : (Lit.int .i64 a0X).wf = true) (ha0Y : (Lit.int .i64 a0Y).wf = true) (ha0Way : (Lit.int .i64 a0Way).wf = true) (w : World) (bgl : ∀ ρ, BRel ρ (⟨0, 0, false, 0, none, []⟩ : Go.Vi.Place) ⟨.vals [.str [76, 78, 82], .str [76, 82, 78], .str [78, 76, 82], .str [78, 82, 76], .str [82, 76, 78], .str [82, 78, 76]], 9, .gl 0⟩ w) :
    Calls Tryd.prog 3 #[.agg #[.int .i64 a0Width, .int .i64 a0Height, .string a0Right, .string a0Down, .int .i64 a0X, .int .i64 a0Y, .int .i64 a0Way]] w fun e w' => e = .returned (.bool true) ∧ Below w.heap.size w w' := by
  have hv := (congrArg At (eq_law a0Width a0Height a0Right.data.toList a0Down.data.toList a0X a0Y a0Way [76, 78, 82] [76, 82, 78] [78, 76, 82] [78, 82, 76] [82, 76, 78] [82, 78, 76] (retP (.bool true)))).mp ⟨vc_LawLongestLife a0Width a0Height a0Right.data.toList a0Down.data.toList a0X a0Y a0Way [76, 78, 82] [76, 82, 78] [78, 76, 82] [78, 82, 76] [82, 76, 78] [82, 78, 76] (wf_i64_bd ha0Width) (wf_i64_bd ha0Height) (str_bd ha0Right) (str_bd ha0Down) (wf_i64_bd ha0X) (wf_i64_bd ha0Y) (wf_i64_bd ha0Way) ⟨rfl, rfl, rfl, rfl, rfl, rfl⟩⟩
  have hr : RepL [(⟨0, 0, false, 0, none, []⟩ : Go.Vi.Place)] [.agg [.int .i64 a0Width, .int .i64 a0Height, .str a0Right.data.toList, .str a0Down.data.toList, .int .i64 a0X, .int .i64 a0Y, .int .i64 a0Way]] [.agg #[.int .i64 a0Width, .int .i64 a0Height, .string a0Right, .string a0Down, .int .i64 a0X, .int .i64 a0Y, .int .i64 a0Way]] := (repL_cons (rep_agg (repL_cons (rep_int .i64 a0Width) (repL_cons (rep_int .i64 a0Height) (repL_cons (rep_str a0Right) (repL_cons (rep_str a0Down) (repL_cons (rep_int .i64 a0X) (repL_cons (rep_int .i64 a0Y) (repL_cons (rep_int .i64 a0Way) repL_nil)))))))) repL_nil)
  have hc := OK.callM (vin_ok TWE_ok annTWE 6 3) hv (MRel.args1 rfl (bgl _)) (argsAll rfl) hr
  exact hc.mono fun e w' ⟨v, m', ρ', x, he, hk, hr, hb⟩ => ⟨by rw [he, bool_true hr hk], hb⟩

theorem door_met (os : Os) (args : Array Value) : laidMetH Tryd.prog Rows.fnExactLongestLifeRow.laid ((World.laidAll Tryd.prog os Rows.fnExactLongestLifeRow.laid).forCall (fun _ _ => 0) ⟨#[], args, []⟩).memory := by
  rw [MakeChecks.laidMetH_plain _ _ _ (by kernel_rfl)]
  exact laidMet_laidAll _ (by kernel_rfl) (by kernel_rfl)
set_option maxRecDepth 100000 in
theorem lifted (os : Os) (started : os.Started) (H : Type) (enc : TypeId × Value → H) :
    ReturnsInHanded {} Tryd.checked os 3 .any (fun w args => (Rows.fnExactLongestLifeSpec.pre enc Tryd.prog Tryd.f3 Rows.fnExactLongestLifeRow.domain false w args ∧ laidMetH Tryd.prog Rows.fnExactLongestLifeRow.laid w) ∧ sizedMet enc Tryd.prog Tryd.f3 (OpenSpec.ofChange Rows.fnExactLongestLifeSpec) false w args) (Rows.fnExactLongestLifeSpec.post enc Tryd.prog Tryd.f3 false true false false) := by
  refine returnsInHanded_of_change_and (C := Tryd.checked) (X := fun w _ => laidMetH Tryd.prog Rows.fnExactLongestLifeRow.laid w) (fun _ _ _ hh h => h.of_heap hh) own started (by kernel_rfl) Tryd.func3
    (ChangeSpec.witness_shaped (enc := enc) (C := Tryd.checked) (os := os) (X := fun w _ => laidMetH Tryd.prog Rows.fnExactLongestLifeRow.laid w) false (World.laidAll Tryd.prog os Rows.fnExactLongestLifeRow.laid) #[.agg #[.int .i64 0, .int .i64 0, .string ByteArray.empty, .string ByteArray.empty, .int .i64 0, .int .i64 0, .int .i64 0]] 8 (World.laidAll_os _ _ _) (World.shaped_of_ZipB (by kernel_rfl) (by kernel_rfl)) (by kernel_rfl) (by kernel_rfl) (by kernel_rfl) (door_met os _)) ?_
  intro W base args ds gs before hval0 hW hcnd _ hL _
  have hval : ∀ (j : Nat) t v, Tryd.f3.params[j]? = some t → args[j]? = some v → Value.okWide Tryd.prog W .any base t v := hval0
  have hW' := hW
  obtain ⟨p, q, hA0, hV, rfl, hfz, hnd⟩ := hW
  have hA : DataW.TrodAll enc Tryd.prog W 0 (fun _ => true) true Tryd.f3.params.toList args.toList ds p := hA0
  rw [Tryd.params3] at hA hval
  obtain ⟨v0, vs0, d0, ds0, p0, q0, hargs, rfl, rfl, h0, r0⟩ := trodAll_cons hA
  obtain ⟨rfl, rfl, rfl⟩ := trodAll_nil r0
  obtain rfl : args = #[v0] := by cases args; simp_all
  obtain ⟨gg, gt, gcs, gfuel, gd, gps, rfl, hgn, hgt, hgv, hgd, rfl⟩ := trodVars_one hV
  obtain rfl := Option.some.inj ((show Tryd.prog.globalNamed "loop.example/g01276/impl.tastes" = some 0 by kernel_rfl).symm.trans hgn)
  obtain rfl := Option.some.inj ((show (Tryd.prog.globals[(0 : Nat)]?).map (·.type) = some 52 by kernel_rfl).symm.trans hgt)
  have kg : DataW.Trod enc Tryd.prog W 0 (fun _ => true) true 52 (.agg gcs) gd gps := ⟨gfuel, hgd⟩
  have ltg : ∀ x ∈ gps, x.block < W.heap.size := DataW.trod_lt gfuel _ _ _ hgd
  have ltz : 0 < W.heap.size := by
    rcases Nat.lt_or_ge 0 W.heap.size with h0 | h0
    · exact h0
    · simp only [World.var?, hgn, Option.bind_some] at hgv
      rw [Array.getElem?_eq_none (by omega)] at hgv
      cases hgv
  have k0 := h0
  have lt0 : ∀ x ∈ p0, x.block < W.heap.size := by obtain ⟨m, hm⟩ := k0; exact DataW.trod_lt m _ _ _ hm
  obtain ⟨cs0, e0, l0, g0⟩ := struct_cells Tryd.underlying23 (by kernel_rfl) (by kernel_rfl) (hval 0 23 v0 rfl rfl) h0
  obtain ⟨a0Width, c0_0, ha0Width⟩ := cell_int Tryd.underlying3 (g0 0 _ rfl)
  obtain ⟨a0Height, c0_1, ha0Height⟩ := cell_int Tryd.underlying3 (g0 1 _ rfl)
  obtain ⟨a0Right, c0_2, ha0Right⟩ := cell_string Tryd.underlying9 (g0 2 _ rfl)
  obtain ⟨a0Down, c0_3, ha0Down⟩ := cell_string Tryd.underlying9 (g0 3 _ rfl)
  obtain ⟨a0X, c0_4, ha0X⟩ := cell_int Tryd.underlying3 (g0 4 _ rfl)
  obtain ⟨a0Y, c0_5, ha0Y⟩ := cell_int Tryd.underlying3 (g0 5 _ rfl)
  obtain ⟨a0Way, c0_6, ha0Way⟩ := cell_int Tryd.underlying3 (g0 6 _ rfl)
  obtain rfl := list_of7 l0 c0_0 c0_1 c0_2 c0_3 c0_4 c0_5 c0_6
  subst e0
  clear hA0 hval0
  refine (walk a0Width a0Height a0Right a0Down a0X a0Y a0Way ha0Width ha0Height ha0Right ha0Down ha0X ha0Y ha0Way W (gl_rel hL)).mono fun e W' ⟨he, bel⟩ => ?_
  subst he
  obtain ⟨gf, hgd'⟩ := Below.trod laidOut (by kernel_rfl) (of_decide_eq_true (by kernel_rfl)) kg bel ltg
  have hgn2 : Tryd.prog.globalNamed "loop.example/g01276/impl.tastes" = some 0 := hgn
  have hgv2 : W.var? Tryd.prog "loop.example/g01276/impl.tastes" = some gcs := hgv
  have hgv' : W'.var? Tryd.prog "loop.example/g01276/impl.tastes" = some gcs := by
    simp only [World.var?, hgn2, Option.bind_some] at hgv2 ⊢
    rw [bel.block 0 ltz]
    exact hgv2
  exact ⟨_, rfl, _, _, _, [], _, _, hW', trodAll_mk1 (shut_bool Tryd.underlying4 _), (trodAll_cons_mk (Below.trod laidOut (by kernel_rfl) (of_decide_eq_true (by kernel_rfl)) k0 bel lt0) trodAll_mk0), trodVars_mk1 hgn hgt hgv' hgd', bel.frame _, fun h => by cases h⟩

theorem over : Rows.fnExactLongestLifeRow.holds Tryd.pinned (OpenSpec.ofChange Rows.fnExactLongestLifeSpec) :=
  OpenClaim.holds_of_wide 3 Tryd.f3 rfl rfl rfl rfl rfl rfl rfl ⟨rfl, rfl, rfl, rfl, rfl⟩ rfl rfl rfl rfl rfl (by kernel_rfl) Tryd.func3 (by kernel_rfl)
    (of_decide_eq_true (by kernel_rfl)) (by unfold Func.isWrapper; first | (rw [if_pos (by decide +kernel)]; kernel_rfl) | (rw [if_neg (by decide +kernel)]; exact ⟨rfl, rfl⟩))
    (fun os started H enc _ => lifted os started H enc)

theorem card : Claim7.holds Tryd.pinned (.plain (OpenSpec.ofChange Rows.fnExactLongestLifeSpec)) Rows.fnExactLongestLifeCard :=
  Claim7.holds_tied_plain_at .later [] _ true _ false
    over (fun _ h => by cases h) (by kernel_rfl) (fun _ h => by cases h) fnExactLongestLife_row_tie rfl ⟨rfl, rfl⟩ (by kernel_rfl) rfl
    (fun f fn hf hfn => by
      obtain rfl : f = 3 := (Option.some.inj ((show Tryd.prog.funcNamed Rows.fnExactLongestLifeRow.func = some 3 by kernel_rfl).symm.trans hf)).symm
      obtain rfl : fn = Tryd.f3 := (Option.some.inj (Tryd.func3.symm.trans hfn)).symm
      exact ⟨by kernel_rfl, fun j t ht => by
        have hall : (Tryd.f3.params.toList.all fun u => !Tryd.prog.wantsStandIn u) = true := by kernel_rfl
        have hm : t ∈ Tryd.f3.params.toList := Array.mem_toList_iff.2 (Array.mem_of_getElem? ht)
        exact (show Tryd.prog.wantsStandIn t = false by simpa using List.all_eq_true.1 hall t hm)⟩)
    (by kernel_rfl)
theorem proved : Rows.FnExactLongestLifeCardSaid := card
#print axioms proved
end Go.Proofs.YtioppaofihbmpabDoor.lawLongestLife
