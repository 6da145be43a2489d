/- FnExactHitCell: for every input the law returns true, and each argument reads as it did. No condition. -/
import Derived.Test.YteleacldecambaaDoorCards
import Derived.Test.YteleacldecambaaDoorTie
import Derived.LaidMore
import Derived.Lay
import Derived.Test.YteleacldecambaaDoorRows
import Derived.WalkKit
import Derived.ProofKit
import Derived.OpenShut
import Derived.ShutString
import Derived.ChangeOld
import Derived.Below
import Derived.Test.YteleacldecambaaDoorK2Ok
import Derived.Test.YteleacldecambaaDoorVih
import Derived.Test.YteleacldecambaaDoorLawHitCellPure
namespace Go.Proofs.YteleacldecambaaDoor.lawHitCell
open Go Go.Vi
open Go.ChangeShapes Go.WideShapes Go.ChangeAt Go.RowKit
open Go.ChangeMaps (open_string shut_string)
set_option linter.unusedVariables false

theorem own : ownKnob Tryd.prog.godebug = none := by kernel_rfl
theorem laidOut : laidOutB Tryd.prog = true := by kernel_rfl

theorem eq_law (a0Width : Int) (a0Height : Int) (a0Cells : List UInt8) (a0Turns : Bool) (a1X : Int) (a1Y : Int) (a1Way : Int) (K : V → Prop) : VC_LawHitCell a0Width a0Height a0Cells a0Turns a1X a1Y a1Way K = vin Tryd.prog TK2 annTK2 6 3 [.agg [.int .i64 a0Width, .int .i64 a0Height, .str a0Cells, .bool a0Turns], .agg [.int .i64 a1X, .int .i64 a1Y, .int .i64 a1Way]] [] (fun v _ => K v) := by kernel_rfl
theorem walk (a0Width : Int) (a0Height : Int) (a0Cells : ByteArray) (a0Turns : Bool) (a1X : Int) (a1Y : Int) (a1Way : Int) (ha0Width : (Lit.int .i64 a0Width).wf = true) (ha0Height : (Lit.int .i64 a0Height).wf = true) (ha0Cells : a0Cells.size ≤ maxLen) (ha1X : (Lit.int .i64 a1X).wf = true) (ha1Y : (Lit.int .i64 a1Y).wf = true) (ha1Way : (Lit.int .i64 a1Way).wf = true) (w : World) :
    Calls Tryd.prog 3 #[.agg #[.int .i64 a0Width, .int .i64 a0Height, .string a0Cells, .bool a0Turns], .agg #[.int .i64 a1X, .int .i64 a1Y, .int .i64 a1Way]] w fun e w' => e = .returned (.bool true) ∧ Below w.heap.size w w' := by
  have hv := (congrArg At (eq_law a0Width a0Height a0Cells.data.toList a0Turns a1X a1Y a1Way (retP (.bool true)))).mp ⟨vc_LawHitCell a0Width a0Height a0Cells.data.toList a0Turns a1X a1Y a1Way (wf_i64_bd ha0Width) (wf_i64_bd ha0Height) (str_bd ha0Cells) (wf_i64_bd ha1X) (wf_i64_bd ha1Y) (wf_i64_bd ha1Way)⟩
  have hr : RepL [] [.agg [.int .i64 a0Width, .int .i64 a0Height, .str a0Cells.data.toList, .bool a0Turns], .agg [.int .i64 a1X, .int .i64 a1Y, .int .i64 a1Way]] [.agg #[.int .i64 a0Width, .int .i64 a0Height, .string a0Cells, .bool a0Turns], .agg #[.int .i64 a1X, .int .i64 a1Y, .int .i64 a1Way]] := by simp [RepL, Rep, ofL_data]
  have hc := OK.call (vin_ok TK2_ok annTK2 6 3) hv hr w
  exact hc.mono fun e w' ⟨v, m', ρ', x, he, hk, hr, hb⟩ => ⟨by rw [he, bool_true hr hk], hb⟩

theorem door_met (os : Os) (args : Array Value) : laidMetH Tryd.prog Rows.fnExactHitCellRow.laid ((World.laidAll Tryd.prog os Rows.fnExactHitCellRow.laid).forCall (fun _ _ => 0) ⟨#[], args, []⟩).memory := by
  rw [MakeChecks.laidMetH_plain _ _ _ (by kernel_rfl)]
  exact laidMet_laidAll _ (by kernel_rfl) (by kernel_rfl)
set_option maxRecDepth 100000 in
theorem lifted (os : Os) (started : os.Started) (H : Type) (enc : TypeId × Value → H) :
    ReturnsInHanded {} Tryd.checked os 3 .any (fun w args => (Rows.fnExactHitCellSpec.pre enc Tryd.prog Tryd.f3 Rows.fnExactHitCellRow.domain false w args ∧ laidMetH Tryd.prog Rows.fnExactHitCellRow.laid w) ∧ sizedMet enc Tryd.prog Tryd.f3 (OpenSpec.ofChange Rows.fnExactHitCellSpec) false w args) (Rows.fnExactHitCellSpec.post enc Tryd.prog Tryd.f3 false true false false) := by
  refine returnsInHanded_of_change_and (C := Tryd.checked) (X := fun w _ => laidMetH Tryd.prog Rows.fnExactHitCellRow.laid w) (fun _ _ _ hh h => h.of_heap hh) own started (by kernel_rfl) Tryd.func3
    (ChangeSpec.witness_shaped (enc := enc) (C := Tryd.checked) (os := os) (X := fun w _ => laidMetH Tryd.prog Rows.fnExactHitCellRow.laid w) false (World.laidAll Tryd.prog os Rows.fnExactHitCellRow.laid) #[.agg #[.int .i64 0, .int .i64 0, .string ByteArray.empty, .bool false], .agg #[.int .i64 0, .int .i64 0, .int .i64 0]] 8 (World.laidAll_os _ _ _) (World.shaped_of_ZipB (by kernel_rfl) (by kernel_rfl)) (by kernel_rfl) (by kernel_rfl) (by kernel_rfl) (door_met os _)) ?_
  intro W base args ds gs before hval0 hW hcnd _ hL _
  have hval : ∀ (j : Nat) t v, Tryd.f3.params[j]? = some t → args[j]? = some v → Value.okWide Tryd.prog W .any base t v := hval0
  have hW' := hW
  obtain ⟨p, q, hA0, hV, rfl, hfz, hnd⟩ := hW
  have hA : DataW.TrodAll enc Tryd.prog W 0 (fun _ => true) true Tryd.f3.params.toList args.toList ds p := hA0
  rw [Tryd.params3] at hA hval
  obtain ⟨v0, vs0, d0, ds0, p0, q0, hargs, rfl, rfl, h0, r0⟩ := trodAll_cons hA
  obtain ⟨v1, vs1, d1, ds1, p1, q1, rfl, rfl, rfl, h1, r1⟩ := trodAll_cons r0
  obtain ⟨rfl, rfl, rfl⟩ := trodAll_nil r1
  obtain rfl : args = #[v0, v1] := by cases args; simp_all
  obtain ⟨rfl, rfl⟩ := trodVars_none hV
  have k0 := h0
  have lt0 : ∀ x ∈ p0, x.block < W.heap.size := by obtain ⟨m, hm⟩ := k0; exact DataW.trod_lt m _ _ _ hm
  obtain ⟨cs0, e0, l0, g0⟩ := struct_cells Tryd.underlying23 (by kernel_rfl) (by kernel_rfl) (hval 0 23 v0 rfl rfl) h0
  obtain ⟨a0Width, c0_0, ha0Width⟩ := cell_int Tryd.underlying3 (g0 0 _ rfl)
  obtain ⟨a0Height, c0_1, ha0Height⟩ := cell_int Tryd.underlying3 (g0 1 _ rfl)
  obtain ⟨a0Cells, c0_2, ha0Cells⟩ := cell_string Tryd.underlying9 (g0 2 _ rfl)
  obtain ⟨a0Turns, c0_3⟩ := cell_bool Tryd.underlying4 (g0 3 _ rfl)
  obtain rfl := list_of4 l0 c0_0 c0_1 c0_2 c0_3
  subst e0
  have k1 := h1
  have lt1 : ∀ x ∈ p1, x.block < W.heap.size := by obtain ⟨m, hm⟩ := k1; exact DataW.trod_lt m _ _ _ hm
  obtain ⟨cs1, e1, l1, g1⟩ := struct_cells Tryd.underlying25 (by kernel_rfl) (by kernel_rfl) (hval 1 25 v1 rfl rfl) h1
  obtain ⟨a1X, c1_0, ha1X⟩ := cell_int Tryd.underlying3 (g1 0 _ rfl)
  obtain ⟨a1Y, c1_1, ha1Y⟩ := cell_int Tryd.underlying3 (g1 1 _ rfl)
  obtain ⟨a1Way, c1_2, ha1Way⟩ := cell_int Tryd.underlying3 (g1 2 _ rfl)
  obtain rfl := list_of3 l1 c1_0 c1_1 c1_2
  subst e1
  clear hA0 hval0
  refine (walk a0Width a0Height a0Cells a0Turns a1X a1Y a1Way ha0Width ha0Height ha0Cells ha1X ha1Y ha1Way W).mono fun e W' ⟨he, bel⟩ => ?_
  subst he
  exact ⟨_, rfl, _, _, _, [], _, [], hW', trodAll_mk1 (shut_bool Tryd.underlying4 _), (trodAll_cons_mk (Below.trod laidOut (by kernel_rfl) (of_decide_eq_true (by kernel_rfl)) k0 bel lt0) (trodAll_cons_mk (Below.trod laidOut (by kernel_rfl) (of_decide_eq_true (by kernel_rfl)) k1 bel lt1) trodAll_mk0)), rfl, bel.frame _, fun h => by cases h⟩

theorem over : Rows.fnExactHitCellRow.holds Tryd.pinned (OpenSpec.ofChange Rows.fnExactHitCellSpec) :=
  OpenClaim.holds_of_wide 3 Tryd.f3 rfl rfl rfl rfl rfl rfl rfl ⟨rfl, rfl, rfl, rfl, rfl⟩ rfl rfl rfl rfl rfl (by kernel_rfl) Tryd.func3 (by kernel_rfl)
    (of_decide_eq_true (by kernel_rfl)) (by unfold Func.isWrapper; first | (rw [if_pos (by decide +kernel)]; kernel_rfl) | (rw [if_neg (by decide +kernel)]; exact ⟨rfl, rfl⟩))
    (fun os started H enc _ => lifted os started H enc)

theorem card : Claim7.holds Tryd.pinned (.plain (OpenSpec.ofChange Rows.fnExactHitCellSpec)) Rows.fnExactHitCellCard :=
  Claim7.holds_tied_plain_at .later [] _ true _ false
    over (fun _ h => by cases h) (by kernel_rfl) (fun _ h => by cases h) fnExactHitCell_row_tie rfl ⟨rfl, rfl⟩ (by kernel_rfl) rfl
    (fun f fn hf hfn => by
      obtain rfl : f = 3 := (Option.some.inj ((show Tryd.prog.funcNamed Rows.fnExactHitCellRow.func = some 3 by kernel_rfl).symm.trans hf)).symm
      obtain rfl : fn = Tryd.f3 := (Option.some.inj (Tryd.func3.symm.trans hfn)).symm
      exact ⟨by kernel_rfl, fun j t ht => by
        have hall : (Tryd.f3.params.toList.all fun u => !Tryd.prog.wantsStandIn u) = true := by kernel_rfl
        have hm : t ∈ Tryd.f3.params.toList := Array.mem_toList_iff.2 (Array.mem_of_getElem? ht)
        exact (show Tryd.prog.wantsStandIn t = false by simpa using List.all_eq_true.1 hall t hm)⟩)
    (by kernel_rfl)
theorem proved : Rows.FnExactHitCellCardSaid := card
#print axioms proved
end Go.Proofs.YteleacldecambaaDoor.lawHitCell
