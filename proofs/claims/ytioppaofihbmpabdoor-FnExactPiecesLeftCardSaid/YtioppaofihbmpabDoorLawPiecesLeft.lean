/- FnExactPiecesLeft: for every input the law returns true, and each argument reads as it did. No condition. -/
import Derived.Test.YtioppaofihbmpabDoorCards
import Derived.Test.YtioppaofihbmpabDoorTie
import Derived.LaidMore
import Derived.Lay
import Derived.Test.YtioppaofihbmpabDoorRows
import Derived.WalkKit
import Derived.ProofKit
import Derived.OpenShut
import Derived.ShutString
import Derived.ChangeOld
import Derived.Below
import Derived.Test.YtioppaofihbmpabDoorWPOk
import Derived.Test.YtioppaofihbmpabDoorVih
import Derived.Test.YtioppaofihbmpabDoorLawPiecesLeftPure
namespace Go.Proofs.YtioppaofihbmpabDoor.lawPiecesLeft
open Go Go.Vi
open Go.ChangeShapes Go.WideShapes Go.ChangeAt Go.RowKit
open Go.ChangeMaps (open_string shut_string)
set_option linter.unusedVariables false

theorem own : ownKnob Tryd.prog.godebug = none := by kernel_rfl
theorem laidOut : laidOutB Tryd.prog = true := by kernel_rfl

theorem eq_law (a0Width : Int) (a0Height : Int) (a0Right : List UInt8) (a0Down : List UInt8) (a0X : Int) (a0Y : Int) (a0Way : Int) (K : V → Prop) : VC_LawPiecesLeft a0Width a0Height a0Right a0Down a0X a0Y a0Way K = vin Tryd.prog TWP annTWP 6 5 [.agg [.int .i64 a0Width, .int .i64 a0Height, .str a0Right, .str a0Down, .int .i64 a0X, .int .i64 a0Y, .int .i64 a0Way]] [] (fun v _ => K v) := by kernel_rfl
theorem walk (a0Width : Int) (a0Height : Int) (a0Right : ByteArray) (a0Down : ByteArray) (a0X : Int) (a0Y : Int) (a0Way : Int) (ha0Width : (Lit.int .i64 a0Width).wf = true) (ha0Height : (Lit.int .i64 a0Height).wf = true) (ha0Right : a0Right.size ≤ maxLen) (ha0Down : a0Down.size ≤ maxLen) (ha0X : (Lit.int .i64 a0X).wf = true) (ha0Y : (Lit.int .i64 a0Y).wf = true) (ha0Way : (Lit.int .i64 a0Way).wf = true) (w : World) :
    Calls Tryd.prog 5 #[.agg #[.int .i64 a0Width, .int .i64 a0Height, .string a0Right, .string a0Down, .int .i64 a0X, .int .i64 a0Y, .int .i64 a0Way]] w fun e w' => e = .returned (.bool true) ∧ Below w.heap.size w w' := by
  have hv := (congrArg At (eq_law a0Width a0Height a0Right.data.toList a0Down.data.toList a0X a0Y a0Way (retP (.bool true)))).mp ⟨vc_LawPiecesLeft a0Width a0Height a0Right.data.toList a0Down.data.toList a0X a0Y a0Way (wf_i64_bd ha0Width) (wf_i64_bd ha0Height) (str_bd ha0Right) (str_bd ha0Down) (wf_i64_bd ha0X) (wf_i64_bd ha0Y) (wf_i64_bd ha0Way)⟩
  have hr : RepL [] [.agg [.int .i64 a0Width, .int .i64 a0Height, .str a0Right.data.toList, .str a0Down.data.toList, .int .i64 a0X, .int .i64 a0Y, .int .i64 a0Way]] [.agg #[.int .i64 a0Width, .int .i64 a0Height, .string a0Right, .string a0Down, .int .i64 a0X, .int .i64 a0Y, .int .i64 a0Way]] := by simp [RepL, Rep, ofL_data]
  have hc := OK.call (vin_ok TWP_ok annTWP 6 5) hv hr w
  exact hc.mono fun e w' ⟨v, m', ρ', x, he, hk, hr, hb⟩ => ⟨by rw [he, bool_true hr hk], hb⟩

theorem door_met (os : Os) (args : Array Value) : laidMetH Tryd.prog Rows.fnExactPiecesLeftRow.laid ((World.laidAll Tryd.prog os Rows.fnExactPiecesLeftRow.laid).forCall (fun _ _ => 0) ⟨#[], args, []⟩).memory := by
  rw [MakeChecks.laidMetH_plain _ _ _ (by kernel_rfl)]
  exact laidMet_laidAll _ (by kernel_rfl) (by kernel_rfl)
set_option maxRecDepth 100000 in
theorem lifted (os : Os) (started : os.Started) (H : Type) (enc : TypeId × Value → H) :
    ReturnsInHanded {} Tryd.checked os 5 .any (fun w args => (Rows.fnExactPiecesLeftSpec.pre enc Tryd.prog Tryd.f5 Rows.fnExactPiecesLeftRow.domain false w args ∧ laidMetH Tryd.prog Rows.fnExactPiecesLeftRow.laid w) ∧ sizedMet enc Tryd.prog Tryd.f5 (OpenSpec.ofChange Rows.fnExactPiecesLeftSpec) false w args) (Rows.fnExactPiecesLeftSpec.post enc Tryd.prog Tryd.f5 false true false false) := by
  refine returnsInHanded_of_change_and (C := Tryd.checked) (X := fun w _ => laidMetH Tryd.prog Rows.fnExactPiecesLeftRow.laid w) (fun _ _ _ hh h => h.of_heap hh) own started (by kernel_rfl) Tryd.func5
    (ChangeSpec.witness_shaped (enc := enc) (C := Tryd.checked) (os := os) (X := fun w _ => laidMetH Tryd.prog Rows.fnExactPiecesLeftRow.laid w) false (World.laidAll Tryd.prog os Rows.fnExactPiecesLeftRow.laid) #[.agg #[.int .i64 0, .int .i64 0, .string ByteArray.empty, .string ByteArray.empty, .int .i64 0, .int .i64 0, .int .i64 0]] 8 (World.laidAll_os _ _ _) (World.shaped_of_ZipB (by kernel_rfl) (by kernel_rfl)) (by kernel_rfl) (by kernel_rfl) (by kernel_rfl) (door_met os _)) ?_
  intro W base args ds gs before hval0 hW hcnd _ hL _
  have hval : ∀ (j : Nat) t v, Tryd.f5.params[j]? = some t → args[j]? = some v → Value.okWide Tryd.prog W .any base t v := hval0
  have hW' := hW
  obtain ⟨p, q, hA0, hV, rfl, hfz, hnd⟩ := hW
  have hA : DataW.TrodAll enc Tryd.prog W 0 (fun _ => true) true Tryd.f5.params.toList args.toList ds p := hA0
  rw [Tryd.params5] at hA hval
  obtain ⟨v0, vs0, d0, ds0, p0, q0, hargs, rfl, rfl, h0, r0⟩ := trodAll_cons hA
  obtain ⟨rfl, rfl, rfl⟩ := trodAll_nil r0
  obtain rfl : args = #[v0] := by cases args; simp_all
  obtain ⟨rfl, rfl⟩ := trodVars_none hV
  have k0 := h0
  have lt0 : ∀ x ∈ p0, x.block < W.heap.size := by obtain ⟨m, hm⟩ := k0; exact DataW.trod_lt m _ _ _ hm
  obtain ⟨cs0, e0, l0, g0⟩ := struct_cells Tryd.underlying23 (by kernel_rfl) (by kernel_rfl) (hval 0 23 v0 rfl rfl) h0
  obtain ⟨a0Width, c0_0, ha0Width⟩ := cell_int Tryd.underlying3 (g0 0 _ rfl)
  obtain ⟨a0Height, c0_1, ha0Height⟩ := cell_int Tryd.underlying3 (g0 1 _ rfl)
  obtain ⟨a0Right, c0_2, ha0Right⟩ := cell_string Tryd.underlying9 (g0 2 _ rfl)
  obtain ⟨a0Down, c0_3, ha0Down⟩ := cell_string Tryd.underlying9 (g0 3 _ rfl)
  obtain ⟨a0X, c0_4, ha0X⟩ := cell_int Tryd.underlying3 (g0 4 _ rfl)
  obtain ⟨a0Y, c0_5, ha0Y⟩ := cell_int Tryd.underlying3 (g0 5 _ rfl)
  obtain ⟨a0Way, c0_6, ha0Way⟩ := cell_int Tryd.underlying3 (g0 6 _ rfl)
  obtain rfl := list_of7 l0 c0_0 c0_1 c0_2 c0_3 c0_4 c0_5 c0_6
  subst e0
  clear hA0 hval0
  refine (walk a0Width a0Height a0Right a0Down a0X a0Y a0Way ha0Width ha0Height ha0Right ha0Down ha0X ha0Y ha0Way W).mono fun e W' ⟨he, bel⟩ => ?_
  subst he
  exact ⟨_, rfl, _, _, _, [], _, [], hW', trodAll_mk1 (shut_bool Tryd.underlying4 _), (trodAll_cons_mk (Below.trod laidOut (by kernel_rfl) (of_decide_eq_true (by kernel_rfl)) k0 bel lt0) trodAll_mk0), rfl, bel.frame _, fun h => by cases h⟩

theorem over : Rows.fnExactPiecesLeftRow.holds Tryd.pinned (OpenSpec.ofChange Rows.fnExactPiecesLeftSpec) :=
  OpenClaim.holds_of_wide 5 Tryd.f5 rfl rfl rfl rfl rfl rfl rfl ⟨rfl, rfl, rfl, rfl, rfl⟩ rfl rfl rfl rfl rfl (by kernel_rfl) Tryd.func5 (by kernel_rfl)
    (of_decide_eq_true (by kernel_rfl)) (by unfold Func.isWrapper; first | (rw [if_pos (by decide +kernel)]; kernel_rfl) | (rw [if_neg (by decide +kernel)]; exact ⟨rfl, rfl⟩))
    (fun os started H enc _ => lifted os started H enc)

theorem card : Claim7.holds Tryd.pinned (.plain (OpenSpec.ofChange Rows.fnExactPiecesLeftSpec)) Rows.fnExactPiecesLeftCard :=
  Claim7.holds_tied_plain_at .later [] _ true _ false
    over (fun _ h => by cases h) (by kernel_rfl) (fun _ h => by cases h) fnExactPiecesLeft_row_tie rfl ⟨rfl, rfl⟩ (by kernel_rfl) rfl
    (fun f fn hf hfn => by
      obtain rfl : f = 5 := (Option.some.inj ((show Tryd.prog.funcNamed Rows.fnExactPiecesLeftRow.func = some 5 by kernel_rfl).symm.trans hf)).symm
      obtain rfl : fn = Tryd.f5 := (Option.some.inj (Tryd.func5.symm.trans hfn)).symm
      exact ⟨by kernel_rfl, fun j t ht => by
        have hall : (Tryd.f5.params.toList.all fun u => !Tryd.prog.wantsStandIn u) = true := by kernel_rfl
        have hm : t ∈ Tryd.f5.params.toList := Array.mem_toList_iff.2 (Array.mem_of_getElem? ht)
        exact (show Tryd.prog.wantsStandIn t = false by simpa using List.all_eq_true.1 hall t hm)⟩)
    (by kernel_rfl)
theorem proved : Rows.FnExactPiecesLeftCardSaid := card
#print axioms proved
end Go.Proofs.YtioppaofihbmpabDoor.lawPiecesLeft
