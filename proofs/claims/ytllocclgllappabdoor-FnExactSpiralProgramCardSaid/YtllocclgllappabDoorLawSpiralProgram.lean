/- FnExactSpiralProgram: for every input the law returns true, and each argument reads as it did. No condition. -/
import Derived.Test.YtllocclgllappabDoorCards
import Derived.Test.YtllocclgllappabDoorTie
import Derived.LaidMore
import Derived.Test.YtllocclgllappabDoorRows
import Derived.WalkKit
import Derived.ProofKit
import Derived.OpenShut
import Derived.ShutString
import Derived.ChangeOld
import Derived.Below
import Derived.Test.YtllocclgllappabDoorTSOk
import Derived.Test.YtllocclgllappabDoorVik
import Derived.Test.YtllocclgllappabDoorLawSpiralProgramPure
namespace Go.Proofs.YtllocclgllappabDoor.lawSpiralProgram
open Go Go.Vi
open Go.ChangeShapes Go.WideShapes Go.ChangeAt Go.RowKit
open Go.ChangeMaps (open_string shut_string)
set_option linter.unusedVariables false

theorem own : ownKnob Tryd.prog.godebug = none := by kernel_rfl
theorem laidOut : laidOutB Tryd.prog = true := by kernel_rfl

theorem eq_law (a0 : Int) (a1n : Nat) (a1 : List Int) (K : V → Prop) : VC_LawSpiralProgram a0 a1n a1 K = vin Tryd.prog TTS annTTS 6 3 [.int .i64 a0, .row 0 a1n] [⟨.ints .i64 a1, 3, .arg 1⟩] (fun v _ => K v) := by kernel_rfl
theorem walk (a0 : Int) (a1v : Value) (a1p : Go.Vi.Place) (a1n : Nat) (a1 : List Int) (ha0 : (Lit.int .i64 a0).wf = true) (ha1 : a1.length = a1n * 1 ∧ a1n ≤ maxLen) (ra1 : Rep [a1p] (.row 0 a1n) a1v) (w : World) (ba1 : BRel [a1p] a1p ⟨.ints .i64 a1, 3, .arg 1⟩ w) :
    Calls Tryd.prog 3 #[.int .i64 a0, a1v] w fun e w' => e = .returned (.bool true) ∧ Below w.heap.size w w' := by
  have hv := (congrArg At (eq_law a0 a1n a1 (retP (.bool true)))).mp ⟨vc_LawSpiralProgram a0 a1n a1 (wf_i64_bd ha0) (rows_bd ha1)⟩
  have hr : RepL [a1p] [.int .i64 a0, .row 0 a1n] [.int .i64 a0, a1v] := (repL_cons (rep_int .i64 a0) (repL_cons (rep_row_at ra1 rfl) repL_nil))
  have hc := OK.callM (vin_ok TTS_ok annTTS 6 3) hv (MRel.args1 rfl ba1.ints) (argsAll rfl) hr
  exact hc.mono fun e w' ⟨v, m', ρ', x, he, hk, hr, hb⟩ => ⟨by rw [he, bool_true hr hk], hb⟩

theorem door_met (os : Os) (args : Array Value) : laidMetH Tryd.prog Rows.fnExactSpiralProgramRow.laid ((World.doorLaid Tryd.prog 24 os).forCall (fun _ _ => 0) ⟨#[], args, []⟩).memory :=
  laidMetH_of_parts3 (fuel := 8) (laidMet_of_run' 8 (by kernel_rfl) (by kernel_rfl)) (by kernel_rfl) (by kernel_rfl)
set_option maxRecDepth 100000 in
theorem lifted (os : Os) (started : os.Started) (H : Type) (enc : TypeId × Value → H) :
    ReturnsInHanded {} Tryd.checked os 3 .any (fun w args => (Rows.fnExactSpiralProgramSpec.pre enc Tryd.prog Tryd.f3 Rows.fnExactSpiralProgramRow.domain false w args ∧ laidMetH Tryd.prog Rows.fnExactSpiralProgramRow.laid w) ∧ sizedMet enc Tryd.prog Tryd.f3 (OpenSpec.ofChange Rows.fnExactSpiralProgramSpec) false w args) (Rows.fnExactSpiralProgramSpec.post enc Tryd.prog Tryd.f3 false true false false) := by
  refine returnsInHanded_of_change_and (C := Tryd.checked) (X := fun w _ => laidMetH Tryd.prog Rows.fnExactSpiralProgramRow.laid w) (fun _ _ _ hh h => h.of_heap hh) own started (by kernel_rfl) Tryd.func3
    (ChangeSpec.witness_shaped (enc := enc) (C := Tryd.checked) (os := os) (X := fun w _ => laidMetH Tryd.prog Rows.fnExactSpiralProgramRow.laid w) false (World.doorLaid Tryd.prog 24 os) #[.int .i64 0, .slice none 0 0] 8 rfl (World.shaped_of_RefB (by kernel_rfl) (by kernel_rfl)) (by kernel_rfl) (by kernel_rfl) (by kernel_rfl) (door_met os _)) ?_
  intro W base args ds gs before hval0 hW hcnd _ hL _
  have hval : ∀ (j : Nat) t v, Tryd.f3.params[j]? = some t → args[j]? = some v → Value.okWide Tryd.prog W .any base t v := hval0
  have hW' := hW
  obtain ⟨p, q, hA0, hV, rfl, hfz, hnd⟩ := hW
  have hA : DataW.TrodAll enc Tryd.prog W 0 (fun _ => true) true Tryd.f3.params.toList args.toList ds p := hA0
  rw [Tryd.params3] at hA hval
  obtain ⟨v0, vs0, d0, ds0, p0, q0, hargs, rfl, rfl, h0, r0⟩ := trodAll_cons hA
  obtain ⟨v1, vs1, d1, ds1, p1, q1, rfl, rfl, rfl, h1, r1⟩ := trodAll_cons r0
  obtain ⟨rfl, rfl, rfl⟩ := trodAll_nil r1
  obtain rfl : args = #[v0, v1] := by cases args; simp_all
  obtain ⟨rfl, rfl⟩ := trodVars_none hV
  have k0 := h0
  have lt0 : ∀ x ∈ p0, x.block < W.heap.size := by obtain ⟨m, hm⟩ := k0; exact DataW.trod_lt m _ _ _ hm
  obtain ⟨a0, rfl, _, _, ha0⟩ := open_int Tryd.underlying3 (hval 0 3 v0 rfl rfl) h0
  have k1 := h1
  have lt1 : ∀ x ∈ p1, x.block < W.heap.size := by obtain ⟨m, hm⟩ := k1; exact DataW.trod_lt m _ _ _ hm
  obtain ⟨za1, zl1, zc1, rfl⟩ := okWide_slice Tryd.underlying22 (hval 1 22 v1 rfl rfl)
  obtain ⟨n1, t1⟩ := h1
  obtain ⟨a1p, a1n, a1, hla1, hma1, ra1, ba1⟩ := open_rows1 Tryd.underlying22 Tryd.underlying3 (by kernel_rfl) t1 3
  have ha1 : a1.length = a1n * 1 ∧ a1n ≤ maxLen := ⟨hla1, hma1⟩
  clear hA0 hval0
  refine (walk a0 _ a1p a1n a1 ha0 ha1 ra1 W ba1).mono fun e W' ⟨he, bel⟩ => ?_
  subst he
  exact ⟨_, rfl, _, _, _, [], _, [], hW', trodAll_mk1 (shut_bool Tryd.underlying4 _), (trodAll_cons_mk (Below.trod laidOut (by kernel_rfl) (of_decide_eq_true (by kernel_rfl)) k0 bel lt0) (trodAll_cons_mk (Below.trod laidOut (by kernel_rfl) (of_decide_eq_true (by kernel_rfl)) k1 bel lt1) trodAll_mk0)), rfl, bel.frame _, fun h => by cases h⟩

theorem over : Rows.fnExactSpiralProgramRow.holds Tryd.pinned (OpenSpec.ofChange Rows.fnExactSpiralProgramSpec) :=
  OpenClaim.holds_of_wide 3 Tryd.f3 rfl rfl rfl rfl rfl rfl rfl ⟨rfl, rfl, rfl, rfl, rfl⟩ rfl rfl rfl rfl rfl (by kernel_rfl) Tryd.func3 (by kernel_rfl)
    (of_decide_eq_true (by kernel_rfl)) (by unfold Func.isWrapper; first | (rw [if_pos (by decide +kernel)]; kernel_rfl) | (rw [if_neg (by decide +kernel)]; exact ⟨rfl, rfl⟩))
    (fun os started H enc _ => lifted os started H enc)

theorem card : Claim7.holds Tryd.pinned (.plain (OpenSpec.ofChange Rows.fnExactSpiralProgramSpec)) Rows.fnExactSpiralProgramCard :=
  Claim7.holds_tied_plain_at .later [] _ true _ false
    over (fun _ h => by cases h) (by kernel_rfl) (fun _ h => by cases h) fnExactSpiralProgram_row_tie rfl ⟨rfl, rfl⟩ (by kernel_rfl) rfl
    (fun f fn hf hfn => by
      obtain rfl : f = 3 := (Option.some.inj ((show Tryd.prog.funcNamed Rows.fnExactSpiralProgramRow.func = some 3 by kernel_rfl).symm.trans hf)).symm
      obtain rfl : fn = Tryd.f3 := (Option.some.inj (Tryd.func3.symm.trans hfn)).symm
      exact ⟨by kernel_rfl, fun j t ht => by
        have hall : (Tryd.f3.params.toList.all fun u => !Tryd.prog.wantsStandIn u) = true := by kernel_rfl
        have hm : t ∈ Tryd.f3.params.toList := Array.mem_toList_iff.2 (Array.mem_of_getElem? ht)
        exact (show Tryd.prog.wantsStandIn t = false by simpa using List.all_eq_true.1 hall t hm)⟩)
    (by kernel_rfl)
theorem proved : Rows.FnExactSpiralProgramCardSaid := card
#print axioms proved
end Go.Proofs.YtllocclgllappabDoor.lawSpiralProgram
