/- FnExactTableText: for every input the law returns true, and each argument reads as it did. No condition. -/
import Derived.Test.YtlnjbdaenikkiaaDoorCards
import Derived.Test.YtlnjbdaenikkiaaDoorTie
import Derived.LaidMore
import Derived.Lib.LaidU8
import Derived.ChangeVars
import Derived.Lay
import Derived.Test.YtlnjbdaenikkiaaDoorRows
import Derived.WalkKit
import Derived.ProofKit
import Derived.OpenShut
import Derived.ShutString
import Derived.ChangeOld
import Derived.Below
import Derived.Test.YtlnjbdaenikkiaaDoorTYOk
import Derived.Test.YtlnjbdaenikkiaaDoorVik
import Derived.Test.YtlnjbdaenikkiaaDoorLawTableTextPure
namespace Go.Proofs.YtlnjbdaenikkiaaDoor.lawTableText
open Go Go.Vi
open Go.ChangeShapes Go.WideShapes Go.ChangeAt Go.RowKit
open Go.ChangeMaps (open_string shut_string)
set_option linter.unusedVariables false

theorem own : ownKnob Tryd.prog.godebug = none := by kernel_rfl
theorem laidOut : laidOutB Tryd.prog = true := by kernel_rfl

theorem gl_rel {W : World} (h : laidMetH Tryd.prog Rows.fnExactTableTextRow.laid W) (ρ : List Go.Vi.Place) : BRel ρ (⟨0, 0, false, 0, none, []⟩ : Go.Vi.Place) ⟨.vals [.str [78], .str [82], .str [85], .str [76]], 9, .gl 0⟩ W := by
  rw [MakeChecks.laidMetH_plain _ _ _ (by kernel_rfl)] at h
  obtain ⟨g, t, cs, fuel, p, hg, ht, hv, hd⟩ := Lib.laidMet.reads h (n := "loop.example/g01276/impl.turnSigns") (d := Rows.laid_loop_example_g01276_impl_turnSigns) (by first | exact .head _ | exact .tail _ (.head _) | exact .tail _ (.tail _ (.head _)) | exact .tail _ (.tail _ (.tail _ (.head _))))
  obtain rfl := Option.some.inj ((show Tryd.prog.globalNamed "loop.example/g01276/impl.turnSigns" = some 0 by kernel_rfl).symm.trans hg)
  obtain rfl := Option.some.inj ((show (Tryd.prog.globals[(0 : Nat)]?).map (·.type) = some 110 by kernel_rfl).symm.trans ht)
  obtain ⟨xs, m, _, ex, hcl, hl, hel⟩ := DataW.trod_array Tryd.underlying110 hd
  have c9 : Tryd.prog.cellsOf 9 = 1 := by kernel_rfl
  have hcl4 : cs.toList.length = 4 := hcl.trans (by kernel_rfl)
  have e3 : xs.map (·.1) = [.lit (.string [78]), .lit (.string [82]), .lit (.string [85]), .lit (.string [76])] := (DataW.agg.inj (show DataW.agg [.lit (.string [78]), .lit (.string [82]), .lit (.string [85]), .lit (.string [76])] = DataW.agg _ from (Prod.mk.inj ex).1)).symm
  have each : ∀ (i : Nat) (l : List UInt8), i < 4 → (xs.map (·.1))[i]? = some (.lit (.string l)) → cs.toList[i]? = some (.string (ofL l)) := by
    intro i l hi hx
    have hE := hel i hi
    rw [c9, Nat.mul_one, List.getElem?_eq_getElem (by omega)] at hE
    obtain ⟨s, e1, e2, _⟩ := DataW.trod_string Tryd.underlying9 hE
    rw [List.getElem?_map, List.getElem?_eq_getElem (by omega : i < xs.length), e2] at hx
    simp only [Option.map_some, Option.some.injEq, DataW.lit.injEq, Lit.string.injEq] at hx
    have h1 : cs.toList[i]? = some (.string s) := by
      have h0 : ((cs.toList.drop i).take 1)[0]? = some (.string s) := by rw [e1]; rfl
      simpa using h0
    rw [h1, ← hx, ofL_data]
  have hcs := list_of4 hcl4 (each 0 [78] (by omega) (by rw [e3]; rfl)) (each 1 [82] (by omega) (by rw [e3]; rfl)) (each 2 [85] (by omega) (by rw [e3]; rfl)) (each 3 [76] (by omega) (by rw [e3]; rfl))
  simp only [World.var?, hg, Option.bind_some] at hv
  split at hv
  · rename_i c e fz hb
    injection hv with hv
    subst hv
    refine .inr (.inr (.inr (.inl ⟨rfl, ⟨rfl, rfl⟩, c.toList, e, fz, by simpa using hb, ?_, rfl, rfl⟩)))
    simp only [Cells.toVs, List.drop_zero, hcs]
    simp [RepL, Rep]
  · cases hv
theorem eq_law (a0s : Int) (a0i : Int) (a0rn : Nat) (a0r : List Sc) (g0 g1 g2 g3 : List UInt8) (K : V → Prop) : VC_LawTableText a0s a0i a0rn a0r g0 g1 g2 g3 K = vin Tryd.prog TTY annTTY 6 5 [.agg [.int .i64 a0s, .int .i64 a0i, .row 0 a0rn]] [⟨.recs [.int .i64, .str, .int .i64] a0r, 86, .arg 3⟩, ⟨.vals [.str g0, .str g1, .str g2, .str g3], 9, .gl 0⟩] (fun v _ => K v) := by kernel_rfl
theorem walk (a0s : Int) (a0i : Int) (a0rv : Value) (a0rp : Go.Vi.Place) (a0rn : Nat) (a0r : List Row3) (ha0s : (Lit.int .i64 a0s).wf = true) (ha0i : (Lit.int .i64 a0i).wf = true) (ha0r : a0r.length = a0rn ∧ a0rn ≤ maxLen ∧ ∀ r ∈ a0r, r.t.length ≤ maxLen) (ra0r : Rep [a0rp] (.row 0 a0rn) a0rv) (w : World) (ba0r : BRel [a0rp] a0rp ⟨.recs sh3 (flat3 a0r), 86, .arg 3⟩ w) (bgl : ∀ ρ, BRel ρ (⟨0, 0, false, 0, none, []⟩ : Go.Vi.Place) ⟨.vals [.str [78], .str [82], .str [85], .str [76]], 9, .gl 0⟩ w) :
    Calls Tryd.prog 5 #[.agg #[.int .i64 a0s, .int .i64 a0i, a0rv]] w fun e w' => e = .returned (.bool true) ∧ Below w.heap.size w w' := by
  have hv := (congrArg At (eq_law a0s a0i a0rn (flat3 a0r) [78] [82] [85] [76] (retP (.bool true)))).mp ⟨vc_LawTableText a0s a0i a0rn (flat3 a0r) [78] [82] [85] [76] (wf_i64_bd ha0s) (wf_i64_bd ha0i) (recs3_law ha0r) ⟨rfl, rfl, rfl, rfl⟩⟩
  have hr : RepL [a0rp, (⟨0, 0, false, 0, none, []⟩ : Go.Vi.Place)] [.agg [.int .i64 a0s, .int .i64 a0i, .row 0 a0rn]] [.agg #[.int .i64 a0s, .int .i64 a0i, a0rv]] := (repL_cons (rep_agg (repL_cons (rep_int .i64 a0s) (repL_cons (rep_int .i64 a0i) (repL_cons (rep_row_at ra0r rfl) repL_nil)))) repL_nil)
  have hc := OK.callM (vin_ok TTY_ok annTTY 6 5) hv (MRel.args2 rfl ba0r.recs rfl (bgl _)) (argsAll rfl) hr
  exact hc.mono fun e w' ⟨v, m', ρ', x, he, hk, hr, hb⟩ => ⟨by rw [he, bool_true hr hk], hb⟩

theorem door_met (os : Os) (args : Array Value) : laidMetH Tryd.prog Rows.fnExactTableTextRow.laid ((World.laidAll Tryd.prog os Rows.fnExactTableTextRow.laid).forCall (fun _ _ => 0) ⟨#[], args, []⟩).memory := by
  rw [MakeChecks.laidMetH_plain _ _ _ (by kernel_rfl)]
  exact laidMet_laidAll _ (by kernel_rfl) (by kernel_rfl)
set_option maxRecDepth 100000 in
theorem lifted (os : Os) (started : os.Started) (H : Type) (enc : TypeId × Value → H) :
    ReturnsInHanded {} Tryd.checked os 5 .any (fun w args => (Rows.fnExactTableTextSpec.pre enc Tryd.prog Tryd.f5 Rows.fnExactTableTextRow.domain false w args ∧ laidMetH Tryd.prog Rows.fnExactTableTextRow.laid w) ∧ sizedMet enc Tryd.prog Tryd.f5 (OpenSpec.ofChange Rows.fnExactTableTextSpec) false w args) (Rows.fnExactTableTextSpec.post enc Tryd.prog Tryd.f5 false true false false) := by
  refine returnsInHanded_of_change_and (C := Tryd.checked) (X := fun w _ => laidMetH Tryd.prog Rows.fnExactTableTextRow.laid w) (fun _ _ _ hh h => h.of_heap hh) own started (by kernel_rfl) Tryd.func5
    (ChangeSpec.witness_shaped (enc := enc) (C := Tryd.checked) (os := os) (X := fun w _ => laidMetH Tryd.prog Rows.fnExactTableTextRow.laid w) false (World.laidAll Tryd.prog os Rows.fnExactTableTextRow.laid) #[.agg #[.int .i64 0, .int .i64 0, .slice none 0 0]] 8 (World.laidAll_os _ _ _) (World.shaped_of_ZipB (by kernel_rfl) (by kernel_rfl)) (by kernel_rfl) (by kernel_rfl) (by kernel_rfl) (door_met os _)) ?_
  intro W base args ds gs before hval0 hW hcnd _ hL _
  have hval : ∀ (j : Nat) t v, Tryd.f5.params[j]? = some t → args[j]? = some v → Value.okWide Tryd.prog W .any base t v := hval0
  have hW' := hW
  obtain ⟨p, q, hA0, hV, rfl, hfz, hnd⟩ := hW
  have hA : DataW.TrodAll enc Tryd.prog W 0 (fun _ => true) true Tryd.f5.params.toList args.toList ds p := hA0
  rw [Tryd.params5] at hA hval
  obtain ⟨v0, vs0, d0, ds0, p0, q0, hargs, rfl, rfl, h0, r0⟩ := trodAll_cons hA
  obtain ⟨rfl, rfl, rfl⟩ := trodAll_nil r0
  obtain rfl : args = #[v0] := by cases args; simp_all
  obtain ⟨gg, gt, gcs, gfuel, gd, gps, rfl, hgn, hgt, hgv, hgd, rfl⟩ := trodVars_one hV
  obtain rfl := Option.some.inj ((show Tryd.prog.globalNamed "loop.example/g01276/impl.turnSigns" = some 0 by kernel_rfl).symm.trans hgn)
  obtain rfl := Option.some.inj ((show (Tryd.prog.globals[(0 : Nat)]?).map (·.type) = some 110 by kernel_rfl).symm.trans hgt)
  have kg : DataW.Trod enc Tryd.prog W 0 (fun _ => true) true 110 (.agg gcs) gd gps := ⟨gfuel, hgd⟩
  have ltg : ∀ x ∈ gps, x.block < W.heap.size := DataW.trod_lt gfuel _ _ _ hgd
  have ltz : 0 < W.heap.size := by
    rcases Nat.lt_or_ge 0 W.heap.size with h0 | h0
    · exact h0
    · simp only [World.var?, hgn, Option.bind_some] at hgv
      rw [Array.getElem?_eq_none (by omega)] at hgv
      cases hgv
  have k0 := h0
  have lt0 : ∀ x ∈ p0, x.block < W.heap.size := by obtain ⟨m, hm⟩ := k0; exact DataW.trod_lt m _ _ _ hm
  obtain ⟨cs0, e0, l0, g0⟩ := struct_cells Tryd.underlying24 (by kernel_rfl) (by kernel_rfl) (hval 0 24 v0 rfl rfl) h0
  obtain ⟨a0s, c0_0, ha0s⟩ := cell_int Tryd.underlying3 (g0 0 _ rfl)
  obtain ⟨a0i, c0_1, ha0i⟩ := cell_int Tryd.underlying3 (g0 1 _ rfl)
  obtain ⟨a0rv, y0_2, n0_2, c0_2, t0_2⟩ := g0 2 _ rfl
  obtain ⟨a0rp, a0rn, a0r, hla0r, hma0r, hna0r, ra0r, ba0r⟩ := open_recs3 Tryd.underlying22 (by kernel_rfl) (fun _ _ _ h => trod_row3 Tryd.underlying86 (by kernel_rfl) (by kernel_rfl) (by kernel_rfl) (by kernel_rfl) (by kernel_rfl) h) t0_2 86
  have ha0r : a0r.length = a0rn ∧ a0rn ≤ maxLen ∧ ∀ r ∈ a0r, r.t.length ≤ maxLen := ⟨hla0r, hma0r, hna0r⟩
  obtain rfl := list_of3 l0 c0_0 c0_1 c0_2
  subst e0
  clear hA0 hval0
  refine (walk a0s a0i a0rv a0rp a0rn a0r ha0s ha0i ha0r ra0r W ba0r (gl_rel hL)).mono fun e W' ⟨he, bel⟩ => ?_
  subst he
  obtain ⟨gf, hgd'⟩ := Below.trod laidOut (by kernel_rfl) (of_decide_eq_true (by kernel_rfl)) kg bel ltg
  have hgn2 : Tryd.prog.globalNamed "loop.example/g01276/impl.turnSigns" = some 0 := hgn
  have hgv2 : W.var? Tryd.prog "loop.example/g01276/impl.turnSigns" = some gcs := hgv
  have hgv' : W'.var? Tryd.prog "loop.example/g01276/impl.turnSigns" = some gcs := by
    simp only [World.var?, hgn2, Option.bind_some] at hgv2 ⊢
    rw [bel.block 0 ltz]
    exact hgv2
  exact ⟨_, rfl, _, _, _, [], _, _, hW', trodAll_mk1 (shut_bool Tryd.underlying4 _), (trodAll_cons_mk (Below.trod laidOut (by kernel_rfl) (of_decide_eq_true (by kernel_rfl)) k0 bel lt0) trodAll_mk0), trodVars_mk1 hgn hgt hgv' hgd', bel.frame _, fun h => by cases h⟩

theorem over : Rows.fnExactTableTextRow.holds Tryd.pinned (OpenSpec.ofChange Rows.fnExactTableTextSpec) :=
  OpenClaim.holds_of_wide 5 Tryd.f5 rfl rfl rfl rfl rfl rfl rfl ⟨rfl, rfl, rfl, rfl, rfl⟩ rfl rfl rfl rfl rfl (by kernel_rfl) Tryd.func5 (by kernel_rfl)
    (of_decide_eq_true (by kernel_rfl)) (by unfold Func.isWrapper; first | (rw [if_pos (by decide +kernel)]; kernel_rfl) | (rw [if_neg (by decide +kernel)]; exact ⟨rfl, rfl⟩))
    (fun os started H enc _ => lifted os started H enc)

theorem card : Claim7.holds Tryd.pinned (.plain (OpenSpec.ofChange Rows.fnExactTableTextSpec)) Rows.fnExactTableTextCard :=
  Claim7.holds_tied_plain_at .later [] _ true _ false
    over (fun _ h => by cases h) (by kernel_rfl) (fun _ h => by cases h) fnExactTableText_row_tie rfl ⟨rfl, rfl⟩ (by kernel_rfl) rfl
    (fun f fn hf hfn => by
      obtain rfl : f = 5 := (Option.some.inj ((show Tryd.prog.funcNamed Rows.fnExactTableTextRow.func = some 5 by kernel_rfl).symm.trans hf)).symm
      obtain rfl : fn = Tryd.f5 := (Option.some.inj (Tryd.func5.symm.trans hfn)).symm
      exact ⟨by kernel_rfl, fun j t ht => by
        have hall : (Tryd.f5.params.toList.all fun u => !Tryd.prog.wantsStandIn u) = true := by kernel_rfl
        have hm : t ∈ Tryd.f5.params.toList := Array.mem_toList_iff.2 (Array.mem_of_getElem? ht)
        exact (show Tryd.prog.wantsStandIn t = false by simpa using List.all_eq_true.1 hall t hm)⟩)
    (by kernel_rfl)
theorem proved : Rows.FnExactTableTextCardSaid := card
#print axioms proved
end Go.Proofs.YtlnjbdaenikkiaaDoor.lawTableText
