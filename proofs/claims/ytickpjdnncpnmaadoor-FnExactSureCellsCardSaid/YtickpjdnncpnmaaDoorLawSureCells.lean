import Derived.Test.YtickpjdnncpnmaaDoorPSPf
import Derived.Test.YtickpjdnncpnmaaDoorCards
import Derived.Test.YtickpjdnncpnmaaDoorTie
import Derived.LaidMore
import Derived.Lay
import Derived.Test.YtickpjdnncpnmaaDoorRows
import Derived.WalkKit
import Derived.ProofKit
import Derived.OpenShut
import Derived.ShutString
import Derived.ChangeOld
import Derived.Below
import Derived.Test.YtickpjdnncpnmaaDoorPSOk
import Derived.Test.YtickpjdnncpnmaaDoorVik
/- The conditions of FnExactSureCells. -/
namespace Go.Vi
set_option linter.unusedVariables false
set_option linter.unusedSimpArgs false
def VC_LawSureCells (a0r:List UInt8)(a0w:Int)(a0h:Int)(a0cn:Nat)(a0c:List Int)(K:V → Prop):Prop:=
 At ((0:Int)≤(1048576:Int)∧(1048576:Int)≤(1000000000:Int)∧(↑a0cn:Int)≤(9223372036854775807:Int)∧(↑(List.length a0r):Int)≤(9223372036854775807:Int))∧(decide (szP a0r a0cn (1048576:Int) < (0:Int))=true→K (V.lit true))∧
 (decide (szP a0r a0cn (1048576:Int) < (0:Int))=false→At (List.length a0c=a0cn * (3:Nat)∧a0cn≤(2000000:Nat))∧At (List.length a0c=a0cn * (3:Nat)∧a0cn≤(2000000:Nat))∧At (List.length a0c=a0cn * (3:Nat)∧a0cn≤(2000000:Nat))∧
 At (List.length a0c=a0cn * (3:Nat)∧a0cn≤(2000000:Nat))∧((!sureS (surB a0r a0w a0h a0cn a0c) (Int.toNat (a0w * a0h))==sureS (surB a0r a0w a0h a0cn a0c) (Int.toNat (a0w * a0h)))=true→K (V.lit false))∧
 ((!sureS (surB a0r a0w a0h a0cn a0c) (Int.toNat (a0w * a0h))==sureS (surB a0r a0w a0h a0cn a0c) (Int.toNat (a0w * a0h)))=false→
 ((!decide ((0:Nat) < List.length (surB a0r a0w a0h a0cn a0c))==decide ((0:Nat) < List.length (surB a0r a0w a0h a0cn a0c)))=true→K (V.lit false))∧
 ((!decide ((0:Nat) < List.length (surB a0r a0w a0h a0cn a0c))==decide ((0:Nat) < List.length (surB a0r a0w a0h a0cn a0c)))=false→(((At (List.length a0c=a0cn * (3:Nat)∧a0cn≤(2000000:Nat))∧
 (At (List.length a0c=(3:Nat) * a0cn∧List.length a0c=(3:Nat) * a0cn∧a0cn≤(2000000:Nat)∧a0cn≤(2000000:Nat))∧((!(a0r==a0r && a0c==a0c && a0w==a0w && a0h==a0h))=true→K (V.lit false))∧
 ((!(a0r==a0r && a0c==a0c && a0w==a0w && a0h==a0h))=false→K (V.lit true)))∧True)∧True)∧True)∧(((At (List.length a0c=a0cn * (3:Nat)∧a0cn≤(2000000:Nat))∧(At (List.length a0c=(3:Nat) * a0cn∧List.length a0c=(3:Nat) * a0cn∧
 a0cn≤(2000000:Nat)∧a0cn≤(2000000:Nat))∧((!(a0r==a0r && a0c==a0c && a0w==a0w && a0h==a0h))=true→K (V.lit false))∧((!(a0r==a0r && a0c==a0c && a0w==a0w && a0h==a0h))=false→K (V.lit true)))∧True)∧True)∧
 (At (List.length a0c=a0cn * (3:Nat)∧a0cn≤(2000000:Nat))∧((At (List.length a0c=(3:Nat) * a0cn∧List.length a0c=(3:Nat) * a0cn∧a0cn≤(2000000:Nat)∧a0cn≤(2000000:Nat))∧((!(a0r==a0r && a0c==a0c && a0w==a0w && a0h==a0h))=true→
 K (V.lit false))∧((!(a0r==a0r && a0c==a0c && a0w==a0w && a0h==a0h))=false→K (V.lit true)))∧True)∧True)∧True)∧True)))
theorem vc_LawSureCells (a0r : List UInt8) (a0w : Int) (a0h : Int) (a0cn : Nat) (a0c : List Int) (ha0r : (a0r.length : Int) ≤ 9223372036854775807) (ha0w : -9223372036854775808 ≤ a0w ∧ a0w ≤ 9223372036854775807) (ha0h : -9223372036854775808 ≤ a0h ∧ a0h ≤ 9223372036854775807) (ha0c : a0c.length = a0cn * 3 ∧ (a0cn : Int) ≤ 9223372036854775807) : VC_LawSureCells a0r a0w a0h a0cn a0c (retP (.bool true)) := by
  unfold VC_LawSureCells
  refine ⟨⟨by omega, by omega, ha0c.2, ha0r⟩, fun _ => (retP_lit _ _).2 rfl, fun hc => ?_⟩
  have hn := szP_n (of_decide_eq_false hc)
  have h3 : a0c.length = 3 * a0cn := by omega
  simp [retP_lit, h3, hn, Nat.mul_comm]
end Go.Vi

/- FnExactSureCells: for every input the law returns true, and each argument reads as it did. No condition. -/
namespace Go.Proofs.YtickpjdnncpnmaaDoor.lawSureCells
open Go Go.Vi
open Go.ChangeShapes Go.WideShapes Go.ChangeAt Go.RowKit
open Go.ChangeMaps (open_string shut_string)
set_option linter.unusedVariables false

theorem own : ownKnob Tryd.prog.godebug = none := by kernel_rfl
theorem laidOut : laidOutB Tryd.prog = true := by kernel_rfl

theorem eq_law (a0r : List UInt8) (a0w : Int) (a0h : Int) (a0cn : Nat) (a0c : List Int) (K : V -> Prop) : VC_LawSureCells a0r a0w a0h a0cn a0c K = vin Tryd.prog TPS annTPS 6 4 [.agg [.str a0r, .int .i64 a0w, .int .i64 a0h, .row 0 a0cn]] [⟨.ints .i64 a0c, 99, .arg 3⟩] (fun v _ => K v) := by kernel_rfl
theorem walk (a0r : ByteArray) (a0w : Int) (a0h : Int) (a0cv : Value) (a0cp : Go.Vi.Place) (a0cn : Nat) (a0c : List Int) (ha0r : a0r.size <= maxLen) (ha0w : (Lit.int .i64 a0w).wf = true) (ha0h : (Lit.int .i64 a0h).wf = true) (ha0c : a0c.length = a0cn * 3 /\ a0cn <= maxLen) (ra0c : Rep [a0cp] (.row 0 a0cn) a0cv) (w : World) (ba0c : BRel [a0cp] a0cp ⟨.ints .i64 a0c, 99, .arg 3⟩ w) :
  Calls Tryd.prog 4 #[.agg #[.string a0r, .int .i64 a0w, .int .i64 a0h, a0cv]] w fun e w' => e = .returned (.bool true) /\ Below w.heap.size w w' := by
 have hv := (congrArg At (eq_law a0r.data.toList a0w a0h a0cn a0c (retP (.bool true)))).mp ⟨vc_LawSureCells a0r.data.toList a0w a0h a0cn a0c (str_bd ha0r) (wf_i64_bd ha0w) (wf_i64_bd ha0h) (rows_bd ha0c)⟩
 have hr : RepL [a0cp] [.agg [.str a0r.data.toList, .int .i64 a0w, .int .i64 a0h, .row 0 a0cn]] [.agg #[.string a0r, .int .i64 a0w, .int .i64 a0h, a0cv]] := (repL_cons (rep_agg (repL_cons (rep_str a0r) (repL_cons (rep_int .i64 a0w) (repL_cons (rep_int .i64 a0h) (repL_cons (rep_row_at ra0c rfl) repL_nil))))) repL_nil)
 have hc := OK.callM (vin_ok TPS_ok annTPS 6 4) hv (MRel.args1 rfl ba0c.ints) (argsAll rfl) hr
 exact hc.mono fun e w' ⟨v, m', ρ', x, he, hk, hr, hb⟩ => ⟨by rw [he, bool_true hr hk], hb⟩

theorem door_met (os : Os) (args : Array Value) : laidMetH Tryd.prog Rows.fnExactSureCellsRow.laid ((World.laidAll Tryd.prog os Rows.fnExactSureCellsRow.laid).forCall (fun _ _ => 0) ⟨#[], args, []⟩).memory := by
 rw [MakeChecks.laidMetH_plain _ _ _ (by kernel_rfl)]
 exact laidMet_laidAll _ (by kernel_rfl) (by kernel_rfl)
set_option maxRecDepth 100000 in
theorem lifted (os : Os) (started : os.Started) (H : Type) (enc : TypeId × Value -> H) :
  ReturnsInHanded {} Tryd.checked os 4 .any (fun w args => (Rows.fnExactSureCellsSpec.pre enc Tryd.prog Tryd.f4 Rows.fnExactSureCellsRow.domain false w args /\ laidMetH Tryd.prog Rows.fnExactSureCellsRow.laid w) /\ sizedMet enc Tryd.prog Tryd.f4 (OpenSpec.ofChange Rows.fnExactSureCellsSpec) false w args) (Rows.fnExactSureCellsSpec.post enc Tryd.prog Tryd.f4 false true false false) := by
 refine returnsInHanded_of_change_and (C := Tryd.checked) (X := fun w _ => laidMetH Tryd.prog Rows.fnExactSureCellsRow.laid w) (fun _ _ _ hh h => h.of_heap hh) own started (by kernel_rfl) Tryd.func4
  (ChangeSpec.witness_shaped (enc := enc) (C := Tryd.checked) (os := os) (X := fun w _ => laidMetH Tryd.prog Rows.fnExactSureCellsRow.laid w) false (World.laidAll Tryd.prog os Rows.fnExactSureCellsRow.laid) #[.agg #[.string ByteArray.empty, .int .i64 0, .int .i64 0, .slice none 0 0]] 8 (World.laidAll_os _ _ _) (World.shaped_of_ZipB (by kernel_rfl) (by kernel_rfl)) (by kernel_rfl) (by kernel_rfl) (by kernel_rfl) (door_met os _)) ?_
 intro W base args ds gs before hval0 hW hcnd _ hL _
 have hval : ∀ (j : Nat) t v, Tryd.f4.params[j]? = some t -> args[j]? = some v -> Value.okWide Tryd.prog W .any base t v := hval0
 have hW' := hW
 obtain ⟨p, q, hA0, hV, rfl, hfz, hnd⟩ := hW
 have hA : DataW.TrodAll enc Tryd.prog W 0 (fun _ => true) true Tryd.f4.params.toList args.toList ds p := hA0
 rw [Tryd.params4] at hA hval
 obtain ⟨v0, vs0, d0, ds0, p0, q0, hargs, rfl, rfl, h0, r0⟩ := trodAll_cons hA
 obtain ⟨rfl, rfl, rfl⟩ := trodAll_nil r0
 obtain rfl : args = #[v0] := by cases args; simp_all
 obtain ⟨rfl, rfl⟩ := trodVars_none hV
 have k0 := h0
 have lt0 : ∀ x ∈ p0, x.block < W.heap.size := by obtain ⟨m, hm⟩ := k0; exact DataW.trod_lt m _ _ _ hm
 obtain ⟨cs0, e0, l0, g0⟩ := struct_cells Tryd.underlying24 (by kernel_rfl) (by kernel_rfl) (hval 0 24 v0 rfl rfl) h0
 obtain ⟨a0r, c0_0, ha0r⟩ := cell_string Tryd.underlying9 (g0 0 _ rfl)
 obtain ⟨a0w, c0_1, ha0w⟩ := cell_int Tryd.underlying3 (g0 1 _ rfl)
 obtain ⟨a0h, c0_2, ha0h⟩ := cell_int Tryd.underlying3 (g0 2 _ rfl)
 obtain ⟨a0cv, y0_3, n0_3, c0_3, t0_3⟩ := g0 3 _ rfl
 obtain ⟨a0cp, a0cn, a0c, hla0c, hma0c, ra0c, ba0c⟩ := open_rows Tryd.underlying22 Tryd.underlying99 (by kernel_rfl) (by kernel_rfl) (by decide) (allInts_spec (by kernel_rfl)) t0_3 99
 have ha0c : a0c.length = a0cn * 3 /\ a0cn <= maxLen := ⟨hla0c, hma0c⟩
 obtain rfl := list_of4 l0 c0_0 c0_1 c0_2 c0_3
 subst e0
 clear hA0 hval0
 refine (walk a0r a0w a0h a0cv a0cp a0cn a0c ha0r ha0w ha0h ha0c ra0c W ba0c).mono fun e W' ⟨he, bel⟩ => ?_
 subst he
 exact ⟨_, rfl, _, _, _, [], _, [], hW', trodAll_mk1 (shut_bool Tryd.underlying4 _), (trodAll_cons_mk (Below.trod laidOut (by kernel_rfl) (of_decide_eq_true (by kernel_rfl)) k0 bel lt0) trodAll_mk0), rfl, bel.frame _, fun h => by cases h⟩

theorem over : Rows.fnExactSureCellsRow.holds Tryd.pinned (OpenSpec.ofChange Rows.fnExactSureCellsSpec) :=
 OpenClaim.holds_of_wide 4 Tryd.f4 rfl rfl rfl rfl rfl rfl rfl ⟨rfl, rfl, rfl, rfl, rfl⟩ rfl rfl rfl rfl rfl (by kernel_rfl) Tryd.func4 (by kernel_rfl)
  (of_decide_eq_true (by kernel_rfl)) (by unfold Func.isWrapper; first | (rw [if_pos (by decide +kernel)]; kernel_rfl) | (rw [if_neg (by decide +kernel)]; exact ⟨rfl, rfl⟩))
  (fun os started H enc _ => lifted os started H enc)

theorem card : Claim7.holds Tryd.pinned (.plain (OpenSpec.ofChange Rows.fnExactSureCellsSpec)) Rows.fnExactSureCellsCard :=
 Claim7.holds_tied_plain_at .later [] _ true _ _
  over (fun _ h => by cases h) (by kernel_rfl) (fun _ h => by cases h) fnExactSureCells_row_tie rfl ⟨rfl, rfl⟩ (by kernel_rfl) rfl
  (fun f fn hf hfn => by
   obtain rfl : f = 4 := (Option.some.inj ((show Tryd.prog.funcNamed Rows.fnExactSureCellsRow.func = some 4 by kernel_rfl).symm.trans hf)).symm
   obtain rfl : fn = Tryd.f4 := (Option.some.inj (Tryd.func4.symm.trans hfn)).symm
   exact ⟨by kernel_rfl, fun j t ht => by
    have hall : (Tryd.f4.params.toList.all fun u => !Tryd.prog.wantsStandIn u) = true := by kernel_rfl
    have hm : t ∈ Tryd.f4.params.toList := Array.mem_toList_iff.2 (Array.mem_of_getElem? ht)
    exact (show Tryd.prog.wantsStandIn t = false by simpa using List.all_eq_true.1 hall t hm)⟩)
  (by kernel_rfl)
theorem proved : Rows.FnExactSureCellsCardSaid := card
#print axioms proved
end Go.Proofs.YtickpjdnncpnmaaDoor.lawSureCells
