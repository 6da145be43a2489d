import Derived.Test.YtpkokghbkamelaaDoorSPPf
import Derived.Test.YtpkokghbkamelaaDoorCards
import Derived.Test.YtpkokghbkamelaaDoorTie
import Derived.LaidMore
import Derived.Lib.LaidU8
import Derived.ChangeVars
import Derived.Lay
import Derived.Test.YtpkokghbkamelaaDoorRows
import Derived.WalkKit
import Derived.ProofKit
import Derived.OpenShut
import Derived.ShutString
import Derived.ChangeOld
import Derived.Below
import Derived.Test.YtpkokghbkamelaaDoorSPOk
import Derived.Test.YtpkokghbkamelaaDoorVik
/- The conditions of FnExactPaintedAfter. -/
namespace Go.Vi
set_option linter.unusedVariables false
set_option linter.unusedSimpArgs false
def VC_LawPaintedAfter (a0s:Int)(a0i:Int)(a0rn:Nat)(a0r:List Sc)(a0w:Int)(a0h:Int)(a0u:List UInt8)(a0x:Int)(a0y:Int)(a0d:Int)(a0q:Int)(a1:Int)(g0:List UInt8)(g1:List UInt8)(g2:List UInt8)(g3:List UInt8)(K:V → Prop):Prop:=
 At (((0:Int)≤(1048576:Int)∧(1048576:Int)≤(1048576:Int))∧((↑a0rn:Int)≤(9223372036854775807:Int)∧is3 a0r a0rn∧∀(r:Row3),r ∈ rows3 a0r→(↑(List.length (Row3.t r)):Int)≤(9223372036854775807:Int))∧
 (↑(List.length a0u):Int)≤(9223372036854775807:Int))∧(decide (szS (rows3 a0r) a0u (1048576:Int) < (0:Int))=true→K (V.lit true))∧(decide (szS (rows3 a0r) a0u (1048576:Int) < (0:Int))=false→At (is3 a0r a0rn∧
 a0rn≤(2000000:Nat))∧At (is3 a0r a0rn∧a0rn≤(2000000:Nat))∧At (is3 a0r a0rn∧a0rn≤(2000000:Nat))∧At (is3 a0r a0rn∧a0rn≤(2000000:Nat)∧isSg g0 g1 g2 g3)∧
 ((paN (Sx.u (aftX (sceneB a0s a0i (rows3 a0r) a0w a0h a0u a0x a0y a0d a0q && inB a1 (0:Int) (3000:Int)) a0i (rows3 a0r) (Int.toNat a1) { w := a0w,h := a0h,u := a0u,x := a0x,y := a0y,d := a0d,q := a0q })) != paN (Sx.u (aftX (sceneB a0s a0i (rows3 a0r) a0w a0h a0u a0x a0y a0d a0q && inB a1 (0:Int) (3000:Int)) a0i (rows3 a0r) (Int.toNat a1) { w := a0w,h := a0h,u := a0u,x := a0x,y := a0y,d := a0d,q := a0q })))=true→
 K (V.lit false))∧
 ((paN (Sx.u (aftX (sceneB a0s a0i (rows3 a0r) a0w a0h a0u a0x a0y a0d a0q && inB a1 (0:Int) (3000:Int)) a0i (rows3 a0r) (Int.toNat a1) { w := a0w,h := a0h,u := a0u,x := a0x,y := a0y,d := a0d,q := a0q })) != paN (Sx.u (aftX (sceneB a0s a0i (rows3 a0r) a0w a0h a0u a0x a0y a0d a0q && inB a1 (0:Int) (3000:Int)) a0i (rows3 a0r) (Int.toNat a1) { w := a0w,h := a0h,u := a0u,x := a0x,y := a0y,d := a0d,q := a0q })))=false→
 ((!(sceneB a0s a0i (rows3 a0r) a0w a0h a0u a0x a0y a0d a0q && inB a1 (0:Int) (3000:Int))==(sceneB a0s a0i (rows3 a0r) a0w a0h a0u a0x a0y a0d a0q && inB a1 (0:Int) (3000:Int)))=true→K (V.lit false))∧
 ((!(sceneB a0s a0i (rows3 a0r) a0w a0h a0u a0x a0y a0d a0q && inB a1 (0:Int) (3000:Int))==(sceneB a0s a0i (rows3 a0r) a0w a0h a0u a0x a0y a0d a0q && inB a1 (0:Int) (3000:Int)))=false→(((At (is3 a0r a0rn∧
 a0rn≤(2000000:Nat))∧(At (is3 a0r a0rn∧is3 a0r a0rn∧a0rn≤(2000000:Nat)∧a0rn≤(2000000:Nat))∧
 ((!(a0s==a0s && a0i==a0i && rows3 a0r==rows3 a0r && a0w==a0w && a0h==a0h && a0u==a0u && a0x==a0x && a0y==a0y && a0d==a0d && a0q==a0q))=true→K (V.lit false))∧
 ((!(a0s==a0s && a0i==a0i && rows3 a0r==rows3 a0r && a0w==a0w && a0h==a0h && a0u==a0u && a0x==a0x && a0y==a0y && a0d==a0d && a0q==a0q))=false→K (V.lit true)))∧True)∧True)∧True)∧(((At (is3 a0r a0rn∧a0rn≤(2000000:Nat))∧
 (At (is3 a0r a0rn∧is3 a0r a0rn∧a0rn≤(2000000:Nat)∧a0rn≤(2000000:Nat))∧((!(a0s==a0s && a0i==a0i && rows3 a0r==rows3 a0r && a0w==a0w && a0h==a0h && a0u==a0u && a0x==a0x && a0y==a0y && a0d==a0d && a0q==a0q))=true→
 K (V.lit false))∧((!(a0s==a0s && a0i==a0i && rows3 a0r==rows3 a0r && a0w==a0w && a0h==a0h && a0u==a0u && a0x==a0x && a0y==a0y && a0d==a0d && a0q==a0q))=false→K (V.lit true)))∧True)∧True)∧(At (is3 a0r a0rn∧
 a0rn≤(2000000:Nat))∧((At (is3 a0r a0rn∧is3 a0r a0rn∧a0rn≤(2000000:Nat)∧a0rn≤(2000000:Nat))∧
 ((!(a0s==a0s && a0i==a0i && rows3 a0r==rows3 a0r && a0w==a0w && a0h==a0h && a0u==a0u && a0x==a0x && a0y==a0y && a0d==a0d && a0q==a0q))=true→K (V.lit false))∧
 ((!(a0s==a0s && a0i==a0i && rows3 a0r==rows3 a0r && a0w==a0w && a0h==a0h && a0u==a0u && a0x==a0x && a0y==a0y && a0d==a0d && a0q==a0q))=false→K (V.lit true)))∧True)∧True)∧True)∧True)))
theorem vc_LawPaintedAfter (a0s : Int) (a0i : Int) (a0rn : Nat) (a0r : List Sc) (a0w : Int) (a0h : Int) (a0u : List UInt8) (a0x : Int) (a0y : Int) (a0d : Int) (a0q : Int) (a1 : Int) (g0 g1 g2 g3 : List UInt8) (ha0s : -9223372036854775808 ≤ a0s ∧ a0s ≤ 9223372036854775807) (ha0i : -9223372036854775808 ≤ a0i ∧ a0i ≤ 9223372036854775807) (ha0r : (a0rn : Int) ≤ 9223372036854775807 ∧ is3 a0r a0rn ∧ ∀ r ∈ rows3 a0r, (r.t.length : Int) ≤ 9223372036854775807) (ha0w : -9223372036854775808 ≤ a0w ∧ a0w ≤ 9223372036854775807) (ha0h : -9223372036854775808 ≤ a0h ∧ a0h ≤ 9223372036854775807) (ha0u : (a0u.length : Int) ≤ 9223372036854775807) (ha0x : -9223372036854775808 ≤ a0x ∧ a0x ≤ 9223372036854775807) (ha0y : -9223372036854775808 ≤ a0y ∧ a0y ≤ 9223372036854775807) (ha0d : -9223372036854775808 ≤ a0d ∧ a0d ≤ 9223372036854775807) (ha0q : -9223372036854775808 ≤ a0q ∧ a0q ≤ 9223372036854775807) (ha1 : -9223372036854775808 ≤ a1 ∧ a1 ≤ 9223372036854775807) (hg : isSg g0 g1 g2 g3) : VC_LawPaintedAfter a0s a0i a0rn a0r a0w a0h a0u a0x a0y a0d a0q a1 g0 g1 g2 g3 (retP (.bool true)) := by
  unfold VC_LawPaintedAfter
  have hs : ¬ szS (rows3 a0r) a0u 1048576 < 0 → a0rn ≤ 2000000 := fun h => by
    have hn := ha0r.2.1.2
    have hl := szT_le (l := rows3 a0r) (left := 1048576) (by omega)
    unfold szS at h
    by_cases hd : szT (rows3 a0r) 1048576 < 0
    · rw [decide_eq_true hd, cond_true] at h
      exact absurd (show (-1 : Int) < 0 by omega) h
    · unfold szT at hd
      by_cases hd2 : (1048576 : Int) - (rows3 a0r).length < 0
      · rw [decide_eq_true hd2, cond_true] at hd
        exact absurd (show (-1 : Int) < 0 by omega) hd
      · omega
  refine ⟨⟨⟨by omega, by omega⟩, ha0r, ha0u⟩, fun h => by simp [retP_lit], fun h => ?_⟩
  have hn := hs (of_decide_eq_false h)
  simp [retP_lit, ha0r.2.1, hn, hg]
end Go.Vi

/- FnExactPaintedAfter: for every input the law returns true, and each argument reads as it did. No condition. -/
namespace Go.Proofs.YtpkokghbkamelaaDoor.lawPaintedAfter
open Go Go.Vi
open Go.ChangeShapes Go.WideShapes Go.ChangeAt Go.RowKit
open Go.ChangeMaps (open_string shut_string)
set_option linter.unusedVariables false

theorem own : ownKnob Tryd.prog.godebug = none := by kernel_rfl
theorem laidOut : laidOutB Tryd.prog = true := by kernel_rfl

theorem gl_rel {W : World} (h : laidMetH Tryd.prog Rows.fnExactPaintedAfterRow.laid W) (ρ : List Go.Vi.Place) : BRel ρ (⟨0, 0, false, 0, none, []⟩ : Go.Vi.Place) ⟨.vals [.str [78], .str [82], .str [85], .str [76]], 9, .gl 0⟩ W := by
 rw [MakeChecks.laidMetH_plain _ _ _ (by kernel_rfl)] at h
 obtain ⟨g, t, cs, fuel, p, hg, ht, hv, hd⟩ := Lib.laidMet.reads h (n := "loop.example/g01276/impl.turnSigns") (d := Rows.laid_loop_example_g01276_impl_turnSigns) (by first | exact .head _ | exact .tail _ (.head _) | exact .tail _ (.tail _ (.head _)) | exact .tail _ (.tail _ (.tail _ (.head _))))
 obtain rfl := Option.some.inj ((show Tryd.prog.globalNamed "loop.example/g01276/impl.turnSigns" = some 0 by kernel_rfl).symm.trans hg)
 obtain rfl := Option.some.inj ((show (Tryd.prog.globals[(0 : Nat)]?).map (·.type) = some 165 by kernel_rfl).symm.trans ht)
 obtain ⟨xs, m, _, ex, hcl, hl, hel⟩ := DataW.trod_array Tryd.underlying165 hd
 have c9 : Tryd.prog.cellsOf 9 = 1 := by kernel_rfl
 have hcl4 : cs.toList.length = 4 := hcl.trans (by kernel_rfl)
 have e3 : xs.map (·.1) = [.lit (.string [78]), .lit (.string [82]), .lit (.string [85]), .lit (.string [76])] := (DataW.agg.inj (show DataW.agg [.lit (.string [78]), .lit (.string [82]), .lit (.string [85]), .lit (.string [76])] = DataW.agg _ from (Prod.mk.inj ex).1)).symm
 have each : ∀ (i : Nat) (l : List UInt8), i < 4 -> (xs.map (·.1))[i]? = some (.lit (.string l)) -> cs.toList[i]? = some (.string (ofL l)) := by
  intro i l hi hx
  have hE := hel i hi
  rw [c9, Nat.mul_one, List.getElem?_eq_getElem (by omega)] at hE
  obtain ⟨s, e1, e2, _⟩ := DataW.trod_string Tryd.underlying9 hE
  rw [List.getElem?_map, List.getElem?_eq_getElem (by omega : i < xs.length), e2] at hx
  simp only [Option.map_some, Option.some.injEq, DataW.lit.injEq, Lit.string.injEq] at hx
  have h1 : cs.toList[i]? = some (.string s) := by
   have h0 : ((cs.toList.drop i).take 1)[0]? = some (.string s) := by rw [e1]; rfl
   simpa using h0
  rw [h1, <- hx, ofL_data]
 have hcs := list_of4 hcl4 (each 0 [78] (by omega) (by rw [e3]; rfl)) (each 1 [82] (by omega) (by rw [e3]; rfl)) (each 2 [85] (by omega) (by rw [e3]; rfl)) (each 3 [76] (by omega) (by rw [e3]; rfl))
 simp only [World.var?, hg, Option.bind_some] at hv
 split at hv
 ·rename_i c e fz hb
  injection hv with hv
  subst hv
  refine .inr (.inr (.inr (.inl ⟨rfl, ⟨rfl, rfl⟩, c.toList, e, fz, by simpa using hb, ?_, rfl, rfl⟩)))
  simp only [Cells.toVs, List.drop_zero, hcs]
  simp [RepL, Rep]
 ·cases hv
theorem list_flat0 {l : List Value} {x0 x1 x2 x3 x4 x5 x6 x7 x8 x9 : Value} (h : l.length = 10) (h0 : l[0]? = some x0) (h1 : l[1]? = some x1) (h2 : l[2]? = some x2) (h3 : l[3]? = some x3) (h4 : l[4]? = some x4) (h5 : l[5]? = some x5) (h6 : l[6]? = some x6) (h7 : l[7]? = some x7) (h8 : l[8]? = some x8) (h9 : l[9]? = some x9) : l = [x0, x1, x2, x3, x4, x5, x6, x7, x8, x9] := by
 match l, h with
 | [_, _, _, _, _, _, _, _, _, _], _ => simp at h0 h1 h2 h3 h4 h5 h6 h7 h8 h9; simp [h0, h1, h2, h3, h4, h5, h6, h7, h8, h9]
theorem eq_law (a0s : Int) (a0i : Int) (a0rn : Nat) (a0r : List Sc) (a0w : Int) (a0h : Int) (a0u : List UInt8) (a0x : Int) (a0y : Int) (a0d : Int) (a0q : Int) (a1 : Int) (g0 g1 g2 g3 : List UInt8) (K : V -> Prop) : VC_LawPaintedAfter a0s a0i a0rn a0r a0w a0h a0u a0x a0y a0d a0q a1 g0 g1 g2 g3 K = vin Tryd.prog TSP annTSP 6 8 [.agg [.int .i64 a0s, .int .i64 a0i, .row 0 a0rn, .int .i64 a0w, .int .i64 a0h, .str a0u, .int .i64 a0x, .int .i64 a0y, .int .i64 a0d, .int .i64 a0q], .int .i64 a1] [⟨.recs [.int .i64, .str, .int .i64] a0r, 139, .arg 3⟩, ⟨.vals [.str g0, .str g1, .str g2, .str g3], 9, .gl 0⟩] (fun v _ => K v) := by kernel_rfl
theorem walk (a0s : Int) (a0i : Int) (a0rv : Value) (a0rp : Go.Vi.Place) (a0rn : Nat) (a0r : List Row3) (a0w : Int) (a0h : Int) (a0u : ByteArray) (a0x : Int) (a0y : Int) (a0d : Int) (a0q : Int) (a1 : Int) (ha0s : (Lit.int .i64 a0s).wf = true) (ha0i : (Lit.int .i64 a0i).wf = true) (ha0r : a0r.length = a0rn /\ a0rn <= maxLen /\ ∀ r ∈ a0r, r.t.length <= maxLen) (ra0r : Rep [a0rp] (.row 0 a0rn) a0rv) (ha0w : (Lit.int .i64 a0w).wf = true) (ha0h : (Lit.int .i64 a0h).wf = true) (ha0u : a0u.size <= maxLen) (ha0x : (Lit.int .i64 a0x).wf = true) (ha0y : (Lit.int .i64 a0y).wf = true) (ha0d : (Lit.int .i64 a0d).wf = true) (ha0q : (Lit.int .i64 a0q).wf = true) (ha1 : (Lit.int .i64 a1).wf = true) (w : World) (ba0r : BRel [a0rp] a0rp ⟨.recs sh3 (flat3 a0r), 139, .arg 3⟩ w) (bgl : ∀ ρ, BRel ρ (⟨0, 0, false, 0, none, []⟩ : Go.Vi.Place) ⟨.vals [.str [78], .str [82], .str [85], .str [76]], 9, .gl 0⟩ w) :
  Calls Tryd.prog 8 #[.agg #[.int .i64 a0s, .int .i64 a0i, a0rv, .int .i64 a0w, .int .i64 a0h, .string a0u, .int .i64 a0x, .int .i64 a0y, .int .i64 a0d, .int .i64 a0q], .int .i64 a1] w fun e w' => e = .returned (.bool true) /\ Below w.heap.size w w' := by
 have hv := (congrArg At (eq_law a0s a0i a0rn (flat3 a0r) a0w a0h a0u.data.toList a0x a0y a0d a0q a1 [78] [82] [85] [76] (retP (.bool true)))).mp ⟨vc_LawPaintedAfter a0s a0i a0rn (flat3 a0r) a0w a0h a0u.data.toList a0x a0y a0d a0q a1 [78] [82] [85] [76] (wf_i64_bd ha0s) (wf_i64_bd ha0i) (recs3_law ha0r) (wf_i64_bd ha0w) (wf_i64_bd ha0h) (str_bd ha0u) (wf_i64_bd ha0x) (wf_i64_bd ha0y) (wf_i64_bd ha0d) (wf_i64_bd ha0q) (wf_i64_bd ha1) ⟨rfl, rfl, rfl, rfl⟩⟩
 have hr : RepL [a0rp, (⟨0, 0, false, 0, none, []⟩ : Go.Vi.Place)] [.agg [.int .i64 a0s, .int .i64 a0i, .row 0 a0rn, .int .i64 a0w, .int .i64 a0h, .str a0u.data.toList, .int .i64 a0x, .int .i64 a0y, .int .i64 a0d, .int .i64 a0q], .int .i64 a1] [.agg #[.int .i64 a0s, .int .i64 a0i, a0rv, .int .i64 a0w, .int .i64 a0h, .string a0u, .int .i64 a0x, .int .i64 a0y, .int .i64 a0d, .int .i64 a0q], .int .i64 a1] := (repL_cons (rep_agg (repL_cons (rep_int .i64 a0s) (repL_cons (rep_int .i64 a0i) (repL_cons (rep_row_at ra0r rfl) (repL_cons (rep_int .i64 a0w) (repL_cons (rep_int .i64 a0h) (repL_cons (rep_str a0u) (repL_cons (rep_int .i64 a0x) (repL_cons (rep_int .i64 a0y) (repL_cons (rep_int .i64 a0d) (repL_cons (rep_int .i64 a0q) repL_nil))))))))))) (repL_cons (rep_int .i64 a1) repL_nil))
 have hc := OK.callM (vin_ok TSP_ok annTSP 6 8) hv (MRel.args2 rfl ba0r.recs rfl (bgl _)) (argsAll rfl) hr
 exact hc.mono fun e w' ⟨v, m', ρ', x, he, hk, hr, hb⟩ => ⟨by rw [he, bool_true hr hk], hb⟩

theorem door_met (os : Os) (args : Array Value) : laidMetH Tryd.prog Rows.fnExactPaintedAfterRow.laid ((World.laidAll Tryd.prog os Rows.fnExactPaintedAfterRow.laid).forCall (fun _ _ => 0) ⟨#[], args, []⟩).memory := by
 rw [MakeChecks.laidMetH_plain _ _ _ (by kernel_rfl)]
 exact laidMet_laidAll _ (by kernel_rfl) (by kernel_rfl)
set_option maxRecDepth 100000 in
theorem lifted (os : Os) (started : os.Started) (H : Type) (enc : TypeId × Value -> H) :
  ReturnsInHanded {} Tryd.checked os 8 .any (fun w args => (Rows.fnExactPaintedAfterSpec.pre enc Tryd.prog Tryd.f8 Rows.fnExactPaintedAfterRow.domain false w args /\ laidMetH Tryd.prog Rows.fnExactPaintedAfterRow.laid w) /\ sizedMet enc Tryd.prog Tryd.f8 (OpenSpec.ofChange Rows.fnExactPaintedAfterSpec) false w args) (Rows.fnExactPaintedAfterSpec.post enc Tryd.prog Tryd.f8 false true false false) := by
 refine returnsInHanded_of_change_and (C := Tryd.checked) (X := fun w _ => laidMetH Tryd.prog Rows.fnExactPaintedAfterRow.laid w) (fun _ _ _ hh h => h.of_heap hh) own started (by kernel_rfl) Tryd.func8
  (ChangeSpec.witness_shaped (enc := enc) (C := Tryd.checked) (os := os) (X := fun w _ => laidMetH Tryd.prog Rows.fnExactPaintedAfterRow.laid w) false (World.laidAll Tryd.prog os Rows.fnExactPaintedAfterRow.laid) #[.agg #[.int .i64 0, .int .i64 0, .slice none 0 0, .int .i64 0, .int .i64 0, .string ByteArray.empty, .int .i64 0, .int .i64 0, .int .i64 0, .int .i64 0], .int .i64 0] 8 (World.laidAll_os _ _ _) (World.shaped_of_ZipB (by kernel_rfl) (by kernel_rfl)) (by kernel_rfl) (by kernel_rfl) (by kernel_rfl) (door_met os _)) ?_
 intro W base args ds gs before hval0 hW hcnd _ hL _
 have hval : ∀ (j : Nat) t v, Tryd.f8.params[j]? = some t -> args[j]? = some v -> Value.okWide Tryd.prog W .any base t v := hval0
 have hW' := hW
 obtain ⟨p, q, hA0, hV, rfl, hfz, hnd⟩ := hW
 have hA : DataW.TrodAll enc Tryd.prog W 0 (fun _ => true) true Tryd.f8.params.toList args.toList ds p := hA0
 rw [Tryd.params8] at hA hval
 obtain ⟨v0, vs0, d0, ds0, p0, q0, hargs, rfl, rfl, h0, r0⟩ := trodAll_cons hA
 obtain ⟨v1, vs1, d1, ds1, p1, q1, rfl, rfl, rfl, h1, r1⟩ := trodAll_cons r0
 obtain ⟨rfl, rfl, rfl⟩ := trodAll_nil r1
 obtain rfl : args = #[v0, v1] := by cases args; simp_all
 obtain ⟨gg, gt, gcs, gfuel, gd, gps, rfl, hgn, hgt, hgv, hgd, rfl⟩ := trodVars_one hV
 obtain rfl := Option.some.inj ((show Tryd.prog.globalNamed "loop.example/g01276/impl.turnSigns" = some 0 by kernel_rfl).symm.trans hgn)
 obtain rfl := Option.some.inj ((show (Tryd.prog.globals[(0 : Nat)]?).map (·.type) = some 165 by kernel_rfl).symm.trans hgt)
 have kg : DataW.Trod enc Tryd.prog W 0 (fun _ => true) true 165 (.agg gcs) gd gps := ⟨gfuel, hgd⟩
 have ltg : ∀ x ∈ gps, x.block < W.heap.size := DataW.trod_lt gfuel _ _ _ hgd
 have ltz : 0 < W.heap.size := by
  rcases Nat.lt_or_ge 0 W.heap.size with h0 | h0
  ·exact h0
  ·simp only [World.var?, hgn, Option.bind_some] at hgv
   rw [Array.getElem?_eq_none (by omega)] at hgv
   cases hgv
 have k0 := h0
 have lt0 : ∀ x ∈ p0, x.block < W.heap.size := by obtain ⟨m, hm⟩ := k0; exact DataW.trod_lt m _ _ _ hm
 obtain ⟨cs0, e0, l0, g0⟩ := struct_flat Tryd.underlying26 (hval 0 26 v0 rfl rfl) h0
 obtain ⟨a0s, c0_0, ha0s⟩ := cell_int Tryd.underlying3 (sub_cell (sub_struct Tryd.underlying24 (g0 0 _ rfl) 0 _ rfl (by kernel_rfl)) (by kernel_rfl) (by rw [l0]; exact of_decide_eq_true (by kernel_rfl)))
 obtain ⟨a0i, c0_1, ha0i⟩ := cell_int Tryd.underlying3 (sub_cell (sub_struct Tryd.underlying24 (g0 0 _ rfl) 1 _ rfl (by kernel_rfl)) (by kernel_rfl) (by rw [l0]; exact of_decide_eq_true (by kernel_rfl)))
 obtain ⟨a0rv, y0_2, n0_2, c0_2, t0_2⟩ := sub_cell (sub_struct Tryd.underlying24 (g0 0 _ rfl) 2 _ rfl (by kernel_rfl)) (by kernel_rfl) (by rw [l0]; exact of_decide_eq_true (by kernel_rfl))
 obtain ⟨a0rp, a0rn, a0r, hla0r, hma0r, hna0r, ra0r, ba0r⟩ := open_recs3 Tryd.underlying22 (by kernel_rfl) (fun _ _ _ h => trod_row3 Tryd.underlying139 (by kernel_rfl) (by kernel_rfl) (by kernel_rfl) (by kernel_rfl) (by kernel_rfl) h) t0_2 139
 have ha0r : a0r.length = a0rn /\ a0rn <= maxLen /\ ∀ r ∈ a0r, r.t.length <= maxLen := ⟨hla0r, hma0r, hna0r⟩
 obtain ⟨a0w, c0_3, ha0w⟩ := cell_int Tryd.underlying3 (sub_cell (g0 1 _ rfl) (by kernel_rfl) (by rw [l0]; exact of_decide_eq_true (by kernel_rfl)))
 obtain ⟨a0h, c0_4, ha0h⟩ := cell_int Tryd.underlying3 (sub_cell (g0 2 _ rfl) (by kernel_rfl) (by rw [l0]; exact of_decide_eq_true (by kernel_rfl)))
 obtain ⟨a0u, c0_5, ha0u⟩ := cell_string Tryd.underlying9 (sub_cell (g0 3 _ rfl) (by kernel_rfl) (by rw [l0]; exact of_decide_eq_true (by kernel_rfl)))
 obtain ⟨a0x, c0_6, ha0x⟩ := cell_int Tryd.underlying3 (sub_cell (g0 4 _ rfl) (by kernel_rfl) (by rw [l0]; exact of_decide_eq_true (by kernel_rfl)))
 obtain ⟨a0y, c0_7, ha0y⟩ := cell_int Tryd.underlying3 (sub_cell (g0 5 _ rfl) (by kernel_rfl) (by rw [l0]; exact of_decide_eq_true (by kernel_rfl)))
 obtain ⟨a0d, c0_8, ha0d⟩ := cell_int Tryd.underlying3 (sub_cell (g0 6 _ rfl) (by kernel_rfl) (by rw [l0]; exact of_decide_eq_true (by kernel_rfl)))
 obtain ⟨a0q, c0_9, ha0q⟩ := cell_int Tryd.underlying3 (sub_cell (g0 7 _ rfl) (by kernel_rfl) (by rw [l0]; exact of_decide_eq_true (by kernel_rfl)))
 obtain rfl := list_flat0 (l0.trans (show Tryd.prog.cellsOf 26 = 10 by kernel_rfl)) c0_0 c0_1 c0_2 c0_3 c0_4 c0_5 c0_6 c0_7 c0_8 c0_9
 subst e0
 have k1 := h1
 have lt1 : ∀ x ∈ p1, x.block < W.heap.size := by obtain ⟨m, hm⟩ := k1; exact DataW.trod_lt m _ _ _ hm
 obtain ⟨a1, rfl, _, _, ha1⟩ := open_int Tryd.underlying3 (hval 1 3 v1 rfl rfl) h1
 clear hA0 hval0
 refine (walk a0s a0i a0rv a0rp a0rn a0r a0w a0h a0u a0x a0y a0d a0q a1 ha0s ha0i ha0r ra0r ha0w ha0h ha0u ha0x ha0y ha0d ha0q ha1 W ba0r (gl_rel hL)).mono fun e W' ⟨he, bel⟩ => ?_
 subst he
 obtain ⟨gf, hgd'⟩ := Below.trod laidOut (by kernel_rfl) (of_decide_eq_true (by kernel_rfl)) kg bel ltg
 have hgn2 : Tryd.prog.globalNamed "loop.example/g01276/impl.turnSigns" = some 0 := hgn
 have hgv2 : W.var? Tryd.prog "loop.example/g01276/impl.turnSigns" = some gcs := hgv
 have hgv' : W'.var? Tryd.prog "loop.example/g01276/impl.turnSigns" = some gcs := by
  simp only [World.var?, hgn2, Option.bind_some] at hgv2 ⊢
  rw [bel.block 0 ltz]
  exact hgv2
 exact ⟨_, rfl, _, _, _, [], _, _, hW', trodAll_mk1 (shut_bool Tryd.underlying4 _), (trodAll_cons_mk (Below.trod laidOut (by kernel_rfl) (of_decide_eq_true (by kernel_rfl)) k0 bel lt0) (trodAll_cons_mk (Below.trod laidOut (by kernel_rfl) (of_decide_eq_true (by kernel_rfl)) k1 bel lt1) trodAll_mk0)), trodVars_mk1 hgn hgt hgv' hgd', bel.frame _, fun h => by cases h⟩

theorem over : Rows.fnExactPaintedAfterRow.holds Tryd.pinned (OpenSpec.ofChange Rows.fnExactPaintedAfterSpec) :=
 OpenClaim.holds_of_wide 8 Tryd.f8 rfl rfl rfl rfl rfl rfl rfl ⟨rfl, rfl, rfl, rfl, rfl⟩ rfl rfl rfl rfl rfl (by kernel_rfl) Tryd.func8 (by kernel_rfl)
  (of_decide_eq_true (by kernel_rfl)) (by unfold Func.isWrapper; first | (rw [if_pos (by decide +kernel)]; kernel_rfl) | (rw [if_neg (by decide +kernel)]; exact ⟨rfl, rfl⟩))
  (fun os started H enc _ => lifted os started H enc)

theorem card : Claim7.holds Tryd.pinned (.plain (OpenSpec.ofChange Rows.fnExactPaintedAfterSpec)) Rows.fnExactPaintedAfterCard :=
 Claim7.holds_tied_plain_at .later [] _ true _ _
  over (fun _ h => by cases h) (by kernel_rfl) (fun _ h => by cases h) fnExactPaintedAfter_row_tie rfl ⟨rfl, rfl⟩ (by kernel_rfl) rfl
  (fun f fn hf hfn => by
   obtain rfl : f = 8 := (Option.some.inj ((show Tryd.prog.funcNamed Rows.fnExactPaintedAfterRow.func = some 8 by kernel_rfl).symm.trans hf)).symm
   obtain rfl : fn = Tryd.f8 := (Option.some.inj (Tryd.func8.symm.trans hfn)).symm
   exact ⟨by kernel_rfl, fun j t ht => by
    have hall : (Tryd.f8.params.toList.all fun u => !Tryd.prog.wantsStandIn u) = true := by kernel_rfl
    have hm : t ∈ Tryd.f8.params.toList := Array.mem_toList_iff.2 (Array.mem_of_getElem? ht)
    exact (show Tryd.prog.wantsStandIn t = false by simpa using List.all_eq_true.1 hall t hm)⟩)
  (by kernel_rfl)
theorem proved : Rows.FnExactPaintedAfterCardSaid := card
#print axioms proved
end Go.Proofs.YtpkokghbkamelaaDoor.lawPaintedAfter
