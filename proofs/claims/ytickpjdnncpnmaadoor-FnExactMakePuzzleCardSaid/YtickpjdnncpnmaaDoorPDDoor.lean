/- areClues: a clue that is none is raised, recovered and asserted. -/
import Derived.Test.YtickpjdnncpnmaaDoorProg
import Derived.Test.YtickpjdnncpnmaaDoorPDOk
import Derived.Test.YtickpjdnncpnmaaDoorPDDoorPf
import Derived.KernelRfl
namespace Go.Proofs.YtickpjdnncpnmaaDoor.PD
open Go Go.Vi
set_option linter.unusedVariables false
theorem eq_admit (k a b cols cells : Int) (K : V -> Prop) (KP : Value -> Prop) : VC_admit k a b cols cells K KP = vbodyP Tryd.prog (vin Tryd.prog TPD annTPD 3) TPD.looks noPan (annTPD 117) 117 [.agg [.int .i64 k, .int .i64 a, .int .i64 b], .int .i64 cols, .int .i64 cells] K KP := by kernel_rfl
theorem okp_admit : OKp Tryd.prog 117 F_admit := OKp.of (vin_ok TPD_ok annTPD 3) TPD_ok.looks noPan_ok (by kernel_rfl) fun args q p R x hF hq => by
 unfold F_admit at hF
 split at hF
 ·injection hF with hF
  injection hF with h1 hF
  injection hF with h2 hF
  injection hF with h3 h4
  subst h1; subst h2; subst h3; subst h4
  exact (congrArg At (eq_admit _ _ _ _ _ _ _)).mp ⟨vc_admit _ _ _ _ _ hq⟩
 ·cases hF
theorem eq_areClues (cols cells : Int) (n : Nat) (a : List Int) (e : TypeId) (K : Exit -> St -> Prop) : VC_areClues cols cells n a e K = vdoor Tryd.prog (vin Tryd.prog TPD annTPD 3) TPD.looks (onlyPan 117 F_admit) 116 6 9 2 ann_areClues 94 [.row 0 n, .int .i64 cols, .int .i64 cells] [⟨.ints .i64 a, e, .rows 3⟩] K := by kernel_rfl
theorem eq_catch (k x y : Int) (b o : Bool) (n : Nat) (a : List Int) (e : TypeId) (kd : Kind) (K : Exit -> St -> Prop) : VC_catch k x y b o n a e kd K = vcatch Tryd.prog 116 [⟨.ints .i64 a, e, kd⟩, ⟨.vals [.bool o], 4, .box⟩] 4 5 83 (.tup [.agg [.int .i64 k, .int .i64 x, .int .i64 y], .bool b]) K := by kernel_rfl
theorem eq_res (a : List Int) (e : TypeId) (b : Bool) (K : List V -> Prop) : VC_res a e b K = vresAt Tryd.prog 94 ⟨doorSt 21 6, [clB a e, bxB b]⟩ K := by kernel_rfl
theorem clueStruct : isStructT Tryd.prog 83 = true := by kernel_rfl
theorem clueZero : (Tryd.prog.info? 83).bind (·.zero) = some (cluV 0 0 0) := by kernel_rfl
theorem rep_hit {ρ : List Vi.Place} (k x y : Int) (b : Bool) : Rep ρ (.tup [.agg [.int .i64 k, .int .i64 x, .int .i64 y], .bool b]) (.tuple #[cluV k x y, .bool b]) := by
 simp only [Rep]
 refine ⟨[cluV k x y, .bool b], rfl, ?_⟩
 simp only [RepL, Rep]
 exact ⟨_, _, rfl, ⟨[.int .i64 k, .int .i64 x, .int .i64 y], rfl, ⟨_, _, rfl, rfl, _, _, rfl, rfl, _, _, rfl, rfl, rfl⟩⟩, _, _, rfl, rfl, rfl⟩
theorem catch_all (a : List Int) (e : TypeId) (o b : Bool) (k x y : Int) {ρ1 : List Vi.Place} {w : World} {pv v : Value} (hl : ρ1.length = 2) (hm : MRel ρ1 [clB a e, bxB o] w) (hp : Rep ρ1 (.ptr 1 0) pv) {u u' : FrameMode}
  (hrec : ∀ (c₀ : Frame) (cs : List Frame), c₀.mode = u -> (recoverD (c₀ :: cs) = some (v, { c₀ with mode := u' } :: cs)) \/ (recoverD (c₀ :: cs) = none /\ v = .nilIface /\ u' = u))
  (hta : ∀ xT, (Instr.typeAssert v xT 83 true).run Tryd.prog w = .ok (.tuple #[cluV k x y, .bool b]) w) :
  CallsD Tryd.prog 116 #[pv] u w fun e' u'' w2 => (e' ≠ .outgrown /\ u'' = u') /\ (e' = .returned (.tuple #[]) /\ MRel ρ1 [clB a e, bxB (!b)] w2 /\ Keep (Names ρ1 [clB a e, bxB o]) w w2 /\ ∀ j, Names ρ1 [clB a e, bxB (!b)] j -> Names ρ1 [clB a e, bxB o] j \/ w.heap.size <= j) := by
 refine vcatch_sound (f := 116) (m := [⟨.ints .i64 a, e, .rows 3⟩, ⟨.vals [.bool o], 4, .box⟩]) (r := 4) (s := 5) (T := 83) (v := .tup [.agg [.int .i64 k, .int .i64 x, .int .i64 y], .bool b]) (K := catchK a e b) ((congrArg At (eq_catch k x y b o 0 a e (.rows 3) (catchK a e b))).mp ⟨vc_catch k x y b o 0 a e⟩) hm hp hrec hta (rep_hit k x y b) (R := fun e' w2 => e' = .returned (.tuple #[]) /\ MRel ρ1 [clB a e, bxB (!b)] w2 /\ Keep (Names ρ1 [clB a e, bxB o]) w w2 /\ ∀ j, Names ρ1 [clB a e, bxB (!b)] j -> Names ρ1 [clB a e, bxB o] j \/ w.heap.size <= j) fun e' st' a' w' ρ' hK hs' => ?_
 obtain ⟨rfl, hle⟩ := hK
 obtain ⟨ρ2, hs2⟩ := hs'.le (by rw [hl]; exact hle)
 obtain rfl : ρ2 = ρ1 := prefix_eq hs2.pre (by rw [hs2.mem.len, hl]; rfl)
 exact ⟨rfl, rfl, hs2.mem, hs2.keep, hs2.own⟩
theorem run_zero (w : World) : (zeroValue 83).run Tryd.prog w = .ok (cluV 0 0 0) w := by
 have h := clueZero
 cases hi : Tryd.prog.info? 83 with
 | none => rw [hi] at h; cases h
 | some i =>
  rw [hi] at h
  simp only [Option.bind_some] at h
  simp [zeroValue, run_info hi, h]
theorem le_one (a : List Int) (e : TypeId) (b : Bool) : leSt 1 ⟨[], [clB a e, bxB b]⟩ ⟨[], [clB a e]⟩ := by
 simp [leSt, clB, leL, leMem, leCells, chkB, underL, memUnder]
theorem ok_areClues : OK Tryd.prog 94 F_impl_areClues.spec := by
 refine ⟨fun args m k _ xs w => hasBody_enter (by kernel_rfl) xs w, fun args m k ht ρ w xs hm hx => ?_⟩
 unfold FSpec.spec at ht
 split at ht
 ·rename_i p R hF
  unfold F_impl_areClues at hF
  split at hF
  ·rename_i n cols cells a e
   injection hF with hF
   injection hF with h1 h2
   subst h1; subst h2
   obtain ⟨⟨hpre⟩, hk⟩ := ht
   refine vdoor_sound (P := Tryd.prog) (Ω := vin Tryd.prog TPD annTPD 3) (Ωq := TPD.looks) (Ωp := onlyPan 117 F_admit) (g := 116) (b := 6) (t := 9) (n0 := 2) (ann := ann_areClues) (f := 94) (K := doorK a e (allC a cols cells n)) (vin_ok TPD_ok annTPD 3) TPD_ok.looks (onlyPan_ok okp_admit) ((congrArg At (eq_areClues cols cells n a e (doorK a e (allC a cols cells n)))).mp ⟨vc_areClues cols cells n a e hpre⟩) hm hx fun fn e' st' a' w' ρ1 ρ' pv hfn hK hpre1 hl1 hs' hpv => ?_
   have hl0 : ρ.length = 1 := hm.len
   have hbody : hasBody Tryd.prog 116 = true := by kernel_rfl
   cases e' with
   | ret =>
    obtain ⟨hok, hle⟩ := hK
    rw [hok] at hk
    refine door_end (b := 6) (nb := 21) (blk0 := clB a e) (bx := bxB true) (bx' := bxB true) (bv := .bool true) (u := .returning) (u' := .returning) hfn hl0 hpre1 hl1 hs' hle hpv hbody ?_ rfl (le_one a e true) hk (by simp) rfl fun w1 hm1 => ?_
    ·exact (congrArg At (eq_res a e true _)).mp ⟨rfl⟩
    ·refine catch_all a e true false 0 0 0 (v := .nilIface) hl1 hm1 hpv (fun c₀ cs hu => .inr ⟨?_, rfl, rfl⟩) fun xT => typeAssert_nil clueStruct (run_zero w1) xT
     simp [recoverD, hu]
   | panic ch =>
    obtain ⟨hok, ⟨k1, x1, y1, rfl⟩, hle⟩ := hK
    rw [hok] at hk
    refine door_end (b := 6) (nb := 21) (blk0 := clB a e) (bx := bxB false) (bx' := bxB false) (bv := .bool false) (u := .panicking (oneP (.iface 83 (cluV k1 x1 y1)))) (u' := .panicking [{ v := .iface 83 (cluV k1 x1 y1), recovered := true }]) hfn hl0 hpre1 hl1 hs' hle hpv hbody ?_ rfl (le_one a e false) hk (by simp) rfl fun w1 hm1 => ?_
    ·exact (congrArg At (eq_res a e false _)).mp ⟨rfl⟩
    ·refine catch_all a e false true k1 x1 y1 (v := .iface 83 (cluV k1 x1 y1)) hl1 hm1 hpv (fun c₀ cs hu => .inl ?_) fun xT => typeAssert_hit clueStruct _ xT w1
     simp [recoverD, hu, oneP]
   | normal => exact hK.elim
   | exit i => exact hK.elim
   | goto l => exact hK.elim
   | outgrown => exact hK.elim
  ·cases hF
 ·exact ht.elim
end Go.Proofs.YtickpjdnncpnmaaDoor.PD
