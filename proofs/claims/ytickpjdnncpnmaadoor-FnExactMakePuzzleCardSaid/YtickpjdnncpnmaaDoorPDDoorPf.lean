/- The conditions of the door hold. -/
import Derived.Test.YtickpjdnncpnmaaDoorPDDoorVc
import Derived.Test.YtickpjdnncpnmaaDoorPDPf
namespace Go.Vi
theorem vc_admit (k a b cols cells : Int) (h : 0 <= cols /\ cols <= 1000 /\ 0 <= cells /\ cells <= 1000) :
  VC_admit k a b cols cells (fun v => clueB k a b cols cells = true /\ retP (.tup []) v) (fun y => ¬ clueB k a b cols cells = true /\ y = .iface 83 (cluV k a b)) := by
 unfold VC_admit
 refine ⟨⟨h⟩, ⟨trivial⟩, fun h1 => ⟨?_, rfl⟩, fun h1 => ⟨⟨trivial⟩, fun h2 => ⟨?_, rfl⟩, fun h2 => ⟨?_, ?_⟩⟩⟩
 ·simp only [Bool.not_eq_true'] at h1
  simp [clueB, h1]
 ·simp only [Bool.not_eq_true'] at h2
  simp [clueB, h2]
 ·simp only [Bool.not_eq_false'] at h1 h2
  simp [clueB, h1, h2]
 ·simp [retP, leV, leL, chkB, V.under, underL]
theorem allC_false {a : List Int} {cols cells : Int} : ∀ {n i : Nat}, i < n -> cluAt a i cols cells = false -> allC a cols cells n = false
 | n + 1, i, hi, h => by
  simp only [allC]
  by_cases hn : i = n
  ·subst hn
   rw [h, Bool.and_false]
  ·rw [allC_false (by omega) h, Bool.false_and]
theorem vc_areClues (cols cells : Int) (n : Nat) (a : List Int) (e : TypeId) (h : a.length = n * 3 /\ 0 <= cols /\ cols <= 1000 /\ 0 <= cells /\ cells <= 1000 /\ n <= 2000000) : VC_areClues cols cells n a e (doorK a e (allC a cols cells n)) := by
 unfold VC_areClues
 obtain ⟨h0, h1, h2, h3, h4, h5⟩ := h
 refine ⟨by simp, ⟨h0, h1, h2, h3, h4, h5, by omega, by omega, rfl⟩, fun i hi => ⟨fun hc => ?_, fun hc => ?_⟩⟩
 ·have hc := of_decide_eq_true hc
  obtain ⟨_, _, _, _, _, _, g1, g2, g3⟩ := hi
  refine ⟨⟨g1, hc⟩, ⟨by omega⟩, ⟨h1, h2, h3, h4⟩, fun ho => ⟨by simp, ⟨⟨h0, h1, h2, h3, h4, h5, ?_, ?_, ?_⟩, ?_⟩⟩, fun ho => ?_⟩
  ·rw [wrap64_in (by omega)]; omega
  ·rw [wrap64_in (by omega)]; omega
  ·rw [wrap64_in (by omega), show (i + 1).toNat = i.toNat + 1 by omega]
   simp only [allC, Bool.and_eq_true]
   exact ⟨g3, ho⟩
  ·rw [wrap64_in (by omega)]; omega
  ·refine ⟨allC_false (i := i.toNat) (by omega) (by simpa [cluAt] using ho), ⟨_, _, _, rfl⟩, ?_⟩
   simp [leSt, doorSt, clB, bxB, leL, leV, leMem, leCells, chkB, underL, memUnder, V.under, List.replicate]
   exact trivial
 ·have hc := of_decide_eq_false hc
  obtain ⟨_, _, _, _, _, _, g1, g2, g3⟩ := hi
  refine ⟨?_, ?_⟩
  ·rw [<- g3, show i.toNat = n by omega]
  ·simp [leSt, doorSt, clB, bxB, leL, leV, leMem, leCells, chkB, underL, memUnder, V.under, List.replicate]
   exact trivial
theorem vc_catch (k x y : Int) (b o : Bool) (n : Nat) (a : List Int) (e : TypeId) : VC_catch k x y b o n a e (.rows 3) (catchK a e b) := by
 unfold VC_catch
 refine ⟨rfl, ?_⟩
 simp [leSt, clB, bxB, leL, leV, leMem, leCells, chkB, underL, memUnder, V.under, List.replicate]
end Go.Vi
