/- Rules: what the two functions that ask for a rule answer. -/
import Derived.Test.YtccahaefpbkelaaVig
namespace Go.Vi
def signB (c : UInt8) : Bool := c == 76 || c == 82 || c == 78 || c == 85
def ruleB (l : List UInt8) : Bool := decide (1 ≤ l.length) && decide (l.length ≤ 6) && l.all signB
def ruleInv (s : List UInt8) (i : Int) : Prop := 0 ≤ i ∧ i ≤ s.length ∧ 1 ≤ s.length ∧ s.length ≤ 6 ∧ (s.take i.toNat).all signB = true
theorem wrap64_in {x : Int} (h : -9223372036854775808 ≤ x ∧ x ≤ 9223372036854775807) : IntKind.wrap .i64 x = x := IntWalk.i64_in _ (by omega)
theorem all_take_succ {p : UInt8 → Bool} {l : List UInt8} {i : Nat} (h : i < l.length) : (l.take (i + 1)).all p = ((l.take i).all p && p (l.getD i 0)) := by
  rw [List.take_succ_eq_append_getElem h, List.all_append]
  simp [List.getD_eq_getElem?_getD, List.getElem?_eq_getElem h]
def VC_implIsRule (s : List UInt8) (K : V → List Blk → Prop) : Prop :=
  (decide ((1 : Int) ≤ (↑(List.length s) : Int)) = true →
    ((!decide ((↑(List.length s) : Int) ≤ (6 : Int))) = true → K (V.lit false) []) ∧
      ((!decide ((↑(List.length s) : Int) ≤ (6 : Int))) = false →
        ((s = s ∧
              (IntKind.i64 = IntKind.i64 ∧ (↑(List.length s) : Int) = (↑(List.length s) : Int)) ∧
                (IntKind.i64 = IntKind.i64 ∧ (0 : Int) = (0 : Int)) ∧ True) ∧
            True ∧ True) ∧
          At (ruleInv s (0 : Int)) ∧
            ∀ (a : Int),
              ruleInv s a →
                (decide (a < (↑(List.length s) : Int)) = true →
                    At ((0 : Int) ≤ a ∧ a < (↑(List.length s) : Int)) ∧
                      (((↑(UInt8.toNat (List.getD s (Int.toNat a) (0 : UInt8))) : Int) == (76 : Int)) = true →
                          ((s = s ∧
                                (IntKind.i64 = IntKind.i64 ∧ (↑(List.length s) : Int) = (↑(List.length s) : Int)) ∧
                                  (IntKind.i64 = IntKind.i64 ∧
                                      IntKind.wrap IntKind.i64 (a + (1 : Int)) =
                                        IntKind.wrap IntKind.i64 (a + (1 : Int))) ∧
                                    True) ∧
                              True ∧ True) ∧
                            At
                              (ruleInv s (IntKind.wrap IntKind.i64 (a + (1 : Int))) ∧
                                Int.toNat ((↑(List.length s) : Int) - IntKind.wrap IntKind.i64 (a + (1 : Int))) <
                                  Int.toNat ((↑(List.length s) : Int) - a))) ∧
                        (((↑(UInt8.toNat (List.getD s (Int.toNat a) (0 : UInt8))) : Int) == (76 : Int)) = false →
                          (((↑(UInt8.toNat (List.getD s (Int.toNat a) (0 : UInt8))) : Int) == (82 : Int)) = true →
                              ((s = s ∧
                                    (IntKind.i64 = IntKind.i64 ∧ (↑(List.length s) : Int) = (↑(List.length s) : Int)) ∧
                                      (IntKind.i64 = IntKind.i64 ∧
                                          IntKind.wrap IntKind.i64 (a + (1 : Int)) =
                                            IntKind.wrap IntKind.i64 (a + (1 : Int))) ∧
                                        True) ∧
                                  True ∧ True) ∧
                                At
                                  (ruleInv s (IntKind.wrap IntKind.i64 (a + (1 : Int))) ∧
                                    Int.toNat ((↑(List.length s) : Int) - IntKind.wrap IntKind.i64 (a + (1 : Int))) <
                                      Int.toNat ((↑(List.length s) : Int) - a))) ∧
                            (((↑(UInt8.toNat (List.getD s (Int.toNat a) (0 : UInt8))) : Int) == (82 : Int)) = false →
                              (((↑(UInt8.toNat (List.getD s (Int.toNat a) (0 : UInt8))) : Int) == (78 : Int)) = true →
                                  ((s = s ∧
                                        (IntKind.i64 = IntKind.i64 ∧
                                            (↑(List.length s) : Int) = (↑(List.length s) : Int)) ∧
                                          (IntKind.i64 = IntKind.i64 ∧
                                              IntKind.wrap IntKind.i64 (a + (1 : Int)) =
                                                IntKind.wrap IntKind.i64 (a + (1 : Int))) ∧
                                            True) ∧
                                      True ∧ True) ∧
                                    At
                                      (ruleInv s (IntKind.wrap IntKind.i64 (a + (1 : Int))) ∧
                                        Int.toNat
                                            ((↑(List.length s) : Int) - IntKind.wrap IntKind.i64 (a + (1 : Int))) <
                                          Int.toNat ((↑(List.length s) : Int) - a))) ∧
                                (((↑(UInt8.toNat (List.getD s (Int.toNat a) (0 : UInt8))) : Int) == (78 : Int)) =
                                    false →
                                  ((!(↑(UInt8.toNat (List.getD s (Int.toNat a) (0 : UInt8))) : Int) == (85 : Int)) =
                                        true →
                                      K (V.lit false) []) ∧
                                    ((!(↑(UInt8.toNat (List.getD s (Int.toNat a) (0 : UInt8))) : Int) == (85 : Int)) =
                                        false →
                                      ((s = s ∧
                                            (IntKind.i64 = IntKind.i64 ∧
                                                (↑(List.length s) : Int) = (↑(List.length s) : Int)) ∧
                                              (IntKind.i64 = IntKind.i64 ∧
                                                  IntKind.wrap IntKind.i64 (a + (1 : Int)) =
                                                    IntKind.wrap IntKind.i64 (a + (1 : Int))) ∧
                                                True) ∧
                                          True ∧ True) ∧
                                        At
                                          (ruleInv s (IntKind.wrap IntKind.i64 (a + (1 : Int))) ∧
                                            Int.toNat
                                                ((↑(List.length s) : Int) - IntKind.wrap IntKind.i64 (a + (1 : Int))) <
                                              Int.toNat ((↑(List.length s) : Int) - a))))))) ∧
                  (decide (a < (↑(List.length s) : Int)) = false → K (V.lit true) []))) ∧
  (decide ((1 : Int) ≤ (↑(List.length s) : Int)) = false → K (V.lit false) [])
def VC_woRule (s : List UInt8) (K : V → List Blk → Prop) : Prop :=
  (decide ((↑(List.length s) : Int) ≥ (1 : Int)) = true →
    ((!decide ((↑(List.length s) : Int) ≤ (6 : Int))) = true → K (V.lit false) []) ∧
      ((!decide ((↑(List.length s) : Int) ≤ (6 : Int))) = false →
        ((s = s ∧ (IntKind.i64 = IntKind.i64 ∧ (0 : Int) = (0 : Int)) ∧ True) ∧ True ∧ True) ∧
          At (ruleInv s (0 : Int)) ∧
            ∀ (a : Int),
              ruleInv s a →
                (decide (a < (↑(List.length s) : Int)) = true →
                    At ((0 : Int) ≤ a ∧ a < (↑(List.length s) : Int)) ∧
                      (((↑(UInt8.toNat (List.getD s (Int.toNat a) (0 : UInt8))) : Int) == (76 : Int)) = true →
                          ((s = s ∧
                                (IntKind.i64 = IntKind.i64 ∧
                                    IntKind.wrap IntKind.i64 (a + (1 : Int)) =
                                      IntKind.wrap IntKind.i64 (a + (1 : Int))) ∧
                                  True) ∧
                              True ∧ True) ∧
                            At
                              (ruleInv s (IntKind.wrap IntKind.i64 (a + (1 : Int))) ∧
                                Int.toNat ((↑(List.length s) : Int) - IntKind.wrap IntKind.i64 (a + (1 : Int))) <
                                  Int.toNat ((↑(List.length s) : Int) - a))) ∧
                        (((↑(UInt8.toNat (List.getD s (Int.toNat a) (0 : UInt8))) : Int) == (76 : Int)) = false →
                          (((↑(UInt8.toNat (List.getD s (Int.toNat a) (0 : UInt8))) : Int) == (82 : Int)) = true →
                              ((s = s ∧
                                    (IntKind.i64 = IntKind.i64 ∧
                                        IntKind.wrap IntKind.i64 (a + (1 : Int)) =
                                          IntKind.wrap IntKind.i64 (a + (1 : Int))) ∧
                                      True) ∧
                                  True ∧ True) ∧
                                At
                                  (ruleInv s (IntKind.wrap IntKind.i64 (a + (1 : Int))) ∧
                                    Int.toNat ((↑(List.length s) : Int) - IntKind.wrap IntKind.i64 (a + (1 : Int))) <
                                      Int.toNat ((↑(List.length s) : Int) - a))) ∧
                            (((↑(UInt8.toNat (List.getD s (Int.toNat a) (0 : UInt8))) : Int) == (82 : Int)) = false →
                              (((↑(UInt8.toNat (List.getD s (Int.toNat a) (0 : UInt8))) : Int) == (78 : Int)) = true →
                                  ((s = s ∧
                                        (IntKind.i64 = IntKind.i64 ∧
                                            IntKind.wrap IntKind.i64 (a + (1 : Int)) =
                                              IntKind.wrap IntKind.i64 (a + (1 : Int))) ∧
                                          True) ∧
                                      True ∧ True) ∧
                                    At
                                      (ruleInv s (IntKind.wrap IntKind.i64 (a + (1 : Int))) ∧
                                        Int.toNat
                                            ((↑(List.length s) : Int) - IntKind.wrap IntKind.i64 (a + (1 : Int))) <
                                          Int.toNat ((↑(List.length s) : Int) - a))) ∧
                                (((↑(UInt8.toNat (List.getD s (Int.toNat a) (0 : UInt8))) : Int) == (78 : Int)) =
                                    false →
                                  (((↑(UInt8.toNat (List.getD s (Int.toNat a) (0 : UInt8))) : Int) == (85 : Int)) =
                                        true →
                                      ((s = s ∧
                                            (IntKind.i64 = IntKind.i64 ∧
                                                IntKind.wrap IntKind.i64 (a + (1 : Int)) =
                                                  IntKind.wrap IntKind.i64 (a + (1 : Int))) ∧
                                              True) ∧
                                          True ∧ True) ∧
                                        At
                                          (ruleInv s (IntKind.wrap IntKind.i64 (a + (1 : Int))) ∧
                                            Int.toNat
                                                ((↑(List.length s) : Int) - IntKind.wrap IntKind.i64 (a + (1 : Int))) <
                                              Int.toNat ((↑(List.length s) : Int) - a))) ∧
                                    (((↑(UInt8.toNat (List.getD s (Int.toNat a) (0 : UInt8))) : Int) == (85 : Int)) =
                                        false →
                                      K (V.lit false) []))))) ∧
                  (decide (a < (↑(List.length s) : Int)) = false → K (V.lit true) []))) ∧
  (decide ((↑(List.length s) : Int) ≥ (1 : Int)) = false → K (V.lit false) [])
def signI (n : Int) : Bool := n == 76 || n == 82 || n == 78 || n == 85
theorem signI_toNat (c : UInt8) : signI c.toNat = signB c := by
  have h : ∀ n : Nat, n < 256 → (((c.toNat : Int) == (n : Int)) = (c == UInt8.ofNat n)) := fun n hn => by
    rw [Bool.eq_iff_iff]
    simp only [beq_iff_eq, ← UInt8.toNat_inj, UInt8.toNat_ofNat']
    omega
  have h1 := h 76 (by omega); have h2 := h 82 (by omega); have h3 := h 78 (by omega); have h4 := h 85 (by omega)
  unfold signI signB
  exact congr (congrArg _ (congr (congrArg _ (congr (congrArg _ h1) h2)) h3)) h4
theorem ruleInv_step {s : List UInt8} {i : Int} (h : ruleInv s i) (hi : i < s.length) (hc : signB (s.getD i.toNat 0) = true) :
    ruleInv s (IntKind.wrap .i64 (i + 1)) ∧ ((s.length : Int) - IntKind.wrap .i64 (i + 1)).toNat < ((s.length : Int) - i).toNat := by
  obtain ⟨h0, h1, h2, h3, h4⟩ := h
  rw [wrap64_in (by omega)]
  refine ⟨⟨by omega, by omega, h2, h3, ?_⟩, by omega⟩
  rw [show (i + 1).toNat = i.toNat + 1 by omega, all_take_succ (by omega), h4, hc]
  rfl
theorem rule_long {s : List UInt8} (h : ¬ (s.length : Int) ≤ 6) : ruleB s = false := by
  unfold ruleB; simp only [Bool.and_eq_false_iff, decide_eq_false_iff_not]; omega
theorem rule_short {s : List UInt8} (h : ¬ 1 ≤ (s.length : Int)) : ruleB s = false := by
  unfold ruleB; simp only [Bool.and_eq_false_iff, decide_eq_false_iff_not]; omega
theorem rule_bad {s : List UInt8} {i : Int} (h : ruleInv s i) (hi : i < s.length) (hc : signB (s.getD i.toNat 0) = false) : ruleB s = false := by
  obtain ⟨h0, h1, h2, h3, h4⟩ := h
  have hlt : i.toNat < s.length := by omega
  unfold ruleB
  have : s.all signB = false := by
    rw [List.all_eq_false]
    refine ⟨s[i.toNat], List.getElem_mem hlt, ?_⟩
    rw [List.getD_eq_getElem?_getD, List.getElem?_eq_getElem hlt] at hc
    simpa using hc
  simp [this]
theorem rule_done {s : List UInt8} {i : Int} (h : ruleInv s i) (hi : ¬ i < s.length) : ruleB s = true := by
  obtain ⟨h0, h1, h2, h3, h4⟩ := h
  rw [List.take_of_length_le (by omega)] at h4
  unfold ruleB
  simp [h4, h2, h3]
theorem rule_start {s : List UInt8} (h1 : 1 ≤ (s.length : Int)) (h2 : (s.length : Int) ≤ 6) : ruleInv s 0 := ⟨by omega, by omega, by omega, by omega, by simp⟩
theorem vc_implIsRule (s : List UInt8) : VC_implIsRule s (retV (.bool (ruleB s))) := by
  unfold VC_implIsRule
  simp only [at_iff, retV_lit, decide_eq_true_eq, decide_eq_false_iff_not, and_true, true_and, Bool.not_eq_true', Bool.not_eq_false']
  refine ⟨fun h1 => ⟨fun h2 => (rule_long h2).symm, fun h2 => ⟨rule_start h1 h2, fun i hi => ⟨fun hlt => ⟨⟨hi.1, hlt⟩, ?_⟩, fun hge => (rule_done hi hge).symm⟩⟩⟩, fun h => (rule_short h).symm⟩
  have hs := signI_toNat (s.getD i.toNat 0)
  unfold signI at hs
  have yes := fun h => ruleInv_step hi hlt h
  have no := fun h => (rule_bad hi hlt h).symm
  rw [← hs] at yes no
  generalize ((s.getD i.toNat 0).toNat : Int) = c at *
  cases h1 : c == 76 <;> cases h2 : c == 82 <;> cases h3 : c == 78 <;> cases h4 : c == 85 <;> simp_all
theorem vc_woRule (s : List UInt8) : VC_woRule s (retV (.bool (ruleB s))) := by
  unfold VC_woRule
  simp only [at_iff, retV_lit, decide_eq_true_eq, decide_eq_false_iff_not, and_true, true_and, Bool.not_eq_true', Bool.not_eq_false', ge_iff_le]
  refine ⟨fun h1 => ⟨fun h2 => (rule_long h2).symm, fun h2 => ⟨rule_start h1 h2, fun i hi => ⟨fun hlt => ⟨⟨hi.1, hlt⟩, ?_⟩, fun hge => (rule_done hi hge).symm⟩⟩⟩, fun h => (rule_short h).symm⟩
  have hs := signI_toNat (s.getD i.toNat 0)
  unfold signI at hs
  have yes := fun h => ruleInv_step hi hlt h
  have no := fun h => (rule_bad hi hlt h).symm
  rw [← hs] at yes no
  generalize ((s.getD i.toNat 0).toNat : Int) = c at *
  cases h1 : c == 76 <;> cases h2 : c == 82 <;> cases h3 : c == 78 <;> cases h4 : c == 85 <;> simp_all
def S_rule : VSpec := fun args m k =>
  match args, m with
  | [.str s], [] => k (.bool (ruleB s)) []
  | _, _ => False
def ann_woRule : Nat → St → Option Ann := fun _ st =>
  match strAt st 0 with
  | some s => some { α := Int, find := fun st => intAt st 3, head := fun i => only st [(0, .str s), (3, .int .i64 i)], inv := fun i => ruleInv s i, meas := fun i => (s.length - i).toNat }
  | none => none
def ann_implIsRule : Nat → St → Option Ann := fun _ st =>
  match strAt st 0 with
  | some s => some { α := Int, find := fun st => intAt st 10, head := fun i => only st [(0, .str s), (9, .int .i64 s.length), (10, .int .i64 i)], inv := fun i => ruleInv s i, meas := fun i => (s.length - i).toNat }
  | none => none
end Go.Vi
