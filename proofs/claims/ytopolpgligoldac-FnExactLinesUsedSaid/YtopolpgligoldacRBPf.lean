/- How the laws mark routes, rings: the conditions hold. -/
import Derived.Test.YtopolpgligoldacRBVc
import Derived.Test.YtopolpgligoldacRBSpec
namespace Go.Vi
theorem ramp_len (k : Int) (n : Nat) : (ramp k n).length = n := by simp [ramp]
theorem ramp_succ (k : Int) (n : Nat) : ramp k (n + 1) = ramp k n ++ [k + (n : Int)] := by simp [ramp, List.range_succ]
theorem mrkRow_len {a : List Int} {k : Int} {i : Nat} (h : i ≤ a.length) : (mrkRow a k i).length = a.length := by
  simp only [mrkRow, List.length_append, ramp_len, List.length_drop]
  omega
theorem mrkRow_set {a : List Int} {k v : Int} {i : Nat} (h : i < a.length) (hv : v = k + (i : Int)) : (mrkRow a k i).set i v = mrkRow a k (i + 1) := by
  subst hv
  unfold mrkRow
  rw [List.set_append_right _ _ (by rw [ramp_len]; exact Nat.le_refl _), ramp_len, Nat.sub_self, List.drop_eq_getElem_cons h, List.set_cons_zero, ramp_succ, List.append_assoc]
  rfl
theorem retG_w1 {q r : Int} {a b : List Int} {e : TypeId} {k : Kind} {J : List Blk} (h : q = r) (hb : b = a) : retG 1 (.int .i64 r) [⟨.ints .i64 a, e, k⟩] (.int .i64 q) (⟨.ints .i64 b, e, k⟩ :: J) := by
  subst hb; exact retG_a1 h
theorem retG_wm1 {q r : Int} {a b : List (List Int)} {d e : TypeId} {k : Kind} {J : List Blk} (h : q = r) (hb : b = a) : retG 1 (.int .i64 r) [⟨.mat .i64 d a, e, k⟩] (.int .i64 q) (⟨.mat .i64 d b, e, k⟩ :: J) := by
  subst hb; exact retG_m1 h
theorem vc_laws_markIntS (k : Int) (n : Nat) (a : List Int) (h : a.length = n ∧ n ≤ 2000000 ∧ 0 ≤ k ∧ k ≤ 1000000000000000) : VC_laws_markIntS k n a (retG 1 (.int .i64 (k + (n : Nat))) [⟨.ints .i64 (ramp k n), 3, .row⟩]) := by
  obtain ⟨rfl, h1, h2, h3⟩ := h
  unfold VC_laws_markIntS
  refine ⟨by simp [mrkRow, ramp], ⟨by omega, by omega⟩, fun i hi => ⟨fun hc => ?_, fun hc => ?_⟩⟩
  · have hc := of_decide_eq_true hc
    obtain ⟨g1, g2⟩ := hi
    rw [wrap64_in (x := i + 1) (by omega), wrap64_in (x := k + i + 1) (by omega), mrkRow_set (by omega) (show k + i = k + ((i.toNat : Nat) : Int) by omega), mrkRow_len (by omega), show (i + 1).toNat = i.toNat + 1 by omega]
    refine ⟨⟨g1, hc⟩, ⟨by omega⟩, ⟨⟨⟨rfl, rfl⟩, ⟨trivial, by omega⟩, ⟨trivial, rfl⟩, trivial⟩, ⟨⟨trivial, rfl, rfl⟩, trivial⟩, trivial⟩, ⟨⟨by omega, by omega⟩, by omega⟩⟩
  · have hc := of_decide_eq_false hc
    obtain ⟨g1, g2⟩ := hi
    have e : i.toNat = a.length := by omega
    refine retG_w1 (by omega) ?_
    unfold mrkRow
    rw [e, List.drop_length, List.append_nil]
/-! ### rows of rows -/
theorem totL_append : ∀ a b : List (List Int), totL (a ++ b) = totL a + totL b
  | [], b => by simp [totL]
  | r :: a, b => by simp only [List.cons_append, totL, totL_append a b]; omega
theorem rampM_append : ∀ (k : Int) (a b : List (List Int)), rampM k (a ++ b) = rampM k a ++ rampM (k + (totL a : Nat)) b
  | k, [], b => by simp [rampM, totL]
  | k, r :: a, b => by
    simp only [List.cons_append, rampM, totL, rampM_append (k + (r.length : Nat)) a b, List.cons.injEq, true_and]
    congr 2
    omega
theorem rampM_len : ∀ (k : Int) (l : List (List Int)), (rampM k l).length = l.length
  | _, [] => rfl
  | k, r :: l => by simp [rampM, rampM_len (k + (r.length : Nat)) l]
theorem totL_bd : ∀ {l : List (List Int)} {c : Nat}, (∀ r ∈ l, r.length ≤ c) → totL l ≤ l.length * c
  | [], c, _ => by simp [totL]
  | r :: l, c, h => by
    have h1 := h r (by simp)
    have h2 := totL_bd (l := l) (c := c) fun q hq => h q (by simp [hq])
    simp only [totL, List.length_cons, Nat.succ_mul]
    omega
theorem totL_small {l : List (List Int)} (h : smallM l) : totL l ≤ 4000000000000 := by
  have h1 := totL_bd h.2
  have h2 : l.length * 2000000 ≤ 2000000 * 2000000 := Nat.mul_le_mul_right _ h.1
  omega
theorem totL_take {l : List (List Int)} {i : Nat} (h : i < l.length) : totL (l.take (i + 1)) = totL (l.take i) + (l.getD i []).length := by
  rw [take_snoc h [], totL_append]
  simp [totL]
theorem totL_le (l : List (List Int)) (i : Nat) : totL (l.take i) ≤ totL l := by
  have := totL_append (l.take i) (l.drop i)
  rw [List.take_append_drop] at this
  omega
theorem rampM_take {l : List (List Int)} {k : Int} {i : Nat} (h : i < l.length) : rampM k (l.take (i + 1)) = rampM k (l.take i) ++ [ramp (k + (totL (l.take i) : Nat)) (l.getD i []).length] := by
  rw [take_snoc h [], rampM_append]
  rfl
theorem mrkMat_len {l : List (List Int)} {k : Int} {i : Nat} (h : i ≤ l.length) : (mrkMat l k i).length = l.length := by
  simp only [mrkMat, List.length_append, rampM_len, List.length_take, List.length_drop]
  omega
theorem mrkMat_get {l : List (List Int)} {k : Int} {i : Nat} (h : i < l.length) : (mrkMat l k i).getD i [] = l.getD i [] := by
  have hl : (rampM k (l.take i)).length = i := by rw [rampM_len, List.length_take]; omega
  unfold mrkMat
  rw [List.getD_eq_getElem?_getD, List.getElem?_append_right (by omega), hl, Nat.sub_self, List.getElem?_drop, Nat.add_zero, ← List.getD_eq_getElem?_getD]
theorem mrkMat_set {l : List (List Int)} {k : Int} {i : Nat} (h : i < l.length) : (mrkMat l k i).set i (ramp (k + (totL (l.take i) : Nat)) (l.getD i []).length) = mrkMat l k (i + 1) := by
  have hl : (rampM k (l.take i)).length = i := by rw [rampM_len, List.length_take]; omega
  unfold mrkMat
  rw [List.set_append_right _ _ (by omega), hl, Nat.sub_self, drop_cons h [], List.set_cons_zero, rampM_take h, List.append_assoc]
  rfl
theorem vc_laws_markIntSS (k : Int) (n : Nat) (l : List (List Int)) (h : l.length = n ∧ smallM l ∧ 0 ≤ k ∧ k ≤ 1000000) : VC_laws_markIntSS k n l (retG 1 (.int .i64 (k + (totL l : Nat))) [⟨.mat .i64 3 (rampM k l), 23, .mat⟩]) := by
  obtain ⟨rfl, h1, h2, h3⟩ := h
  have hsz := h1.1
  have htot := totL_small h1
  unfold VC_laws_markIntSS
  refine ⟨by simp [mrkMat, rampM, totL], ⟨by omega, by omega⟩, fun i hi => ⟨fun hc => ?_, fun hc => ?_⟩⟩
  · have hc := of_decide_eq_true hc
    obtain ⟨g1, g2⟩ := hi
    have hil : i.toNat < l.length := by omega
    have hle := totL_le l i.toNat
    rw [wrap64_in (x := i + 1) (by omega), mrkMat_get hil, mrkMat_set hil, mrkMat_len (by omega), show (i + 1).toNat = i.toNat + 1 by omega, totL_take hil, ramp_len]
    refine ⟨⟨g1, hc⟩, ⟨hil⟩, ⟨rfl, h1.2 _ (getD_mem hil []), by omega, by omega⟩, ⟨rfl⟩, ⟨⟨⟨rfl, rfl⟩, ⟨trivial, by omega⟩, ⟨trivial, rfl⟩, trivial⟩, ⟨⟨trivial, trivial, rfl⟩, trivial⟩, trivial⟩, ⟨⟨by omega, by omega⟩, by omega⟩⟩
  · have hc := of_decide_eq_false hc
    obtain ⟨g1, g2⟩ := hi
    have e : i.toNat = l.length := by omega
    refine retG_wm1 ?_ ?_
    · rw [e, List.take_length]
    · unfold mrkMat
      rw [e, List.drop_length, List.append_nil, List.take_length]
theorem vc_laws_markRoute (k : Int) (n m : Nat) (l : List (List Int)) (ro : List Int) (h : l.length = n ∧ ro.length = m ∧ smallM l ∧ m ≤ 2000000 ∧ 0 ≤ k ∧ k ≤ 1000) :
    VC_laws_markRoute k n m l ro (retG 2 (.int .i64 (k + (totL l : Nat) + (m : Nat))) [⟨.mat .i64 3 (rampM k l), 23, .mat⟩, ⟨.ints .i64 (ramp (k + (totL l : Nat)) m), 3, .row⟩]) := by
  obtain ⟨h1, h2, h3, h4, h5, h6⟩ := h
  have htot := totL_small h3
  unfold VC_laws_markRoute
  exact ⟨⟨h1, h3, h5, by omega⟩, ⟨h2, h4, by omega, by omega⟩, retG_r2i rfl⟩
theorem vc_laws_heldIntS (q : Int) (n : Nat) (a : List Int) (e : TypeId) (k : Kind) (h : a.length = n ∧ n ≤ 2000000 ∧ 0 ≤ q ∧ q ≤ 1000000000000000) : VC_laws_heldIntS q n a e k (retG 1 (.int .i64 (bif a == ramp q n then q + (n : Nat) else -1)) [⟨.ints .i64 a, e, k⟩]) := by
  obtain ⟨rfl, h1, h2, h3⟩ := h
  unfold VC_laws_heldIntS
  refine ⟨⟨by simp, ⟨⟨ek_refl e k, rfl, rfl⟩, trivial⟩, trivial⟩, ⟨⟨by omega, by omega⟩, by simp [ramp]⟩, fun i ⟨⟨g1, g2⟩, g3⟩ => ⟨fun hc => ?_, fun hc => retG_a1 ?_⟩⟩
  · have hc := of_decide_eq_true hc
    have hil : i.toNat < a.length := by omega
    rw [wrap64_in (x := i + 1) (by omega), wrap64_in (x := q + i + 1) (by omega)]
    refine ⟨⟨g1, hc⟩, ⟨hil⟩, fun hn => retG_a1 ?_, fun hy => ⟨⟨⟨⟨rfl, rfl⟩, ⟨trivial, by omega⟩, ⟨trivial, rfl⟩, trivial⟩, ⟨⟨ek_refl e k, rfl, rfl⟩, trivial⟩, trivial⟩, ⟨⟨⟨by omega, by omega⟩, ?_⟩, by omega⟩⟩⟩
    · have hne : (a == ramp q a.length) = false := by
        refine ne_at (i := i.toNat) (d := 0) ?_
        rw [show (ramp q a.length).getD i.toNat 0 = q + i by
          simp [ramp, List.getD_eq_getElem?_getD, hil]
          omega]
        simpa [bne] using hn
      rw [hne]; rfl
    · simp only [bne_eq_false_iff_eq] at hy
      rw [show (i + 1).toNat = i.toNat + 1 by omega, take_snoc hil 0, ramp_succ, g3, hy, show q + ((i.toNat : Nat) : Int) = q + i by omega]
  · have hc := of_decide_eq_false hc
    have e : i.toNat = a.length := by omega
    rw [e, List.take_length] at g3
    rw [← g3]
    simp
    omega
theorem held_row {a : List Int} {q : Int} (hq : 0 ≤ q) : decide ((bif a == ramp q a.length then q + (a.length : Nat) else (-1 : Int)) < 0) = !(a == ramp q a.length) := by
  cases h : a == ramp q a.length with
  | true => simp only [cond_true, Bool.not_true, decide_eq_false_iff_not]; omega
  | false => rfl
theorem vc_laws_heldIntSS (q : Int) (n : Nat) (l : List (List Int)) (h : l.length = n ∧ smallM l ∧ 0 ≤ q ∧ q ≤ 1000000) : VC_laws_heldIntSS q n l (retG 1 (.int .i64 (bif l == rampM q l then q + (totL l : Nat) else -1)) [⟨.mat .i64 3 l, 23, .mat⟩]) := by
  obtain ⟨rfl, h1, h2, h3⟩ := h
  have hsz := h1.1
  have htot := totL_small h1
  unfold VC_laws_heldIntSS
  refine ⟨by simp [totL], ⟨⟨by omega, by omega⟩, by simp [rampM]⟩, fun i ⟨⟨g1, g2⟩, g3⟩ => ⟨fun hc => ?_, fun hc => retG_m1 ?_⟩⟩
  · have hc := of_decide_eq_true hc
    have hil : i.toNat < l.length := by omega
    have hle := totL_le l i.toNat
    have hrt := rampM_take (k := q) hil
    rw [wrap64_in (x := i + 1) (by omega), show (i + 1).toNat = i.toNat + 1 by omega, totL_take hil, held_row (by omega)]
    refine ⟨⟨g1, hc⟩, ⟨hil⟩, ⟨rfl, h1.2 _ (getD_mem hil []), by omega, by omega⟩, fun hn => retG_m1 ?_, fun hy => ?_⟩
    · simp only [Bool.not_eq_true', beq_eq_false_iff_ne, ne_eq] at hn
      have hne : (l == rampM q l) = false := by
        rw [beq_eq_false_iff_ne]
        intro he
        refine hn ?_
        have h4 : rampM q l = rampM q (l.take (i.toNat + 1)) ++ rampM (q + (totL (l.take (i.toNat + 1)) : Nat)) (l.drop (i.toNat + 1)) := by rw [← rampM_append, List.take_append_drop]
        have hlen : (rampM q (l.take i.toNat)).length = i.toNat := by rw [rampM_len, List.length_take]; omega
        rw [hrt] at h4
        have h5 : l[i.toNat]? = some (ramp (q + (totL (l.take i.toNat) : Nat)) (l.getD i.toNat []).length) := by
          conv => lhs; rw [he, h4]
          rw [List.append_assoc, List.getElem?_append_right (by omega), hlen, Nat.sub_self]
          rfl
        conv => lhs; rw [List.getD_eq_getElem?_getD, h5]
        rfl
      rw [hne]; rfl
    · simp only [Bool.not_eq_false', beq_iff_eq] at hy
      rw [← hy]
      refine ⟨⟨⟨rfl, rfl⟩, ⟨trivial, by simp; omega⟩, ⟨trivial, rfl⟩, trivial⟩, ⟨⟨trivial, trivial, rfl⟩, trivial⟩, trivial⟩ |> fun z => ⟨z, ⟨⟨⟨by omega, by omega⟩, ?_⟩, by omega⟩⟩
      rw [show (i + 1).toNat = i.toNat + 1 by omega, hrt, ← g3, ← hy, ← take_snoc hil]
  · have hc := of_decide_eq_false hc
    have e : i.toNat = l.length := by omega
    rw [e, List.take_length] at g3 ⊢
    rw [← g3]
    simp
theorem vc_laws_heldRoute (q : Int) (n m : Nat) (l : List (List Int)) (ro : List Int) (h : l.length = n ∧ ro.length = m ∧ smallM l ∧ m ≤ 2000000 ∧ 0 ≤ q ∧ q ≤ 1000) :
    VC_laws_heldRoute q n m l ro (retG 2 (.int .i64 (bif l == rampM q l && ro == ramp (q + (totL l : Nat)) m then q + (totL l : Nat) + (m : Nat) else -1)) [⟨.mat .i64 3 l, 23, .mat⟩, ⟨.ints .i64 ro, 3, .row⟩]) := by
  obtain ⟨h1, h2, h3, h4, h5, h6⟩ := h
  have htot := totL_small h3
  unfold VC_laws_heldRoute
  cases hb : l == rampM q l with
  | false => exact ⟨⟨h1, h3, h5, by omega⟩, fun _ => retG_r2i rfl, fun hn => by simp at hn⟩
  | true =>
    simp only [cond_true, Bool.true_and]
    refine ⟨⟨h1, h3, h5, by omega⟩, fun hn => ?_, fun _ => ⟨⟨h2, h4, by omega, by omega⟩, fun hn => retG_r2i ?_, fun hn => retG_r2i rfl⟩⟩
    · have := of_decide_eq_true hn; omega
    · cases hr : ro == ramp (q + (totL l : Nat)) m with
      | false => rfl
      | true =>
        have hn := of_decide_eq_true hn
        simp only [hr, cond_true] at hn
        omega
/-! ### rings -/
theorem ringM_succ (n : Int) (m : Nat) : ringM n (m + 1) = ringM n m ++ [ringRow n m] := by simp [ringM, List.range_succ]
theorem ringM_len (n : Int) (m : Nat) : (ringM n m).length = m := by simp [ringM]
theorem ringN_no {nodes : Int} (h : inB nodes 1 10 = false) : ringN nodes = 0 := by unfold ringN; rw [h]; rfl
theorem ringN_yes {nodes : Int} (h : inB nodes 1 10 = true) : ringN nodes = nodes.toNat := by unfold ringN; rw [h]; rfl
theorem retG_rty {l c : List (List Int)} {r d : List Int} {b : Bool} {n m u v : Nat} {et e f : TypeId} {B0 B1 : Blk} (h : b = true) (hl : l = c) (hr : r = d) (hn : n = u) (hm : m = v) :
    retG 0 (.tup [.agg [.row 0 u, .row 1 v], .bool b]) [⟨.mat .i64 et c, e, .mat⟩, ⟨.ints .i64 d, f, .row⟩] (.tup [.agg [.row 2 n, .row 3 m], .lit true]) [B0, B1, ⟨.mat .i64 et l, e, .mat⟩, ⟨.ints .i64 r, f, .row⟩] := by
  subst h; subst hl; subst hr; subst hn; subst hm
  unfold retG leSel leSelBy autoSel
  simp [pairsL, pairsV, idPairs, pairsIn, selOf, lookN, findSel, selMem, chkB, nodupSel, hasSel, prefSel, leSt, leL, leV, nilToL, V.nilTo, isNilS, isGhost, selL, V.sel, Cells.selN, leMem, leCells, memUnder, underL, V.under]
  trivial
theorem retG_rtn {c : List (List Int)} {d : List Int} {b : Bool} {u v : Nat} {et e f : TypeId} {B0 : Blk} (h : b = false) (hl : c = []) (hr : d = []) (hn : u = 0) (hm : v = 0) :
    retG 0 (.tup [.agg [.row 0 u, .row 1 v], .bool b]) [⟨.mat .i64 et c, e, .mat⟩, ⟨.ints .i64 d, f, .row⟩] (.tup [.agg [.raw (.slice none 0 0), .raw (.slice none 0 0)], .lit false]) [B0] := by
  subst h; subst hl; subst hr; subst hn; subst hm
  unfold retG leSel leSelBy autoSel
  simp [pairsL, pairsV, idPairs, pairsIn, selOf, lookN, selMem, chkB, nodupSel, prefSel, leSt, leL, leV, nilToL, V.nilTo, isNilS, isGhost, selL, V.sel, Cells.none0, Kind.isRow, Blk.isOwnMat, leMem, leCells, memUnder, underL, V.under]
  trivial
theorem ring_no {nodes : Int} {et e f : TypeId} {B0 : Blk} (h : (!inB nodes 1 10) = true) : retG 0 (.tup [.agg [.row 0 (ringN nodes), .row 1 (ringN nodes)], .bool (inB nodes 1 10)]) [⟨.mat .i64 et (ringM nodes (ringN nodes)), e, .mat⟩, ⟨.ints .i64 (List.replicate (ringN nodes) 0), f, .row⟩]
    (.tup [.agg [.raw (.slice none 0 0), .raw (.slice none 0 0)], .lit false]) [B0] := by
  simp only [Bool.not_eq_true'] at h
  rw [ringN_no h]
  exact retG_rtn h (by simp [ringM]) (by simp) rfl rfl
theorem vc_spec_RingRoute (nodes : Int) (_ : True) : VC_spec_RingRoute nodes (retG 0 (.tup [.agg [.row 0 (ringN nodes), .row 1 (ringN nodes)], .bool (inB nodes 1 10)]) [⟨.mat .i64 3 (ringM nodes (ringN nodes)), 23, .mat⟩, ⟨.ints .i64 (List.replicate (ringN nodes) 0), 3, .row⟩]) := by
  unfold VC_spec_RingRoute
  refine ⟨⟨trivial⟩, fun hn => ring_no hn, fun hy => ?_⟩
  simp only [Bool.not_eq_false'] at hy
  have hb := inB_eq.1 hy
  rw [ringN_yes hy]
  refine ⟨⟨by omega, by omega, by omega⟩, ⟨trivial, by simp, ⟨by simp, by simp, ⟨trivial, trivial, by simp [ringM]⟩, by simp, trivial⟩, trivial⟩, ⟨by omega, by omega⟩, fun i ⟨g1, g2⟩ => ⟨fun hc => ?_, fun hc => ?_⟩⟩
  · have hc := of_decide_eq_true hc
    have e1 : IntKind.wrap .i64 (i + 1) = i + 1 := wrap64_in (by omega)
    have e2 : IntKind.wrap .i64 (i + nodes) = i + nodes := wrap64_in (by omega)
    have e3 : IntKind.wrap .i64 (i + nodes - 1) = i + nodes - 1 := wrap64_in (by omega)
    have hrow : [Int.tmod (i + 1) nodes, Int.tmod (i + nodes - 1) nodes] = ringRow nodes i.toNat := by
      unfold ringRow
      rw [show ((i.toNat : Nat) : Int) = i by omega]
    have hfin : ixInv nodes.toNat (i + 1) ∧ ((nodes.toNat : Int) - (i + 1)).toNat < ((nodes.toNat : Int) - i).toNat := ⟨⟨by omega, by omega⟩, by omega⟩
    have hlen : (i + 1).toNat ≤ 1000000000 := by omega
    have hs : i.toNat + 1 = (i + 1).toNat := by omega
    have hr : ringM nodes i.toNat ++ [ringRow nodes i.toNat] = ringM nodes (i + 1).toNat := by rw [← hs, ringM_succ]
    have hz : nodes ≠ 0 := by omega
    have hll : (ringRow nodes i.toNat).length = 2 := rfl
    simp only [e1, e2, e3, hrow, hr, ringM_len, hll, and_self, at_iff, ne_eq, hz, not_false_eq_true, hfin, hlen, hs]
  · have hc := of_decide_eq_false hc
    have e : i.toNat = nodes.toNat := by omega
    exact retG_rty hy (by rw [e]) rfl e rfl
theorem ring_set {n : Int} {m i : Nat} (h : i < m) : (ringM n i ++ List.replicate (m - i) nilI).set i (ringRow n i) = ringM n (i + 1) ++ List.replicate (m - (i + 1)) nilI := by
  rw [List.set_append_right _ _ (by rw [ringM_len]; exact Nat.le_refl _), ringM_len, Nat.sub_self, show m - i = (m - (i + 1)) + 1 by omega, List.replicate_succ, List.set_cons_zero, ringM_succ, List.append_assoc]
  rfl
theorem vc_impl_RingRoute (nodes : Int) (_ : True) : VC_impl_RingRoute nodes (retG 0 (.tup [.agg [.row 0 (ringN nodes), .row 1 (ringN nodes)], .bool (inB nodes 1 10)]) [⟨.mat .i64 3 (ringM nodes (ringN nodes)), 23, .mat⟩, ⟨.ints .i64 (List.replicate (ringN nodes) 0), 3, .row⟩]) := by
  unfold VC_impl_RingRoute
  refine ⟨⟨trivial⟩, fun hn => ring_no hn, fun hy => ?_⟩
  simp only [Bool.not_eq_false'] at hy
  have hb := inB_eq.1 hy
  rw [ringN_yes hy]
  have h0 : 0 ≤ nodes ∧ nodes ≤ 1000000000 := by omega
  refine ⟨by simp only [h0, and_self, at_iff, Int.le_refl], ⟨trivial, by simp, ⟨by simp, by simp, ⟨trivial, trivial, by simp [ringM]⟩, by simp, trivial⟩, trivial⟩, ⟨by omega, by omega⟩, fun i ⟨g1, g2⟩ => ⟨fun hc => ?_, fun hc => ?_⟩⟩
  · have hc := of_decide_eq_true hc
    have e1 : IntKind.wrap .i64 (i + 1) = i + 1 := wrap64_in (by omega)
    have e2 : IntKind.wrap .i64 (i + nodes) = i + nodes := wrap64_in (by omega)
    have e3 : IntKind.wrap .i64 (i + nodes - 1) = i + nodes - 1 := wrap64_in (by omega)
    have hrow : [Int.tmod (i + 1) nodes, Int.tmod (i + nodes - 1) nodes] = ringRow nodes i.toNat := by
      unfold ringRow
      rw [show ((i.toNat : Nat) : Int) = i by omega]
    have hfin : ixInv nodes.toNat (i + 1) ∧ ((nodes.toNat : Int) - (i + 1)).toNat < ((nodes.toNat : Int) - i).toNat := ⟨⟨by omega, by omega⟩, by omega⟩
    have hs : (i + 1).toNat = i.toNat + 1 := by omega
    have hr := ring_set (n := nodes) (show i.toNat < nodes.toNat by omega)
    have hz : nodes ≠ 0 := by omega
    have hll : (ringRow nodes i.toNat).length = 2 := rfl
    have hlm : i.toNat < (ringM nodes i.toNat ++ List.replicate (nodes.toNat - i.toNat) nilI).length := by
      rw [List.length_append, ringM_len, List.length_replicate]
      omega
    have hib : 0 ≤ i ∧ i < (nodes.toNat : Int) := ⟨g1, by omega⟩
    simp only [e1, e2, e3, hrow, hr, hll, hlm, hib, and_self, at_iff, ne_eq, hz, not_false_eq_true, hfin, hs]
  · have hc := of_decide_eq_false hc
    have e : i.toNat = nodes.toNat := by omega
    exact retG_rty hy (by rw [e]; simp) rfl rfl rfl
/-! ### marked twice -/
theorem rampM_idem : ∀ (k q : Int) (l : List (List Int)), rampM k (rampM q l) = rampM k l
  | _, _, [] => rfl
  | k, q, r :: l => by simp only [rampM, ramp_len, rampM_idem]
theorem totL_ramp : ∀ (q : Int) (l : List (List Int)), totL (rampM q l) = totL l
  | _, [] => rfl
  | q, r :: l => by simp only [rampM, totL, ramp_len, totL_ramp]
theorem smallM_ramp {q : Int} {l : List (List Int)} (h : smallM l) : smallM (rampM q l) := by
  refine ⟨by rw [rampM_len]; exact h.1, ?_⟩
  have key : ∀ (l : List (List Int)) (q : Int), (∀ r ∈ l, r.length ≤ 2000000) → ∀ r ∈ rampM q l, r.length ≤ 2000000 := by
    intro l
    induction l with
    | nil => intro q _ r hr; cases hr
    | cons a l ih =>
      intro q h r hr
      simp only [rampM, List.mem_cons] at hr
      rcases hr with rfl | hr
      · rw [ramp_len]; exact h a (by simp)
      · exact ih _ (fun s hs => h s (by simp [hs])) r hr
  exact key l q h.2
theorem ringM_small {nodes : Int} : smallM (ringM nodes (ringN nodes)) := by
  have hn : ringN nodes ≤ 10 := by
    cases hb : inB nodes 1 10 with
    | false => rw [ringN_no hb]; omega
    | true => rw [ringN_yes hb]; have := inB_eq.1 hb; omega
  refine ⟨by rw [ringM_len]; omega, fun r hr => ?_⟩
  obtain ⟨i, _, rfl⟩ := List.mem_map.1 hr
  show 2 ≤ 2000000
  omega
theorem ringN_small (nodes : Int) : ringN nodes ≤ 2000000 := by
  have := (ringM_small (nodes := nodes)).1
  rwa [ringM_len] at this
end Go.Vi
