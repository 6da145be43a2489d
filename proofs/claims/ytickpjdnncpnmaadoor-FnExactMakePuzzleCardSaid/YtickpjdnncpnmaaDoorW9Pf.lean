import Derived.Test.YtickpjdnncpnmaaDoorL1Pf
/- One digit's text; a cell painted. -/
namespace Go.Vi
def num1 (n : Int) : List UInt8 := [UInt8.ofNat (48 + n).toNat]
def paintC (w : Wd) (x y k : Int) : List UInt8 := w.c.take (cellIx w x y) ++ num1 k ++ w.c.drop (cellIx w x y + 1)
/-- Of what is never met. -/
abbrev neverF : FSpec := fun _ _ => none
abbrev F_strconv_formatBase10 : FSpec := neverF
abbrev F_strconv_formatBits : FSpec := neverF
abbrev F_strconv_numDigits : FSpec := neverF
end Go.Vi

/- Closed forms of the functions of this chapter. -/
namespace Go.Vi
set_option linter.unusedVariables false
def F_spec_l1Num : FSpec := fun args m =>
 match args, m with
 | [.int .i64 n], [] => some (0 <= n /\ n <= 9, .str (num1 n))
 | _, _ => none
def F_strconv_FormatInt : FSpec := fun args m =>
 match args, m with
 | [.int .i64 n, .int .i64 b], [] => some (b = 10 /\ 0 <= n /\ n <= 9, .str (num1 n))
 | _, _ => none
def F_strconv_Itoa : FSpec := fun args m =>
 match args, m with
 | [.int .i64 n], [] => some (0 <= n /\ n <= 9, .str (num1 n))
 | _, _ => none
end Go.Vi

/- The conditions, reckoned out by program: texts alone. -/
namespace Go.Vi
set_option linter.unusedVariables false
def VC_spec_l1Num (n:Int)(K:V → Prop):Prop:=
 (decide (n < (10:Int))=true→At (∀(n_1:Int),n_1 ∈ [IntKind.wrap IntKind.u8 (IntKind.wrap .i64 ((48:Int) + n))]→(0:Int)≤n_1∧n_1 < (256:Int))∧
 At ((1:Nat)≤List.length (List.map (fun (n:Int) ↦ UInt8.ofNat (Int.toNat n)) [IntKind.wrap IntKind.u8 (IntKind.wrap .i64 ((48:Int) + n))]))∧
 K (V.str (List.take (1:Nat) (List.map (fun (n:Int) ↦ UInt8.ofNat (Int.toNat n)) [IntKind.wrap IntKind.u8 (IntKind.wrap .i64 ((48:Int) + n))]))))∧(decide (n < (10:Int))=false→At ((10:Int) ≠ (0:Int))∧
 At ((10:Int) ≠ (0:Int))∧False∧(False∧(At (∀(n_1:Int),n_1 ∈ [IntKind.wrap IntKind.u8 (IntKind.wrap .i64 ((48:Int) + Int.tmod n (10:Int)))]→(0:Int)≤n_1∧n_1 < (256:Int))∧False∧
 (At ((1:Nat)≤List.length (List.map (fun (n:Int) ↦ UInt8.ofNat (Int.toNat n)) [IntKind.wrap IntKind.u8 (IntKind.wrap .i64 ((48:Int) + Int.tmod n (10:Int)))]))∧False∧True)∧True)∧True)∧True)
def VC_strconv_FormatInt (n:Int)(b:Int)(K:V → Prop):Prop:=
 ((b==(10:Int))=true→(decide ((0:Int)≤n)=true→(decide (n < (100:Int))=true→(decide (n < (10:Int))=true→At ((0:Int)≤n∧n≤IntKind.wrap .i64 (n + (1:Int))∧
 IntKind.wrap .i64 (n + (1:Int))≤(↑(List.length (Array.toList #[(48:UInt8),(49:UInt8),(50:UInt8),(51:UInt8),(52:UInt8),(53:UInt8),(54:UInt8),(55:UInt8),(56:UInt8),(57:UInt8),(97:UInt8),(98:UInt8),(99:UInt8),(100:UInt8),(101:UInt8),(102:UInt8),(103:UInt8),(104:UInt8),(105:UInt8),(106:UInt8),(107:UInt8),(108:UInt8),(109:UInt8),(110:UInt8),(111:UInt8),(112:UInt8),(113:UInt8),(114:UInt8),(115:UInt8),(116:UInt8),(117:UInt8),(118:UInt8),(119:UInt8),(120:UInt8),(121:UInt8),(122:UInt8)])):Int))∧
 K (V.str (List.drop (Int.toNat n) (List.take (Int.toNat (IntKind.wrap .i64 (n + (1:Int)))) (Array.toList #[(48:UInt8),(49:UInt8),(50:UInt8),(51:UInt8),(52:UInt8),(53:UInt8),(54:UInt8),(55:UInt8),(56:UInt8),(57:UInt8),(97:UInt8),(98:UInt8),(99:UInt8),(100:UInt8),(101:UInt8),(102:UInt8),(103:UInt8),(104:UInt8),(105:UInt8),(106:UInt8),(107:UInt8),(108:UInt8),(109:UInt8),(110:UInt8),(111:UInt8),(112:UInt8),(113:UInt8),(114:UInt8),(115:UInt8),(116:UInt8),(117:UInt8),(118:UInt8),(119:UInt8),(120:UInt8),(121:UInt8),(122:UInt8)])))))∧
 (decide (n < (10:Int))=false→At ((0:Int)≤IntKind.wrap .i64 (n * (2:Int))∧IntKind.wrap .i64 (n * (2:Int))≤IntKind.wrap .i64 (IntKind.wrap .i64 (n * (2:Int)) + (2:Int))∧
 IntKind.wrap .i64 (IntKind.wrap .i64 (n * (2:Int)) + (2:Int))≤(↑(List.length (Array.toList (List.toArray (List.append (List.append [(48:UInt8),(48:UInt8),(48:UInt8),(49:UInt8),(48:UInt8),(50:UInt8),(48:UInt8),(51:UInt8),(48:UInt8),(52:UInt8),(48:UInt8),(53:UInt8),(48:UInt8),(54:UInt8),(48:UInt8),(55:UInt8),(48:UInt8),(56:UInt8),(48:UInt8),(57:UInt8),(49:UInt8),(48:UInt8),(49:UInt8),(49:UInt8),(49:UInt8),(50:UInt8),(49:UInt8),(51:UInt8),(49:UInt8),(52:UInt8),(49:UInt8),(53:UInt8),(49:UInt8),(54:UInt8),(49:UInt8),(55:UInt8),(49:UInt8),(56:UInt8),(49:UInt8),(57:UInt8),(50:UInt8),(48:UInt8),(50:UInt8),(49:UInt8),(50:UInt8),(50:UInt8),(50:UInt8),(51:UInt8),(50:UInt8),(52:UInt8)] [(50:UInt8),(53:UInt8),(50:UInt8),(54:UInt8),(50:UInt8),(55:UInt8),(50:UInt8),(56:UInt8),(50:UInt8),(57:UInt8),(51:UInt8),(48:UInt8),(51:UInt8),(49:UInt8),(51:UInt8),(50:UInt8),(51:UInt8),(51:UInt8),(51:UInt8),(52:UInt8),(51:UInt8),(53:UInt8),(51:UInt8),(54:UInt8),(51:UInt8),(55:UInt8),(51:UInt8),(56:UInt8),(51:UInt8),(57:UInt8),(52:UInt8),(48:UInt8),(52:UInt8),(49:UInt8),(52:UInt8),(50:UInt8),(52:UInt8),(51:UInt8),(52:UInt8),(52:UInt8),(52:UInt8),(53:UInt8),(52:UInt8),(54:UInt8),(52:UInt8),(55:UInt8),(52:UInt8),(56:UInt8),(52:UInt8),(57:UInt8)]) (List.append [(53:UInt8),(48:UInt8),(53:UInt8),(49:UInt8),(53:UInt8),(50:UInt8),(53:UInt8),(51:UInt8),(53:UInt8),(52:UInt8),(53:UInt8),(53:UInt8),(53:UInt8),(54:UInt8),(53:UInt8),(55:UInt8),(53:UInt8),(56:UInt8),(53:UInt8),(57:UInt8),(54:UInt8),(48:UInt8),(54:UInt8),(49:UInt8),(54:UInt8),(50:UInt8),(54:UInt8),(51:UInt8),(54:UInt8),(52:UInt8),(54:UInt8),(53:UInt8),(54:UInt8),(54:UInt8),(54:UInt8),(55:UInt8),(54:UInt8),(56:UInt8),(54:UInt8),(57:UInt8),(55:UInt8),(48:UInt8),(55:UInt8),(49:UInt8),(55:UInt8),(50:UInt8),(55:UInt8),(51:UInt8),(55:UInt8),(52:UInt8)] [(55:UInt8),(53:UInt8),(55:UInt8),(54:UInt8),(55:UInt8),(55:UInt8),(55:UInt8),(56:UInt8),(55:UInt8),(57:UInt8),(56:UInt8),(48:UInt8),(56:UInt8),(49:UInt8),(56:UInt8),(50:UInt8),(56:UInt8),(51:UInt8),(56:UInt8),(52:UInt8),(56:UInt8),(53:UInt8),(56:UInt8),(54:UInt8),(56:UInt8),(55:UInt8),(56:UInt8),(56:UInt8),(56:UInt8),(57:UInt8),(57:UInt8),(48:UInt8),(57:UInt8),(49:UInt8),(57:UInt8),(50:UInt8),(57:UInt8),(51:UInt8),(57:UInt8),(52:UInt8),(57:UInt8),(53:UInt8),(57:UInt8),(54:UInt8),(57:UInt8),(55:UInt8),(57:UInt8),(56:UInt8),(57:UInt8),(57:UInt8)]))))):Int))∧
 K (V.str (List.drop (Int.toNat (IntKind.wrap .i64 (n * (2:Int)))) (List.take (Int.toNat (IntKind.wrap .i64 (IntKind.wrap .i64 (n * (2:Int)) + (2:Int)))) (Array.toList (List.toArray (List.append (List.append [(48:UInt8),(48:UInt8),(48:UInt8),(49:UInt8),(48:UInt8),(50:UInt8),(48:UInt8),(51:UInt8),(48:UInt8),(52:UInt8),(48:UInt8),(53:UInt8),(48:UInt8),(54:UInt8),(48:UInt8),(55:UInt8),(48:UInt8),(56:UInt8),(48:UInt8),(57:UInt8),(49:UInt8),(48:UInt8),(49:UInt8),(49:UInt8),(49:UInt8),(50:UInt8),(49:UInt8),(51:UInt8),(49:UInt8),(52:UInt8),(49:UInt8),(53:UInt8),(49:UInt8),(54:UInt8),(49:UInt8),(55:UInt8),(49:UInt8),(56:UInt8),(49:UInt8),(57:UInt8),(50:UInt8),(48:UInt8),(50:UInt8),(49:UInt8),(50:UInt8),(50:UInt8),(50:UInt8),(51:UInt8),(50:UInt8),(52:UInt8)] [(50:UInt8),(53:UInt8),(50:UInt8),(54:UInt8),(50:UInt8),(55:UInt8),(50:UInt8),(56:UInt8),(50:UInt8),(57:UInt8),(51:UInt8),(48:UInt8),(51:UInt8),(49:UInt8),(51:UInt8),(50:UInt8),(51:UInt8),(51:UInt8),(51:UInt8),(52:UInt8),(51:UInt8),(53:UInt8),(51:UInt8),(54:UInt8),(51:UInt8),(55:UInt8),(51:UInt8),(56:UInt8),(51:UInt8),(57:UInt8),(52:UInt8),(48:UInt8),(52:UInt8),(49:UInt8),(52:UInt8),(50:UInt8),(52:UInt8),(51:UInt8),(52:UInt8),(52:UInt8),(52:UInt8),(53:UInt8),(52:UInt8),(54:UInt8),(52:UInt8),(55:UInt8),(52:UInt8),(56:UInt8),(52:UInt8),(57:UInt8)]) (List.append [(53:UInt8),(48:UInt8),(53:UInt8),(49:UInt8),(53:UInt8),(50:UInt8),(53:UInt8),(51:UInt8),(53:UInt8),(52:UInt8),(53:UInt8),(53:UInt8),(53:UInt8),(54:UInt8),(53:UInt8),(55:UInt8),(53:UInt8),(56:UInt8),(53:UInt8),(57:UInt8),(54:UInt8),(48:UInt8),(54:UInt8),(49:UInt8),(54:UInt8),(50:UInt8),(54:UInt8),(51:UInt8),(54:UInt8),(52:UInt8),(54:UInt8),(53:UInt8),(54:UInt8),(54:UInt8),(54:UInt8),(55:UInt8),(54:UInt8),(56:UInt8),(54:UInt8),(57:UInt8),(55:UInt8),(48:UInt8),(55:UInt8),(49:UInt8),(55:UInt8),(50:UInt8),(55:UInt8),(51:UInt8),(55:UInt8),(52:UInt8)] [(55:UInt8),(53:UInt8),(55:UInt8),(54:UInt8),(55:UInt8),(55:UInt8),(55:UInt8),(56:UInt8),(55:UInt8),(57:UInt8),(56:UInt8),(48:UInt8),(56:UInt8),(49:UInt8),(56:UInt8),(50:UInt8),(56:UInt8),(51:UInt8),(56:UInt8),(52:UInt8),(56:UInt8),(53:UInt8),(56:UInt8),(54:UInt8),(56:UInt8),(55:UInt8),(56:UInt8),(56:UInt8),(56:UInt8),(57:UInt8),(57:UInt8),(48:UInt8),(57:UInt8),(49:UInt8),(57:UInt8),(50:UInt8),(57:UInt8),(51:UInt8),(57:UInt8),(52:UInt8),(57:UInt8),(53:UInt8),(57:UInt8),(54:UInt8),(57:UInt8),(55:UInt8),(57:UInt8),(56:UInt8),(57:UInt8),(57:UInt8)])))))))))∧
 (decide (n < (100:Int))=false→(decide (n < (0:Int))=true→False)∧(decide (n < (0:Int))=false→False)))∧(decide ((0:Int)≤n)=false→(decide (n < (0:Int))=true→False)∧(decide (n < (0:Int))=false→False)))∧((b==(10:Int))=false→
 False)
def VC_strconv_Itoa (n:Int)(K:V → Prop):Prop:=
 At ((10:Int)=(10:Int)∧(0:Int)≤n∧n≤(9:Int))∧K (V.str (num1 n))
end Go.Vi

/- One digit's text: the conditions hold. -/
namespace Go.Vi
theorem num1_len (n : Int) : (num1 n).length = 1 := rfl
theorem ten {n : Int} (h : 0 <= n /\ n <= 9) : n = 0 \/ n = 1 \/ n = 2 \/ n = 3 \/ n = 4 \/ n = 5 \/ n = 6 \/ n = 7 \/ n = 8 \/ n = 9 := by omega
theorem vc_spec_l1Num (n : Int) (h : 0 <= n /\ n <= 9) : VC_spec_l1Num n (retP (.str (num1 n))) := by
 have e : IntKind.wrap IntKind.u8 (IntKind.wrap IntKind.i64 (48 + n)) = 48 + n := by
  rcases ten h with rfl | rfl | rfl | rfl | rfl | rfl | rfl | rfl | rfl | rfl <;> decide
 unfold VC_spec_l1Num
 rw [e]
 refine ⟨fun _ => ⟨⟨fun m hm => ?_⟩, ⟨by simp⟩, ?_⟩, fun hn => ?_⟩
 ·rw [List.mem_singleton] at hm
  omega
 ·rw [retP_str]; rfl
 ·rw [decide_eq_false_iff_not] at hn
  omega
theorem vc_strconv_FormatInt (n b : Int) (h : b = 10 /\ 0 <= n /\ n <= 9) : VC_strconv_FormatInt n b (retP (.str (num1 n))) := by
 obtain ⟨rfl, h⟩ := h
 unfold VC_strconv_FormatInt
 refine ⟨fun _ => ⟨fun _ => ⟨fun _ => ⟨fun _ => ⟨?_, ?_⟩, fun hf => ?_⟩, fun hf => ?_⟩, fun hf => ?_⟩, fun hf => ?_⟩
 ·rw [wrap64_in (by omega)]
  refine ⟨h.1, by omega, ?_⟩
  simp only [List.length_cons, List.length_nil]
  omega
 ·rw [retP_str, wrap64_in (by omega)]
  rcases ten h with rfl | rfl | rfl | rfl | rfl | rfl | rfl | rfl | rfl | rfl <;> rfl
 ·rw [decide_eq_false_iff_not] at hf; omega
 ·rw [decide_eq_false_iff_not] at hf; omega
 ·rw [decide_eq_false_iff_not] at hf; omega
 ·exact absurd hf (by decide)
theorem vc_strconv_Itoa (n : Int) (h : 0 <= n /\ n <= 9) : VC_strconv_Itoa n (retP (.str (num1 n))) := ⟨⟨rfl, h⟩, by rw [retP_str]⟩
theorem good_nine {w : Wd} (h : goodB w = true) : (0 <= w.w /\ w.w <= 9) /\ (0 <= w.h /\ w.h <= 9) /\ (0 <= w.x /\ w.x <= 9) /\ (0 <= w.y /\ w.y <= 9) /\ (0 <= w.d /\ w.d <= 9) /\ w.r.length <= 6 /\ w.c.length <= 81 := by
 obtain ⟨h1, h2, h3, h4, h5, h6, h7, _⟩ := good_bd h
 have := mul_bd h1 h2
 omega
end Go.Vi
