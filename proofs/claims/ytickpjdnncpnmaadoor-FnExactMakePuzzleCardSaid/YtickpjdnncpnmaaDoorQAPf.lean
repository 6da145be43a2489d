import Derived.Test.YtickpjdnncpnmaaDoorPVPf
/- Hidden worlds. -/
namespace Go.Vi
def hidB (w : Wd) : Bool := goodB w && w.x == 0 && w.y == 0 && w.d == 0 && sizeB w.r w.w w.h
end Go.Vi

/- Closed forms of the functions of this chapter. -/
namespace Go.Vi
set_option linter.unusedVariables false
def F_spec_pzHidden : FSpec := fun args m =>
 match args, m with
 | [.agg [.str wr, .int .i64 ww, .int .i64 wh, .str wc, .int .i64 wx, .int .i64 wy, .int .i64 wd]], [] => some (True, .bool (hidB ⟨wr, ww, wh, wc, wx, wy, wd⟩))
 | _, _ => none
def F_impl_isHidden : FSpec := fun args m =>
 match args, m with
 | [.agg [.str wr, .int .i64 ww, .int .i64 wh, .str wc, .int .i64 wx, .int .i64 wy, .int .i64 wd]], [] => some (True, .bool (hidB ⟨wr, ww, wh, wc, wx, wy, wd⟩))
 | _, _ => none
end Go.Vi

/- The conditions, reckoned out by program: texts alone. -/
namespace Go.Vi
set_option linter.unusedVariables false
def VC_spec_pzHidden (wr:List UInt8)(ww:Int)(wh:Int)(wc:List UInt8)(wx:Int)(wy:Int)(wd:Int)(K:V → Prop):Prop:=
 At True∧(goodB { r := wr,w := ww,h := wh,c := wc,x := wx,y := wy,d := wd }=true→((wx==(0:Int))=true→((wy==(0:Int))=true→((wd==(0:Int))=true→At True∧K (V.bool (sizeB wr ww wh)))∧((wd==(0:Int))=false→K (V.lit false)))∧
 ((wy==(0:Int))=false→K (V.lit false)))∧((wx==(0:Int))=false→K (V.lit false)))∧(goodB { r := wr,w := ww,h := wh,c := wc,x := wx,y := wy,d := wd }=false→K (V.lit false))
def VC_impl_isHidden (wr:List UInt8)(ww:Int)(wh:Int)(wc:List UInt8)(wx:Int)(wy:Int)(wd:Int)(K:V → Prop):Prop:=
 At True∧(sizeB wr ww wh=true→At True∧(goodB { r := wr,w := ww,h := wh,c := wc,x := wx,y := wy,d := wd }=true→((wx==(0:Int))=true→((wy==(0:Int))=true→K (V.bool (wd==(0:Int))))∧((wy==(0:Int))=false→K (V.lit false)))∧
 ((wx==(0:Int))=false→K (V.lit false)))∧(goodB { r := wr,w := ww,h := wh,c := wc,x := wx,y := wy,d := wd }=false→K (V.lit false)))∧(sizeB wr ww wh=false→K (V.lit false))
end Go.Vi

/- Hidden worlds: the conditions hold. -/
namespace Go.Vi
theorem vc_spec_pzHidden (wr : List UInt8) (ww wh : Int) (wc : List UInt8) (wx wy wd : Int) (_ : True) : VC_spec_pzHidden wr ww wh wc wx wy wd (retP (.bool (hidB ⟨wr, ww, wh, wc, wx, wy, wd⟩))) := by
 unfold VC_spec_pzHidden hidB
 refine ⟨⟨trivial⟩, fun h1 => ⟨fun h2 => ⟨fun h3 => ⟨fun h4 => ⟨⟨trivial⟩, ?_⟩, fun h4 => ?_⟩, fun h3 => ?_⟩, fun h2 => ?_⟩, fun h1 => ?_⟩
 ·rw [retP_bool, h1]
  simp only [h2, h3, h4, Bool.true_and]
 ·rw [retP_lit, h1]
  simp only [h4, Bool.and_false, Bool.false_and]
 ·rw [retP_lit, h1]
  simp only [h3, Bool.and_false, Bool.false_and]
 ·rw [retP_lit, h1]
  simp only [h2, Bool.and_false, Bool.false_and]
 ·rw [retP_lit, h1]
  simp only [Bool.false_and]
theorem vc_impl_isHidden (wr : List UInt8) (ww wh : Int) (wc : List UInt8) (wx wy wd : Int) (_ : True) : VC_impl_isHidden wr ww wh wc wx wy wd (retP (.bool (hidB ⟨wr, ww, wh, wc, wx, wy, wd⟩))) := by
 unfold VC_impl_isHidden hidB
 refine ⟨⟨trivial⟩, fun h0 => ⟨⟨trivial⟩, fun h1 => ⟨fun h2 => ⟨fun h3 => ?_, fun h3 => ?_⟩, fun h2 => ?_⟩, fun h1 => ?_⟩, fun h0 => ?_⟩
 ·rw [retP_bool, h1]
  simp only [h0, h2, h3, Bool.true_and, Bool.and_true]
 ·rw [retP_lit, h1]
  simp only [h3, Bool.and_false, Bool.false_and]
 ·rw [retP_lit, h1]
  simp only [h2, Bool.and_false, Bool.false_and]
 ·rw [retP_lit, h1]
  simp only [Bool.false_and]
 ·rw [retP_lit]
  simp only [h0, Bool.and_false]
theorem hid_bd {w : Wd} (h : hidB w = true) : goodB w = true /\ sizeB w.r w.w w.h = true /\ (w.c.length : Int) = w.w * w.h /\ w.r.length <= 6 /\ 1 <= w.c.length /\ w.c.length <= 9 /\ ruleB w.r = true := by
 unfold hidB at h
 simp only [Bool.and_eq_true] at h
 obtain ⟨⟨⟨⟨h1, _⟩, _⟩, _⟩, h5⟩ := h
 obtain ⟨_, _, _, _, _, h6, h7, _, h9⟩ := good_bd h1
 have hb := size_bd h5
 exact ⟨h1, h5, h6, by omega, by omega, by omega, h9⟩
end Go.Vi
