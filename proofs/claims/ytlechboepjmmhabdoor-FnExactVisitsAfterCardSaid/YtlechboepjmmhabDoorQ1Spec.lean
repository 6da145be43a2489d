/- Closed forms of the functions of this chapter. -/
import Derived.Test.YtlechboepjmmhabDoorQ1Defs
namespace Go.Vi
set_option linter.unusedVariables false
def F_laws_toWorld : FSpec := fun args m =>
  match args, m with
  | [.agg [.str wr, .int .i64 ww, .int .i64 wh, .str wc, .int .i64 wx, .int .i64 wy, .int .i64 wd]], [] => some (True, wdV ⟨wr, ww, wh, wc, wx, wy, wd⟩)
  | _, _ => none
def F_spec_loPeriod : FSpec := fun args m =>
  match args, m with
  | [.agg [.str wr, .int .i64 ww, .int .i64 wh, .str wc, .int .i64 wx, .int .i64 wy, .int .i64 wd]], [] => some (goodB ⟨wr, ww, wh, wc, wx, wy, wd⟩ = true, .int .i64 (optI (untilW (goodB ⟨wr, ww, wh, wc, wx, wy, wd⟩) (pPer ⟨wr, ww, wh, wc, wx, wy, wd⟩) 1 ⟨wr, ww, wh, wc, wx, wy, wd⟩)))
  | _, _ => none
def F_impl_PeriodOf_1 : FSpec := fun args m =>
  match args, m with
  | [.agg [.str wr, .int .i64 ww, .int .i64 wh, .str wc, .int .i64 wx, .int .i64 wy, .int .i64 wd], .ptr 0 0], [⟨.vals [.str zr, .int .i64 zw, .int .i64 zh, .str zc, .int .i64 zx, .int .i64 zy, .int .i64 zd], 27, .box⟩] => some (True, .bool (pPer ⟨zr, zw, zh, zc, zx, zy, zd⟩ ⟨wr, ww, wh, wc, wx, wy, wd⟩))
  | _, _ => none
def F_spec_PeriodOf : FSpec := fun args m =>
  match args, m with
  | [.agg [.str wr, .int .i64 ww, .int .i64 wh, .str wc, .int .i64 wx, .int .i64 wy, .int .i64 wd]], [] => some (True, .tup [.int .i64 (optI (untilW (goodB ⟨wr, ww, wh, wc, wx, wy, wd⟩) (pPer ⟨wr, ww, wh, wc, wx, wy, wd⟩) 1 ⟨wr, ww, wh, wc, wx, wy, wd⟩)), .bool (untilW (goodB ⟨wr, ww, wh, wc, wx, wy, wd⟩) (pPer ⟨wr, ww, wh, wc, wx, wy, wd⟩) 1 ⟨wr, ww, wh, wc, wx, wy, wd⟩).isSome])
  | _, _ => none
def F_impl_PeriodOf : FSpec := fun args m =>
  match args, m with
  | [.agg [.str wr, .int .i64 ww, .int .i64 wh, .str wc, .int .i64 wx, .int .i64 wy, .int .i64 wd]], [] => some (True, .tup [.int .i64 (optI (untilW (goodB ⟨wr, ww, wh, wc, wx, wy, wd⟩) (pPer ⟨wr, ww, wh, wc, wx, wy, wd⟩) 1 ⟨wr, ww, wh, wc, wx, wy, wd⟩)), .bool (untilW (goodB ⟨wr, ww, wh, wc, wx, wy, wd⟩) (pPer ⟨wr, ww, wh, wc, wx, wy, wd⟩) 1 ⟨wr, ww, wh, wc, wx, wy, wd⟩).isSome])
  | _, _ => none
def F_impl_AntPeriod_1 : FSpec := fun args m =>
  match args, m with
  | [.agg [.str wr, .int .i64 ww, .int .i64 wh, .str wc, .int .i64 wx, .int .i64 wy, .int .i64 wd], .ptr 0 0], [⟨.vals [.str zr, .int .i64 zw, .int .i64 zh, .str zc, .int .i64 zx, .int .i64 zy, .int .i64 zd], 27, .box⟩] => some (True, .bool (pAnt ⟨zr, zw, zh, zc, zx, zy, zd⟩ ⟨wr, ww, wh, wc, wx, wy, wd⟩))
  | _, _ => none
def F_impl_FirstReturn_1 : FSpec := fun args m =>
  match args, m with
  | [.agg [.str wr, .int .i64 ww, .int .i64 wh, .str wc, .int .i64 wx, .int .i64 wy, .int .i64 wd], .ptr 0 0], [⟨.vals [.str zr, .int .i64 zw, .int .i64 zh, .str zc, .int .i64 zx, .int .i64 zy, .int .i64 zd], 27, .box⟩] => some (True, .bool (pRet ⟨zr, zw, zh, zc, zx, zy, zd⟩ ⟨wr, ww, wh, wc, wx, wy, wd⟩))
  | _, _ => none
def F_impl_StepsBetween_1 : FSpec := fun args m =>
  match args, m with
  | [.agg [.str wr, .int .i64 ww, .int .i64 wh, .str wc, .int .i64 wx, .int .i64 wy, .int .i64 wd], .ptr 0 0], [⟨.vals [.str zr, .int .i64 zw, .int .i64 zh, .str zc, .int .i64 zx, .int .i64 zy, .int .i64 zd], 27, .box⟩] => some (True, .bool (pPer ⟨zr, zw, zh, zc, zx, zy, zd⟩ ⟨wr, ww, wh, wc, wx, wy, wd⟩))
  | _, _ => none
def F_spec_AntPeriod : FSpec := fun args m =>
  match args, m with
  | [.agg [.str wr, .int .i64 ww, .int .i64 wh, .str wc, .int .i64 wx, .int .i64 wy, .int .i64 wd]], [] => some (True, .tup [.int .i64 (optI (untilW (goodB ⟨wr, ww, wh, wc, wx, wy, wd⟩) (pAnt ⟨wr, ww, wh, wc, wx, wy, wd⟩) 1 ⟨wr, ww, wh, wc, wx, wy, wd⟩)), .bool (untilW (goodB ⟨wr, ww, wh, wc, wx, wy, wd⟩) (pAnt ⟨wr, ww, wh, wc, wx, wy, wd⟩) 1 ⟨wr, ww, wh, wc, wx, wy, wd⟩).isSome])
  | _, _ => none
def F_impl_AntPeriod : FSpec := fun args m =>
  match args, m with
  | [.agg [.str wr, .int .i64 ww, .int .i64 wh, .str wc, .int .i64 wx, .int .i64 wy, .int .i64 wd]], [] => some (True, .tup [.int .i64 (optI (untilW (goodB ⟨wr, ww, wh, wc, wx, wy, wd⟩) (pAnt ⟨wr, ww, wh, wc, wx, wy, wd⟩) 1 ⟨wr, ww, wh, wc, wx, wy, wd⟩)), .bool (untilW (goodB ⟨wr, ww, wh, wc, wx, wy, wd⟩) (pAnt ⟨wr, ww, wh, wc, wx, wy, wd⟩) 1 ⟨wr, ww, wh, wc, wx, wy, wd⟩).isSome])
  | _, _ => none
def F_spec_FirstReturn : FSpec := fun args m =>
  match args, m with
  | [.agg [.str wr, .int .i64 ww, .int .i64 wh, .str wc, .int .i64 wx, .int .i64 wy, .int .i64 wd]], [] => some (True, .tup [.int .i64 (optI (untilW (goodB ⟨wr, ww, wh, wc, wx, wy, wd⟩) (pRet ⟨wr, ww, wh, wc, wx, wy, wd⟩) 1 ⟨wr, ww, wh, wc, wx, wy, wd⟩)), .bool (untilW (goodB ⟨wr, ww, wh, wc, wx, wy, wd⟩) (pRet ⟨wr, ww, wh, wc, wx, wy, wd⟩) 1 ⟨wr, ww, wh, wc, wx, wy, wd⟩).isSome])
  | _, _ => none
def F_impl_FirstReturn : FSpec := fun args m =>
  match args, m with
  | [.agg [.str wr, .int .i64 ww, .int .i64 wh, .str wc, .int .i64 wx, .int .i64 wy, .int .i64 wd]], [] => some (True, .tup [.int .i64 (optI (untilW (goodB ⟨wr, ww, wh, wc, wx, wy, wd⟩) (pRet ⟨wr, ww, wh, wc, wx, wy, wd⟩) 1 ⟨wr, ww, wh, wc, wx, wy, wd⟩)), .bool (untilW (goodB ⟨wr, ww, wh, wc, wx, wy, wd⟩) (pRet ⟨wr, ww, wh, wc, wx, wy, wd⟩) 1 ⟨wr, ww, wh, wc, wx, wy, wd⟩).isSome])
  | _, _ => none
def F_spec_StepsBetween : FSpec := fun args m =>
  match args, m with
  | [.agg [.str wr, .int .i64 ww, .int .i64 wh, .str wc, .int .i64 wx, .int .i64 wy, .int .i64 wd], .agg [.str vr, .int .i64 vw, .int .i64 vh, .str vc, .int .i64 vx, .int .i64 vy, .int .i64 vd]], [] => some (True, .tup [.int .i64 (optI (untilW (goodB ⟨wr, ww, wh, wc, wx, wy, wd⟩ && goodB ⟨vr, vw, vh, vc, vx, vy, vd⟩) (pPer ⟨vr, vw, vh, vc, vx, vy, vd⟩) 0 ⟨wr, ww, wh, wc, wx, wy, wd⟩)), .bool (untilW (goodB ⟨wr, ww, wh, wc, wx, wy, wd⟩ && goodB ⟨vr, vw, vh, vc, vx, vy, vd⟩) (pPer ⟨vr, vw, vh, vc, vx, vy, vd⟩) 0 ⟨wr, ww, wh, wc, wx, wy, wd⟩).isSome])
  | _, _ => none
def F_impl_StepsBetween : FSpec := fun args m =>
  match args, m with
  | [.agg [.str wr, .int .i64 ww, .int .i64 wh, .str wc, .int .i64 wx, .int .i64 wy, .int .i64 wd], .agg [.str vr, .int .i64 vw, .int .i64 vh, .str vc, .int .i64 vx, .int .i64 vy, .int .i64 vd]], [] => some (True, .tup [.int .i64 (optI (untilW (goodB ⟨wr, ww, wh, wc, wx, wy, wd⟩ && goodB ⟨vr, vw, vh, vc, vx, vy, vd⟩) (pPer ⟨vr, vw, vh, vc, vx, vy, vd⟩) 0 ⟨wr, ww, wh, wc, wx, wy, wd⟩)), .bool (untilW (goodB ⟨wr, ww, wh, wc, wx, wy, wd⟩ && goodB ⟨vr, vw, vh, vc, vx, vy, vd⟩) (pPer ⟨vr, vw, vh, vc, vx, vy, vd⟩) 0 ⟨wr, ww, wh, wc, wx, wy, wd⟩).isSome])
  | _, _ => none
end Go.Vi
