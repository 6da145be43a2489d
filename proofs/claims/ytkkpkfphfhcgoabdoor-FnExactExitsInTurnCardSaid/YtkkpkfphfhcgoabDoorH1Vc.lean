/- The conditions, reckoned out by program: texts alone. -/
import Derived.Test.YtkkpkfphfhcgoabDoorH1Defs
namespace Go.Vi
set_option linter.unusedVariables false
def VC_impl_roll_goOut (mw : Int) (mh : Int) (mc : List UInt8) (mu : Bool) (l : List UInt8) (bx : Int) (by_ : Int) (bd : Int) (en : Int) (hn : Int) (K : V → List Blk → Prop) : Prop 
  := (((((((((True ∧ (((0 : Nat) = (0 : Nat) ∧ (0 : Nat) = (0 : Nat)) ∧ ((1 : Nat) = (1 : Nat) ∧ (0 : Nat) = (0 : Nat)) ∧ ((2 : Nat) = (2 : Nat) ∧ (0 : Nat) = (0 : Nat)) ∧ True) ∧ ((True 
  ∧ ((True ∧ mw = mw) ∧ (True ∧ mh = mh) ∧ mc = mc ∧ mu = mu ∧ True) ∧ True ∧ l = l ∧ (True ∧ bx = bx) ∧ (True ∧ by_ = by_) ∧ (True ∧ bd = bd) ∧ (True ∧ en = en) ∧ (True ∧ hn = hn) ∧ 
  True) ∧ (True ∧ (True ∧ bx = bx) ∧ (True ∧ by_ = by_) ∧ (True ∧ bd = bd) ∧ True) ∧ (True ∧ True ∧ True ∧ l = l ∧ True) ∧ True) ∧ True) ∧ True) ∧ True) ∧ True) ∧ ((((True ∧ (((0 : Nat) 
  = (0 : Nat) ∧ (0 : Nat) = (0 : Nat)) ∧ ((1 : Nat) = (1 : Nat) ∧ (0 : Nat) = (0 : Nat)) ∧ ((2 : Nat) = (2 : Nat) ∧ (0 : Nat) = (0 : Nat)) ∧ True) ∧ ((True ∧ ((True ∧ mw = mw) ∧ (True 
  ∧ mh = mh) ∧ mc = mc ∧ mu = mu ∧ True) ∧ True ∧ l = l ∧ (True ∧ bx = bx) ∧ (True ∧ by_ = by_) ∧ (True ∧ bd = bd) ∧ (True ∧ en = en) ∧ (True ∧ hn = hn) ∧ True) ∧ (True ∧ (True ∧ bx = 
  bx) ∧ (True ∧ by_ = by_) ∧ (True ∧ bd = bd) ∧ True) ∧ (True ∧ True ∧ True ∧ l = l ∧ True) ∧ True) ∧ True) ∧ True) ∧ True) ∧ True) ∧ True) ∧ (((((True ∧ (((0 : Nat) = (0 : Nat) ∧ (0 
  : Nat) = (0 : Nat)) ∧ ((1 : Nat) = (1 : Nat) ∧ (0 : Nat) = (0 : Nat)) ∧ ((2 : Nat) = (2 : Nat) ∧ (0 : Nat) = (0 : Nat)) ∧ True) ∧ ((True ∧ ((True ∧ mw = mw) ∧ (True ∧ mh = mh) ∧ mc 
  = mc ∧ mu = mu ∧ True) ∧ True ∧ l = l ∧ (True ∧ bx = bx) ∧ (True ∧ by_ = by_) ∧ (True ∧ bd = bd) ∧ (True ∧ en = en) ∧ (True ∧ hn = hn) ∧ True) ∧ (True ∧ (True ∧ bx = bx) ∧ (True ∧ by_ 
  = by_) ∧ (True ∧ bd = bd) ∧ True) ∧ (True ∧ True ∧ True ∧ l = l ∧ True) ∧ True) ∧ True) ∧ True) ∧ True) ∧ True) ∧ ((((True ∧ (((0 : Nat) = (0 : Nat) ∧ (0 : Nat) = (0 : Nat)) ∧ ((1 : 
  Nat) = (1 : Nat) ∧ (0 : Nat) = (0 : Nat)) ∧ ((2 : Nat) = (2 : Nat) ∧ (0 : Nat) = (0 : Nat)) ∧ True) ∧ ((True ∧ ((True ∧ mw = mw) ∧ (True ∧ mh = mh) ∧ mc = mc ∧ mu = mu ∧ True) ∧ True 
  ∧ l = l ∧ (True ∧ bx = bx) ∧ (True ∧ by_ = by_) ∧ (True ∧ bd = bd) ∧ (True ∧ en = en) ∧ (True ∧ hn = hn) ∧ True) ∧ (True ∧ (True ∧ bx = bx) ∧ (True ∧ by_ = by_) ∧ (True ∧ bd = bd) ∧ 
  True) ∧ (True ∧ True ∧ True ∧ l = l ∧ True) ∧ True) ∧ True) ∧ True) ∧ True) ∧ ((True ∧ (((0 : Nat) = (0 : Nat) ∧ (0 : Nat) = (0 : Nat)) ∧ ((1 : Nat) = (1 : Nat) ∧ (0 : Nat) = (0 : Nat)) 
  ∧ ((2 : Nat) = (2 : Nat) ∧ (0 : Nat) = (0 : Nat)) ∧ True) ∧ ((True ∧ ((True ∧ mw = mw) ∧ (True ∧ mh = mh) ∧ mc = mc ∧ mu = mu ∧ True) ∧ True ∧ l = l ∧ (True ∧ bx = bx) ∧ (True ∧ by_ 
  = by_) ∧ (True ∧ bd = bd) ∧ (True ∧ en = en) ∧ (True ∧ hn = hn) ∧ True) ∧ (True ∧ (True ∧ bx = bx) ∧ (True ∧ by_ = by_) ∧ (True ∧ bd = bd) ∧ True) ∧ (True ∧ True ∧ True ∧ l = l ∧ True) 
  ∧ True) ∧ True) ∧ True) ∧ True) ∧ True) ∧ (((((True ∧ (((0 : Nat) = (0 : Nat) ∧ (0 : Nat) = (0 : Nat)) ∧ ((1 : Nat) = (1 : Nat) ∧ (0 : Nat) = (0 : Nat)) ∧ ((2 : Nat) = (2 : Nat) ∧ (0 
  : Nat) = (0 : Nat)) ∧ True) ∧ ((True ∧ ((True ∧ mw = mw) ∧ (True ∧ mh = mh) ∧ mc = mc ∧ mu = mu ∧ True) ∧ True ∧ l = l ∧ (True ∧ bx = bx) ∧ (True ∧ by_ = by_) ∧ (True ∧ bd = bd) ∧ (True 
  ∧ en = en) ∧ (True ∧ hn = hn) ∧ True) ∧ (True ∧ (True ∧ bx = bx) ∧ (True ∧ by_ = by_) ∧ (True ∧ bd = bd) ∧ True) ∧ (True ∧ True ∧ True ∧ l = l ∧ True) ∧ True) ∧ True) ∧ True) ∧ True) 
  ∧ True) ∧ ((((True ∧ (((0 : Nat) = (0 : Nat) ∧ (0 : Nat) = (0 : Nat)) ∧ ((1 : Nat) = (1 : Nat) ∧ (0 : Nat) = (0 : Nat)) ∧ ((2 : Nat) = (2 : Nat) ∧ (0 : Nat) = (0 : Nat)) ∧ True) ∧ ((True 
  ∧ ((True ∧ mw = mw) ∧ (True ∧ mh = mh) ∧ mc = mc ∧ mu = mu ∧ True) ∧ True ∧ l = l ∧ (True ∧ bx = bx) ∧ (True ∧ by_ = by_) ∧ (True ∧ bd = bd) ∧ (True ∧ en = en) ∧ (True ∧ hn = hn) ∧ 
  True) ∧ (True ∧ (True ∧ bx = bx) ∧ (True ∧ by_ = by_) ∧ (True ∧ bd = bd) ∧ True) ∧ (True ∧ True ∧ True ∧ l = l ∧ True) ∧ True) ∧ True) ∧ True) ∧ True) ∧ ((True ∧ (((0 : Nat) = (0 : 
  Nat) ∧ (0 : Nat) = (0 : Nat)) ∧ ((1 : Nat) = (1 : Nat) ∧ (0 : Nat) = (0 : Nat)) ∧ ((2 : Nat) = (2 : Nat) ∧ (0 : Nat) = (0 : Nat)) ∧ True) ∧ ((True ∧ ((True ∧ mw = mw) ∧ (True ∧ mh = 
  mh) ∧ mc = mc ∧ mu = mu ∧ True) ∧ True ∧ l = l ∧ (True ∧ bx = bx) ∧ (True ∧ by_ = by_) ∧ (True ∧ bd = bd) ∧ (True ∧ en = en) ∧ (True ∧ hn = hn) ∧ True) ∧ (True ∧ (True ∧ bx = bx) ∧ 
  (True ∧ by_ = by_) ∧ (True ∧ bd = bd) ∧ True) ∧ (True ∧ True ∧ True ∧ l = l ∧ True) ∧ True) ∧ True) ∧ True) ∧ True) ∧ True) ∧ True) ∧ ((((((True ∧ (((0 : Nat) = (0 : Nat) ∧ (0 : Nat) 
  = (0 : Nat)) ∧ ((1 : Nat) = (1 : Nat) ∧ (0 : Nat) = (0 : Nat)) ∧ ((2 : Nat) = (2 : Nat) ∧ (0 : Nat) = (0 : Nat)) ∧ True) ∧ ((True ∧ ((True ∧ mw = mw) ∧ (True ∧ mh = mh) ∧ mc = mc ∧ 
  mu = mu ∧ True) ∧ True ∧ l = l ∧ (True ∧ bx = bx) ∧ (True ∧ by_ = by_) ∧ (True ∧ bd = bd) ∧ (True ∧ en = en) ∧ (True ∧ hn = hn) ∧ True) ∧ (True ∧ (True ∧ bx = bx) ∧ (True ∧ by_ = by_) 
  ∧ (True ∧ bd = bd) ∧ True) ∧ (True ∧ True ∧ True ∧ l = l ∧ True) ∧ True) ∧ True) ∧ True) ∧ True) ∧ True) ∧ ((((True ∧ (((0 : Nat) = (0 : Nat) ∧ (0 : Nat) = (0 : Nat)) ∧ ((1 : Nat) = 
  (1 : Nat) ∧ (0 : Nat) = (0 : Nat)) ∧ ((2 : Nat) = (2 : Nat) ∧ (0 : Nat) = (0 : Nat)) ∧ True) ∧ ((True ∧ ((True ∧ mw = mw) ∧ (True ∧ mh = mh) ∧ mc = mc ∧ mu = mu ∧ True) ∧ True ∧ l = 
  l ∧ (True ∧ bx = bx) ∧ (True ∧ by_ = by_) ∧ (True ∧ bd = bd) ∧ (True ∧ en = en) ∧ (True ∧ hn = hn) ∧ True) ∧ (True ∧ (True ∧ bx = bx) ∧ (True ∧ by_ = by_) ∧ (True ∧ bd = bd) ∧ True) 
  ∧ (True ∧ True ∧ True ∧ l = l ∧ True) ∧ True) ∧ True) ∧ True) ∧ True) ∧ True) ∧ True) ∧ (((((True ∧ (((0 : Nat) = (0 : Nat) ∧ (0 : Nat) = (0 : Nat)) ∧ ((1 : Nat) = (1 : Nat) ∧ (0 : 
  Nat) = (0 : Nat)) ∧ ((2 : Nat) = (2 : Nat) ∧ (0 : Nat) = (0 : Nat)) ∧ True) ∧ ((True ∧ ((True ∧ mw = mw) ∧ (True ∧ mh = mh) ∧ mc = mc ∧ mu = mu ∧ True) ∧ True ∧ l = l ∧ (True ∧ bx = 
  bx) ∧ (True ∧ by_ = by_) ∧ (True ∧ bd = bd) ∧ (True ∧ en = en) ∧ (True ∧ hn = hn) ∧ True) ∧ (True ∧ (True ∧ bx = bx) ∧ (True ∧ by_ = by_) ∧ (True ∧ bd = bd) ∧ True) ∧ (True ∧ True ∧ 
  True ∧ l = l ∧ True) ∧ True) ∧ True) ∧ True) ∧ True) ∧ True) ∧ (((True ∧ (((0 : Nat) = (0 : Nat) ∧ (0 : Nat) = (0 : Nat)) ∧ ((1 : Nat) = (1 : Nat) ∧ (0 : Nat) = (0 : Nat)) ∧ ((2 : Nat) 
  = (2 : Nat) ∧ (0 : Nat) = (0 : Nat)) ∧ True) ∧ ((True ∧ ((True ∧ mw = mw) ∧ (True ∧ mh = mh) ∧ mc = mc ∧ mu = mu ∧ True) ∧ True ∧ l = l ∧ (True ∧ bx = bx) ∧ (True ∧ by_ = by_) ∧ (True 
  ∧ bd = bd) ∧ (True ∧ en = en) ∧ (True ∧ hn = hn) ∧ True) ∧ (True ∧ (True ∧ bx = bx) ∧ (True ∧ by_ = by_) ∧ (True ∧ bd = bd) ∧ True) ∧ (True ∧ True ∧ True ∧ l = l ∧ True) ∧ True) ∧ True) 
  ∧ True) ∧ True) ∧ True) ∧ (((((True ∧ (((0 : Nat) = (0 : Nat) ∧ (0 : Nat) = (0 : Nat)) ∧ ((1 : Nat) = (1 : Nat) ∧ (0 : Nat) = (0 : Nat)) ∧ ((2 : Nat) = (2 : Nat) ∧ (0 : Nat) = (0 : 
  Nat)) ∧ True) ∧ ((True ∧ ((True ∧ mw = mw) ∧ (True ∧ mh = mh) ∧ mc = mc ∧ mu = mu ∧ True) ∧ True ∧ l = l ∧ (True ∧ bx = bx) ∧ (True ∧ by_ = by_) ∧ (True ∧ bd = bd) ∧ (True ∧ en = en) 
  ∧ (True ∧ hn = hn) ∧ True) ∧ (True ∧ (True ∧ bx = bx) ∧ (True ∧ by_ = by_) ∧ (True ∧ bd = bd) ∧ True) ∧ (True ∧ True ∧ True ∧ l = l ∧ True) ∧ True) ∧ True) ∧ True) ∧ True) ∧ True) ∧ 
  (((True ∧ (((0 : Nat) = (0 : Nat) ∧ (0 : Nat) = (0 : Nat)) ∧ ((1 : Nat) = (1 : Nat) ∧ (0 : Nat) = (0 : Nat)) ∧ ((2 : Nat) = (2 : Nat) ∧ (0 : Nat) = (0 : Nat)) ∧ True) ∧ ((True ∧ ((True 
  ∧ mw = mw) ∧ (True ∧ mh = mh) ∧ mc = mc ∧ mu = mu ∧ True) ∧ True ∧ l = l ∧ (True ∧ bx = bx) ∧ (True ∧ by_ = by_) ∧ (True ∧ bd = bd) ∧ (True ∧ en = en) ∧ (True ∧ hn = hn) ∧ True) ∧ (True 
  ∧ (True ∧ bx = bx) ∧ (True ∧ by_ = by_) ∧ (True ∧ bd = bd) ∧ True) ∧ (True ∧ True ∧ True ∧ l = l ∧ True) ∧ True) ∧ True) ∧ True) ∧ True) ∧ True) ∧ True) ∧ ((((((True ∧ (((0 : Nat) = 
  (0 : Nat) ∧ (0 : Nat) = (0 : Nat)) ∧ ((1 : Nat) = (1 : Nat) ∧ (0 : Nat) = (0 : Nat)) ∧ ((2 : Nat) = (2 : Nat) ∧ (0 : Nat) = (0 : Nat)) ∧ True) ∧ ((True ∧ ((True ∧ mw = mw) ∧ (True ∧ 
  mh = mh) ∧ mc = mc ∧ mu = mu ∧ True) ∧ True ∧ l = l ∧ (True ∧ bx = bx) ∧ (True ∧ by_ = by_) ∧ (True ∧ bd = bd) ∧ (True ∧ en = en) ∧ (True ∧ hn = hn) ∧ True) ∧ (True ∧ (True ∧ bx = bx) 
  ∧ (True ∧ by_ = by_) ∧ (True ∧ bd = bd) ∧ True) ∧ (True ∧ True ∧ True ∧ l = l ∧ True) ∧ True) ∧ True) ∧ True) ∧ True) ∧ True) ∧ ((((True ∧ (((0 : Nat) = (0 : Nat) ∧ (0 : Nat) = (0 : 
  Nat)) ∧ ((1 : Nat) = (1 : Nat) ∧ (0 : Nat) = (0 : Nat)) ∧ ((2 : Nat) = (2 : Nat) ∧ (0 : Nat) = (0 : Nat)) ∧ True) ∧ ((True ∧ ((True ∧ mw = mw) ∧ (True ∧ mh = mh) ∧ mc = mc ∧ mu = mu 
  ∧ True) ∧ True ∧ l = l ∧ (True ∧ bx = bx) ∧ (True ∧ by_ = by_) ∧ (True ∧ bd = bd) ∧ (True ∧ en = en) ∧ (True ∧ hn = hn) ∧ True) ∧ (True ∧ (True ∧ bx = bx) ∧ (True ∧ by_ = by_) ∧ (True 
  ∧ bd = bd) ∧ True) ∧ (True ∧ True ∧ True ∧ l = l ∧ True) ∧ True) ∧ True) ∧ True) ∧ True) ∧ ((True ∧ (((0 : Nat) = (0 : Nat) ∧ (0 : Nat) = (0 : Nat)) ∧ ((1 : Nat) = (1 : Nat) ∧ (0 : 
  Nat) = (0 : Nat)) ∧ ((2 : Nat) = (2 : Nat) ∧ (0 : Nat) = (0 : Nat)) ∧ True) ∧ ((True ∧ ((True ∧ mw = mw) ∧ (True ∧ mh = mh) ∧ mc = mc ∧ mu = mu ∧ True) ∧ True ∧ l = l ∧ (True ∧ bx = 
  bx) ∧ (True ∧ by_ = by_) ∧ (True ∧ bd = bd) ∧ (True ∧ en = en) ∧ (True ∧ hn = hn) ∧ True) ∧ (True ∧ (True ∧ bx = bx) ∧ (True ∧ by_ = by_) ∧ (True ∧ bd = bd) ∧ True) ∧ (True ∧ True ∧ 
  True ∧ l = l ∧ True) ∧ True) ∧ True) ∧ True) ∧ True) ∧ True) ∧ (((((True ∧ (((0 : Nat) = (0 : Nat) ∧ (0 : Nat) = (0 : Nat)) ∧ ((1 : Nat) = (1 : Nat) ∧ (0 : Nat) = (0 : Nat)) ∧ ((2 : 
  Nat) = (2 : Nat) ∧ (0 : Nat) = (0 : Nat)) ∧ True) ∧ ((True ∧ ((True ∧ mw = mw) ∧ (True ∧ mh = mh) ∧ mc = mc ∧ mu = mu ∧ True) ∧ True ∧ l = l ∧ (True ∧ bx = bx) ∧ (True ∧ by_ = by_) 
  ∧ (True ∧ bd = bd) ∧ (True ∧ en = en) ∧ (True ∧ hn = hn) ∧ True) ∧ (True ∧ (True ∧ bx = bx) ∧ (True ∧ by_ = by_) ∧ (True ∧ bd = bd) ∧ True) ∧ (True ∧ True ∧ True ∧ l = l ∧ True) ∧ True) 
  ∧ True) ∧ True) ∧ True) ∧ True) ∧ (((True ∧ (((0 : Nat) = (0 : Nat) ∧ (0 : Nat) = (0 : Nat)) ∧ ((1 : Nat) = (1 : Nat) ∧ (0 : Nat) = (0 : Nat)) ∧ ((2 : Nat) = (2 : Nat) ∧ (0 : Nat) = 
  (0 : Nat)) ∧ True) ∧ ((True ∧ ((True ∧ mw = mw) ∧ (True ∧ mh = mh) ∧ mc = mc ∧ mu = mu ∧ True) ∧ True ∧ l = l ∧ (True ∧ bx = bx) ∧ (True ∧ by_ = by_) ∧ (True ∧ bd = bd) ∧ (True ∧ en 
  = en) ∧ (True ∧ hn = hn) ∧ True) ∧ (True ∧ (True ∧ bx = bx) ∧ (True ∧ by_ = by_) ∧ (True ∧ bd = bd) ∧ True) ∧ (True ∧ True ∧ True ∧ l = l ∧ True) ∧ True) ∧ True) ∧ True) ∧ True) ∧ True) 
  ∧ ((((True ∧ (((0 : Nat) = (0 : Nat) ∧ (0 : Nat) = (0 : Nat)) ∧ ((1 : Nat) = (1 : Nat) ∧ (0 : Nat) = (0 : Nat)) ∧ ((2 : Nat) = (2 : Nat) ∧ (0 : Nat) = (0 : Nat)) ∧ True) ∧ ((True ∧ 
  ((True ∧ mw = mw) ∧ (True ∧ mh = mh) ∧ mc = mc ∧ mu = mu ∧ True) ∧ True ∧ l = l ∧ (True ∧ bx = bx) ∧ (True ∧ by_ = by_) ∧ (True ∧ bd = bd) ∧ (True ∧ en = en) ∧ (True ∧ hn = hn) ∧ True) 
  ∧ (True ∧ (True ∧ bx = bx) ∧ (True ∧ by_ = by_) ∧ (True ∧ bd = bd) ∧ True) ∧ (True ∧ True ∧ True ∧ l = l ∧ True) ∧ True) ∧ True) ∧ True) ∧ True) ∧ ((True ∧ (((0 : Nat) = (0 : Nat) ∧ 
  (0 : Nat) = (0 : Nat)) ∧ ((1 : Nat) = (1 : Nat) ∧ (0 : Nat) = (0 : Nat)) ∧ ((2 : Nat) = (2 : Nat) ∧ (0 : Nat) = (0 : Nat)) ∧ True) ∧ ((True ∧ ((True ∧ mw = mw) ∧ (True ∧ mh = mh) ∧ 
  mc = mc ∧ mu = mu ∧ True) ∧ True ∧ l = l ∧ (True ∧ bx = bx) ∧ (True ∧ by_ = by_) ∧ (True ∧ bd = bd) ∧ (True ∧ en = en) ∧ (True ∧ hn = hn) ∧ True) ∧ (True ∧ (True ∧ bx = bx) ∧ (True 
  ∧ by_ = by_) ∧ (True ∧ bd = bd) ∧ True) ∧ (True ∧ True ∧ True ∧ l = l ∧ True) ∧ True) ∧ True) ∧ True) ∧ True) ∧ True) ∧ ((((((True ∧ (((0 : Nat) = (0 : Nat) ∧ (0 : Nat) = (0 : Nat)) 
  ∧ ((1 : Nat) = (1 : Nat) ∧ (0 : Nat) = (0 : Nat)) ∧ ((2 : Nat) = (2 : Nat) ∧ (0 : Nat) = (0 : Nat)) ∧ True) ∧ ((True ∧ ((True ∧ mw = mw) ∧ (True ∧ mh = mh) ∧ mc = mc ∧ mu = mu ∧ True) 
  ∧ True ∧ l = l ∧ (True ∧ bx = bx) ∧ (True ∧ by_ = by_) ∧ (True ∧ bd = bd) ∧ (True ∧ en = en) ∧ (True ∧ hn = hn) ∧ True) ∧ (True ∧ (True ∧ bx = bx) ∧ (True ∧ by_ = by_) ∧ (True ∧ bd 
  = bd) ∧ True) ∧ (True ∧ True ∧ True ∧ l = l ∧ True) ∧ True) ∧ True) ∧ True) ∧ True) ∧ True) ∧ ((((True ∧ (((0 : Nat) = (0 : Nat) ∧ (0 : Nat) = (0 : Nat)) ∧ ((1 : Nat) = (1 : Nat) ∧ 
  (0 : Nat) = (0 : Nat)) ∧ ((2 : Nat) = (2 : Nat) ∧ (0 : Nat) = (0 : Nat)) ∧ True) ∧ ((True ∧ ((True ∧ mw = mw) ∧ (True ∧ mh = mh) ∧ mc = mc ∧ mu = mu ∧ True) ∧ True ∧ l = l ∧ (True ∧ 
  bx = bx) ∧ (True ∧ by_ = by_) ∧ (True ∧ bd = bd) ∧ (True ∧ en = en) ∧ (True ∧ hn = hn) ∧ True) ∧ (True ∧ (True ∧ bx = bx) ∧ (True ∧ by_ = by_) ∧ (True ∧ bd = bd) ∧ True) ∧ (True ∧ True 
  ∧ True ∧ l = l ∧ True) ∧ True) ∧ True) ∧ True) ∧ True) ∧ ((True ∧ (((0 : Nat) = (0 : Nat) ∧ (0 : Nat) = (0 : Nat)) ∧ ((1 : Nat) = (1 : Nat) ∧ (0 : Nat) = (0 : Nat)) ∧ ((2 : Nat) = (2 
  : Nat) ∧ (0 : Nat) = (0 : Nat)) ∧ True) ∧ ((True ∧ ((True ∧ mw = mw) ∧ (True ∧ mh = mh) ∧ mc = mc ∧ mu = mu ∧ True) ∧ True ∧ l = l ∧ (True ∧ bx = bx) ∧ (True ∧ by_ = by_) ∧ (True ∧ 
  bd = bd) ∧ (True ∧ en = en) ∧ (True ∧ hn = hn) ∧ True) ∧ (True ∧ (True ∧ bx = bx) ∧ (True ∧ by_ = by_) ∧ (True ∧ bd = bd) ∧ True) ∧ (True ∧ True ∧ True ∧ l = l ∧ True) ∧ True) ∧ True) 
  ∧ True) ∧ True) ∧ True) ∧ (((((True ∧ (((0 : Nat) = (0 : Nat) ∧ (0 : Nat) = (0 : Nat)) ∧ ((1 : Nat) = (1 : Nat) ∧ (0 : Nat) = (0 : Nat)) ∧ ((2 : Nat) = (2 : Nat) ∧ (0 : Nat) = (0 : 
  Nat)) ∧ True) ∧ ((True ∧ ((True ∧ mw = mw) ∧ (True ∧ mh = mh) ∧ mc = mc ∧ mu = mu ∧ True) ∧ True ∧ l = l ∧ (True ∧ bx = bx) ∧ (True ∧ by_ = by_) ∧ (True ∧ bd = bd) ∧ (True ∧ en = en) 
  ∧ (True ∧ hn = hn) ∧ True) ∧ (True ∧ (True ∧ bx = bx) ∧ (True ∧ by_ = by_) ∧ (True ∧ bd = bd) ∧ True) ∧ (True ∧ True ∧ True ∧ l = l ∧ True) ∧ True) ∧ True) ∧ True) ∧ True) ∧ True) ∧ 
  (((True ∧ (((0 : Nat) = (0 : Nat) ∧ (0 : Nat) = (0 : Nat)) ∧ ((1 : Nat) = (1 : Nat) ∧ (0 : Nat) = (0 : Nat)) ∧ ((2 : Nat) = (2 : Nat) ∧ (0 : Nat) = (0 : Nat)) ∧ True) ∧ ((True ∧ ((True 
  ∧ mw = mw) ∧ (True ∧ mh = mh) ∧ mc = mc ∧ mu = mu ∧ True) ∧ True ∧ l = l ∧ (True ∧ bx = bx) ∧ (True ∧ by_ = by_) ∧ (True ∧ bd = bd) ∧ (True ∧ en = en) ∧ (True ∧ hn = hn) ∧ True) ∧ (True 
  ∧ (True ∧ bx = bx) ∧ (True ∧ by_ = by_) ∧ (True ∧ bd = bd) ∧ True) ∧ (True ∧ True ∧ True ∧ l = l ∧ True) ∧ True) ∧ True) ∧ True) ∧ True) ∧ True) ∧ ((((True ∧ (((0 : Nat) = (0 : Nat) 
  ∧ (0 : Nat) = (0 : Nat)) ∧ ((1 : Nat) = (1 : Nat) ∧ (0 : Nat) = (0 : Nat)) ∧ ((2 : Nat) = (2 : Nat) ∧ (0 : Nat) = (0 : Nat)) ∧ True) ∧ ((True ∧ ((True ∧ mw = mw) ∧ (True ∧ mh = mh) 
  ∧ mc = mc ∧ mu = mu ∧ True) ∧ True ∧ l = l ∧ (True ∧ bx = bx) ∧ (True ∧ by_ = by_) ∧ (True ∧ bd = bd) ∧ (True ∧ en = en) ∧ (True ∧ hn = hn) ∧ True) ∧ (True ∧ (True ∧ bx = bx) ∧ (True 
  ∧ by_ = by_) ∧ (True ∧ bd = bd) ∧ True) ∧ (True ∧ True ∧ True ∧ l = l ∧ True) ∧ True) ∧ True) ∧ True) ∧ True) ∧ ((True ∧ (((0 : Nat) = (0 : Nat) ∧ (0 : Nat) = (0 : Nat)) ∧ ((1 : Nat) 
  = (1 : Nat) ∧ (0 : Nat) = (0 : Nat)) ∧ ((2 : Nat) = (2 : Nat) ∧ (0 : Nat) = (0 : Nat)) ∧ True) ∧ ((True ∧ ((True ∧ mw = mw) ∧ (True ∧ mh = mh) ∧ mc = mc ∧ mu = mu ∧ True) ∧ True ∧ l 
  = l ∧ (True ∧ bx = bx) ∧ (True ∧ by_ = by_) ∧ (True ∧ bd = bd) ∧ (True ∧ en = en) ∧ (True ∧ hn = hn) ∧ True) ∧ (True ∧ (True ∧ bx = bx) ∧ (True ∧ by_ = by_) ∧ (True ∧ bd = bd) ∧ True) 
  ∧ (True ∧ True ∧ True ∧ l = l ∧ True) ∧ True) ∧ True) ∧ True) ∧ True) ∧ True) ∧ True) ∧ True ∧ (((0 : Nat) = (0 : Nat) ∧ (0 : Nat) = (0 : Nat)) ∧ ((1 : Nat) = (1 : Nat) ∧ (0 : Nat) 
  = (0 : Nat)) ∧ ((2 : Nat) = (2 : Nat) ∧ (0 : Nat) = (0 : Nat)) ∧ True) ∧ ((True ∧ ((True ∧ mw = mw) ∧ (True ∧ mh = mh) ∧ mc = mc ∧ mu = mu ∧ True) ∧ True ∧ l = l ∧ (True ∧ bx = bx) 
  ∧ (True ∧ by_ = by_) ∧ (True ∧ bd = bd) ∧ (True ∧ en = en) ∧ (True ∧ hn = hn) ∧ True) ∧ (True ∧ (True ∧ bx = bx) ∧ (True ∧ by_ = by_) ∧ (True ∧ bd = bd) ∧ True) ∧ (True ∧ True ∧ True 
  ∧ l = l ∧ True) ∧ True) ∧ True) ∧ At (rlP mw mh l bx by_ bd) ∧ ((!inR mw mh (hitR mu mw (rlO mw mh l bx by_ bd))) = true → K (V.lit true) [{ cs := Cells.mix [V.int IntKind.i64 mw, V.int IntKind.i64 mh, V.str mc, V.bool mu] (81 : Nat) (padB (81 : Nat) (Rl.c (Rn.r (stepN mu mw { r := rlO mw mh l bx by_ bd, e := en, k := hn })))) [V.int IntKind.i64 (Rl.x (Rn.r (stepN mu mw { r := rlO mw mh l bx by_ bd, e := en, k := hn }))), V.int IntKind.i64 (Rl.y (Rn.r (stepN mu mw { r := rlO mw mh l bx by_ bd, e := en, k := hn }))), V.int IntKind.i64 (Rl.d (Rn.r (stepN mu mw { r := rlO mw mh l bx by_ bd, e := en, k := hn }))), V.int IntKind.i64 (Rn.e (stepN mu mw { r := rlO mw mh l bx by_ bd, e := en, k := hn })), V.int IntKind.i64 (Rn.k (stepN mu mw { r := rlO mw mh l bx by_ bd, e := en, k := hn }))], elem := 70, kind := Kind.box }, 
  { cs := Cells.vals [V.int IntKind.i64 bx, V.int IntKind.i64 by_, V.int IntKind.i64 bd], elem := 46, kind := Kind.box }, { cs := Cells.mix [] (81 : Nat) l [], elem := 68, kind := Kind.box }]) 
  ∧ ((!inR mw mh (hitR mu mw (rlO mw mh l bx by_ bd))) = false → True ∧ ((Rl.x (Rn.r (stepN mu mw { r := rlO mw mh l bx by_ bd, e := en, k := hn })) == bx && (Rl.y (Rn.r (stepN mu mw 
  { r := rlO mw mh l bx by_ bd, e := en, k := hn })) == by_ && (Rl.d (Rn.r (stepN mu mw { r := rlO mw mh l bx by_ bd, e := en, k := hn })) == bd && true))) = true → ((padB (81 : Nat) 
  (padB (81 : Nat) (Rl.c (Rn.r (stepN mu mw { r := rlO mw mh l bx by_ bd, e := en, k := hn })))) == padB (81 : Nat) l) = true → K (V.lit false) [{ cs := Cells.mix [V.int IntKind.i64 mw, V.int IntKind.i64 mh, V.str mc, V.bool mu] (81 : Nat) (padB (81 : Nat) (Rl.c (Rn.r (stepN mu mw { r := rlO mw mh l bx by_ bd, e := en, k := hn })))) [V.int IntKind.i64 (Rl.x (Rn.r (stepN mu mw { r := rlO mw mh l bx by_ bd, e := en, k := hn }))), V.int IntKind.i64 (Rl.y (Rn.r (stepN mu mw { r := rlO mw mh l bx by_ bd, e := en, k := hn }))), V.int IntKind.i64 (Rl.d (Rn.r (stepN mu mw { r := rlO mw mh l bx by_ bd, e := en, k := hn }))), V.int IntKind.i64 (Rn.e (stepN mu mw { r := rlO mw mh l bx by_ bd, e := en, k := hn })), V.int IntKind.i64 (Rn.k (stepN mu mw { r := rlO mw mh l bx by_ bd, e := en, k := hn }))], elem := 70, kind := Kind.box }, 
  { cs := Cells.vals [V.int IntKind.i64 bx, V.int IntKind.i64 by_, V.int IntKind.i64 bd], elem := 46, kind := Kind.box }, { cs := Cells.mix [] (81 : Nat) l [], elem := 68, kind := Kind.box }]) 
  ∧ ((padB (81 : Nat) (padB (81 : Nat) (Rl.c (Rn.r (stepN mu mw { r := rlO mw mh l bx by_ bd, e := en, k := hn })))) == padB (81 : Nat) l) = false → ((((0 : Nat) = (0 : Nat) ∧ (0 : Nat) 
  = (0 : Nat)) ∧ ((1 : Nat) = (1 : Nat) ∧ (0 : Nat) = (0 : Nat)) ∧ ((2 : Nat) = (2 : Nat) ∧ (0 : Nat) = (0 : Nat)) ∧ True) ∧ ((True ∧ ((True ∧ mw = mw) ∧ (True ∧ mh = mh) ∧ mc = mc ∧ 
  mu = mu ∧ True) ∧ True ∧ padB (81 : Nat) (Rl.c (Rn.r (stepN mu mw { r := rlO mw mh l bx by_ bd, e := en, k := hn }))) = padB (81 : Nat) (Rl.c (rlO mw mh (padB (81 : Nat) (Rl.c (Rn.r 
  (stepN mu mw { r := rlO mw mh l bx by_ bd, e := en, k := hn })))) (Rl.x (Rn.r (stepN mu mw { r := rlO mw mh l bx by_ bd, e := en, k := hn }))) (Rl.y (Rn.r (stepN mu mw { r := rlO mw mh l bx by_ bd, e := en, k := hn }))) 
  (Rl.d (Rn.r (stepN mu mw { r := rlO mw mh l bx by_ bd, e := en, k := hn }))))) ∧ (True ∧ Rl.x (Rn.r (stepN mu mw { r := rlO mw mh l bx by_ bd, e := en, k := hn })) = Rl.x (rlO mw mh 
  (padB (81 : Nat) (Rl.c (Rn.r (stepN mu mw { r := rlO mw mh l bx by_ bd, e := en, k := hn })))) (Rl.x (Rn.r (stepN mu mw { r := rlO mw mh l bx by_ bd, e := en, k := hn }))) (Rl.y (Rn.r 
  (stepN mu mw { r := rlO mw mh l bx by_ bd, e := en, k := hn }))) (Rl.d (Rn.r (stepN mu mw { r := rlO mw mh l bx by_ bd, e := en, k := hn }))))) ∧ (True ∧ Rl.y (Rn.r (stepN mu mw { r := rlO mw mh l bx by_ bd, e := en, k := hn })) 
  = Rl.y (rlO mw mh (padB (81 : Nat) (Rl.c (Rn.r (stepN mu mw { r := rlO mw mh l bx by_ bd, e := en, k := hn })))) (Rl.x (Rn.r (stepN mu mw { r := rlO mw mh l bx by_ bd, e := en, k := hn }))) 
  (Rl.y (Rn.r (stepN mu mw { r := rlO mw mh l bx by_ bd, e := en, k := hn }))) (Rl.d (Rn.r (stepN mu mw { r := rlO mw mh l bx by_ bd, e := en, k := hn }))))) ∧ (True ∧ Rl.d (Rn.r (stepN 
  mu mw { r := rlO mw mh l bx by_ bd, e := en, k := hn })) = Rl.d (rlO mw mh (padB (81 : Nat) (Rl.c (Rn.r (stepN mu mw { r := rlO mw mh l bx by_ bd, e := en, k := hn })))) (Rl.x (Rn.r 
  (stepN mu mw { r := rlO mw mh l bx by_ bd, e := en, k := hn }))) (Rl.y (Rn.r (stepN mu mw { r := rlO mw mh l bx by_ bd, e := en, k := hn }))) (Rl.d (Rn.r (stepN mu mw { r := rlO mw mh l bx by_ bd, e := en, k := hn }))))) 
  ∧ (True ∧ Rn.e (stepN mu mw { r := rlO mw mh l bx by_ bd, e := en, k := hn }) = Rn.e (stepN mu mw { r := rlO mw mh l bx by_ bd, e := en, k := hn })) ∧ (True ∧ Rn.k (stepN mu mw { r := rlO mw mh l bx by_ bd, e := en, k := hn }) 
  = Rn.k (stepN mu mw { r := rlO mw mh l bx by_ bd, e := en, k := hn })) ∧ True) ∧ (True ∧ (True ∧ bx = bx) ∧ (True ∧ by_ = by_) ∧ (True ∧ bd = bd) ∧ True) ∧ (True ∧ True ∧ True ∧ l = 
  l ∧ True) ∧ True) ∧ True) ∧ At (goInv mu mw mh (rlO mw mh l bx by_ bd) en hn { r := rlO mw mh (padB (81 : Nat) (Rl.c (Rn.r (stepN mu mw { r := rlO mw mh l bx by_ bd, e := en, k := hn })))) (Rl.x (Rn.r (stepN mu mw { r := rlO mw mh l bx by_ bd, e := en, k := hn }))) (Rl.y (Rn.r (stepN mu mw { r := rlO mw mh l bx by_ bd, e := en, k := hn }))) (Rl.d (Rn.r (stepN mu mw { r := rlO mw mh l bx by_ bd, e := en, k := hn }))), e := Rn.e (stepN mu mw { r := rlO mw mh l bx by_ bd, e := en, k := hn }), k := Rn.k (stepN mu mw { r := rlO mw mh l bx by_ bd, e := en, k := hn }) }))) 
  ∧ ((Rl.x (Rn.r (stepN mu mw { r := rlO mw mh l bx by_ bd, e := en, k := hn })) == bx && (Rl.y (Rn.r (stepN mu mw { r := rlO mw mh l bx by_ bd, e := en, k := hn })) == by_ && (Rl.d (Rn.r 
  (stepN mu mw { r := rlO mw mh l bx by_ bd, e := en, k := hn })) == bd && true))) = false → ((((0 : Nat) = (0 : Nat) ∧ (0 : Nat) = (0 : Nat)) ∧ ((1 : Nat) = (1 : Nat) ∧ (0 : Nat) = (0 
  : Nat)) ∧ ((2 : Nat) = (2 : Nat) ∧ (0 : Nat) = (0 : Nat)) ∧ True) ∧ ((True ∧ ((True ∧ mw = mw) ∧ (True ∧ mh = mh) ∧ mc = mc ∧ mu = mu ∧ True) ∧ True ∧ padB (81 : Nat) (Rl.c (Rn.r (stepN 
  mu mw { r := rlO mw mh l bx by_ bd, e := en, k := hn }))) = padB (81 : Nat) (Rl.c (rlO mw mh (padB (81 : Nat) (Rl.c (Rn.r (stepN mu mw { r := rlO mw mh l bx by_ bd, e := en, k := hn })))) 
  (Rl.x (Rn.r (stepN mu mw { r := rlO mw mh l bx by_ bd, e := en, k := hn }))) (Rl.y (Rn.r (stepN mu mw { r := rlO mw mh l bx by_ bd, e := en, k := hn }))) (Rl.d (Rn.r (stepN mu mw { r := rlO mw mh l bx by_ bd, e := en, k := hn }))))) 
  ∧ (True ∧ Rl.x (Rn.r (stepN mu mw { r := rlO mw mh l bx by_ bd, e := en, k := hn })) = Rl.x (rlO mw mh (padB (81 : Nat) (Rl.c (Rn.r (stepN mu mw { r := rlO mw mh l bx by_ bd, e := en, k := hn })))) 
  (Rl.x (Rn.r (stepN mu mw { r := rlO mw mh l bx by_ bd, e := en, k := hn }))) (Rl.y (Rn.r (stepN mu mw { r := rlO mw mh l bx by_ bd, e := en, k := hn }))) (Rl.d (Rn.r (stepN mu mw { r := rlO mw mh l bx by_ bd, e := en, k := hn }))))) 
  ∧ (True ∧ Rl.y (Rn.r (stepN mu mw { r := rlO mw mh l bx by_ bd, e := en, k := hn })) = Rl.y (rlO mw mh (padB (81 : Nat) (Rl.c (Rn.r (stepN mu mw { r := rlO mw mh l bx by_ bd, e := en, k := hn })))) 
  (Rl.x (Rn.r (stepN mu mw { r := rlO mw mh l bx by_ bd, e := en, k := hn }))) (Rl.y (Rn.r (stepN mu mw { r := rlO mw mh l bx by_ bd, e := en, k := hn }))) (Rl.d (Rn.r (stepN mu mw { r := rlO mw mh l bx by_ bd, e := en, k := hn }))))) 
  ∧ (True ∧ Rl.d (Rn.r (stepN mu mw { r := rlO mw mh l bx by_ bd, e := en, k := hn })) = Rl.d (rlO mw mh (padB (81 : Nat) (Rl.c (Rn.r (stepN mu mw { r := rlO mw mh l bx by_ bd, e := en, k := hn })))) 
  (Rl.x (Rn.r (stepN mu mw { r := rlO mw mh l bx by_ bd, e := en, k := hn }))) (Rl.y (Rn.r (stepN mu mw { r := rlO mw mh l bx by_ bd, e := en, k := hn }))) (Rl.d (Rn.r (stepN mu mw { r := rlO mw mh l bx by_ bd, e := en, k := hn }))))) 
  ∧ (True ∧ Rn.e (stepN mu mw { r := rlO mw mh l bx by_ bd, e := en, k := hn }) = Rn.e (stepN mu mw { r := rlO mw mh l bx by_ bd, e := en, k := hn })) ∧ (True ∧ Rn.k (stepN mu mw { r := rlO mw mh l bx by_ bd, e := en, k := hn }) 
  = Rn.k (stepN mu mw { r := rlO mw mh l bx by_ bd, e := en, k := hn })) ∧ True) ∧ (True ∧ (True ∧ bx = bx) ∧ (True ∧ by_ = by_) ∧ (True ∧ bd = bd) ∧ True) ∧ (True ∧ True ∧ True ∧ l = 
  l ∧ True) ∧ True) ∧ True) ∧ At (goInv mu mw mh (rlO mw mh l bx by_ bd) en hn { r := rlO mw mh (padB (81 : Nat) (Rl.c (Rn.r (stepN mu mw { r := rlO mw mh l bx by_ bd, e := en, k := hn })))) (Rl.x (Rn.r (stepN mu mw { r := rlO mw mh l bx by_ bd, e := en, k := hn }))) (Rl.y (Rn.r (stepN mu mw { r := rlO mw mh l bx by_ bd, e := en, k := hn }))) (Rl.d (Rn.r (stepN mu mw { r := rlO mw mh l bx by_ bd, e := en, k := hn }))), e := Rn.e (stepN mu mw { r := rlO mw mh l bx by_ bd, e := en, k := hn }), k := Rn.k (stepN mu mw { r := rlO mw mh l bx by_ bd, e := en, k := hn }) })))) 
  ∧ ∀ (a : Rn), goInv mu mw mh (rlO mw mh l bx by_ bd) en hn a → At (rlP mw mh (padB (81 : Nat) (Rl.c (Rn.r a))) (Rl.x (Rn.r a)) (Rl.y (Rn.r a)) (Rl.d (Rn.r a))) ∧ ((!inR mw mh (hitR 
  mu mw (rlO mw mh (padB (81 : Nat) (Rl.c (Rn.r a))) (Rl.x (Rn.r a)) (Rl.y (Rn.r a)) (Rl.d (Rn.r a))))) = true → K (V.lit true) [{ cs := Cells.mix [V.int IntKind.i64 mw, V.int IntKind.i64 mh, V.str mc, V.bool mu] (81 : Nat) (padB (81 : Nat) (Rl.c (Rn.r (stepN mu mw { r := rlO mw mh (padB (81 : Nat) (Rl.c (Rn.r a))) (Rl.x (Rn.r a)) (Rl.y (Rn.r a)) (Rl.d (Rn.r a)), e := Rn.e a, k := Rn.k a })))) [V.int IntKind.i64 (Rl.x (Rn.r (stepN mu mw { r := rlO mw mh (padB (81 : Nat) (Rl.c (Rn.r a))) (Rl.x (Rn.r a)) (Rl.y (Rn.r a)) (Rl.d (Rn.r a)), e := Rn.e a, k := Rn.k a }))), V.int IntKind.i64 (Rl.y (Rn.r (stepN mu mw { r := rlO mw mh (padB (81 : Nat) (Rl.c (Rn.r a))) (Rl.x (Rn.r a)) (Rl.y (Rn.r a)) (Rl.d (Rn.r a)), e := Rn.e a, k := Rn.k a }))), V.int IntKind.i64 (Rl.d (Rn.r (stepN mu mw { r := rlO mw mh (padB (81 : Nat) (Rl.c (Rn.r a))) (Rl.x (Rn.r a)) (Rl.y (Rn.r a)) (Rl.d (Rn.r a)), e := Rn.e a, k := Rn.k a }))), V.int IntKind.i64 (Rn.e (stepN mu mw { r := rlO mw mh (padB (81 : Nat) (Rl.c (Rn.r a))) (Rl.x (Rn.r a)) (Rl.y (Rn.r a)) (Rl.d (Rn.r a)), e := Rn.e a, k := Rn.k a })), V.int IntKind.i64 (Rn.k (stepN mu mw { r := rlO mw mh (padB (81 : Nat) (Rl.c (Rn.r a))) (Rl.x (Rn.r a)) (Rl.y (Rn.r a)) (Rl.d (Rn.r a)), e := Rn.e a, k := Rn.k a }))], elem := 70, kind := Kind.box }, 
  { cs := Cells.vals [V.int IntKind.i64 bx, V.int IntKind.i64 by_, V.int IntKind.i64 bd], elem := 46, kind := Kind.box }, { cs := Cells.mix [] (81 : Nat) l [], elem := 68, kind := Kind.box }]) 
  ∧ ((!inR mw mh (hitR mu mw (rlO mw mh (padB (81 : Nat) (Rl.c (Rn.r a))) (Rl.x (Rn.r a)) (Rl.y (Rn.r a)) (Rl.d (Rn.r a))))) = false → True ∧ ((Rl.x (Rn.r (stepN mu mw { r := rlO mw mh (padB (81 : Nat) (Rl.c (Rn.r a))) (Rl.x (Rn.r a)) (Rl.y (Rn.r a)) (Rl.d (Rn.r a)), e := Rn.e a, k := Rn.k a })) 
  == bx && (Rl.y (Rn.r (stepN mu mw { r := rlO mw mh (padB (81 : Nat) (Rl.c (Rn.r a))) (Rl.x (Rn.r a)) (Rl.y (Rn.r a)) (Rl.d (Rn.r a)), e := Rn.e a, k := Rn.k a })) == by_ && (Rl.d (Rn.r 
  (stepN mu mw { r := rlO mw mh (padB (81 : Nat) (Rl.c (Rn.r a))) (Rl.x (Rn.r a)) (Rl.y (Rn.r a)) (Rl.d (Rn.r a)), e := Rn.e a, k := Rn.k a })) == bd && true))) = true → ((padB (81 : 
  Nat) (padB (81 : Nat) (Rl.c (Rn.r (stepN mu mw { r := rlO mw mh (padB (81 : Nat) (Rl.c (Rn.r a))) (Rl.x (Rn.r a)) (Rl.y (Rn.r a)) (Rl.d (Rn.r a)), e := Rn.e a, k := Rn.k a })))) == 
  padB (81 : Nat) l) = true → K (V.lit false) [{ cs := Cells.mix [V.int IntKind.i64 mw, V.int IntKind.i64 mh, V.str mc, V.bool mu] (81 : Nat) (padB (81 : Nat) (Rl.c (Rn.r (stepN mu mw { r := rlO mw mh (padB (81 : Nat) (Rl.c (Rn.r a))) (Rl.x (Rn.r a)) (Rl.y (Rn.r a)) (Rl.d (Rn.r a)), e := Rn.e a, k := Rn.k a })))) [V.int IntKind.i64 (Rl.x (Rn.r (stepN mu mw { r := rlO mw mh (padB (81 : Nat) (Rl.c (Rn.r a))) (Rl.x (Rn.r a)) (Rl.y (Rn.r a)) (Rl.d (Rn.r a)), e := Rn.e a, k := Rn.k a }))), V.int IntKind.i64 (Rl.y (Rn.r (stepN mu mw { r := rlO mw mh (padB (81 : Nat) (Rl.c (Rn.r a))) (Rl.x (Rn.r a)) (Rl.y (Rn.r a)) (Rl.d (Rn.r a)), e := Rn.e a, k := Rn.k a }))), V.int IntKind.i64 (Rl.d (Rn.r (stepN mu mw { r := rlO mw mh (padB (81 : Nat) (Rl.c (Rn.r a))) (Rl.x (Rn.r a)) (Rl.y (Rn.r a)) (Rl.d (Rn.r a)), e := Rn.e a, k := Rn.k a }))), V.int IntKind.i64 (Rn.e (stepN mu mw { r := rlO mw mh (padB (81 : Nat) (Rl.c (Rn.r a))) (Rl.x (Rn.r a)) (Rl.y (Rn.r a)) (Rl.d (Rn.r a)), e := Rn.e a, k := Rn.k a })), V.int IntKind.i64 (Rn.k (stepN mu mw { r := rlO mw mh (padB (81 : Nat) (Rl.c (Rn.r a))) (Rl.x (Rn.r a)) (Rl.y (Rn.r a)) (Rl.d (Rn.r a)), e := Rn.e a, k := Rn.k a }))], elem := 70, kind := Kind.box }, 
  { cs := Cells.vals [V.int IntKind.i64 bx, V.int IntKind.i64 by_, V.int IntKind.i64 bd], elem := 46, kind := Kind.box }, { cs := Cells.mix [] (81 : Nat) l [], elem := 68, kind := Kind.box }]) 
  ∧ ((padB (81 : Nat) (padB (81 : Nat) (Rl.c (Rn.r (stepN mu mw { r := rlO mw mh (padB (81 : Nat) (Rl.c (Rn.r a))) (Rl.x (Rn.r a)) (Rl.y (Rn.r a)) (Rl.d (Rn.r a)), e := Rn.e a, k := Rn.k a })))) 
  == padB (81 : Nat) l) = false → ((((0 : Nat) = (0 : Nat) ∧ (0 : Nat) = (0 : Nat)) ∧ ((1 : Nat) = (1 : Nat) ∧ (0 : Nat) = (0 : Nat)) ∧ ((2 : Nat) = (2 : Nat) ∧ (0 : Nat) = (0 : Nat)) 
  ∧ True) ∧ ((True ∧ ((True ∧ mw = mw) ∧ (True ∧ mh = mh) ∧ mc = mc ∧ mu = mu ∧ True) ∧ True ∧ padB (81 : Nat) (Rl.c (Rn.r (stepN mu mw { r := rlO mw mh (padB (81 : Nat) (Rl.c (Rn.r a))) (Rl.x (Rn.r a)) (Rl.y (Rn.r a)) (Rl.d (Rn.r a)), e := Rn.e a, k := Rn.k a }))) 
  = padB (81 : Nat) (Rl.c (rlO mw mh (padB (81 : Nat) (Rl.c (Rn.r (stepN mu mw { r := rlO mw mh (padB (81 : Nat) (Rl.c (Rn.r a))) (Rl.x (Rn.r a)) (Rl.y (Rn.r a)) (Rl.d (Rn.r a)), e := Rn.e a, k := Rn.k a })))) 
  (Rl.x (Rn.r (stepN mu mw { r := rlO mw mh (padB (81 : Nat) (Rl.c (Rn.r a))) (Rl.x (Rn.r a)) (Rl.y (Rn.r a)) (Rl.d (Rn.r a)), e := Rn.e a, k := Rn.k a }))) (Rl.y (Rn.r (stepN mu mw { r := rlO mw mh (padB (81 : Nat) (Rl.c (Rn.r a))) (Rl.x (Rn.r a)) (Rl.y (Rn.r a)) (Rl.d (Rn.r a)), e := Rn.e a, k := Rn.k a }))) 
  (Rl.d (Rn.r (stepN mu mw { r := rlO mw mh (padB (81 : Nat) (Rl.c (Rn.r a))) (Rl.x (Rn.r a)) (Rl.y (Rn.r a)) (Rl.d (Rn.r a)), e := Rn.e a, k := Rn.k a }))))) ∧ (True ∧ Rl.x (Rn.r (stepN 
  mu mw { r := rlO mw mh (padB (81 : Nat) (Rl.c (Rn.r a))) (Rl.x (Rn.r a)) (Rl.y (Rn.r a)) (Rl.d (Rn.r a)), e := Rn.e a, k := Rn.k a })) = Rl.x (rlO mw mh (padB (81 : Nat) (Rl.c (Rn.r 
  (stepN mu mw { r := rlO mw mh (padB (81 : Nat) (Rl.c (Rn.r a))) (Rl.x (Rn.r a)) (Rl.y (Rn.r a)) (Rl.d (Rn.r a)), e := Rn.e a, k := Rn.k a })))) (Rl.x (Rn.r (stepN mu mw { r := rlO mw mh (padB (81 : Nat) (Rl.c (Rn.r a))) (Rl.x (Rn.r a)) (Rl.y (Rn.r a)) (Rl.d (Rn.r a)), e := Rn.e a, k := Rn.k a }))) 
  (Rl.y (Rn.r (stepN mu mw { r := rlO mw mh (padB (81 : Nat) (Rl.c (Rn.r a))) (Rl.x (Rn.r a)) (Rl.y (Rn.r a)) (Rl.d (Rn.r a)), e := Rn.e a, k := Rn.k a }))) (Rl.d (Rn.r (stepN mu mw { r := rlO mw mh (padB (81 : Nat) (Rl.c (Rn.r a))) (Rl.x (Rn.r a)) (Rl.y (Rn.r a)) (Rl.d (Rn.r a)), e := Rn.e a, k := Rn.k a }))))) 
  ∧ (True ∧ Rl.y (Rn.r (stepN mu mw { r := rlO mw mh (padB (81 : Nat) (Rl.c (Rn.r a))) (Rl.x (Rn.r a)) (Rl.y (Rn.r a)) (Rl.d (Rn.r a)), e := Rn.e a, k := Rn.k a })) = Rl.y (rlO mw mh 
  (padB (81 : Nat) (Rl.c (Rn.r (stepN mu mw { r := rlO mw mh (padB (81 : Nat) (Rl.c (Rn.r a))) (Rl.x (Rn.r a)) (Rl.y (Rn.r a)) (Rl.d (Rn.r a)), e := Rn.e a, k := Rn.k a })))) (Rl.x (Rn.r 
  (stepN mu mw { r := rlO mw mh (padB (81 : Nat) (Rl.c (Rn.r a))) (Rl.x (Rn.r a)) (Rl.y (Rn.r a)) (Rl.d (Rn.r a)), e := Rn.e a, k := Rn.k a }))) (Rl.y (Rn.r (stepN mu mw { r := rlO mw mh (padB (81 : Nat) (Rl.c (Rn.r a))) (Rl.x (Rn.r a)) (Rl.y (Rn.r a)) (Rl.d (Rn.r a)), e := Rn.e a, k := Rn.k a }))) 
  (Rl.d (Rn.r (stepN mu mw { r := rlO mw mh (padB (81 : Nat) (Rl.c (Rn.r a))) (Rl.x (Rn.r a)) (Rl.y (Rn.r a)) (Rl.d (Rn.r a)), e := Rn.e a, k := Rn.k a }))))) ∧ (True ∧ Rl.d (Rn.r (stepN 
  mu mw { r := rlO mw mh (padB (81 : Nat) (Rl.c (Rn.r a))) (Rl.x (Rn.r a)) (Rl.y (Rn.r a)) (Rl.d (Rn.r a)), e := Rn.e a, k := Rn.k a })) = Rl.d (rlO mw mh (padB (81 : Nat) (Rl.c (Rn.r 
  (stepN mu mw { r := rlO mw mh (padB (81 : Nat) (Rl.c (Rn.r a))) (Rl.x (Rn.r a)) (Rl.y (Rn.r a)) (Rl.d (Rn.r a)), e := Rn.e a, k := Rn.k a })))) (Rl.x (Rn.r (stepN mu mw { r := rlO mw mh (padB (81 : Nat) (Rl.c (Rn.r a))) (Rl.x (Rn.r a)) (Rl.y (Rn.r a)) (Rl.d (Rn.r a)), e := Rn.e a, k := Rn.k a }))) 
  (Rl.y (Rn.r (stepN mu mw { r := rlO mw mh (padB (81 : Nat) (Rl.c (Rn.r a))) (Rl.x (Rn.r a)) (Rl.y (Rn.r a)) (Rl.d (Rn.r a)), e := Rn.e a, k := Rn.k a }))) (Rl.d (Rn.r (stepN mu mw { r := rlO mw mh (padB (81 : Nat) (Rl.c (Rn.r a))) (Rl.x (Rn.r a)) (Rl.y (Rn.r a)) (Rl.d (Rn.r a)), e := Rn.e a, k := Rn.k a }))))) 
  ∧ (True ∧ Rn.e (stepN mu mw { r := rlO mw mh (padB (81 : Nat) (Rl.c (Rn.r a))) (Rl.x (Rn.r a)) (Rl.y (Rn.r a)) (Rl.d (Rn.r a)), e := Rn.e a, k := Rn.k a }) = Rn.e (stepN mu mw { r := rlO mw mh (padB (81 : Nat) (Rl.c (Rn.r a))) (Rl.x (Rn.r a)) (Rl.y (Rn.r a)) (Rl.d (Rn.r a)), e := Rn.e a, k := Rn.k a })) 
  ∧ (True ∧ Rn.k (stepN mu mw { r := rlO mw mh (padB (81 : Nat) (Rl.c (Rn.r a))) (Rl.x (Rn.r a)) (Rl.y (Rn.r a)) (Rl.d (Rn.r a)), e := Rn.e a, k := Rn.k a }) = Rn.k (stepN mu mw { r := rlO mw mh (padB (81 : Nat) (Rl.c (Rn.r a))) (Rl.x (Rn.r a)) (Rl.y (Rn.r a)) (Rl.d (Rn.r a)), e := Rn.e a, k := Rn.k a })) 
  ∧ True) ∧ (True ∧ (True ∧ bx = bx) ∧ (True ∧ by_ = by_) ∧ (True ∧ bd = bd) ∧ True) ∧ (True ∧ True ∧ True ∧ l = l ∧ True) ∧ True) ∧ True) ∧ At (goInv mu mw mh (rlO mw mh l bx by_ bd) 
  en hn { r := rlO mw mh (padB (81 : Nat) (Rl.c (Rn.r (stepN mu mw { r := rlO mw mh (padB (81 : Nat) (Rl.c (Rn.r a))) (Rl.x (Rn.r a)) (Rl.y (Rn.r a)) (Rl.d (Rn.r a)), e := Rn.e a, k := Rn.k a })))) (Rl.x (Rn.r (stepN mu mw { r := rlO mw mh (padB (81 : Nat) (Rl.c (Rn.r a))) (Rl.x (Rn.r a)) (Rl.y (Rn.r a)) (Rl.d (Rn.r a)), e := Rn.e a, k := Rn.k a }))) (Rl.y (Rn.r (stepN mu mw { r := rlO mw mh (padB (81 : Nat) (Rl.c (Rn.r a))) (Rl.x (Rn.r a)) (Rl.y (Rn.r a)) (Rl.d (Rn.r a)), e := Rn.e a, k := Rn.k a }))) (Rl.d (Rn.r (stepN mu mw { r := rlO mw mh (padB (81 : Nat) (Rl.c (Rn.r a))) (Rl.x (Rn.r a)) (Rl.y (Rn.r a)) (Rl.d (Rn.r a)), e := Rn.e a, k := Rn.k a }))), e := Rn.e (stepN mu mw { r := rlO mw mh (padB (81 : Nat) (Rl.c (Rn.r a))) (Rl.x (Rn.r a)) (Rl.y (Rn.r a)) (Rl.d (Rn.r a)), e := Rn.e a, k := Rn.k a }), k := Rn.k (stepN mu mw { r := rlO mw mh (padB (81 : Nat) (Rl.c (Rn.r a))) (Rl.x (Rn.r a)) (Rl.y (Rn.r a)) (Rl.d (Rn.r a)), e := Rn.e a, k := Rn.k a }) } 
  ∧ leftR mu mw mh (rlO mw mh l bx by_ bd) (rlO mw mh (padB (81 : Nat) (Rl.c (Rn.r (stepN mu mw { r := rlO mw mh (padB (81 : Nat) (Rl.c (Rn.r a))) (Rl.x (Rn.r a)) (Rl.y (Rn.r a)) (Rl.d (Rn.r a)), e := Rn.e a, k := Rn.k a })))) 
  (Rl.x (Rn.r (stepN mu mw { r := rlO mw mh (padB (81 : Nat) (Rl.c (Rn.r a))) (Rl.x (Rn.r a)) (Rl.y (Rn.r a)) (Rl.d (Rn.r a)), e := Rn.e a, k := Rn.k a }))) (Rl.y (Rn.r (stepN mu mw { r := rlO mw mh (padB (81 : Nat) (Rl.c (Rn.r a))) (Rl.x (Rn.r a)) (Rl.y (Rn.r a)) (Rl.d (Rn.r a)), e := Rn.e a, k := Rn.k a }))) 
  (Rl.d (Rn.r (stepN mu mw { r := rlO mw mh (padB (81 : Nat) (Rl.c (Rn.r a))) (Rl.x (Rn.r a)) (Rl.y (Rn.r a)) (Rl.d (Rn.r a)), e := Rn.e a, k := Rn.k a })))) < leftR mu mw mh (rlO mw 
  mh l bx by_ bd) (Rn.r a)))) ∧ ((Rl.x (Rn.r (stepN mu mw { r := rlO mw mh (padB (81 : Nat) (Rl.c (Rn.r a))) (Rl.x (Rn.r a)) (Rl.y (Rn.r a)) (Rl.d (Rn.r a)), e := Rn.e a, k := Rn.k a })) 
  == bx && (Rl.y (Rn.r (stepN mu mw { r := rlO mw mh (padB (81 : Nat) (Rl.c (Rn.r a))) (Rl.x (Rn.r a)) (Rl.y (Rn.r a)) (Rl.d (Rn.r a)), e := Rn.e a, k := Rn.k a })) == by_ && (Rl.d (Rn.r 
  (stepN mu mw { r := rlO mw mh (padB (81 : Nat) (Rl.c (Rn.r a))) (Rl.x (Rn.r a)) (Rl.y (Rn.r a)) (Rl.d (Rn.r a)), e := Rn.e a, k := Rn.k a })) == bd && true))) = false → ((((0 : Nat) 
  = (0 : Nat) ∧ (0 : Nat) = (0 : Nat)) ∧ ((1 : Nat) = (1 : Nat) ∧ (0 : Nat) = (0 : Nat)) ∧ ((2 : Nat) = (2 : Nat) ∧ (0 : Nat) = (0 : Nat)) ∧ True) ∧ ((True ∧ ((True ∧ mw = mw) ∧ (True 
  ∧ mh = mh) ∧ mc = mc ∧ mu = mu ∧ True) ∧ True ∧ padB (81 : Nat) (Rl.c (Rn.r (stepN mu mw { r := rlO mw mh (padB (81 : Nat) (Rl.c (Rn.r a))) (Rl.x (Rn.r a)) (Rl.y (Rn.r a)) (Rl.d (Rn.r a)), e := Rn.e a, k := Rn.k a }))) 
  = padB (81 : Nat) (Rl.c (rlO mw mh (padB (81 : Nat) (Rl.c (Rn.r (stepN mu mw { r := rlO mw mh (padB (81 : Nat) (Rl.c (Rn.r a))) (Rl.x (Rn.r a)) (Rl.y (Rn.r a)) (Rl.d (Rn.r a)), e := Rn.e a, k := Rn.k a })))) 
  (Rl.x (Rn.r (stepN mu mw { r := rlO mw mh (padB (81 : Nat) (Rl.c (Rn.r a))) (Rl.x (Rn.r a)) (Rl.y (Rn.r a)) (Rl.d (Rn.r a)), e := Rn.e a, k := Rn.k a }))) (Rl.y (Rn.r (stepN mu mw { r := rlO mw mh (padB (81 : Nat) (Rl.c (Rn.r a))) (Rl.x (Rn.r a)) (Rl.y (Rn.r a)) (Rl.d (Rn.r a)), e := Rn.e a, k := Rn.k a }))) 
  (Rl.d (Rn.r (stepN mu mw { r := rlO mw mh (padB (81 : Nat) (Rl.c (Rn.r a))) (Rl.x (Rn.r a)) (Rl.y (Rn.r a)) (Rl.d (Rn.r a)), e := Rn.e a, k := Rn.k a }))))) ∧ (True ∧ Rl.x (Rn.r (stepN 
  mu mw { r := rlO mw mh (padB (81 : Nat) (Rl.c (Rn.r a))) (Rl.x (Rn.r a)) (Rl.y (Rn.r a)) (Rl.d (Rn.r a)), e := Rn.e a, k := Rn.k a })) = Rl.x (rlO mw mh (padB (81 : Nat) (Rl.c (Rn.r 
  (stepN mu mw { r := rlO mw mh (padB (81 : Nat) (Rl.c (Rn.r a))) (Rl.x (Rn.r a)) (Rl.y (Rn.r a)) (Rl.d (Rn.r a)), e := Rn.e a, k := Rn.k a })))) (Rl.x (Rn.r (stepN mu mw { r := rlO mw mh (padB (81 : Nat) (Rl.c (Rn.r a))) (Rl.x (Rn.r a)) (Rl.y (Rn.r a)) (Rl.d (Rn.r a)), e := Rn.e a, k := Rn.k a }))) 
  (Rl.y (Rn.r (stepN mu mw { r := rlO mw mh (padB (81 : Nat) (Rl.c (Rn.r a))) (Rl.x (Rn.r a)) (Rl.y (Rn.r a)) (Rl.d (Rn.r a)), e := Rn.e a, k := Rn.k a }))) (Rl.d (Rn.r (stepN mu mw { r := rlO mw mh (padB (81 : Nat) (Rl.c (Rn.r a))) (Rl.x (Rn.r a)) (Rl.y (Rn.r a)) (Rl.d (Rn.r a)), e := Rn.e a, k := Rn.k a }))))) 
  ∧ (True ∧ Rl.y (Rn.r (stepN mu mw { r := rlO mw mh (padB (81 : Nat) (Rl.c (Rn.r a))) (Rl.x (Rn.r a)) (Rl.y (Rn.r a)) (Rl.d (Rn.r a)), e := Rn.e a, k := Rn.k a })) = Rl.y (rlO mw mh 
  (padB (81 : Nat) (Rl.c (Rn.r (stepN mu mw { r := rlO mw mh (padB (81 : Nat) (Rl.c (Rn.r a))) (Rl.x (Rn.r a)) (Rl.y (Rn.r a)) (Rl.d (Rn.r a)), e := Rn.e a, k := Rn.k a })))) (Rl.x (Rn.r 
  (stepN mu mw { r := rlO mw mh (padB (81 : Nat) (Rl.c (Rn.r a))) (Rl.x (Rn.r a)) (Rl.y (Rn.r a)) (Rl.d (Rn.r a)), e := Rn.e a, k := Rn.k a }))) (Rl.y (Rn.r (stepN mu mw { r := rlO mw mh (padB (81 : Nat) (Rl.c (Rn.r a))) (Rl.x (Rn.r a)) (Rl.y (Rn.r a)) (Rl.d (Rn.r a)), e := Rn.e a, k := Rn.k a }))) 
  (Rl.d (Rn.r (stepN mu mw { r := rlO mw mh (padB (81 : Nat) (Rl.c (Rn.r a))) (Rl.x (Rn.r a)) (Rl.y (Rn.r a)) (Rl.d (Rn.r a)), e := Rn.e a, k := Rn.k a }))))) ∧ (True ∧ Rl.d (Rn.r (stepN 
  mu mw { r := rlO mw mh (padB (81 : Nat) (Rl.c (Rn.r a))) (Rl.x (Rn.r a)) (Rl.y (Rn.r a)) (Rl.d (Rn.r a)), e := Rn.e a, k := Rn.k a })) = Rl.d (rlO mw mh (padB (81 : Nat) (Rl.c (Rn.r 
  (stepN mu mw { r := rlO mw mh (padB (81 : Nat) (Rl.c (Rn.r a))) (Rl.x (Rn.r a)) (Rl.y (Rn.r a)) (Rl.d (Rn.r a)), e := Rn.e a, k := Rn.k a })))) (Rl.x (Rn.r (stepN mu mw { r := rlO mw mh (padB (81 : Nat) (Rl.c (Rn.r a))) (Rl.x (Rn.r a)) (Rl.y (Rn.r a)) (Rl.d (Rn.r a)), e := Rn.e a, k := Rn.k a }))) 
  (Rl.y (Rn.r (stepN mu mw { r := rlO mw mh (padB (81 : Nat) (Rl.c (Rn.r a))) (Rl.x (Rn.r a)) (Rl.y (Rn.r a)) (Rl.d (Rn.r a)), e := Rn.e a, k := Rn.k a }))) (Rl.d (Rn.r (stepN mu mw { r := rlO mw mh (padB (81 : Nat) (Rl.c (Rn.r a))) (Rl.x (Rn.r a)) (Rl.y (Rn.r a)) (Rl.d (Rn.r a)), e := Rn.e a, k := Rn.k a }))))) 
  ∧ (True ∧ Rn.e (stepN mu mw { r := rlO mw mh (padB (81 : Nat) (Rl.c (Rn.r a))) (Rl.x (Rn.r a)) (Rl.y (Rn.r a)) (Rl.d (Rn.r a)), e := Rn.e a, k := Rn.k a }) = Rn.e (stepN mu mw { r := rlO mw mh (padB (81 : Nat) (Rl.c (Rn.r a))) (Rl.x (Rn.r a)) (Rl.y (Rn.r a)) (Rl.d (Rn.r a)), e := Rn.e a, k := Rn.k a })) 
  ∧ (True ∧ Rn.k (stepN mu mw { r := rlO mw mh (padB (81 : Nat) (Rl.c (Rn.r a))) (Rl.x (Rn.r a)) (Rl.y (Rn.r a)) (Rl.d (Rn.r a)), e := Rn.e a, k := Rn.k a }) = Rn.k (stepN mu mw { r := rlO mw mh (padB (81 : Nat) (Rl.c (Rn.r a))) (Rl.x (Rn.r a)) (Rl.y (Rn.r a)) (Rl.d (Rn.r a)), e := Rn.e a, k := Rn.k a })) 
  ∧ True) ∧ (True ∧ (True ∧ bx = bx) ∧ (True ∧ by_ = by_) ∧ (True ∧ bd = bd) ∧ True) ∧ (True ∧ True ∧ True ∧ l = l ∧ True) ∧ True) ∧ True) ∧ At (goInv mu mw mh (rlO mw mh l bx by_ bd) 
  en hn { r := rlO mw mh (padB (81 : Nat) (Rl.c (Rn.r (stepN mu mw { r := rlO mw mh (padB (81 : Nat) (Rl.c (Rn.r a))) (Rl.x (Rn.r a)) (Rl.y (Rn.r a)) (Rl.d (Rn.r a)), e := Rn.e a, k := Rn.k a })))) (Rl.x (Rn.r (stepN mu mw { r := rlO mw mh (padB (81 : Nat) (Rl.c (Rn.r a))) (Rl.x (Rn.r a)) (Rl.y (Rn.r a)) (Rl.d (Rn.r a)), e := Rn.e a, k := Rn.k a }))) (Rl.y (Rn.r (stepN mu mw { r := rlO mw mh (padB (81 : Nat) (Rl.c (Rn.r a))) (Rl.x (Rn.r a)) (Rl.y (Rn.r a)) (Rl.d (Rn.r a)), e := Rn.e a, k := Rn.k a }))) (Rl.d (Rn.r (stepN mu mw { r := rlO mw mh (padB (81 : Nat) (Rl.c (Rn.r a))) (Rl.x (Rn.r a)) (Rl.y (Rn.r a)) (Rl.d (Rn.r a)), e := Rn.e a, k := Rn.k a }))), e := Rn.e (stepN mu mw { r := rlO mw mh (padB (81 : Nat) (Rl.c (Rn.r a))) (Rl.x (Rn.r a)) (Rl.y (Rn.r a)) (Rl.d (Rn.r a)), e := Rn.e a, k := Rn.k a }), k := Rn.k (stepN mu mw { r := rlO mw mh (padB (81 : Nat) (Rl.c (Rn.r a))) (Rl.x (Rn.r a)) (Rl.y (Rn.r a)) (Rl.d (Rn.r a)), e := Rn.e a, k := Rn.k a }) } 
  ∧ leftR mu mw mh (rlO mw mh l bx by_ bd) (rlO mw mh (padB (81 : Nat) (Rl.c (Rn.r (stepN mu mw { r := rlO mw mh (padB (81 : Nat) (Rl.c (Rn.r a))) (Rl.x (Rn.r a)) (Rl.y (Rn.r a)) (Rl.d (Rn.r a)), e := Rn.e a, k := Rn.k a })))) 
  (Rl.x (Rn.r (stepN mu mw { r := rlO mw mh (padB (81 : Nat) (Rl.c (Rn.r a))) (Rl.x (Rn.r a)) (Rl.y (Rn.r a)) (Rl.d (Rn.r a)), e := Rn.e a, k := Rn.k a }))) (Rl.y (Rn.r (stepN mu mw { r := rlO mw mh (padB (81 : Nat) (Rl.c (Rn.r a))) (Rl.x (Rn.r a)) (Rl.y (Rn.r a)) (Rl.d (Rn.r a)), e := Rn.e a, k := Rn.k a }))) 
  (Rl.d (Rn.r (stepN mu mw { r := rlO mw mh (padB (81 : Nat) (Rl.c (Rn.r a))) (Rl.x (Rn.r a)) (Rl.y (Rn.r a)) (Rl.d (Rn.r a)), e := Rn.e a, k := Rn.k a })))) < leftR mu mw mh (rlO mw 
  mh l bx by_ bd) (Rn.r a))))

def VC_impl_endOf (mw : Int) (mh : Int) (mc : List UInt8) (mu : Bool) (bx : Int) (by_ : Int) (bd : Int) (K : V → Prop) : Prop :=
  ((bd == (0 : Int)) = true → K (V.int IntKind.i64 bx)) ∧
  ((bd == (0 : Int)) = false →
    ((bd == (1 : Int)) = true → K (V.int IntKind.i64 (IntKind.wrap IntKind.i64 (mw + by_)))) ∧
      ((bd == (1 : Int)) = false →
        ((bd == (2 : Int)) = true →
            K
              (V.int IntKind.i64
                (IntKind.wrap IntKind.i64
                  (IntKind.wrap IntKind.i64 (mw + mh) +
                    IntKind.wrap IntKind.i64 (IntKind.wrap IntKind.i64 (mw - (1 : Int)) - bx))))) ∧
          ((bd == (2 : Int)) = false →
            (K
                  (V.int IntKind.i64
                    (IntKind.wrap IntKind.i64
                      (IntKind.wrap IntKind.i64
                          (IntKind.wrap IntKind.i64 ((2 : Int) * IntKind.wrap IntKind.i64 (mw + mh)) - (1 : Int)) -
                        by_))) ∧
                (K
                      (V.int IntKind.i64
                        (IntKind.wrap IntKind.i64
                          (IntKind.wrap IntKind.i64
                              (IntKind.wrap IntKind.i64 ((2 : Int) * IntKind.wrap IntKind.i64 (mw + mh)) - (1 : Int)) -
                            by_))) ∧
                    True) ∧
                  True) ∧
              ((K
                      (V.int IntKind.i64
                        (IntKind.wrap IntKind.i64
                          (IntKind.wrap IntKind.i64
                              (IntKind.wrap IntKind.i64 ((2 : Int) * IntKind.wrap IntKind.i64 (mw + mh)) - (1 : Int)) -
                            by_))) ∧
                    True) ∧
                  True) ∧
                True)))

def VC_impl_roll_send (k : Int) (mw : Int) (mh : Int) (mc : List UInt8) (mu : Bool) (l : List UInt8) (bx : Int) (by_ : Int) (bd : Int) (en : Int) (hn : Int) (K : V → List Blk → Prop) : Prop :=
  At (((1 : Int) ≤ mw ∧ mw ≤ (9 : Int)) ∧ ((1 : Int) ≤ mh ∧ mh ≤ (9 : Int)) ∧ (0 : Int) ≤ k ∧ k < (2 : Int) * (mw + mh)) ∧
  At (rlP mw mh l (entX mw mh k) (entY mw mh k) (entD mw mh k)) ∧
    True ∧
      At
          (((1 : Int) ≤ mw ∧ mw ≤ (9 : Int)) ∧
            ((1 : Int) ≤ mh ∧ mh ≤ (9 : Int)) ∧
              ((-1 : Int) ≤
                    Rl.x (Rn.r (outR mu mw mh (rlO mw mh l (entX mw mh k) (entY mw mh k) (entD mw mh k)) en hn)) ∧
                  Rl.x (Rn.r (outR mu mw mh (rlO mw mh l (entX mw mh k) (entY mw mh k) (entD mw mh k)) en hn)) ≤
                    (9 : Int)) ∧
                (-1 : Int) ≤
                    Rl.y (Rn.r (outR mu mw mh (rlO mw mh l (entX mw mh k) (entY mw mh k) (entD mw mh k)) en hn)) ∧
                  Rl.y (Rn.r (outR mu mw mh (rlO mw mh l (entX mw mh k) (entY mw mh k) (entD mw mh k)) en hn)) ≤
                    (9 : Int)) ∧
        K
          (V.int IntKind.i64
            (endR mw mh
              { c := mc,
                x := Rl.x (Rn.r (outR mu mw mh (rlO mw mh l (entX mw mh k) (entY mw mh k) (entD mw mh k)) en hn)),
                y := Rl.y (Rn.r (outR mu mw mh (rlO mw mh l (entX mw mh k) (entY mw mh k) (entD mw mh k)) en hn)),
                d := Rl.d (Rn.r (outR mu mw mh (rlO mw mh l (entX mw mh k) (entY mw mh k) (entD mw mh k)) en hn)) }))
          [{
              cs :=
                Cells.mix [V.int IntKind.i64 mw, V.int IntKind.i64 mh, V.str mc, V.bool mu] (81 : Nat)
                  (padB (81 : Nat)
                    (Rl.c (Rn.r (outR mu mw mh (rlO mw mh l (entX mw mh k) (entY mw mh k) (entD mw mh k)) en hn))))
                  [V.int IntKind.i64
                      (Rl.x (Rn.r (outR mu mw mh (rlO mw mh l (entX mw mh k) (entY mw mh k) (entD mw mh k)) en hn))),
                    V.int IntKind.i64
                      (Rl.y (Rn.r (outR mu mw mh (rlO mw mh l (entX mw mh k) (entY mw mh k) (entD mw mh k)) en hn))),
                    V.int IntKind.i64
                      (Rl.d (Rn.r (outR mu mw mh (rlO mw mh l (entX mw mh k) (entY mw mh k) (entD mw mh k)) en hn))),
                    V.int IntKind.i64
                      (Rn.e (outR mu mw mh (rlO mw mh l (entX mw mh k) (entY mw mh k) (entD mw mh k)) en hn)),
                    V.int IntKind.i64
                      (Rn.k (outR mu mw mh (rlO mw mh l (entX mw mh k) (entY mw mh k) (entD mw mh k)) en hn))],
              elem := 70, kind := Kind.box }]

def VC_spec_miAt (mw : Int) (mh : Int) (mc : List UInt8) (mu : Bool) (bx : Int) (by_ : Int) (bd : Int) (K : V → Prop) : Prop :=
  At
    ((0 : Int) ≤ IntKind.wrap IntKind.i64 (IntKind.wrap IntKind.i64 (by_ * mw) + bx) ∧
      IntKind.wrap IntKind.i64 (IntKind.wrap IntKind.i64 (by_ * mw) + bx) < (↑(List.length mc) : Int)) ∧
  K
    (V.int IntKind.u8
      (↑(UInt8.toNat
            (List.getD mc (Int.toNat (IntKind.wrap IntKind.i64 (IntKind.wrap IntKind.i64 (by_ * mw) + bx)))
              (0 : UInt8))) :
        Int))

def VC_spec_miOut (mw : Int) (mh : Int) (mc : List UInt8) (mu : Bool) (bx : Int) (by_ : Int) (bd : Int) (K : V → Prop) : Prop :=
  (decide (by_ < (0 : Int)) = true → K (V.int IntKind.i64 bx)) ∧
  (decide (by_ < (0 : Int)) = false →
    (decide (bx ≥ mw) = true → K (V.int IntKind.i64 (IntKind.wrap IntKind.i64 (mw + by_)))) ∧
      (decide (bx ≥ mw) = false →
        (decide (by_ ≥ mh) = true →
            K
              (V.int IntKind.i64
                (IntKind.wrap IntKind.i64
                  (IntKind.wrap IntKind.i64
                      (IntKind.wrap IntKind.i64 (IntKind.wrap IntKind.i64 ((2 : Int) * mw) + mh) - (1 : Int)) -
                    bx)))) ∧
          (decide (by_ ≥ mh) = false →
            (K
                  (V.int IntKind.i64
                    (IntKind.wrap IntKind.i64
                      (IntKind.wrap IntKind.i64
                          (IntKind.wrap IntKind.i64 ((2 : Int) * IntKind.wrap IntKind.i64 (mw + mh)) - (1 : Int)) -
                        by_))) ∧
                (K
                      (V.int IntKind.i64
                        (IntKind.wrap IntKind.i64
                          (IntKind.wrap IntKind.i64
                              (IntKind.wrap IntKind.i64 ((2 : Int) * IntKind.wrap IntKind.i64 (mw + mh)) - (1 : Int)) -
                            by_))) ∧
                    True) ∧
                  True) ∧
              ((K
                      (V.int IntKind.i64
                        (IntKind.wrap IntKind.i64
                          (IntKind.wrap IntKind.i64
                              (IntKind.wrap IntKind.i64 ((2 : Int) * IntKind.wrap IntKind.i64 (mw + mh)) - (1 : Int)) -
                            by_))) ∧
                    True) ∧
                  True) ∧
                True)))

def VC_spec_miRun (mw : Int) (mh : Int) (mc : List UInt8) (mu : Bool) (bx : Int) (by_ : Int) (bd : Int) (K : V → Prop) : Prop := ((((((((True ∧ (((0 : Nat) = (0 : Nat) ∧ (0 : Nat) = 
  (0 : Nat)) ∧ ((1 : Nat) = (1 : Nat) ∧ (0 : Nat) = (0 : Nat)) ∧ ((2 : Nat) = (2 : Nat) ∧ (0 : Nat) = (0 : Nat)) ∧ ((3 : Nat) = (3 : Nat) ∧ (0 : Nat) = (0 : Nat)) ∧ ((4 : Nat) = (4 : 
  Nat) ∧ (0 : Nat) = (0 : Nat)) ∧ True) ∧ ((True ∧ (True ∧ mw = mw) ∧ (True ∧ mh = mh) ∧ mc = mc ∧ mu = mu ∧ True) ∧ (True ∧ (True ∧ bx = bx) ∧ (True ∧ by_ = by_) ∧ (True ∧ bd = bd) ∧ 
  True) ∧ (True ∧ (True ∧ (0 : Int) = (0 : Int)) ∧ (True ∧ (0 : Int) = (0 : Int)) ∧ nilB = nilB ∧ false = false ∧ True) ∧ (True ∧ (True ∧ mw = mw) ∧ (True ∧ mh = mh) ∧ mc = mc ∧ mu = 
  mu ∧ True) ∧ (True ∧ (True ∧ bx = bx) ∧ (True ∧ by_ = by_) ∧ (True ∧ bd = bd) ∧ True) ∧ True) ∧ True) ∧ True) ∧ True) ∧ True) ∧ ((((True ∧ (((0 : Nat) = (0 : Nat) ∧ (0 : Nat) = (0 : 
  Nat)) ∧ ((1 : Nat) = (1 : Nat) ∧ (0 : Nat) = (0 : Nat)) ∧ ((2 : Nat) = (2 : Nat) ∧ (0 : Nat) = (0 : Nat)) ∧ ((3 : Nat) = (3 : Nat) ∧ (0 : Nat) = (0 : Nat)) ∧ ((4 : Nat) = (4 : Nat) 
  ∧ (0 : Nat) = (0 : Nat)) ∧ True) ∧ ((True ∧ (True ∧ mw = mw) ∧ (True ∧ mh = mh) ∧ mc = mc ∧ mu = mu ∧ True) ∧ (True ∧ (True ∧ bx = bx) ∧ (True ∧ by_ = by_) ∧ (True ∧ bd = bd) ∧ True) 
  ∧ (True ∧ (True ∧ (0 : Int) = (0 : Int)) ∧ (True ∧ (0 : Int) = (0 : Int)) ∧ nilB = nilB ∧ false = false ∧ True) ∧ (True ∧ (True ∧ mw = mw) ∧ (True ∧ mh = mh) ∧ mc = mc ∧ mu = mu ∧ True) 
  ∧ (True ∧ (True ∧ bx = bx) ∧ (True ∧ by_ = by_) ∧ (True ∧ bd = bd) ∧ True) ∧ True) ∧ True) ∧ True) ∧ True) ∧ True) ∧ True) ∧ (((((True ∧ (((0 : Nat) = (0 : Nat) ∧ (0 : Nat) = (0 : Nat)) 
  ∧ ((1 : Nat) = (1 : Nat) ∧ (0 : Nat) = (0 : Nat)) ∧ ((2 : Nat) = (2 : Nat) ∧ (0 : Nat) = (0 : Nat)) ∧ ((3 : Nat) = (3 : Nat) ∧ (0 : Nat) = (0 : Nat)) ∧ ((4 : Nat) = (4 : Nat) ∧ (0 : 
  Nat) = (0 : Nat)) ∧ True) ∧ ((True ∧ (True ∧ mw = mw) ∧ (True ∧ mh = mh) ∧ mc = mc ∧ mu = mu ∧ True) ∧ (True ∧ (True ∧ bx = bx) ∧ (True ∧ by_ = by_) ∧ (True ∧ bd = bd) ∧ True) ∧ (True 
  ∧ (True ∧ (0 : Int) = (0 : Int)) ∧ (True ∧ (0 : Int) = (0 : Int)) ∧ nilB = nilB ∧ false = false ∧ True) ∧ (True ∧ (True ∧ mw = mw) ∧ (True ∧ mh = mh) ∧ mc = mc ∧ mu = mu ∧ True) ∧ (True 
  ∧ (True ∧ bx = bx) ∧ (True ∧ by_ = by_) ∧ (True ∧ bd = bd) ∧ True) ∧ True) ∧ True) ∧ True) ∧ True) ∧ True) ∧ ((((True ∧ (((0 : Nat) = (0 : Nat) ∧ (0 : Nat) = (0 : Nat)) ∧ ((1 : Nat) 
  = (1 : Nat) ∧ (0 : Nat) = (0 : Nat)) ∧ ((2 : Nat) = (2 : Nat) ∧ (0 : Nat) = (0 : Nat)) ∧ ((3 : Nat) = (3 : Nat) ∧ (0 : Nat) = (0 : Nat)) ∧ ((4 : Nat) = (4 : Nat) ∧ (0 : Nat) = (0 : 
  Nat)) ∧ True) ∧ ((True ∧ (True ∧ mw = mw) ∧ (True ∧ mh = mh) ∧ mc = mc ∧ mu = mu ∧ True) ∧ (True ∧ (True ∧ bx = bx) ∧ (True ∧ by_ = by_) ∧ (True ∧ bd = bd) ∧ True) ∧ (True ∧ (True ∧ 
  (0 : Int) = (0 : Int)) ∧ (True ∧ (0 : Int) = (0 : Int)) ∧ nilB = nilB ∧ false = false ∧ True) ∧ (True ∧ (True ∧ mw = mw) ∧ (True ∧ mh = mh) ∧ mc = mc ∧ mu = mu ∧ True) ∧ (True ∧ (True 
  ∧ bx = bx) ∧ (True ∧ by_ = by_) ∧ (True ∧ bd = bd) ∧ True) ∧ True) ∧ True) ∧ True) ∧ True) ∧ ((True ∧ (((0 : Nat) = (0 : Nat) ∧ (0 : Nat) = (0 : Nat)) ∧ ((1 : Nat) = (1 : Nat) ∧ (0 
  : Nat) = (0 : Nat)) ∧ ((2 : Nat) = (2 : Nat) ∧ (0 : Nat) = (0 : Nat)) ∧ ((3 : Nat) = (3 : Nat) ∧ (0 : Nat) = (0 : Nat)) ∧ ((4 : Nat) = (4 : Nat) ∧ (0 : Nat) = (0 : Nat)) ∧ True) ∧ ((True 
  ∧ (True ∧ mw = mw) ∧ (True ∧ mh = mh) ∧ mc = mc ∧ mu = mu ∧ True) ∧ (True ∧ (True ∧ bx = bx) ∧ (True ∧ by_ = by_) ∧ (True ∧ bd = bd) ∧ True) ∧ (True ∧ (True ∧ (0 : Int) = (0 : Int)) 
  ∧ (True ∧ (0 : Int) = (0 : Int)) ∧ nilB = nilB ∧ false = false ∧ True) ∧ (True ∧ (True ∧ mw = mw) ∧ (True ∧ mh = mh) ∧ mc = mc ∧ mu = mu ∧ True) ∧ (True ∧ (True ∧ bx = bx) ∧ (True ∧ 
  by_ = by_) ∧ (True ∧ bd = bd) ∧ True) ∧ True) ∧ True) ∧ True) ∧ True) ∧ True) ∧ (((((True ∧ (((0 : Nat) = (0 : Nat) ∧ (0 : Nat) = (0 : Nat)) ∧ ((1 : Nat) = (1 : Nat) ∧ (0 : Nat) = (0 
  : Nat)) ∧ ((2 : Nat) = (2 : Nat) ∧ (0 : Nat) = (0 : Nat)) ∧ ((3 : Nat) = (3 : Nat) ∧ (0 : Nat) = (0 : Nat)) ∧ ((4 : Nat) = (4 : Nat) ∧ (0 : Nat) = (0 : Nat)) ∧ True) ∧ ((True ∧ (True 
  ∧ mw = mw) ∧ (True ∧ mh = mh) ∧ mc = mc ∧ mu = mu ∧ True) ∧ (True ∧ (True ∧ bx = bx) ∧ (True ∧ by_ = by_) ∧ (True ∧ bd = bd) ∧ True) ∧ (True ∧ (True ∧ (0 : Int) = (0 : Int)) ∧ (True 
  ∧ (0 : Int) = (0 : Int)) ∧ nilB = nilB ∧ false = false ∧ True) ∧ (True ∧ (True ∧ mw = mw) ∧ (True ∧ mh = mh) ∧ mc = mc ∧ mu = mu ∧ True) ∧ (True ∧ (True ∧ bx = bx) ∧ (True ∧ by_ = by_) 
  ∧ (True ∧ bd = bd) ∧ True) ∧ True) ∧ True) ∧ True) ∧ True) ∧ True) ∧ ((((True ∧ (((0 : Nat) = (0 : Nat) ∧ (0 : Nat) = (0 : Nat)) ∧ ((1 : Nat) = (1 : Nat) ∧ (0 : Nat) = (0 : Nat)) ∧ 
  ((2 : Nat) = (2 : Nat) ∧ (0 : Nat) = (0 : Nat)) ∧ ((3 : Nat) = (3 : Nat) ∧ (0 : Nat) = (0 : Nat)) ∧ ((4 : Nat) = (4 : Nat) ∧ (0 : Nat) = (0 : Nat)) ∧ True) ∧ ((True ∧ (True ∧ mw = mw) 
  ∧ (True ∧ mh = mh) ∧ mc = mc ∧ mu = mu ∧ True) ∧ (True ∧ (True ∧ bx = bx) ∧ (True ∧ by_ = by_) ∧ (True ∧ bd = bd) ∧ True) ∧ (True ∧ (True ∧ (0 : Int) = (0 : Int)) ∧ (True ∧ (0 : Int) 
  = (0 : Int)) ∧ nilB = nilB ∧ false = false ∧ True) ∧ (True ∧ (True ∧ mw = mw) ∧ (True ∧ mh = mh) ∧ mc = mc ∧ mu = mu ∧ True) ∧ (True ∧ (True ∧ bx = bx) ∧ (True ∧ by_ = by_) ∧ (True 
  ∧ bd = bd) ∧ True) ∧ True) ∧ True) ∧ True) ∧ True) ∧ ((True ∧ (((0 : Nat) = (0 : Nat) ∧ (0 : Nat) = (0 : Nat)) ∧ ((1 : Nat) = (1 : Nat) ∧ (0 : Nat) = (0 : Nat)) ∧ ((2 : Nat) = (2 : 
  Nat) ∧ (0 : Nat) = (0 : Nat)) ∧ ((3 : Nat) = (3 : Nat) ∧ (0 : Nat) = (0 : Nat)) ∧ ((4 : Nat) = (4 : Nat) ∧ (0 : Nat) = (0 : Nat)) ∧ True) ∧ ((True ∧ (True ∧ mw = mw) ∧ (True ∧ mh = 
  mh) ∧ mc = mc ∧ mu = mu ∧ True) ∧ (True ∧ (True ∧ bx = bx) ∧ (True ∧ by_ = by_) ∧ (True ∧ bd = bd) ∧ True) ∧ (True ∧ (True ∧ (0 : Int) = (0 : Int)) ∧ (True ∧ (0 : Int) = (0 : Int)) 
  ∧ nilB = nilB ∧ false = false ∧ True) ∧ (True ∧ (True ∧ mw = mw) ∧ (True ∧ mh = mh) ∧ mc = mc ∧ mu = mu ∧ True) ∧ (True ∧ (True ∧ bx = bx) ∧ (True ∧ by_ = by_) ∧ (True ∧ bd = bd) ∧ 
  True) ∧ True) ∧ True) ∧ True) ∧ True) ∧ True) ∧ True) ∧ ((((((True ∧ (((0 : Nat) = (0 : Nat) ∧ (0 : Nat) = (0 : Nat)) ∧ ((1 : Nat) = (1 : Nat) ∧ (0 : Nat) = (0 : Nat)) ∧ ((2 : Nat) 
  = (2 : Nat) ∧ (0 : Nat) = (0 : Nat)) ∧ ((3 : Nat) = (3 : Nat) ∧ (0 : Nat) = (0 : Nat)) ∧ ((4 : Nat) = (4 : Nat) ∧ (0 : Nat) = (0 : Nat)) ∧ True) ∧ ((True ∧ (True ∧ mw = mw) ∧ (True 
  ∧ mh = mh) ∧ mc = mc ∧ mu = mu ∧ True) ∧ (True ∧ (True ∧ bx = bx) ∧ (True ∧ by_ = by_) ∧ (True ∧ bd = bd) ∧ True) ∧ (True ∧ (True ∧ (0 : Int) = (0 : Int)) ∧ (True ∧ (0 : Int) = (0 : 
  Int)) ∧ nilB = nilB ∧ false = false ∧ True) ∧ (True ∧ (True ∧ mw = mw) ∧ (True ∧ mh = mh) ∧ mc = mc ∧ mu = mu ∧ True) ∧ (True ∧ (True ∧ bx = bx) ∧ (True ∧ by_ = by_) ∧ (True ∧ bd = 
  bd) ∧ True) ∧ True) ∧ True) ∧ True) ∧ True) ∧ True) ∧ ((((True ∧ (((0 : Nat) = (0 : Nat) ∧ (0 : Nat) = (0 : Nat)) ∧ ((1 : Nat) = (1 : Nat) ∧ (0 : Nat) = (0 : Nat)) ∧ ((2 : Nat) = (2 
  : Nat) ∧ (0 : Nat) = (0 : Nat)) ∧ ((3 : Nat) = (3 : Nat) ∧ (0 : Nat) = (0 : Nat)) ∧ ((4 : Nat) = (4 : Nat) ∧ (0 : Nat) = (0 : Nat)) ∧ True) ∧ ((True ∧ (True ∧ mw = mw) ∧ (True ∧ mh 
  = mh) ∧ mc = mc ∧ mu = mu ∧ True) ∧ (True ∧ (True ∧ bx = bx) ∧ (True ∧ by_ = by_) ∧ (True ∧ bd = bd) ∧ True) ∧ (True ∧ (True ∧ (0 : Int) = (0 : Int)) ∧ (True ∧ (0 : Int) = (0 : Int)) 
  ∧ nilB = nilB ∧ false = false ∧ True) ∧ (True ∧ (True ∧ mw = mw) ∧ (True ∧ mh = mh) ∧ mc = mc ∧ mu = mu ∧ True) ∧ (True ∧ (True ∧ bx = bx) ∧ (True ∧ by_ = by_) ∧ (True ∧ bd = bd) ∧ 
  True) ∧ True) ∧ True) ∧ True) ∧ True) ∧ True) ∧ True) ∧ (((((True ∧ (((0 : Nat) = (0 : Nat) ∧ (0 : Nat) = (0 : Nat)) ∧ ((1 : Nat) = (1 : Nat) ∧ (0 : Nat) = (0 : Nat)) ∧ ((2 : Nat) = 
  (2 : Nat) ∧ (0 : Nat) = (0 : Nat)) ∧ ((3 : Nat) = (3 : Nat) ∧ (0 : Nat) = (0 : Nat)) ∧ ((4 : Nat) = (4 : Nat) ∧ (0 : Nat) = (0 : Nat)) ∧ True) ∧ ((True ∧ (True ∧ mw = mw) ∧ (True ∧ 
  mh = mh) ∧ mc = mc ∧ mu = mu ∧ True) ∧ (True ∧ (True ∧ bx = bx) ∧ (True ∧ by_ = by_) ∧ (True ∧ bd = bd) ∧ True) ∧ (True ∧ (True ∧ (0 : Int) = (0 : Int)) ∧ (True ∧ (0 : Int) = (0 : Int)) 
  ∧ nilB = nilB ∧ false = false ∧ True) ∧ (True ∧ (True ∧ mw = mw) ∧ (True ∧ mh = mh) ∧ mc = mc ∧ mu = mu ∧ True) ∧ (True ∧ (True ∧ bx = bx) ∧ (True ∧ by_ = by_) ∧ (True ∧ bd = bd) ∧ 
  True) ∧ True) ∧ True) ∧ True) ∧ True) ∧ True) ∧ (((True ∧ (((0 : Nat) = (0 : Nat) ∧ (0 : Nat) = (0 : Nat)) ∧ ((1 : Nat) = (1 : Nat) ∧ (0 : Nat) = (0 : Nat)) ∧ ((2 : Nat) = (2 : Nat) 
  ∧ (0 : Nat) = (0 : Nat)) ∧ ((3 : Nat) = (3 : Nat) ∧ (0 : Nat) = (0 : Nat)) ∧ ((4 : Nat) = (4 : Nat) ∧ (0 : Nat) = (0 : Nat)) ∧ True) ∧ ((True ∧ (True ∧ mw = mw) ∧ (True ∧ mh = mh) ∧ 
  mc = mc ∧ mu = mu ∧ True) ∧ (True ∧ (True ∧ bx = bx) ∧ (True ∧ by_ = by_) ∧ (True ∧ bd = bd) ∧ True) ∧ (True ∧ (True ∧ (0 : Int) = (0 : Int)) ∧ (True ∧ (0 : Int) = (0 : Int)) ∧ nilB 
  = nilB ∧ false = false ∧ True) ∧ (True ∧ (True ∧ mw = mw) ∧ (True ∧ mh = mh) ∧ mc = mc ∧ mu = mu ∧ True) ∧ (True ∧ (True ∧ bx = bx) ∧ (True ∧ by_ = by_) ∧ (True ∧ bd = bd) ∧ True) ∧ 
  True) ∧ True) ∧ True) ∧ True) ∧ True) ∧ (((((True ∧ (((0 : Nat) = (0 : Nat) ∧ (0 : Nat) = (0 : Nat)) ∧ ((1 : Nat) = (1 : Nat) ∧ (0 : Nat) = (0 : Nat)) ∧ ((2 : Nat) = (2 : Nat) ∧ (0 
  : Nat) = (0 : Nat)) ∧ ((3 : Nat) = (3 : Nat) ∧ (0 : Nat) = (0 : Nat)) ∧ ((4 : Nat) = (4 : Nat) ∧ (0 : Nat) = (0 : Nat)) ∧ True) ∧ ((True ∧ (True ∧ mw = mw) ∧ (True ∧ mh = mh) ∧ mc = 
  mc ∧ mu = mu ∧ True) ∧ (True ∧ (True ∧ bx = bx) ∧ (True ∧ by_ = by_) ∧ (True ∧ bd = bd) ∧ True) ∧ (True ∧ (True ∧ (0 : Int) = (0 : Int)) ∧ (True ∧ (0 : Int) = (0 : Int)) ∧ nilB = nilB 
  ∧ false = false ∧ True) ∧ (True ∧ (True ∧ mw = mw) ∧ (True ∧ mh = mh) ∧ mc = mc ∧ mu = mu ∧ True) ∧ (True ∧ (True ∧ bx = bx) ∧ (True ∧ by_ = by_) ∧ (True ∧ bd = bd) ∧ True) ∧ True) 
  ∧ True) ∧ True) ∧ True) ∧ True) ∧ (((True ∧ (((0 : Nat) = (0 : Nat) ∧ (0 : Nat) = (0 : Nat)) ∧ ((1 : Nat) = (1 : Nat) ∧ (0 : Nat) = (0 : Nat)) ∧ ((2 : Nat) = (2 : Nat) ∧ (0 : Nat) = 
  (0 : Nat)) ∧ ((3 : Nat) = (3 : Nat) ∧ (0 : Nat) = (0 : Nat)) ∧ ((4 : Nat) = (4 : Nat) ∧ (0 : Nat) = (0 : Nat)) ∧ True) ∧ ((True ∧ (True ∧ mw = mw) ∧ (True ∧ mh = mh) ∧ mc = mc ∧ mu 
  = mu ∧ True) ∧ (True ∧ (True ∧ bx = bx) ∧ (True ∧ by_ = by_) ∧ (True ∧ bd = bd) ∧ True) ∧ (True ∧ (True ∧ (0 : Int) = (0 : Int)) ∧ (True ∧ (0 : Int) = (0 : Int)) ∧ nilB = nilB ∧ false 
  = false ∧ True) ∧ (True ∧ (True ∧ mw = mw) ∧ (True ∧ mh = mh) ∧ mc = mc ∧ mu = mu ∧ True) ∧ (True ∧ (True ∧ bx = bx) ∧ (True ∧ by_ = by_) ∧ (True ∧ bd = bd) ∧ True) ∧ True) ∧ True) 
  ∧ True) ∧ True) ∧ True) ∧ True) ∧ ((((((True ∧ (((0 : Nat) = (0 : Nat) ∧ (0 : Nat) = (0 : Nat)) ∧ ((1 : Nat) = (1 : Nat) ∧ (0 : Nat) = (0 : Nat)) ∧ ((2 : Nat) = (2 : Nat) ∧ (0 : Nat) 
  = (0 : Nat)) ∧ ((3 : Nat) = (3 : Nat) ∧ (0 : Nat) = (0 : Nat)) ∧ ((4 : Nat) = (4 : Nat) ∧ (0 : Nat) = (0 : Nat)) ∧ True) ∧ ((True ∧ (True ∧ mw = mw) ∧ (True ∧ mh = mh) ∧ mc = mc ∧ mu 
  = mu ∧ True) ∧ (True ∧ (True ∧ bx = bx) ∧ (True ∧ by_ = by_) ∧ (True ∧ bd = bd) ∧ True) ∧ (True ∧ (True ∧ (0 : Int) = (0 : Int)) ∧ (True ∧ (0 : Int) = (0 : Int)) ∧ nilB = nilB ∧ false 
  = false ∧ True) ∧ (True ∧ (True ∧ mw = mw) ∧ (True ∧ mh = mh) ∧ mc = mc ∧ mu = mu ∧ True) ∧ (True ∧ (True ∧ bx = bx) ∧ (True ∧ by_ = by_) ∧ (True ∧ bd = bd) ∧ True) ∧ True) ∧ True) 
  ∧ True) ∧ True) ∧ True) ∧ ((((True ∧ (((0 : Nat) = (0 : Nat) ∧ (0 : Nat) = (0 : Nat)) ∧ ((1 : Nat) = (1 : Nat) ∧ (0 : Nat) = (0 : Nat)) ∧ ((2 : Nat) = (2 : Nat) ∧ (0 : Nat) = (0 : Nat)) 
  ∧ ((3 : Nat) = (3 : Nat) ∧ (0 : Nat) = (0 : Nat)) ∧ ((4 : Nat) = (4 : Nat) ∧ (0 : Nat) = (0 : Nat)) ∧ True) ∧ ((True ∧ (True ∧ mw = mw) ∧ (True ∧ mh = mh) ∧ mc = mc ∧ mu = mu ∧ True) 
  ∧ (True ∧ (True ∧ bx = bx) ∧ (True ∧ by_ = by_) ∧ (True ∧ bd = bd) ∧ True) ∧ (True ∧ (True ∧ (0 : Int) = (0 : Int)) ∧ (True ∧ (0 : Int) = (0 : Int)) ∧ nilB = nilB ∧ false = false ∧ 
  True) ∧ (True ∧ (True ∧ mw = mw) ∧ (True ∧ mh = mh) ∧ mc = mc ∧ mu = mu ∧ True) ∧ (True ∧ (True ∧ bx = bx) ∧ (True ∧ by_ = by_) ∧ (True ∧ bd = bd) ∧ True) ∧ True) ∧ True) ∧ True) ∧ 
  True) ∧ ((True ∧ (((0 : Nat) = (0 : Nat) ∧ (0 : Nat) = (0 : Nat)) ∧ ((1 : Nat) = (1 : Nat) ∧ (0 : Nat) = (0 : Nat)) ∧ ((2 : Nat) = (2 : Nat) ∧ (0 : Nat) = (0 : Nat)) ∧ ((3 : Nat) = 
  (3 : Nat) ∧ (0 : Nat) = (0 : Nat)) ∧ ((4 : Nat) = (4 : Nat) ∧ (0 : Nat) = (0 : Nat)) ∧ True) ∧ ((True ∧ (True ∧ mw = mw) ∧ (True ∧ mh = mh) ∧ mc = mc ∧ mu = mu ∧ True) ∧ (True ∧ (True 
  ∧ bx = bx) ∧ (True ∧ by_ = by_) ∧ (True ∧ bd = bd) ∧ True) ∧ (True ∧ (True ∧ (0 : Int) = (0 : Int)) ∧ (True ∧ (0 : Int) = (0 : Int)) ∧ nilB = nilB ∧ false = false ∧ True) ∧ (True ∧ 
  (True ∧ mw = mw) ∧ (True ∧ mh = mh) ∧ mc = mc ∧ mu = mu ∧ True) ∧ (True ∧ (True ∧ bx = bx) ∧ (True ∧ by_ = by_) ∧ (True ∧ bd = bd) ∧ True) ∧ True) ∧ True) ∧ True) ∧ True) ∧ True) ∧ 
  (((((True ∧ (((0 : Nat) = (0 : Nat) ∧ (0 : Nat) = (0 : Nat)) ∧ ((1 : Nat) = (1 : Nat) ∧ (0 : Nat) = (0 : Nat)) ∧ ((2 : Nat) = (2 : Nat) ∧ (0 : Nat) = (0 : Nat)) ∧ ((3 : Nat) = (3 : 
  Nat) ∧ (0 : Nat) = (0 : Nat)) ∧ ((4 : Nat) = (4 : Nat) ∧ (0 : Nat) = (0 : Nat)) ∧ True) ∧ ((True ∧ (True ∧ mw = mw) ∧ (True ∧ mh = mh) ∧ mc = mc ∧ mu = mu ∧ True) ∧ (True ∧ (True ∧ 
  bx = bx) ∧ (True ∧ by_ = by_) ∧ (True ∧ bd = bd) ∧ True) ∧ (True ∧ (True ∧ (0 : Int) = (0 : Int)) ∧ (True ∧ (0 : Int) = (0 : Int)) ∧ nilB = nilB ∧ false = false ∧ True) ∧ (True ∧ (True 
  ∧ mw = mw) ∧ (True ∧ mh = mh) ∧ mc = mc ∧ mu = mu ∧ True) ∧ (True ∧ (True ∧ bx = bx) ∧ (True ∧ by_ = by_) ∧ (True ∧ bd = bd) ∧ True) ∧ True) ∧ True) ∧ True) ∧ True) ∧ True) ∧ (((True 
  ∧ (((0 : Nat) = (0 : Nat) ∧ (0 : Nat) = (0 : Nat)) ∧ ((1 : Nat) = (1 : Nat) ∧ (0 : Nat) = (0 : Nat)) ∧ ((2 : Nat) = (2 : Nat) ∧ (0 : Nat) = (0 : Nat)) ∧ ((3 : Nat) = (3 : Nat) ∧ (0 
  : Nat) = (0 : Nat)) ∧ ((4 : Nat) = (4 : Nat) ∧ (0 : Nat) = (0 : Nat)) ∧ True) ∧ ((True ∧ (True ∧ mw = mw) ∧ (True ∧ mh = mh) ∧ mc = mc ∧ mu = mu ∧ True) ∧ (True ∧ (True ∧ bx = bx) ∧ 
  (True ∧ by_ = by_) ∧ (True ∧ bd = bd) ∧ True) ∧ (True ∧ (True ∧ (0 : Int) = (0 : Int)) ∧ (True ∧ (0 : Int) = (0 : Int)) ∧ nilB = nilB ∧ false = false ∧ True) ∧ (True ∧ (True ∧ mw = 
  mw) ∧ (True ∧ mh = mh) ∧ mc = mc ∧ mu = mu ∧ True) ∧ (True ∧ (True ∧ bx = bx) ∧ (True ∧ by_ = by_) ∧ (True ∧ bd = bd) ∧ True) ∧ True) ∧ True) ∧ True) ∧ True) ∧ True) ∧ ((((True ∧ (((0 
  : Nat) = (0 : Nat) ∧ (0 : Nat) = (0 : Nat)) ∧ ((1 : Nat) = (1 : Nat) ∧ (0 : Nat) = (0 : Nat)) ∧ ((2 : Nat) = (2 : Nat) ∧ (0 : Nat) = (0 : Nat)) ∧ ((3 : Nat) = (3 : Nat) ∧ (0 : Nat) 
  = (0 : Nat)) ∧ ((4 : Nat) = (4 : Nat) ∧ (0 : Nat) = (0 : Nat)) ∧ True) ∧ ((True ∧ (True ∧ mw = mw) ∧ (True ∧ mh = mh) ∧ mc = mc ∧ mu = mu ∧ True) ∧ (True ∧ (True ∧ bx = bx) ∧ (True 
  ∧ by_ = by_) ∧ (True ∧ bd = bd) ∧ True) ∧ (True ∧ (True ∧ (0 : Int) = (0 : Int)) ∧ (True ∧ (0 : Int) = (0 : Int)) ∧ nilB = nilB ∧ false = false ∧ True) ∧ (True ∧ (True ∧ mw = mw) ∧ 
  (True ∧ mh = mh) ∧ mc = mc ∧ mu = mu ∧ True) ∧ (True ∧ (True ∧ bx = bx) ∧ (True ∧ by_ = by_) ∧ (True ∧ bd = bd) ∧ True) ∧ True) ∧ True) ∧ True) ∧ True) ∧ ((True ∧ (((0 : Nat) = (0 : 
  Nat) ∧ (0 : Nat) = (0 : Nat)) ∧ ((1 : Nat) = (1 : Nat) ∧ (0 : Nat) = (0 : Nat)) ∧ ((2 : Nat) = (2 : Nat) ∧ (0 : Nat) = (0 : Nat)) ∧ ((3 : Nat) = (3 : Nat) ∧ (0 : Nat) = (0 : Nat)) ∧ 
  ((4 : Nat) = (4 : Nat) ∧ (0 : Nat) = (0 : Nat)) ∧ True) ∧ ((True ∧ (True ∧ mw = mw) ∧ (True ∧ mh = mh) ∧ mc = mc ∧ mu = mu ∧ True) ∧ (True ∧ (True ∧ bx = bx) ∧ (True ∧ by_ = by_) ∧ 
  (True ∧ bd = bd) ∧ True) ∧ (True ∧ (True ∧ (0 : Int) = (0 : Int)) ∧ (True ∧ (0 : Int) = (0 : Int)) ∧ nilB = nilB ∧ false = false ∧ True) ∧ (True ∧ (True ∧ mw = mw) ∧ (True ∧ mh = mh) 
  ∧ mc = mc ∧ mu = mu ∧ True) ∧ (True ∧ (True ∧ bx = bx) ∧ (True ∧ by_ = by_) ∧ (True ∧ bd = bd) ∧ True) ∧ True) ∧ True) ∧ True) ∧ True) ∧ True) ∧ ((((((True ∧ (((0 : Nat) = (0 : Nat) 
  ∧ (0 : Nat) = (0 : Nat)) ∧ ((1 : Nat) = (1 : Nat) ∧ (0 : Nat) = (0 : Nat)) ∧ ((2 : Nat) = (2 : Nat) ∧ (0 : Nat) = (0 : Nat)) ∧ ((3 : Nat) = (3 : Nat) ∧ (0 : Nat) = (0 : Nat)) ∧ ((4 
  : Nat) = (4 : Nat) ∧ (0 : Nat) = (0 : Nat)) ∧ True) ∧ ((True ∧ (True ∧ mw = mw) ∧ (True ∧ mh = mh) ∧ mc = mc ∧ mu = mu ∧ True) ∧ (True ∧ (True ∧ bx = bx) ∧ (True ∧ by_ = by_) ∧ (True 
  ∧ bd = bd) ∧ True) ∧ (True ∧ (True ∧ (0 : Int) = (0 : Int)) ∧ (True ∧ (0 : Int) = (0 : Int)) ∧ nilB = nilB ∧ false = false ∧ True) ∧ (True ∧ (True ∧ mw = mw) ∧ (True ∧ mh = mh) ∧ mc 
  = mc ∧ mu = mu ∧ True) ∧ (True ∧ (True ∧ bx = bx) ∧ (True ∧ by_ = by_) ∧ (True ∧ bd = bd) ∧ True) ∧ True) ∧ True) ∧ True) ∧ True) ∧ True) ∧ ((((True ∧ (((0 : Nat) = (0 : Nat) ∧ (0 : 
  Nat) = (0 : Nat)) ∧ ((1 : Nat) = (1 : Nat) ∧ (0 : Nat) = (0 : Nat)) ∧ ((2 : Nat) = (2 : Nat) ∧ (0 : Nat) = (0 : Nat)) ∧ ((3 : Nat) = (3 : Nat) ∧ (0 : Nat) = (0 : Nat)) ∧ ((4 : Nat) 
  = (4 : Nat) ∧ (0 : Nat) = (0 : Nat)) ∧ True) ∧ ((True ∧ (True ∧ mw = mw) ∧ (True ∧ mh = mh) ∧ mc = mc ∧ mu = mu ∧ True) ∧ (True ∧ (True ∧ bx = bx) ∧ (True ∧ by_ = by_) ∧ (True ∧ bd 
  = bd) ∧ True) ∧ (True ∧ (True ∧ (0 : Int) = (0 : Int)) ∧ (True ∧ (0 : Int) = (0 : Int)) ∧ nilB = nilB ∧ false = false ∧ True) ∧ (True ∧ (True ∧ mw = mw) ∧ (True ∧ mh = mh) ∧ mc = mc 
  ∧ mu = mu ∧ True) ∧ (True ∧ (True ∧ bx = bx) ∧ (True ∧ by_ = by_) ∧ (True ∧ bd = bd) ∧ True) ∧ True) ∧ True) ∧ True) ∧ True) ∧ ((True ∧ (((0 : Nat) = (0 : Nat) ∧ (0 : Nat) = (0 : Nat)) 
  ∧ ((1 : Nat) = (1 : Nat) ∧ (0 : Nat) = (0 : Nat)) ∧ ((2 : Nat) = (2 : Nat) ∧ (0 : Nat) = (0 : Nat)) ∧ ((3 : Nat) = (3 : Nat) ∧ (0 : Nat) = (0 : Nat)) ∧ ((4 : Nat) = (4 : Nat) ∧ (0 : 
  Nat) = (0 : Nat)) ∧ True) ∧ ((True ∧ (True ∧ mw = mw) ∧ (True ∧ mh = mh) ∧ mc = mc ∧ mu = mu ∧ True) ∧ (True ∧ (True ∧ bx = bx) ∧ (True ∧ by_ = by_) ∧ (True ∧ bd = bd) ∧ True) ∧ (True 
  ∧ (True ∧ (0 : Int) = (0 : Int)) ∧ (True ∧ (0 : Int) = (0 : Int)) ∧ nilB = nilB ∧ false = false ∧ True) ∧ (True ∧ (True ∧ mw = mw) ∧ (True ∧ mh = mh) ∧ mc = mc ∧ mu = mu ∧ True) ∧ (True 
  ∧ (True ∧ bx = bx) ∧ (True ∧ by_ = by_) ∧ (True ∧ bd = bd) ∧ True) ∧ True) ∧ True) ∧ True) ∧ True) ∧ True) ∧ (((((True ∧ (((0 : Nat) = (0 : Nat) ∧ (0 : Nat) = (0 : Nat)) ∧ ((1 : Nat) 
  = (1 : Nat) ∧ (0 : Nat) = (0 : Nat)) ∧ ((2 : Nat) = (2 : Nat) ∧ (0 : Nat) = (0 : Nat)) ∧ ((3 : Nat) = (3 : Nat) ∧ (0 : Nat) = (0 : Nat)) ∧ ((4 : Nat) = (4 : Nat) ∧ (0 : Nat) = (0 : 
  Nat)) ∧ True) ∧ ((True ∧ (True ∧ mw = mw) ∧ (True ∧ mh = mh) ∧ mc = mc ∧ mu = mu ∧ True) ∧ (True ∧ (True ∧ bx = bx) ∧ (True ∧ by_ = by_) ∧ (True ∧ bd = bd) ∧ True) ∧ (True ∧ (True ∧ 
  (0 : Int) = (0 : Int)) ∧ (True ∧ (0 : Int) = (0 : Int)) ∧ nilB = nilB ∧ false = false ∧ True) ∧ (True ∧ (True ∧ mw = mw) ∧ (True ∧ mh = mh) ∧ mc = mc ∧ mu = mu ∧ True) ∧ (True ∧ (True 
  ∧ bx = bx) ∧ (True ∧ by_ = by_) ∧ (True ∧ bd = bd) ∧ True) ∧ True) ∧ True) ∧ True) ∧ True) ∧ True) ∧ (((True ∧ (((0 : Nat) = (0 : Nat) ∧ (0 : Nat) = (0 : Nat)) ∧ ((1 : Nat) = (1 : Nat) 
  ∧ (0 : Nat) = (0 : Nat)) ∧ ((2 : Nat) = (2 : Nat) ∧ (0 : Nat) = (0 : Nat)) ∧ ((3 : Nat) = (3 : Nat) ∧ (0 : Nat) = (0 : Nat)) ∧ ((4 : Nat) = (4 : Nat) ∧ (0 : Nat) = (0 : Nat)) ∧ True) 
  ∧ ((True ∧ (True ∧ mw = mw) ∧ (True ∧ mh = mh) ∧ mc = mc ∧ mu = mu ∧ True) ∧ (True ∧ (True ∧ bx = bx) ∧ (True ∧ by_ = by_) ∧ (True ∧ bd = bd) ∧ True) ∧ (True ∧ (True ∧ (0 : Int) = (0 
  : Int)) ∧ (True ∧ (0 : Int) = (0 : Int)) ∧ nilB = nilB ∧ false = false ∧ True) ∧ (True ∧ (True ∧ mw = mw) ∧ (True ∧ mh = mh) ∧ mc = mc ∧ mu = mu ∧ True) ∧ (True ∧ (True ∧ bx = bx) ∧ 
  (True ∧ by_ = by_) ∧ (True ∧ bd = bd) ∧ True) ∧ True) ∧ True) ∧ True) ∧ True) ∧ True) ∧ ((((True ∧ (((0 : Nat) = (0 : Nat) ∧ (0 : Nat) = (0 : Nat)) ∧ ((1 : Nat) = (1 : Nat) ∧ (0 : Nat) 
  = (0 : Nat)) ∧ ((2 : Nat) = (2 : Nat) ∧ (0 : Nat) = (0 : Nat)) ∧ ((3 : Nat) = (3 : Nat) ∧ (0 : Nat) = (0 : Nat)) ∧ ((4 : Nat) = (4 : Nat) ∧ (0 : Nat) = (0 : Nat)) ∧ True) ∧ ((True ∧ 
  (True ∧ mw = mw) ∧ (True ∧ mh = mh) ∧ mc = mc ∧ mu = mu ∧ True) ∧ (True ∧ (True ∧ bx = bx) ∧ (True ∧ by_ = by_) ∧ (True ∧ bd = bd) ∧ True) ∧ (True ∧ (True ∧ (0 : Int) = (0 : Int)) ∧ 
  (True ∧ (0 : Int) = (0 : Int)) ∧ nilB = nilB ∧ false = false ∧ True) ∧ (True ∧ (True ∧ mw = mw) ∧ (True ∧ mh = mh) ∧ mc = mc ∧ mu = mu ∧ True) ∧ (True ∧ (True ∧ bx = bx) ∧ (True ∧ by_ 
  = by_) ∧ (True ∧ bd = bd) ∧ True) ∧ True) ∧ True) ∧ True) ∧ True) ∧ ((True ∧ (((0 : Nat) = (0 : Nat) ∧ (0 : Nat) = (0 : Nat)) ∧ ((1 : Nat) = (1 : Nat) ∧ (0 : Nat) = (0 : Nat)) ∧ ((2 
  : Nat) = (2 : Nat) ∧ (0 : Nat) = (0 : Nat)) ∧ ((3 : Nat) = (3 : Nat) ∧ (0 : Nat) = (0 : Nat)) ∧ ((4 : Nat) = (4 : Nat) ∧ (0 : Nat) = (0 : Nat)) ∧ True) ∧ ((True ∧ (True ∧ mw = mw) ∧ 
  (True ∧ mh = mh) ∧ mc = mc ∧ mu = mu ∧ True) ∧ (True ∧ (True ∧ bx = bx) ∧ (True ∧ by_ = by_) ∧ (True ∧ bd = bd) ∧ True) ∧ (True ∧ (True ∧ (0 : Int) = (0 : Int)) ∧ (True ∧ (0 : Int) 
  = (0 : Int)) ∧ nilB = nilB ∧ false = false ∧ True) ∧ (True ∧ (True ∧ mw = mw) ∧ (True ∧ mh = mh) ∧ mc = mc ∧ mu = mu ∧ True) ∧ (True ∧ (True ∧ bx = bx) ∧ (True ∧ by_ = by_) ∧ (True 
  ∧ bd = bd) ∧ True) ∧ True) ∧ True) ∧ True) ∧ True) ∧ True) ∧ True) ∧ True ∧ (((0 : Nat) = (0 : Nat) ∧ (0 : Nat) = (0 : Nat)) ∧ ((1 : Nat) = (1 : Nat) ∧ (0 : Nat) = (0 : Nat)) ∧ ((2 
  : Nat) = (2 : Nat) ∧ (0 : Nat) = (0 : Nat)) ∧ ((3 : Nat) = (3 : Nat) ∧ (0 : Nat) = (0 : Nat)) ∧ ((4 : Nat) = (4 : Nat) ∧ (0 : Nat) = (0 : Nat)) ∧ True) ∧ ((True ∧ (True ∧ mw = mw) ∧ 
  (True ∧ mh = mh) ∧ mc = mc ∧ mu = mu ∧ True) ∧ (True ∧ (True ∧ bx = bx) ∧ (True ∧ by_ = by_) ∧ (True ∧ bd = bd) ∧ True) ∧ (True ∧ (True ∧ (0 : Int) = (0 : Int)) ∧ (True ∧ (0 : Int) 
  = (0 : Int)) ∧ nilB = nilB ∧ false = false ∧ True) ∧ (True ∧ (True ∧ mw = mw) ∧ (True ∧ mh = mh) ∧ mc = mc ∧ mu = mu ∧ True) ∧ (True ∧ (True ∧ bx = bx) ∧ (True ∧ by_ = by_) ∧ (True 
  ∧ bd = bd) ∧ True) ∧ True) ∧ True) ∧ ((((0 : Nat) = (0 : Nat) ∧ (0 : Nat) = (0 : Nat)) ∧ ((1 : Nat) = (1 : Nat) ∧ (0 : Nat) = (0 : Nat)) ∧ ((2 : Nat) = (2 : Nat) ∧ (0 : Nat) = (0 : 
  Nat)) ∧ ((3 : Nat) = (3 : Nat) ∧ (0 : Nat) = (0 : Nat)) ∧ ((4 : Nat) = (4 : Nat) ∧ (0 : Nat) = (0 : Nat)) ∧ (True ∧ (0 : Int) = (0 : Int)) ∧ (True ∧ (0 : Int) = (0 : Int)) ∧ True) ∧ 
  ((True ∧ (True ∧ mw = mw) ∧ (True ∧ mh = mh) ∧ mc = mc ∧ mu = mu ∧ True) ∧ (True ∧ (True ∧ bx = bx) ∧ (True ∧ by_ = by_) ∧ (True ∧ bd = bd) ∧ True) ∧ (True ∧ (True ∧ (0 : Int) = (0 
  : Int)) ∧ (True ∧ (0 : Int) = (0 : Int)) ∧ nilB = nilB ∧ false = false ∧ True) ∧ (True ∧ (True ∧ mw = mw) ∧ (True ∧ mh = mh) ∧ mc = Rl.c { c := mc, x := bx, y := by_, d := bd } ∧ mu 
  = mu ∧ True) ∧ (True ∧ (True ∧ bx = Rl.x { c := mc, x := bx, y := by_, d := bd }) ∧ (True ∧ by_ = Rl.y { c := mc, x := bx, y := by_, d := bd }) ∧ (True ∧ bd = Rl.d { c := mc, x := bx, y := by_, d := bd }) 
  ∧ True) ∧ True) ∧ True) ∧ At (goInv mu mw mh { c := mc, x := bx, y := by_, d := bd } (0 : Int) (0 : Int) { r := { c := mc, x := bx, y := by_, d := bd }, e := (0 : Int), k := (0 : Int) }) 
  ∧ ∀ (a : Rn), goInv mu mw mh { c := mc, x := bx, y := by_, d := bd } (0 : Int) (0 : Int) a → At (blB { w := mw, h := mh, c := Rl.c (Rn.r a), t := mu } (Rl.x (Rn.r a)) (Rl.y (Rn.r a)) 
  (Rl.d (Rn.r a)) = true) ∧ (((↑(UInt8.toNat (cellR mw (Rn.r a))) : Int) != (46 : Int)) = true → At (blB { w := mw, h := mh, c := Rl.c (Rn.r a), t := mu } (Rl.x (Rn.r a)) (Rl.y (Rn.r 
  a)) (Rl.d (Rn.r a)) = true) ∧ At True ∧ ((!blB { w := mw, h := mh, c := Rl.c (hitR mu mw (Rn.r a)), t := mu } (Rl.x (hitR mu mw (Rn.r a))) (Rl.y (hitR mu mw (Rn.r a))) (Rl.d (hitR mu 
  mw (Rn.r a)))) = true → ((((((At (((1 : Int) ≤ mw ∧ mw ≤ (9 : Int)) ∧ ((1 : Int) ≤ mh ∧ mh ≤ (9 : Int)) ∧ ((-1 : Int) ≤ Rl.x (hitR mu mw (Rn.r a)) ∧ Rl.x (hitR mu mw (Rn.r a)) ≤ (9 
  : Int)) ∧ (-1 : Int) ≤ Rl.y (hitR mu mw (Rn.r a)) ∧ Rl.y (hitR mu mw (Rn.r a)) ≤ (9 : Int)) ∧ (True ∧ (((0 : Nat) = (0 : Nat) ∧ (0 : Nat) = (0 : Nat)) ∧ (True ∧ outP mw mh (Rl.x (hitR 
  mu mw (Rn.r a))) (Rl.y (hitR mu mw (Rn.r a))) = outP mw mh (Rl.x (hitR mu mw (Rn.r a))) (Rl.y (hitR mu mw (Rn.r a)))) ∧ (True ∧ IntKind.wrap IntKind.i64 (Rn.k a + (1 : Int)) = IntKind.wrap 
  IntKind.i64 (Rn.k a + (1 : Int))) ∧ (True ∧ IntKind.wrap IntKind.i64 (Rn.e a + (1 : Int)) = IntKind.wrap IntKind.i64 (Rn.e a + (1 : Int))) ∧ true = true ∧ True) ∧ ((True ∧ (True ∧ mw 
  = mw) ∧ (True ∧ mh = mh) ∧ Rl.c (hitR mu mw (Rn.r a)) = Rl.c (hitR mu mw (Rn.r a)) ∧ mu = mu ∧ True) ∧ True) ∧ True) ∧ True) ∧ True) ∧ True) ∧ (((At (((1 : Int) ≤ mw ∧ mw ≤ (9 : Int)) 
  ∧ ((1 : Int) ≤ mh ∧ mh ≤ (9 : Int)) ∧ ((-1 : Int) ≤ Rl.x (hitR mu mw (Rn.r a)) ∧ Rl.x (hitR mu mw (Rn.r a)) ≤ (9 : Int)) ∧ (-1 : Int) ≤ Rl.y (hitR mu mw (Rn.r a)) ∧ Rl.y (hitR mu mw 
  (Rn.r a)) ≤ (9 : Int)) ∧ (True ∧ (((0 : Nat) = (0 : Nat) ∧ (0 : Nat) = (0 : Nat)) ∧ (True ∧ outP mw mh (Rl.x (hitR mu mw (Rn.r a))) (Rl.y (hitR mu mw (Rn.r a))) = outP mw mh (Rl.x (hitR 
  mu mw (Rn.r a))) (Rl.y (hitR mu mw (Rn.r a)))) ∧ (True ∧ IntKind.wrap IntKind.i64 (Rn.k a + (1 : Int)) = IntKind.wrap IntKind.i64 (Rn.k a + (1 : Int))) ∧ (True ∧ IntKind.wrap IntKind.i64 
  (Rn.e a + (1 : Int)) = IntKind.wrap IntKind.i64 (Rn.e a + (1 : Int))) ∧ true = true ∧ True) ∧ ((True ∧ (True ∧ mw = mw) ∧ (True ∧ mh = mh) ∧ Rl.c (hitR mu mw (Rn.r a)) = Rl.c (hitR 
  mu mw (Rn.r a)) ∧ mu = mu ∧ True) ∧ True) ∧ True) ∧ True) ∧ True) ∧ True) ∧ True) ∧ ((((At (((1 : Int) ≤ mw ∧ mw ≤ (9 : Int)) ∧ ((1 : Int) ≤ mh ∧ mh ≤ (9 : Int)) ∧ ((-1 : Int) ≤ Rl.x 
  (hitR mu mw (Rn.r a)) ∧ Rl.x (hitR mu mw (Rn.r a)) ≤ (9 : Int)) ∧ (-1 : Int) ≤ Rl.y (hitR mu mw (Rn.r a)) ∧ Rl.y (hitR mu mw (Rn.r a)) ≤ (9 : Int)) ∧ (True ∧ (((0 : Nat) = (0 : Nat) 
  ∧ (0 : Nat) = (0 : Nat)) ∧ (True ∧ outP mw mh (Rl.x (hitR mu mw (Rn.r a))) (Rl.y (hitR mu mw (Rn.r a))) = outP mw mh (Rl.x (hitR mu mw (Rn.r a))) (Rl.y (hitR mu mw (Rn.r a)))) ∧ (True 
  ∧ IntKind.wrap IntKind.i64 (Rn.k a + (1 : Int)) = IntKind.wrap IntKind.i64 (Rn.k a + (1 : Int))) ∧ (True ∧ IntKind.wrap IntKind.i64 (Rn.e a + (1 : Int)) = IntKind.wrap IntKind.i64 (Rn.e 
  a + (1 : Int))) ∧ true = true ∧ True) ∧ ((True ∧ (True ∧ mw = mw) ∧ (True ∧ mh = mh) ∧ Rl.c (hitR mu mw (Rn.r a)) = Rl.c (hitR mu mw (Rn.r a)) ∧ mu = mu ∧ True) ∧ True) ∧ True) ∧ True) 
  ∧ True) ∧ True) ∧ (((At (((1 : Int) ≤ mw ∧ mw ≤ (9 : Int)) ∧ ((1 : Int) ≤ mh ∧ mh ≤ (9 : Int)) ∧ ((-1 : Int) ≤ Rl.x (hitR mu mw (Rn.r a)) ∧ Rl.x (hitR mu mw (Rn.r a)) ≤ (9 : Int)) ∧ 
  (-1 : Int) ≤ Rl.y (hitR mu mw (Rn.r a)) ∧ Rl.y (hitR mu mw (Rn.r a)) ≤ (9 : Int)) ∧ (True ∧ (((0 : Nat) = (0 : Nat) ∧ (0 : Nat) = (0 : Nat)) ∧ (True ∧ outP mw mh (Rl.x (hitR mu mw (Rn.r 
  a))) (Rl.y (hitR mu mw (Rn.r a))) = outP mw mh (Rl.x (hitR mu mw (Rn.r a))) (Rl.y (hitR mu mw (Rn.r a)))) ∧ (True ∧ IntKind.wrap IntKind.i64 (Rn.k a + (1 : Int)) = IntKind.wrap IntKind.i64 
  (Rn.k a + (1 : Int))) ∧ (True ∧ IntKind.wrap IntKind.i64 (Rn.e a + (1 : Int)) = IntKind.wrap IntKind.i64 (Rn.e a + (1 : Int))) ∧ true = true ∧ True) ∧ ((True ∧ (True ∧ mw = mw) ∧ (True 
  ∧ mh = mh) ∧ Rl.c (hitR mu mw (Rn.r a)) = Rl.c (hitR mu mw (Rn.r a)) ∧ mu = mu ∧ True) ∧ True) ∧ True) ∧ True) ∧ True) ∧ (At (((1 : Int) ≤ mw ∧ mw ≤ (9 : Int)) ∧ ((1 : Int) ≤ mh ∧ mh 
  ≤ (9 : Int)) ∧ ((-1 : Int) ≤ Rl.x (hitR mu mw (Rn.r a)) ∧ Rl.x (hitR mu mw (Rn.r a)) ≤ (9 : Int)) ∧ (-1 : Int) ≤ Rl.y (hitR mu mw (Rn.r a)) ∧ Rl.y (hitR mu mw (Rn.r a)) ≤ (9 : Int)) 
  ∧ (True ∧ (((0 : Nat) = (0 : Nat) ∧ (0 : Nat) = (0 : Nat)) ∧ (True ∧ outP mw mh (Rl.x (hitR mu mw (Rn.r a))) (Rl.y (hitR mu mw (Rn.r a))) = outP mw mh (Rl.x (hitR mu mw (Rn.r a))) (Rl.y 
  (hitR mu mw (Rn.r a)))) ∧ (True ∧ IntKind.wrap IntKind.i64 (Rn.k a + (1 : Int)) = IntKind.wrap IntKind.i64 (Rn.k a + (1 : Int))) ∧ (True ∧ IntKind.wrap IntKind.i64 (Rn.e a + (1 : Int)) 
  = IntKind.wrap IntKind.i64 (Rn.e a + (1 : Int))) ∧ true = true ∧ True) ∧ ((True ∧ (True ∧ mw = mw) ∧ (True ∧ mh = mh) ∧ Rl.c (hitR mu mw (Rn.r a)) = Rl.c (hitR mu mw (Rn.r a)) ∧ mu 
  = mu ∧ True) ∧ True) ∧ True) ∧ True) ∧ True) ∧ True) ∧ ((((At (((1 : Int) ≤ mw ∧ mw ≤ (9 : Int)) ∧ ((1 : Int) ≤ mh ∧ mh ≤ (9 : Int)) ∧ ((-1 : Int) ≤ Rl.x (hitR mu mw (Rn.r a)) ∧ Rl.x 
  (hitR mu mw (Rn.r a)) ≤ (9 : Int)) ∧ (-1 : Int) ≤ Rl.y (hitR mu mw (Rn.r a)) ∧ Rl.y (hitR mu mw (Rn.r a)) ≤ (9 : Int)) ∧ (True ∧ (((0 : Nat) = (0 : Nat) ∧ (0 : Nat) = (0 : Nat)) ∧ (True 
  ∧ outP mw mh (Rl.x (hitR mu mw (Rn.r a))) (Rl.y (hitR mu mw (Rn.r a))) = outP mw mh (Rl.x (hitR mu mw (Rn.r a))) (Rl.y (hitR mu mw (Rn.r a)))) ∧ (True ∧ IntKind.wrap IntKind.i64 (Rn.k 
  a + (1 : Int)) = IntKind.wrap IntKind.i64 (Rn.k a + (1 : Int))) ∧ (True ∧ IntKind.wrap IntKind.i64 (Rn.e a + (1 : Int)) = IntKind.wrap IntKind.i64 (Rn.e a + (1 : Int))) ∧ true = true 
  ∧ True) ∧ ((True ∧ (True ∧ mw = mw) ∧ (True ∧ mh = mh) ∧ Rl.c (hitR mu mw (Rn.r a)) = Rl.c (hitR mu mw (Rn.r a)) ∧ mu = mu ∧ True) ∧ True) ∧ True) ∧ True) ∧ True) ∧ True) ∧ (((At (((1 
  : Int) ≤ mw ∧ mw ≤ (9 : Int)) ∧ ((1 : Int) ≤ mh ∧ mh ≤ (9 : Int)) ∧ ((-1 : Int) ≤ Rl.x (hitR mu mw (Rn.r a)) ∧ Rl.x (hitR mu mw (Rn.r a)) ≤ (9 : Int)) ∧ (-1 : Int) ≤ Rl.y (hitR mu mw 
  (Rn.r a)) ∧ Rl.y (hitR mu mw (Rn.r a)) ≤ (9 : Int)) ∧ (True ∧ (((0 : Nat) = (0 : Nat) ∧ (0 : Nat) = (0 : Nat)) ∧ (True ∧ outP mw mh (Rl.x (hitR mu mw (Rn.r a))) (Rl.y (hitR mu mw (Rn.r 
  a))) = outP mw mh (Rl.x (hitR mu mw (Rn.r a))) (Rl.y (hitR mu mw (Rn.r a)))) ∧ (True ∧ IntKind.wrap IntKind.i64 (Rn.k a + (1 : Int)) = IntKind.wrap IntKind.i64 (Rn.k a + (1 : Int))) 
  ∧ (True ∧ IntKind.wrap IntKind.i64 (Rn.e a + (1 : Int)) = IntKind.wrap IntKind.i64 (Rn.e a + (1 : Int))) ∧ true = true ∧ True) ∧ ((True ∧ (True ∧ mw = mw) ∧ (True ∧ mh = mh) ∧ Rl.c 
  (hitR mu mw (Rn.r a)) = Rl.c (hitR mu mw (Rn.r a)) ∧ mu = mu ∧ True) ∧ True) ∧ True) ∧ True) ∧ True) ∧ (At (((1 : Int) ≤ mw ∧ mw ≤ (9 : Int)) ∧ ((1 : Int) ≤ mh ∧ mh ≤ (9 : Int)) ∧ ((-1 
  : Int) ≤ Rl.x (hitR mu mw (Rn.r a)) ∧ Rl.x (hitR mu mw (Rn.r a)) ≤ (9 : Int)) ∧ (-1 : Int) ≤ Rl.y (hitR mu mw (Rn.r a)) ∧ Rl.y (hitR mu mw (Rn.r a)) ≤ (9 : Int)) ∧ (True ∧ (((0 : Nat) 
  = (0 : Nat) ∧ (0 : Nat) = (0 : Nat)) ∧ (True ∧ outP mw mh (Rl.x (hitR mu mw (Rn.r a))) (Rl.y (hitR mu mw (Rn.r a))) = outP mw mh (Rl.x (hitR mu mw (Rn.r a))) (Rl.y (hitR mu mw (Rn.r 
  a)))) ∧ (True ∧ IntKind.wrap IntKind.i64 (Rn.k a + (1 : Int)) = IntKind.wrap IntKind.i64 (Rn.k a + (1 : Int))) ∧ (True ∧ IntKind.wrap IntKind.i64 (Rn.e a + (1 : Int)) = IntKind.wrap 
  IntKind.i64 (Rn.e a + (1 : Int))) ∧ true = true ∧ True) ∧ ((True ∧ (True ∧ mw = mw) ∧ (True ∧ mh = mh) ∧ Rl.c (hitR mu mw (Rn.r a)) = Rl.c (hitR mu mw (Rn.r a)) ∧ mu = mu ∧ True) ∧ 
  True) ∧ True) ∧ True) ∧ True) ∧ True) ∧ True) ∧ True ∧ (((0 : Nat) = (0 : Nat) ∧ (0 : Nat) = (0 : Nat)) ∧ (True ∧ outP mw mh (Rl.x (hitR mu mw (Rn.r a))) (Rl.y (hitR mu mw (Rn.r a))) 
  = outP mw mh (Rl.x (hitR mu mw (Rn.r a))) (Rl.y (hitR mu mw (Rn.r a)))) ∧ (True ∧ IntKind.wrap IntKind.i64 (Rn.k a + (1 : Int)) = IntKind.wrap IntKind.i64 (Rn.k a + (1 : Int))) ∧ (True 
  ∧ IntKind.wrap IntKind.i64 (Rn.e a + (1 : Int)) = IntKind.wrap IntKind.i64 (Rn.e a + (1 : Int))) ∧ true = true ∧ True) ∧ ((True ∧ (True ∧ mw = mw) ∧ (True ∧ mh = mh) ∧ Rl.c (hitR mu 
  mw (Rn.r a)) = Rl.c (hitR mu mw (Rn.r a)) ∧ mu = mu ∧ True) ∧ True) ∧ True) ∧ K (V.tup [V.agg [V.int IntKind.i64 mw, V.int IntKind.i64 mh, V.str (Rl.c (hitR mu mw (Rn.r a))), V.bool 
  mu], V.int IntKind.i64 (outP mw mh (Rl.x (hitR mu mw (Rn.r a))) (Rl.y (hitR mu mw (Rn.r a)))), V.int IntKind.i64 (IntKind.wrap IntKind.i64 (Rn.k a + (1 : Int))), V.int IntKind.i64 (IntKind.wrap 
  IntKind.i64 (Rn.e a + (1 : Int))), V.lit true])) ∧ ((!blB { w := mw, h := mh, c := Rl.c (hitR mu mw (Rn.r a)), t := mu } (Rl.x (hitR mu mw (Rn.r a))) (Rl.y (hitR mu mw (Rn.r a))) (Rl.d 
  (hitR mu mw (Rn.r a)))) = false → ((Rl.x (hitR mu mw (Rn.r a)) == bx && (Rl.y (hitR mu mw (Rn.r a)) == by_ && (Rl.d (hitR mu mw (Rn.r a)) == bd && true))) = true → ((Rl.c (hitR mu mw 
  (Rn.r a)) == mc) = true → K (V.tup [V.agg [V.int IntKind.i64 (0 : Int), V.int IntKind.i64 (0 : Int), V.str (Array.toList #[]), V.lit false], V.int IntKind.i64 (0 : Int), V.int IntKind.i64 
  (0 : Int), V.int IntKind.i64 (0 : Int), V.lit false])) ∧ ((Rl.c (hitR mu mw (Rn.r a)) == mc) = false → ((((0 : Nat) = (0 : Nat) ∧ (0 : Nat) = (0 : Nat)) ∧ ((1 : Nat) = (1 : Nat) ∧ (0 
  : Nat) = (0 : Nat)) ∧ ((2 : Nat) = (2 : Nat) ∧ (0 : Nat) = (0 : Nat)) ∧ ((3 : Nat) = (3 : Nat) ∧ (0 : Nat) = (0 : Nat)) ∧ ((4 : Nat) = (4 : Nat) ∧ (0 : Nat) = (0 : Nat)) ∧ (True ∧ IntKind.wrap 
  IntKind.i64 (Rn.k a + (1 : Int)) = IntKind.wrap IntKind.i64 (Rn.k a + (1 : Int))) ∧ (True ∧ IntKind.wrap IntKind.i64 (Rn.e a + (1 : Int)) = IntKind.wrap IntKind.i64 (Rn.e a + (1 : Int))) 
  ∧ True) ∧ ((True ∧ (True ∧ mw = mw) ∧ (True ∧ mh = mh) ∧ mc = mc ∧ mu = mu ∧ True) ∧ (True ∧ (True ∧ bx = bx) ∧ (True ∧ by_ = by_) ∧ (True ∧ bd = bd) ∧ True) ∧ (True ∧ (True ∧ (0 : 
  Int) = (0 : Int)) ∧ (True ∧ (0 : Int) = (0 : Int)) ∧ nilB = nilB ∧ false = false ∧ True) ∧ (True ∧ (True ∧ mw = mw) ∧ (True ∧ mh = mh) ∧ Rl.c (hitR mu mw (Rn.r a)) = Rl.c (hitR mu mw 
  (Rn.r a)) ∧ mu = mu ∧ True) ∧ (True ∧ (True ∧ Rl.x (hitR mu mw (Rn.r a)) = Rl.x (hitR mu mw (Rn.r a))) ∧ (True ∧ Rl.y (hitR mu mw (Rn.r a)) = Rl.y (hitR mu mw (Rn.r a))) ∧ (True ∧ Rl.d 
  (hitR mu mw (Rn.r a)) = Rl.d (hitR mu mw (Rn.r a))) ∧ True) ∧ True) ∧ True) ∧ At (goInv mu mw mh { c := mc, x := bx, y := by_, d := bd } (0 : Int) (0 : Int) { r := hitR mu mw (Rn.r a), e := IntKind.wrap IntKind.i64 (Rn.e a + (1 : Int)), k := IntKind.wrap IntKind.i64 (Rn.k a + (1 : Int)) } 
  ∧ leftR mu mw mh { c := mc, x := bx, y := by_, d := bd } (hitR mu mw (Rn.r a)) < leftR mu mw mh { c := mc, x := bx, y := by_, d := bd } (Rn.r a)))) ∧ ((Rl.x (hitR mu mw (Rn.r a)) == 
  bx && (Rl.y (hitR mu mw (Rn.r a)) == by_ && (Rl.d (hitR mu mw (Rn.r a)) == bd && true))) = false → ((((0 : Nat) = (0 : Nat) ∧ (0 : Nat) = (0 : Nat)) ∧ ((1 : Nat) = (1 : Nat) ∧ (0 : 
  Nat) = (0 : Nat)) ∧ ((2 : Nat) = (2 : Nat) ∧ (0 : Nat) = (0 : Nat)) ∧ ((3 : Nat) = (3 : Nat) ∧ (0 : Nat) = (0 : Nat)) ∧ ((4 : Nat) = (4 : Nat) ∧ (0 : Nat) = (0 : Nat)) ∧ (True ∧ IntKind.wrap 
  IntKind.i64 (Rn.k a + (1 : Int)) = IntKind.wrap IntKind.i64 (Rn.k a + (1 : Int))) ∧ (True ∧ IntKind.wrap IntKind.i64 (Rn.e a + (1 : Int)) = IntKind.wrap IntKind.i64 (Rn.e a + (1 : Int))) 
  ∧ True) ∧ ((True ∧ (True ∧ mw = mw) ∧ (True ∧ mh = mh) ∧ mc = mc ∧ mu = mu ∧ True) ∧ (True ∧ (True ∧ bx = bx) ∧ (True ∧ by_ = by_) ∧ (True ∧ bd = bd) ∧ True) ∧ (True ∧ (True ∧ (0 : 
  Int) = (0 : Int)) ∧ (True ∧ (0 : Int) = (0 : Int)) ∧ nilB = nilB ∧ false = false ∧ True) ∧ (True ∧ (True ∧ mw = mw) ∧ (True ∧ mh = mh) ∧ Rl.c (hitR mu mw (Rn.r a)) = Rl.c (hitR mu mw 
  (Rn.r a)) ∧ mu = mu ∧ True) ∧ (True ∧ (True ∧ Rl.x (hitR mu mw (Rn.r a)) = Rl.x (hitR mu mw (Rn.r a))) ∧ (True ∧ Rl.y (hitR mu mw (Rn.r a)) = Rl.y (hitR mu mw (Rn.r a))) ∧ (True ∧ Rl.d 
  (hitR mu mw (Rn.r a)) = Rl.d (hitR mu mw (Rn.r a))) ∧ True) ∧ True) ∧ True) ∧ At (goInv mu mw mh { c := mc, x := bx, y := by_, d := bd } (0 : Int) (0 : Int) { r := hitR mu mw (Rn.r a), e := IntKind.wrap IntKind.i64 (Rn.e a + (1 : Int)), k := IntKind.wrap IntKind.i64 (Rn.k a + (1 : Int)) } 
  ∧ leftR mu mw mh { c := mc, x := bx, y := by_, d := bd } (hitR mu mw (Rn.r a)) < leftR mu mw mh { c := mc, x := bx, y := by_, d := bd } (Rn.r a))))) ∧ (((↑(UInt8.toNat (cellR mw (Rn.r 
  a))) : Int) != (46 : Int)) = false → At (blB { w := mw, h := mh, c := Rl.c (Rn.r a), t := mu } (Rl.x (Rn.r a)) (Rl.y (Rn.r a)) (Rl.d (Rn.r a)) = true) ∧ At True ∧ ((!blB { w := mw, h := mh, c := Rl.c (hitR mu mw (Rn.r a)), t := mu } 
  (Rl.x (hitR mu mw (Rn.r a))) (Rl.y (hitR mu mw (Rn.r a))) (Rl.d (hitR mu mw (Rn.r a)))) = true → ((((((At (((1 : Int) ≤ mw ∧ mw ≤ (9 : Int)) ∧ ((1 : Int) ≤ mh ∧ mh ≤ (9 : Int)) ∧ ((-1 
  : Int) ≤ Rl.x (hitR mu mw (Rn.r a)) ∧ Rl.x (hitR mu mw (Rn.r a)) ≤ (9 : Int)) ∧ (-1 : Int) ≤ Rl.y (hitR mu mw (Rn.r a)) ∧ Rl.y (hitR mu mw (Rn.r a)) ≤ (9 : Int)) ∧ (True ∧ (((0 : Nat) 
  = (0 : Nat) ∧ (0 : Nat) = (0 : Nat)) ∧ (True ∧ outP mw mh (Rl.x (hitR mu mw (Rn.r a))) (Rl.y (hitR mu mw (Rn.r a))) = outP mw mh (Rl.x (hitR mu mw (Rn.r a))) (Rl.y (hitR mu mw (Rn.r 
  a)))) ∧ (True ∧ Rn.k a = Rn.k a) ∧ (True ∧ IntKind.wrap IntKind.i64 (Rn.e a + (1 : Int)) = IntKind.wrap IntKind.i64 (Rn.e a + (1 : Int))) ∧ true = true ∧ True) ∧ ((True ∧ (True ∧ mw 
  = mw) ∧ (True ∧ mh = mh) ∧ Rl.c (hitR mu mw (Rn.r a)) = Rl.c (hitR mu mw (Rn.r a)) ∧ mu = mu ∧ True) ∧ True) ∧ True) ∧ True) ∧ True) ∧ True) ∧ (((At (((1 : Int) ≤ mw ∧ mw ≤ (9 : Int)) 
  ∧ ((1 : Int) ≤ mh ∧ mh ≤ (9 : Int)) ∧ ((-1 : Int) ≤ Rl.x (hitR mu mw (Rn.r a)) ∧ Rl.x (hitR mu mw (Rn.r a)) ≤ (9 : Int)) ∧ (-1 : Int) ≤ Rl.y (hitR mu mw (Rn.r a)) ∧ Rl.y (hitR mu mw 
  (Rn.r a)) ≤ (9 : Int)) ∧ (True ∧ (((0 : Nat) = (0 : Nat) ∧ (0 : Nat) = (0 : Nat)) ∧ (True ∧ outP mw mh (Rl.x (hitR mu mw (Rn.r a))) (Rl.y (hitR mu mw (Rn.r a))) = outP mw mh (Rl.x (hitR 
  mu mw (Rn.r a))) (Rl.y (hitR mu mw (Rn.r a)))) ∧ (True ∧ Rn.k a = Rn.k a) ∧ (True ∧ IntKind.wrap IntKind.i64 (Rn.e a + (1 : Int)) = IntKind.wrap IntKind.i64 (Rn.e a + (1 : Int))) ∧ 
  true = true ∧ True) ∧ ((True ∧ (True ∧ mw = mw) ∧ (True ∧ mh = mh) ∧ Rl.c (hitR mu mw (Rn.r a)) = Rl.c (hitR mu mw (Rn.r a)) ∧ mu = mu ∧ True) ∧ True) ∧ True) ∧ True) ∧ True) ∧ True) 
  ∧ True) ∧ ((((At (((1 : Int) ≤ mw ∧ mw ≤ (9 : Int)) ∧ ((1 : Int) ≤ mh ∧ mh ≤ (9 : Int)) ∧ ((-1 : Int) ≤ Rl.x (hitR mu mw (Rn.r a)) ∧ Rl.x (hitR mu mw (Rn.r a)) ≤ (9 : Int)) ∧ (-1 : 
  Int) ≤ Rl.y (hitR mu mw (Rn.r a)) ∧ Rl.y (hitR mu mw (Rn.r a)) ≤ (9 : Int)) ∧ (True ∧ (((0 : Nat) = (0 : Nat) ∧ (0 : Nat) = (0 : Nat)) ∧ (True ∧ outP mw mh (Rl.x (hitR mu mw (Rn.r a))) 
  (Rl.y (hitR mu mw (Rn.r a))) = outP mw mh (Rl.x (hitR mu mw (Rn.r a))) (Rl.y (hitR mu mw (Rn.r a)))) ∧ (True ∧ Rn.k a = Rn.k a) ∧ (True ∧ IntKind.wrap IntKind.i64 (Rn.e a + (1 : Int)) 
  = IntKind.wrap IntKind.i64 (Rn.e a + (1 : Int))) ∧ true = true ∧ True) ∧ ((True ∧ (True ∧ mw = mw) ∧ (True ∧ mh = mh) ∧ Rl.c (hitR mu mw (Rn.r a)) = Rl.c (hitR mu mw (Rn.r a)) ∧ mu 
  = mu ∧ True) ∧ True) ∧ True) ∧ True) ∧ True) ∧ True) ∧ (((At (((1 : Int) ≤ mw ∧ mw ≤ (9 : Int)) ∧ ((1 : Int) ≤ mh ∧ mh ≤ (9 : Int)) ∧ ((-1 : Int) ≤ Rl.x (hitR mu mw (Rn.r a)) ∧ Rl.x 
  (hitR mu mw (Rn.r a)) ≤ (9 : Int)) ∧ (-1 : Int) ≤ Rl.y (hitR mu mw (Rn.r a)) ∧ Rl.y (hitR mu mw (Rn.r a)) ≤ (9 : Int)) ∧ (True ∧ (((0 : Nat) = (0 : Nat) ∧ (0 : Nat) = (0 : Nat)) ∧ (True 
  ∧ outP mw mh (Rl.x (hitR mu mw (Rn.r a))) (Rl.y (hitR mu mw (Rn.r a))) = outP mw mh (Rl.x (hitR mu mw (Rn.r a))) (Rl.y (hitR mu mw (Rn.r a)))) ∧ (True ∧ Rn.k a = Rn.k a) ∧ (True ∧ IntKind.wrap 
  IntKind.i64 (Rn.e a + (1 : Int)) = IntKind.wrap IntKind.i64 (Rn.e a + (1 : Int))) ∧ true = true ∧ True) ∧ ((True ∧ (True ∧ mw = mw) ∧ (True ∧ mh = mh) ∧ Rl.c (hitR mu mw (Rn.r a)) = 
  Rl.c (hitR mu mw (Rn.r a)) ∧ mu = mu ∧ True) ∧ True) ∧ True) ∧ True) ∧ True) ∧ (At (((1 : Int) ≤ mw ∧ mw ≤ (9 : Int)) ∧ ((1 : Int) ≤ mh ∧ mh ≤ (9 : Int)) ∧ ((-1 : Int) ≤ Rl.x (hitR 
  mu mw (Rn.r a)) ∧ Rl.x (hitR mu mw (Rn.r a)) ≤ (9 : Int)) ∧ (-1 : Int) ≤ Rl.y (hitR mu mw (Rn.r a)) ∧ Rl.y (hitR mu mw (Rn.r a)) ≤ (9 : Int)) ∧ (True ∧ (((0 : Nat) = (0 : Nat) ∧ (0 
  : Nat) = (0 : Nat)) ∧ (True ∧ outP mw mh (Rl.x (hitR mu mw (Rn.r a))) (Rl.y (hitR mu mw (Rn.r a))) = outP mw mh (Rl.x (hitR mu mw (Rn.r a))) (Rl.y (hitR mu mw (Rn.r a)))) ∧ (True ∧ 
  Rn.k a = Rn.k a) ∧ (True ∧ IntKind.wrap IntKind.i64 (Rn.e a + (1 : Int)) = IntKind.wrap IntKind.i64 (Rn.e a + (1 : Int))) ∧ true = true ∧ True) ∧ ((True ∧ (True ∧ mw = mw) ∧ (True ∧ 
  mh = mh) ∧ Rl.c (hitR mu mw (Rn.r a)) = Rl.c (hitR mu mw (Rn.r a)) ∧ mu = mu ∧ True) ∧ True) ∧ True) ∧ True) ∧ True) ∧ True) ∧ ((((At (((1 : Int) ≤ mw ∧ mw ≤ (9 : Int)) ∧ ((1 : Int) 
  ≤ mh ∧ mh ≤ (9 : Int)) ∧ ((-1 : Int) ≤ Rl.x (hitR mu mw (Rn.r a)) ∧ Rl.x (hitR mu mw (Rn.r a)) ≤ (9 : Int)) ∧ (-1 : Int) ≤ Rl.y (hitR mu mw (Rn.r a)) ∧ Rl.y (hitR mu mw (Rn.r a)) ≤ 
  (9 : Int)) ∧ (True ∧ (((0 : Nat) = (0 : Nat) ∧ (0 : Nat) = (0 : Nat)) ∧ (True ∧ outP mw mh (Rl.x (hitR mu mw (Rn.r a))) (Rl.y (hitR mu mw (Rn.r a))) = outP mw mh (Rl.x (hitR mu mw (Rn.r 
  a))) (Rl.y (hitR mu mw (Rn.r a)))) ∧ (True ∧ Rn.k a = Rn.k a) ∧ (True ∧ IntKind.wrap IntKind.i64 (Rn.e a + (1 : Int)) = IntKind.wrap IntKind.i64 (Rn.e a + (1 : Int))) ∧ true = true 
  ∧ True) ∧ ((True ∧ (True ∧ mw = mw) ∧ (True ∧ mh = mh) ∧ Rl.c (hitR mu mw (Rn.r a)) = Rl.c (hitR mu mw (Rn.r a)) ∧ mu = mu ∧ True) ∧ True) ∧ True) ∧ True) ∧ True) ∧ True) ∧ (((At (((1 
  : Int) ≤ mw ∧ mw ≤ (9 : Int)) ∧ ((1 : Int) ≤ mh ∧ mh ≤ (9 : Int)) ∧ ((-1 : Int) ≤ Rl.x (hitR mu mw (Rn.r a)) ∧ Rl.x (hitR mu mw (Rn.r a)) ≤ (9 : Int)) ∧ (-1 : Int) ≤ Rl.y (hitR mu mw 
  (Rn.r a)) ∧ Rl.y (hitR mu mw (Rn.r a)) ≤ (9 : Int)) ∧ (True ∧ (((0 : Nat) = (0 : Nat) ∧ (0 : Nat) = (0 : Nat)) ∧ (True ∧ outP mw mh (Rl.x (hitR mu mw (Rn.r a))) (Rl.y (hitR mu mw (Rn.r 
  a))) = outP mw mh (Rl.x (hitR mu mw (Rn.r a))) (Rl.y (hitR mu mw (Rn.r a)))) ∧ (True ∧ Rn.k a = Rn.k a) ∧ (True ∧ IntKind.wrap IntKind.i64 (Rn.e a + (1 : Int)) = IntKind.wrap IntKind.i64 
  (Rn.e a + (1 : Int))) ∧ true = true ∧ True) ∧ ((True ∧ (True ∧ mw = mw) ∧ (True ∧ mh = mh) ∧ Rl.c (hitR mu mw (Rn.r a)) = Rl.c (hitR mu mw (Rn.r a)) ∧ mu = mu ∧ True) ∧ True) ∧ True) 
  ∧ True) ∧ True) ∧ (At (((1 : Int) ≤ mw ∧ mw ≤ (9 : Int)) ∧ ((1 : Int) ≤ mh ∧ mh ≤ (9 : Int)) ∧ ((-1 : Int) ≤ Rl.x (hitR mu mw (Rn.r a)) ∧ Rl.x (hitR mu mw (Rn.r a)) ≤ (9 : Int)) ∧ (-1 
  : Int) ≤ Rl.y (hitR mu mw (Rn.r a)) ∧ Rl.y (hitR mu mw (Rn.r a)) ≤ (9 : Int)) ∧ (True ∧ (((0 : Nat) = (0 : Nat) ∧ (0 : Nat) = (0 : Nat)) ∧ (True ∧ outP mw mh (Rl.x (hitR mu mw (Rn.r 
  a))) (Rl.y (hitR mu mw (Rn.r a))) = outP mw mh (Rl.x (hitR mu mw (Rn.r a))) (Rl.y (hitR mu mw (Rn.r a)))) ∧ (True ∧ Rn.k a = Rn.k a) ∧ (True ∧ IntKind.wrap IntKind.i64 (Rn.e a + (1 
  : Int)) = IntKind.wrap IntKind.i64 (Rn.e a + (1 : Int))) ∧ true = true ∧ True) ∧ ((True ∧ (True ∧ mw = mw) ∧ (True ∧ mh = mh) ∧ Rl.c (hitR mu mw (Rn.r a)) = Rl.c (hitR mu mw (Rn.r a)) 
  ∧ mu = mu ∧ True) ∧ True) ∧ True) ∧ True) ∧ True) ∧ True) ∧ True) ∧ True ∧ (((0 : Nat) = (0 : Nat) ∧ (0 : Nat) = (0 : Nat)) ∧ (True ∧ outP mw mh (Rl.x (hitR mu mw (Rn.r a))) (Rl.y (hitR 
  mu mw (Rn.r a))) = outP mw mh (Rl.x (hitR mu mw (Rn.r a))) (Rl.y (hitR mu mw (Rn.r a)))) ∧ (True ∧ Rn.k a = Rn.k a) ∧ (True ∧ IntKind.wrap IntKind.i64 (Rn.e a + (1 : Int)) = IntKind.wrap 
  IntKind.i64 (Rn.e a + (1 : Int))) ∧ true = true ∧ True) ∧ ((True ∧ (True ∧ mw = mw) ∧ (True ∧ mh = mh) ∧ Rl.c (hitR mu mw (Rn.r a)) = Rl.c (hitR mu mw (Rn.r a)) ∧ mu = mu ∧ True) ∧ 
  True) ∧ True) ∧ K (V.tup [V.agg [V.int IntKind.i64 mw, V.int IntKind.i64 mh, V.str (Rl.c (hitR mu mw (Rn.r a))), V.bool mu], V.int IntKind.i64 (outP mw mh (Rl.x (hitR mu mw (Rn.r a))) 
  (Rl.y (hitR mu mw (Rn.r a)))), V.int IntKind.i64 (Rn.k a), V.int IntKind.i64 (IntKind.wrap IntKind.i64 (Rn.e a + (1 : Int))), V.lit true])) ∧ ((!blB { w := mw, h := mh, c := Rl.c (hitR mu mw (Rn.r a)), t := mu } 
  (Rl.x (hitR mu mw (Rn.r a))) (Rl.y (hitR mu mw (Rn.r a))) (Rl.d (hitR mu mw (Rn.r a)))) = false → ((Rl.x (hitR mu mw (Rn.r a)) == bx && (Rl.y (hitR mu mw (Rn.r a)) == by_ && (Rl.d (hitR 
  mu mw (Rn.r a)) == bd && true))) = true → ((Rl.c (hitR mu mw (Rn.r a)) == mc) = true → K (V.tup [V.agg [V.int IntKind.i64 (0 : Int), V.int IntKind.i64 (0 : Int), V.str (Array.toList 
  #[]), V.lit false], V.int IntKind.i64 (0 : Int), V.int IntKind.i64 (0 : Int), V.int IntKind.i64 (0 : Int), V.lit false])) ∧ ((Rl.c (hitR mu mw (Rn.r a)) == mc) = false → ((((0 : Nat) 
  = (0 : Nat) ∧ (0 : Nat) = (0 : Nat)) ∧ ((1 : Nat) = (1 : Nat) ∧ (0 : Nat) = (0 : Nat)) ∧ ((2 : Nat) = (2 : Nat) ∧ (0 : Nat) = (0 : Nat)) ∧ ((3 : Nat) = (3 : Nat) ∧ (0 : Nat) = (0 : 
  Nat)) ∧ ((4 : Nat) = (4 : Nat) ∧ (0 : Nat) = (0 : Nat)) ∧ (True ∧ Rn.k a = Rn.k a) ∧ (True ∧ IntKind.wrap IntKind.i64 (Rn.e a + (1 : Int)) = IntKind.wrap IntKind.i64 (Rn.e a + (1 : 
  Int))) ∧ True) ∧ ((True ∧ (True ∧ mw = mw) ∧ (True ∧ mh = mh) ∧ mc = mc ∧ mu = mu ∧ True) ∧ (True ∧ (True ∧ bx = bx) ∧ (True ∧ by_ = by_) ∧ (True ∧ bd = bd) ∧ True) ∧ (True ∧ (True 
  ∧ (0 : Int) = (0 : Int)) ∧ (True ∧ (0 : Int) = (0 : Int)) ∧ nilB = nilB ∧ false = false ∧ True) ∧ (True ∧ (True ∧ mw = mw) ∧ (True ∧ mh = mh) ∧ Rl.c (hitR mu mw (Rn.r a)) = Rl.c (hitR 
  mu mw (Rn.r a)) ∧ mu = mu ∧ True) ∧ (True ∧ (True ∧ Rl.x (hitR mu mw (Rn.r a)) = Rl.x (hitR mu mw (Rn.r a))) ∧ (True ∧ Rl.y (hitR mu mw (Rn.r a)) = Rl.y (hitR mu mw (Rn.r a))) ∧ (True 
  ∧ Rl.d (hitR mu mw (Rn.r a)) = Rl.d (hitR mu mw (Rn.r a))) ∧ True) ∧ True) ∧ True) ∧ At (goInv mu mw mh { c := mc, x := bx, y := by_, d := bd } (0 : Int) (0 : Int) { r := hitR mu mw (Rn.r a), e := IntKind.wrap IntKind.i64 (Rn.e a + (1 : Int)), k := Rn.k a } 
  ∧ leftR mu mw mh { c := mc, x := bx, y := by_, d := bd } (hitR mu mw (Rn.r a)) < leftR mu mw mh { c := mc, x := bx, y := by_, d := bd } (Rn.r a)))) ∧ ((Rl.x (hitR mu mw (Rn.r a)) == 
  bx && (Rl.y (hitR mu mw (Rn.r a)) == by_ && (Rl.d (hitR mu mw (Rn.r a)) == bd && true))) = false → ((((0 : Nat) = (0 : Nat) ∧ (0 : Nat) = (0 : Nat)) ∧ ((1 : Nat) = (1 : Nat) ∧ (0 : 
  Nat) = (0 : Nat)) ∧ ((2 : Nat) = (2 : Nat) ∧ (0 : Nat) = (0 : Nat)) ∧ ((3 : Nat) = (3 : Nat) ∧ (0 : Nat) = (0 : Nat)) ∧ ((4 : Nat) = (4 : Nat) ∧ (0 : Nat) = (0 : Nat)) ∧ (True ∧ Rn.k 
  a = Rn.k a) ∧ (True ∧ IntKind.wrap IntKind.i64 (Rn.e a + (1 : Int)) = IntKind.wrap IntKind.i64 (Rn.e a + (1 : Int))) ∧ True) ∧ ((True ∧ (True ∧ mw = mw) ∧ (True ∧ mh = mh) ∧ mc = mc 
  ∧ mu = mu ∧ True) ∧ (True ∧ (True ∧ bx = bx) ∧ (True ∧ by_ = by_) ∧ (True ∧ bd = bd) ∧ True) ∧ (True ∧ (True ∧ (0 : Int) = (0 : Int)) ∧ (True ∧ (0 : Int) = (0 : Int)) ∧ nilB = nilB 
  ∧ false = false ∧ True) ∧ (True ∧ (True ∧ mw = mw) ∧ (True ∧ mh = mh) ∧ Rl.c (hitR mu mw (Rn.r a)) = Rl.c (hitR mu mw (Rn.r a)) ∧ mu = mu ∧ True) ∧ (True ∧ (True ∧ Rl.x (hitR mu mw 
  (Rn.r a)) = Rl.x (hitR mu mw (Rn.r a))) ∧ (True ∧ Rl.y (hitR mu mw (Rn.r a)) = Rl.y (hitR mu mw (Rn.r a))) ∧ (True ∧ Rl.d (hitR mu mw (Rn.r a)) = Rl.d (hitR mu mw (Rn.r a))) ∧ True) 
  ∧ True) ∧ True) ∧ At (goInv mu mw mh { c := mc, x := bx, y := by_, d := bd } (0 : Int) (0 : Int) { r := hitR mu mw (Rn.r a), e := IntKind.wrap IntKind.i64 (Rn.e a + (1 : Int)), k := Rn.k a } 
  ∧ leftR mu mw mh { c := mc, x := bx, y := by_, d := bd } (hitR mu mw (Rn.r a)) < leftR mu mw mh { c := mc, x := bx, y := by_, d := bd } (Rn.r a)))))

def VC_spec_ExitOf (mw : Int) (mh : Int) (mc : List UInt8) (mu : Bool) (bx : Int) (by_ : Int) (bd : Int) (K : V → Prop) : Prop :=
  At True ∧
  ((!blB { w := mw, h := mh, c := mc, t := mu } bx by_ bd) = true →
      K (V.tup [V.int IntKind.i64 (0 : Int), V.lit false])) ∧
    ((!blB { w := mw, h := mh, c := mc, t := mu } bx by_ bd) = false →
      At (blB { w := mw, h := mh, c := mc, t := mu } bx by_ bd = true) ∧
        K (V.tup [V.int IntKind.i64 (rnE mw mh mc mu bx by_ bd), V.bool (rnB mw mh mc mu bx by_ bd)]))

def VC_impl_ExitOf (mw : Int) (mh : Int) (mc : List UInt8) (mu : Bool) (bx : Int) (by_ : Int) (bd : Int) (K : V → Prop) : Prop :=
  At True ∧
  ((!blB { w := mw, h := mh, c := mc, t := mu } bx by_ bd) = true →
      K (V.tup [V.int IntKind.i64 (0 : Int), V.lit false])) ∧
    ((!blB { w := mw, h := mh, c := mc, t := mu } bx by_ bd) = false →
      True ∧
        At (rlP mw mh (cpB (81 : Nat) [] (81 : Nat) mc) bx by_ bd) ∧
          ((!!inR mw mh
                      (Rn.r
                        (outR mu mw mh (rlO mw mh (cpB (81 : Nat) [] (81 : Nat) mc) bx by_ bd) (0 : Int) (0 : Int)))) =
                true →
              K (V.tup [V.int IntKind.i64 (0 : Int), V.lit false])) ∧
            ((!!inR mw mh
                      (Rn.r
                        (outR mu mw mh (rlO mw mh (cpB (81 : Nat) [] (81 : Nat) mc) bx by_ bd) (0 : Int) (0 : Int)))) =
                false →
              True ∧
                At
                    (((1 : Int) ≤ mw ∧ mw ≤ (9 : Int)) ∧
                      ((1 : Int) ≤ mh ∧ mh ≤ (9 : Int)) ∧
                        ((-1 : Int) ≤
                              Rl.x
                                (Rn.r
                                  (outR mu mw mh (rlO mw mh (cpB (81 : Nat) [] (81 : Nat) mc) bx by_ bd) (0 : Int)
                                    (0 : Int))) ∧
                            Rl.x
                                (Rn.r
                                  (outR mu mw mh (rlO mw mh (cpB (81 : Nat) [] (81 : Nat) mc) bx by_ bd) (0 : Int)
                                    (0 : Int))) ≤
                              (9 : Int)) ∧
                          (-1 : Int) ≤
                              Rl.y
                                (Rn.r
                                  (outR mu mw mh (rlO mw mh (cpB (81 : Nat) [] (81 : Nat) mc) bx by_ bd) (0 : Int)
                                    (0 : Int))) ∧
                            Rl.y
                                (Rn.r
                                  (outR mu mw mh (rlO mw mh (cpB (81 : Nat) [] (81 : Nat) mc) bx by_ bd) (0 : Int)
                                    (0 : Int))) ≤
                              (9 : Int)) ∧
                  K
                    (V.tup
                      [V.int IntKind.i64
                          (endR mw mh
                            { c := mc,
                              x :=
                                Rl.x
                                  (Rn.r
                                    (outR mu mw mh (rlO mw mh (cpB (81 : Nat) [] (81 : Nat) mc) bx by_ bd) (0 : Int)
                                      (0 : Int))),
                              y :=
                                Rl.y
                                  (Rn.r
                                    (outR mu mw mh (rlO mw mh (cpB (81 : Nat) [] (81 : Nat) mc) bx by_ bd) (0 : Int)
                                      (0 : Int))),
                              d :=
                                Rl.d
                                  (Rn.r
                                    (outR mu mw mh (rlO mw mh (cpB (81 : Nat) [] (81 : Nat) mc) bx by_ bd) (0 : Int)
                                      (0 : Int))) }),
                        V.lit true])))

def VC_spec_HitsOfBall (mw : Int) (mh : Int) (mc : List UInt8) (mu : Bool) (bx : Int) (by_ : Int) (bd : Int) (K : V → Prop) : Prop :=
  At True ∧
  ((!blB { w := mw, h := mh, c := mc, t := mu } bx by_ bd) = true →
      K (V.tup [V.int IntKind.i64 (0 : Int), V.lit false])) ∧
    ((!blB { w := mw, h := mh, c := mc, t := mu } bx by_ bd) = false →
      At (blB { w := mw, h := mh, c := mc, t := mu } bx by_ bd = true) ∧
        K (V.tup [V.int IntKind.i64 (rnK mw mh mc mu bx by_ bd), V.bool (rnB mw mh mc mu bx by_ bd)]))

def VC_impl_HitsOfBall (mw : Int) (mh : Int) (mc : List UInt8) (mu : Bool) (bx : Int) (by_ : Int) (bd : Int) (K : V → Prop) : Prop :=
  At True ∧
  ((!blB { w := mw, h := mh, c := mc, t := mu } bx by_ bd) = true →
      K (V.tup [V.int IntKind.i64 (0 : Int), V.lit false])) ∧
    ((!blB { w := mw, h := mh, c := mc, t := mu } bx by_ bd) = false →
      True ∧
        At (rlP mw mh (cpB (81 : Nat) [] (81 : Nat) mc) bx by_ bd) ∧
          ((!!inR mw mh
                      (Rn.r
                        (outR mu mw mh (rlO mw mh (cpB (81 : Nat) [] (81 : Nat) mc) bx by_ bd) (0 : Int) (0 : Int)))) =
                true →
              K (V.tup [V.int IntKind.i64 (0 : Int), V.lit false])) ∧
            ((!!inR mw mh
                      (Rn.r
                        (outR mu mw mh (rlO mw mh (cpB (81 : Nat) [] (81 : Nat) mc) bx by_ bd) (0 : Int) (0 : Int)))) =
                false →
              K
                (V.tup
                  [V.int IntKind.i64
                      (Rn.k
                        (outR mu mw mh (rlO mw mh (cpB (81 : Nat) [] (81 : Nat) mc) bx by_ bd) (0 : Int) (0 : Int))),
                    V.lit true])))

def VC_spec_MazeAfterBall (mw : Int) (mh : Int) (mc : List UInt8) (mu : Bool) (bx : Int) (by_ : Int) (bd : Int) (K : V → Prop) : Prop :=
  At True ∧
  ((!blB { w := mw, h := mh, c := mc, t := mu } bx by_ bd) = true →
      K
        (V.tup
          [V.agg [V.int IntKind.i64 (0 : Int), V.int IntKind.i64 (0 : Int), V.str (Array.toList #[]), V.lit false],
            V.lit false])) ∧
    ((!blB { w := mw, h := mh, c := mc, t := mu } bx by_ bd) = false →
      At (blB { w := mw, h := mh, c := mc, t := mu } bx by_ bd = true) ∧
        K
          (V.tup
            [V.agg
                [V.int IntKind.i64 (rnW mw mh mc mu bx by_ bd), V.int IntKind.i64 (rnH mw mh mc mu bx by_ bd),
                  V.str (rnC mw mh mc mu bx by_ bd), V.bool (rnU mw mh mc mu bx by_ bd)],
              V.bool (rnB mw mh mc mu bx by_ bd)]))

def VC_impl_MazeAfterBall (mw : Int) (mh : Int) (mc : List UInt8) (mu : Bool) (bx : Int) (by_ : Int) (bd : Int) (K : V → Prop) : Prop :=
  At True ∧
  ((!blB { w := mw, h := mh, c := mc, t := mu } bx by_ bd) = true →
      K
        (V.tup
          [V.agg [V.int IntKind.i64 (0 : Int), V.int IntKind.i64 (0 : Int), V.str (Array.toList #[]), V.lit false],
            V.lit false])) ∧
    ((!blB { w := mw, h := mh, c := mc, t := mu } bx by_ bd) = false →
      True ∧
        At (rlP mw mh (cpB (81 : Nat) [] (81 : Nat) mc) bx by_ bd) ∧
          ((!!inR mw mh
                      (Rn.r
                        (outR mu mw mh (rlO mw mh (cpB (81 : Nat) [] (81 : Nat) mc) bx by_ bd) (0 : Int) (0 : Int)))) =
                true →
              K
                (V.tup
                  [V.agg
                      [V.int IntKind.i64 (0 : Int), V.int IntKind.i64 (0 : Int), V.str (Array.toList #[]), V.lit false],
                    V.lit false])) ∧
            ((!!inR mw mh
                      (Rn.r
                        (outR mu mw mh (rlO mw mh (cpB (81 : Nat) [] (81 : Nat) mc) bx by_ bd) (0 : Int) (0 : Int)))) =
                false →
              True ∧
                At ((0 : Int) ≤ (↑(List.length mc) : Int) ∧ (↑(List.length mc) : Int) ≤ (↑(81 : Nat) : Int)) ∧
                  K
                    (V.tup
                      [V.agg
                          [V.int IntKind.i64 mw, V.int IntKind.i64 mh,
                            V.str
                              (List.take (Int.toNat (↑(List.length mc) : Int))
                                (padB (81 : Nat)
                                  (padB (81 : Nat)
                                    (Rl.c
                                      (Rn.r
                                        (outR mu mw mh (rlO mw mh (cpB (81 : Nat) [] (81 : Nat) mc) bx by_ bd) (0 : Int)
                                          (0 : Int))))))),
                            V.bool mu],
                        V.lit true])))

def VC_spec_l1Most (a : Int) (b : Int) (K : V → Prop) : Prop :=
  (decide (a > b) = true → K (V.int IntKind.i64 a)) ∧ (decide (a > b) = false → K (V.int IntKind.i64 b))

def VC_spec_LongestTrack (mw : Int) (mh : Int) (mc : List UInt8) (mu : Bool) (K : V → Prop) : Prop :=
  At True ∧
  ((!mzB { w := mw, h := mh, c := mc, t := mu }) = true → K (V.tup [V.int IntKind.i64 (0 : Int), V.lit false])) ∧
    ((!mzB { w := mw, h := mh, c := mc, t := mu }) = false →
      (mu = true → K (V.tup [V.int IntKind.i64 (0 : Int), V.lit false])) ∧
        (mu = false →
          ((((0 : Nat) = (0 : Nat) ∧ (0 : Nat) = (0 : Nat)) ∧
                (True ∧ (0 : Int) = ltF mw mh mc mu (Int.toNat (0 : Int))) ∧ (True ∧ (0 : Int) = (0 : Int)) ∧ True) ∧
              ((True ∧ (True ∧ mw = mw) ∧ (True ∧ mh = mh) ∧ mc = mc ∧ mu = mu ∧ True) ∧ True) ∧ True) ∧
            At (ltInv mw mh (0 : Int)) ∧
              ∀ (a : Int),
                ltInv mw mh a →
                  (decide (a < IntKind.wrap IntKind.i64 ((2 : Int) * IntKind.wrap IntKind.i64 (mw + mh))) = true →
                      (((((At
                                    (((1 : Int) ≤ mw ∧ mw ≤ (9 : Int)) ∧
                                      ((1 : Int) ≤ mh ∧ mh ≤ (9 : Int)) ∧ (0 : Int) ≤ a ∧ a < (2 : Int) * (mw + mh)) ∧
                                  (At
                                        (blB { w := mw, h := mh, c := mc, t := mu } (entX mw mh a) (entY mw mh a)
                                            (entD mw mh a) =
                                          true) ∧
                                      ((True ∧
                                            (((0 : Nat) = (0 : Nat) ∧ (0 : Nat) = (0 : Nat)) ∧
                                                (True ∧ ltF mw mh mc mu (Int.toNat a) = ltF mw mh mc mu (Int.toNat a)) ∧
                                                  (True ∧ a = a) ∧
                                                    (True ∧
                                                        rnN mw mh mc mu (entX mw mh a) (entY mw mh a) (entD mw mh a) =
                                                          rnN mw mh mc mu (entX mw mh a) (entY mw mh a)
                                                            (entD mw mh a)) ∧
                                                      True) ∧
                                              ((True ∧ (True ∧ mw = mw) ∧ (True ∧ mh = mh) ∧ mc = mc ∧ mu = mu ∧ True) ∧
                                                  True) ∧
                                                True) ∧
                                          True) ∧
                                        True) ∧
                                    ((At
                                            (blB { w := mw, h := mh, c := mc, t := mu } (entX mw mh a) (entY mw mh a)
                                                (entD mw mh a) =
                                              true) ∧
                                          (True ∧
                                              (((0 : Nat) = (0 : Nat) ∧ (0 : Nat) = (0 : Nat)) ∧
                                                  (True ∧
                                                      ltF mw mh mc mu (Int.toNat a) = ltF mw mh mc mu (Int.toNat a)) ∧
                                                    (True ∧ a = a) ∧
                                                      (True ∧
                                                          rnN mw mh mc mu (entX mw mh a) (entY mw mh a) (entD mw mh a) =
                                                            rnN mw mh mc mu (entX mw mh a) (entY mw mh a)
                                                              (entD mw mh a)) ∧
                                                        True) ∧
                                                ((True ∧
                                                      (True ∧ mw = mw) ∧ (True ∧ mh = mh) ∧ mc = mc ∧ mu = mu ∧ True) ∧
                                                    True) ∧
                                                  True) ∧
                                            True) ∧
                                        True) ∧
                                      True) ∧
                                ((At
                                        (((1 : Int) ≤ mw ∧ mw ≤ (9 : Int)) ∧
                                          ((1 : Int) ≤ mh ∧ mh ≤ (9 : Int)) ∧
                                            (0 : Int) ≤ a ∧ a < (2 : Int) * (mw + mh)) ∧
                                      (At
                                            (blB { w := mw, h := mh, c := mc, t := mu } (entX mw mh a) (entY mw mh a)
                                                (entD mw mh a) =
                                              true) ∧
                                          (True ∧
                                              (((0 : Nat) = (0 : Nat) ∧ (0 : Nat) = (0 : Nat)) ∧
                                                  (True ∧
                                                      ltF mw mh mc mu (Int.toNat a) = ltF mw mh mc mu (Int.toNat a)) ∧
                                                    (True ∧ a = a) ∧
                                                      (True ∧
                                                          rnN mw mh mc mu (entX mw mh a) (entY mw mh a) (entD mw mh a) =
                                                            rnN mw mh mc mu (entX mw mh a) (entY mw mh a)
                                                              (entD mw mh a)) ∧
                                                        True) ∧
                                                ((True ∧
                                                      (True ∧ mw = mw) ∧ (True ∧ mh = mh) ∧ mc = mc ∧ mu = mu ∧ True) ∧
                                                    True) ∧
                                                  True) ∧
                                            True) ∧
                                        True) ∧
                                    True) ∧
                                  True) ∧
                              (((At
                                        (((1 : Int) ≤ mw ∧ mw ≤ (9 : Int)) ∧
                                          ((1 : Int) ≤ mh ∧ mh ≤ (9 : Int)) ∧
                                            (0 : Int) ≤ a ∧ a < (2 : Int) * (mw + mh)) ∧
                                      (At
                                            (blB { w := mw, h := mh, c := mc, t := mu } (entX mw mh a) (entY mw mh a)
                                                (entD mw mh a) =
                                              true) ∧
                                          (True ∧
                                              (((0 : Nat) = (0 : Nat) ∧ (0 : Nat) = (0 : Nat)) ∧
                                                  (True ∧
                                                      ltF mw mh mc mu (Int.toNat a) = ltF mw mh mc mu (Int.toNat a)) ∧
                                                    (True ∧ a = a) ∧
                                                      (True ∧
                                                          rnN mw mh mc mu (entX mw mh a) (entY mw mh a) (entD mw mh a) =
                                                            rnN mw mh mc mu (entX mw mh a) (entY mw mh a)
                                                              (entD mw mh a)) ∧
                                                        True) ∧
                                                ((True ∧
                                                      (True ∧ mw = mw) ∧ (True ∧ mh = mh) ∧ mc = mc ∧ mu = mu ∧ True) ∧
                                                    True) ∧
                                                  True) ∧
                                            True) ∧
                                        True) ∧
                                    True) ∧
                                  True) ∧
                                True) ∧
                            (((At
                                      (((1 : Int) ≤ mw ∧ mw ≤ (9 : Int)) ∧
                                        ((1 : Int) ≤ mh ∧ mh ≤ (9 : Int)) ∧ (0 : Int) ≤ a ∧ a < (2 : Int) * (mw + mh)) ∧
                                    (At
                                          (blB { w := mw, h := mh, c := mc, t := mu } (entX mw mh a) (entY mw mh a)
                                              (entD mw mh a) =
                                            true) ∧
                                        ((True ∧
                                              (((0 : Nat) = (0 : Nat) ∧ (0 : Nat) = (0 : Nat)) ∧
                                                  (True ∧
                                                      ltF mw mh mc mu (Int.toNat a) = ltF mw mh mc mu (Int.toNat a)) ∧
                                                    (True ∧ a = a) ∧
                                                      (True ∧
                                                          rnN mw mh mc mu (entX mw mh a) (entY mw mh a) (entD mw mh a) =
                                                            rnN mw mh mc mu (entX mw mh a) (entY mw mh a)
                                                              (entD mw mh a)) ∧
                                                        True) ∧
                                                ((True ∧
                                                      (True ∧ mw = mw) ∧ (True ∧ mh = mh) ∧ mc = mc ∧ mu = mu ∧ True) ∧
                                                    True) ∧
                                                  True) ∧
                                            True) ∧
                                          True) ∧
                                      ((At
                                              (blB { w := mw, h := mh, c := mc, t := mu } (entX mw mh a) (entY mw mh a)
                                                  (entD mw mh a) =
                                                true) ∧
                                            (True ∧
                                                (((0 : Nat) = (0 : Nat) ∧ (0 : Nat) = (0 : Nat)) ∧
                                                    (True ∧
                                                        ltF mw mh mc mu (Int.toNat a) = ltF mw mh mc mu (Int.toNat a)) ∧
                                                      (True ∧ a = a) ∧
                                                        (True ∧
                                                            rnN mw mh mc mu (entX mw mh a) (entY mw mh a)
                                                                (entD mw mh a) =
                                                              rnN mw mh mc mu (entX mw mh a) (entY mw mh a)
                                                                (entD mw mh a)) ∧
                                                          True) ∧
                                                  ((True ∧
                                                        (True ∧ mw = mw) ∧
                                                          (True ∧ mh = mh) ∧ mc = mc ∧ mu = mu ∧ True) ∧
                                                      True) ∧
                                                    True) ∧
                                              True) ∧
                                          True) ∧
                                        True) ∧
                                  ((At
                                          (((1 : Int) ≤ mw ∧ mw ≤ (9 : Int)) ∧
                                            ((1 : Int) ≤ mh ∧ mh ≤ (9 : Int)) ∧
                                              (0 : Int) ≤ a ∧ a < (2 : Int) * (mw + mh)) ∧
                                        (At
                                              (blB { w := mw, h := mh, c := mc, t := mu } (entX mw mh a) (entY mw mh a)
                                                  (entD mw mh a) =
                                                true) ∧
                                            (True ∧
                                                (((0 : Nat) = (0 : Nat) ∧ (0 : Nat) = (0 : Nat)) ∧
                                                    (True ∧
                                                        ltF mw mh mc mu (Int.toNat a) = ltF mw mh mc mu (Int.toNat a)) ∧
                                                      (True ∧ a = a) ∧
                                                        (True ∧
                                                            rnN mw mh mc mu (entX mw mh a) (entY mw mh a)
                                                                (entD mw mh a) =
                                                              rnN mw mh mc mu (entX mw mh a) (entY mw mh a)
                                                                (entD mw mh a)) ∧
                                                          True) ∧
                                                  ((True ∧
                                                        (True ∧ mw = mw) ∧
                                                          (True ∧ mh = mh) ∧ mc = mc ∧ mu = mu ∧ True) ∧
                                                      True) ∧
                                                    True) ∧
                                              True) ∧
                                          True) ∧
                                      True) ∧
                                    True) ∧
                                (At
                                      (((1 : Int) ≤ mw ∧ mw ≤ (9 : Int)) ∧
                                        ((1 : Int) ≤ mh ∧ mh ≤ (9 : Int)) ∧ (0 : Int) ≤ a ∧ a < (2 : Int) * (mw + mh)) ∧
                                    ((At
                                            (blB { w := mw, h := mh, c := mc, t := mu } (entX mw mh a) (entY mw mh a)
                                                (entD mw mh a) =
                                              true) ∧
                                          ((True ∧
                                                (((0 : Nat) = (0 : Nat) ∧ (0 : Nat) = (0 : Nat)) ∧
                                                    (True ∧
                                                        ltF mw mh mc mu (Int.toNat a) = ltF mw mh mc mu (Int.toNat a)) ∧
                                                      (True ∧ a = a) ∧
                                                        (True ∧
                                                            rnN mw mh mc mu (entX mw mh a) (entY mw mh a)
                                                                (entD mw mh a) =
                                                              rnN mw mh mc mu (entX mw mh a) (entY mw mh a)
                                                                (entD mw mh a)) ∧
                                                          True) ∧
                                                  ((True ∧
                                                        (True ∧ mw = mw) ∧
                                                          (True ∧ mh = mh) ∧ mc = mc ∧ mu = mu ∧ True) ∧
                                                      True) ∧
                                                    True) ∧
                                              True) ∧
                                            True) ∧
                                        ((At
                                                (blB { w := mw, h := mh, c := mc, t := mu } (entX mw mh a)
                                                    (entY mw mh a) (entD mw mh a) =
                                                  true) ∧
                                              (True ∧
                                                  (((0 : Nat) = (0 : Nat) ∧ (0 : Nat) = (0 : Nat)) ∧
                                                      (True ∧
                                                          ltF mw mh mc mu (Int.toNat a) =
                                                            ltF mw mh mc mu (Int.toNat a)) ∧
                                                        (True ∧ a = a) ∧
                                                          (True ∧
                                                              rnN mw mh mc mu (entX mw mh a) (entY mw mh a)
                                                                  (entD mw mh a) =
                                                                rnN mw mh mc mu (entX mw mh a) (entY mw mh a)
                                                                  (entD mw mh a)) ∧
                                                            True) ∧
                                                    ((True ∧
                                                          (True ∧ mw = mw) ∧
                                                            (True ∧ mh = mh) ∧ mc = mc ∧ mu = mu ∧ True) ∧
                                                        True) ∧
                                                      True) ∧
                                                True) ∧
                                            True) ∧
                                          True) ∧
                                      (((At
                                                (blB { w := mw, h := mh, c := mc, t := mu } (entX mw mh a)
                                                    (entY mw mh a) (entD mw mh a) =
                                                  true) ∧
                                              (True ∧
                                                  (((0 : Nat) = (0 : Nat) ∧ (0 : Nat) = (0 : Nat)) ∧
                                                      (True ∧
                                                          ltF mw mh mc mu (Int.toNat a) =
                                                            ltF mw mh mc mu (Int.toNat a)) ∧
                                                        (True ∧ a = a) ∧
                                                          (True ∧
                                                              rnN mw mh mc mu (entX mw mh a) (entY mw mh a)
                                                                  (entD mw mh a) =
                                                                rnN mw mh mc mu (entX mw mh a) (entY mw mh a)
                                                                  (entD mw mh a)) ∧
                                                            True) ∧
                                                    ((True ∧
                                                          (True ∧ mw = mw) ∧
                                                            (True ∧ mh = mh) ∧ mc = mc ∧ mu = mu ∧ True) ∧
                                                        True) ∧
                                                      True) ∧
                                                True) ∧
                                            True) ∧
                                          True) ∧
                                        True) ∧
                                  (((At
                                            (((1 : Int) ≤ mw ∧ mw ≤ (9 : Int)) ∧
                                              ((1 : Int) ≤ mh ∧ mh ≤ (9 : Int)) ∧
                                                (0 : Int) ≤ a ∧ a < (2 : Int) * (mw + mh)) ∧
                                          (At
                                                (blB { w := mw, h := mh, c := mc, t := mu } (entX mw mh a)
                                                    (entY mw mh a) (entD mw mh a) =
                                                  true) ∧
                                              (True ∧
                                                  (((0 : Nat) = (0 : Nat) ∧ (0 : Nat) = (0 : Nat)) ∧
                                                      (True ∧
                                                          ltF mw mh mc mu (Int.toNat a) =
                                                            ltF mw mh mc mu (Int.toNat a)) ∧
                                                        (True ∧ a = a) ∧
                                                          (True ∧
                                                              rnN mw mh mc mu (entX mw mh a) (entY mw mh a)
                                                                  (entD mw mh a) =
                                                                rnN mw mh mc mu (entX mw mh a) (entY mw mh a)
                                                                  (entD mw mh a)) ∧
                                                            True) ∧
                                                    ((True ∧
                                                          (True ∧ mw = mw) ∧
                                                            (True ∧ mh = mh) ∧ mc = mc ∧ mu = mu ∧ True) ∧
                                                        True) ∧
                                                      True) ∧
                                                True) ∧
                                            True) ∧
                                        True) ∧
                                      (At
                                            (((1 : Int) ≤ mw ∧ mw ≤ (9 : Int)) ∧
                                              ((1 : Int) ≤ mh ∧ mh ≤ (9 : Int)) ∧
                                                (0 : Int) ≤ a ∧ a < (2 : Int) * (mw + mh)) ∧
                                          ((At
                                                  (blB { w := mw, h := mh, c := mc, t := mu } (entX mw mh a)
                                                      (entY mw mh a) (entD mw mh a) =
                                                    true) ∧
                                                (True ∧
                                                    (((0 : Nat) = (0 : Nat) ∧ (0 : Nat) = (0 : Nat)) ∧
                                                        (True ∧
                                                            ltF mw mh mc mu (Int.toNat a) =
                                                              ltF mw mh mc mu (Int.toNat a)) ∧
                                                          (True ∧ a = a) ∧
                                                            (True ∧
                                                                rnN mw mh mc mu (entX mw mh a) (entY mw mh a)
                                                                    (entD mw mh a) =
                                                                  rnN mw mh mc mu (entX mw mh a) (entY mw mh a)
                                                                    (entD mw mh a)) ∧
                                                              True) ∧
                                                      ((True ∧
                                                            (True ∧ mw = mw) ∧
                                                              (True ∧ mh = mh) ∧ mc = mc ∧ mu = mu ∧ True) ∧
                                                          True) ∧
                                                        True) ∧
                                                  True) ∧
                                              True) ∧
                                            True) ∧
                                        True) ∧
                                    True) ∧
                              ((((At
                                          (((1 : Int) ≤ mw ∧ mw ≤ (9 : Int)) ∧
                                            ((1 : Int) ≤ mh ∧ mh ≤ (9 : Int)) ∧
                                              (0 : Int) ≤ a ∧ a < (2 : Int) * (mw + mh)) ∧
                                        (At
                                              (blB { w := mw, h := mh, c := mc, t := mu } (entX mw mh a) (entY mw mh a)
                                                  (entD mw mh a) =
                                                true) ∧
                                            (True ∧
                                                (((0 : Nat) = (0 : Nat) ∧ (0 : Nat) = (0 : Nat)) ∧
                                                    (True ∧
                                                        ltF mw mh mc mu (Int.toNat a) = ltF mw mh mc mu (Int.toNat a)) ∧
                                                      (True ∧ a = a) ∧
                                                        (True ∧
                                                            rnN mw mh mc mu (entX mw mh a) (entY mw mh a)
                                                                (entD mw mh a) =
                                                              rnN mw mh mc mu (entX mw mh a) (entY mw mh a)
                                                                (entD mw mh a)) ∧
                                                          True) ∧
                                                  ((True ∧
                                                        (True ∧ mw = mw) ∧
                                                          (True ∧ mh = mh) ∧ mc = mc ∧ mu = mu ∧ True) ∧
                                                      True) ∧
                                                    True) ∧
                                              True) ∧
                                          True) ∧
                                      True) ∧
                                    True) ∧
                                  (((At
                                            (((1 : Int) ≤ mw ∧ mw ≤ (9 : Int)) ∧
                                              ((1 : Int) ≤ mh ∧ mh ≤ (9 : Int)) ∧
                                                (0 : Int) ≤ a ∧ a < (2 : Int) * (mw + mh)) ∧
                                          (At
                                                (blB { w := mw, h := mh, c := mc, t := mu } (entX mw mh a)
                                                    (entY mw mh a) (entD mw mh a) =
                                                  true) ∧
                                              (True ∧
                                                  (((0 : Nat) = (0 : Nat) ∧ (0 : Nat) = (0 : Nat)) ∧
                                                      (True ∧
                                                          ltF mw mh mc mu (Int.toNat a) =
                                                            ltF mw mh mc mu (Int.toNat a)) ∧
                                                        (True ∧ a = a) ∧
                                                          (True ∧
                                                              rnN mw mh mc mu (entX mw mh a) (entY mw mh a)
                                                                  (entD mw mh a) =
                                                                rnN mw mh mc mu (entX mw mh a) (entY mw mh a)
                                                                  (entD mw mh a)) ∧
                                                            True) ∧
                                                    ((True ∧
                                                          (True ∧ mw = mw) ∧
                                                            (True ∧ mh = mh) ∧ mc = mc ∧ mu = mu ∧ True) ∧
                                                        True) ∧
                                                      True) ∧
                                                True) ∧
                                            True) ∧
                                        True) ∧
                                      (At
                                            (((1 : Int) ≤ mw ∧ mw ≤ (9 : Int)) ∧
                                              ((1 : Int) ≤ mh ∧ mh ≤ (9 : Int)) ∧
                                                (0 : Int) ≤ a ∧ a < (2 : Int) * (mw + mh)) ∧
                                          ((At
                                                  (blB { w := mw, h := mh, c := mc, t := mu } (entX mw mh a)
                                                      (entY mw mh a) (entD mw mh a) =
                                                    true) ∧
                                                (True ∧
                                                    (((0 : Nat) = (0 : Nat) ∧ (0 : Nat) = (0 : Nat)) ∧
                                                        (True ∧
                                                            ltF mw mh mc mu (Int.toNat a) =
                                                              ltF mw mh mc mu (Int.toNat a)) ∧
                                                          (True ∧ a = a) ∧
                                                            (True ∧
                                                                rnN mw mh mc mu (entX mw mh a) (entY mw mh a)
                                                                    (entD mw mh a) =
                                                                  rnN mw mh mc mu (entX mw mh a) (entY mw mh a)
                                                                    (entD mw mh a)) ∧
                                                              True) ∧
                                                      ((True ∧
                                                            (True ∧ mw = mw) ∧
                                                              (True ∧ mh = mh) ∧ mc = mc ∧ mu = mu ∧ True) ∧
                                                          True) ∧
                                                        True) ∧
                                                  True) ∧
                                              True) ∧
                                            True) ∧
                                        True) ∧
                                    True) ∧
                                True) ∧
                          True ∧
                            (((0 : Nat) = (0 : Nat) ∧ (0 : Nat) = (0 : Nat)) ∧
                                (True ∧ ltF mw mh mc mu (Int.toNat a) = ltF mw mh mc mu (Int.toNat a)) ∧
                                  (True ∧ a = a) ∧
                                    (True ∧
                                        rnN mw mh mc mu (entX mw mh a) (entY mw mh a) (entD mw mh a) =
                                          rnN mw mh mc mu (entX mw mh a) (entY mw mh a) (entD mw mh a)) ∧
                                      True) ∧
                              ((True ∧ (True ∧ mw = mw) ∧ (True ∧ mh = mh) ∧ mc = mc ∧ mu = mu ∧ True) ∧ True) ∧ True) ∧
                        At True ∧
                          ((((0 : Nat) = (0 : Nat) ∧ (0 : Nat) = (0 : Nat)) ∧
                                (True ∧
                                    (if
                                          ltF mw mh mc mu (Int.toNat a) <
                                            rnN mw mh mc mu (entX mw mh a) (entY mw mh a) (entD mw mh a) then
                                        rnN mw mh mc mu (entX mw mh a) (entY mw mh a) (entD mw mh a)
                                      else ltF mw mh mc mu (Int.toNat a)) =
                                      ltF mw mh mc mu (Int.toNat (IntKind.wrap IntKind.i64 (a + (1 : Int))))) ∧
                                  (True ∧
                                      IntKind.wrap IntKind.i64 (a + (1 : Int)) =
                                        IntKind.wrap IntKind.i64 (a + (1 : Int))) ∧
                                    True) ∧
                              ((True ∧ (True ∧ mw = mw) ∧ (True ∧ mh = mh) ∧ mc = mc ∧ mu = mu ∧ True) ∧ True) ∧ True) ∧
                            At
                              (ltInv mw mh (IntKind.wrap IntKind.i64 (a + (1 : Int))) ∧
                                Int.toNat ((2 : Int) * (mw + mh) - IntKind.wrap IntKind.i64 (a + (1 : Int))) <
                                  Int.toNat ((2 : Int) * (mw + mh) - a))) ∧
                    (decide (a < IntKind.wrap IntKind.i64 ((2 : Int) * IntKind.wrap IntKind.i64 (mw + mh))) = false →
                      K (V.tup [V.int IntKind.i64 (ltF mw mh mc mu (Int.toNat a)), V.lit true]))))

def VC_impl_LongestTrack (mw : Int) (mh : Int) (mc : List UInt8) (mu : Bool) (K : V → Prop) : Prop :=
  At True ∧
  ((!mzB { w := mw, h := mh, c := mc, t := mu }) = true → K (V.tup [V.int IntKind.i64 (0 : Int), V.lit false])) ∧
    ((!mzB { w := mw, h := mh, c := mc, t := mu }) = false →
      (mu = true → K (V.tup [V.int IntKind.i64 (0 : Int), V.lit false])) ∧
        (mu = false →
          ((((0 : Nat) = (0 : Nat) ∧ (0 : Nat) = (0 : Nat)) ∧
                (True ∧ (0 : Int) = ltF mw mh mc mu (Int.toNat (0 : Int))) ∧
                  (True ∧
                      IntKind.wrap IntKind.i64 ((2 : Int) * IntKind.wrap IntKind.i64 (mw + mh)) =
                        (2 : Int) * (mw + mh)) ∧
                    (True ∧ (0 : Int) = (0 : Int)) ∧ True) ∧
              ((True ∧ (True ∧ mw = mw) ∧ (True ∧ mh = mh) ∧ mc = mc ∧ mu = mu ∧ True) ∧ True) ∧ True) ∧
            At (ltInv mw mh (0 : Int)) ∧
              ∀ (a : Int),
                ltInv mw mh a →
                  (decide (a < (2 : Int) * (mw + mh)) = true →
                      True ∧
                        At (sdP mw mh (cpB (81 : Nat) [] (81 : Nat) mc) a) ∧
                          ((((0 : Nat) = (0 : Nat) ∧ (0 : Nat) = (0 : Nat)) ∧
                                (True ∧
                                    (if
                                          ltF mw mh mc mu (Int.toNat a) <
                                            Rn.e
                                              (sdR mu mw mh (cpB (81 : Nat) [] (81 : Nat) mc) a (0 : Int)
                                                (0 : Int)) then
                                        Rn.e (sdR mu mw mh (cpB (81 : Nat) [] (81 : Nat) mc) a (0 : Int) (0 : Int))
                                      else ltF mw mh mc mu (Int.toNat a)) =
                                      ltF mw mh mc mu (Int.toNat (IntKind.wrap IntKind.i64 (a + (1 : Int))))) ∧
                                  (True ∧ (2 : Int) * (mw + mh) = (2 : Int) * (mw + mh)) ∧
                                    (True ∧
                                        IntKind.wrap IntKind.i64 (a + (1 : Int)) =
                                          IntKind.wrap IntKind.i64 (a + (1 : Int))) ∧
                                      True) ∧
                              ((True ∧ (True ∧ mw = mw) ∧ (True ∧ mh = mh) ∧ mc = mc ∧ mu = mu ∧ True) ∧ True) ∧ True) ∧
                            At
                              (ltInv mw mh (IntKind.wrap IntKind.i64 (a + (1 : Int))) ∧
                                Int.toNat ((2 : Int) * (mw + mh) - IntKind.wrap IntKind.i64 (a + (1 : Int))) <
                                  Int.toNat ((2 : Int) * (mw + mh) - a))) ∧
                    (decide (a < (2 : Int) * (mw + mh)) = false →
                      K (V.tup [V.int IntKind.i64 (ltF mw mh mc mu (Int.toNat a)), V.lit true]))))

end Go.Vi
