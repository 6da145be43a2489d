/- Steps. -/
import Derived.Test.YtbdhilflnfllaaaDoorW9Pf
namespace Go.Vi
def turnI (b : Int) : Int := bif b == 82 then 1 else bif b == 85 then 2 else bif b == 76 then 3 else 0
def dirX (d : Int) : Int := bif d == 0 then 0 else bif d == 1 then 1 else bif d == 2 then 0 else -1
def dirY (d : Int) : Int := bif d == 0 then -1 else bif d == 1 then 0 else bif d == 2 then 1 else 0
def boxB (w : Wd) : Bool := inB w.w 1 9 && inB w.h 1 9 && inB w.x 0 (w.w - 1) && inB w.y 0 (w.h - 1)
def signAt (w : Wd) (c : Int) : Int := (w.r.getD c.toNat 0).toNat
def trnW (w : Wd) (q : Int) : Wd := { w with d := (w.d + q) % 4 }
def movW (w : Wd) (k : Int) : Wd := { w with x := (w.x + k * dirX w.d) % w.w, y := (w.y + k * dirY w.d) % w.h }
def pntW (w : Wd) (x y k : Int) : Wd := { w with c := paintC w x y k }
def setW (w : Wd) (k : Int) : Wd := pntW w w.x w.y k
def stepW (w : Wd) : Wd := movW (setW (trnW w (turnI (signAt w (colAt w w.x w.y)))) ((colAt w w.x w.y + 1) % w.r.length)) 1
def bkC (w : Wd) : Int := (colAt (movW w (-1)) (movW w (-1)).x (movW w (-1)).y - 1) % w.r.length
def backW (w : Wd) : Wd := trnW (setW (movW w (-1)) (bkC w)) (4 - turnI (signAt w (bkC w)))
def iterW (f : Wd → Wd) : Nat → Wd → Wd
  | 0, w => w
  | n + 1, w => iterW f n (f w)
def wdL (w : Wd) : List V := [.str w.r, .int .i64 w.w, .int .i64 w.h, .str w.c, .int .i64 w.x, .int .i64 w.y, .int .i64 w.d]
end Go.Vi
