/- What is a clue. -/
import Derived.Test.YtickpjdnncpnmaaDoorL1Pf
import Derived.Test.YtickpjdnncpnmaaDoorVip
namespace Go.Vi
def gA (k cells : Int) : Int := bif k == 0 then cells - 1 else bif k == 1 then 50 else bif k == 2 then 50 else bif k == 3 then 50 else bif k == 4 then 100 else -1
def gB (k cols cells : Int) : Int := bif k == 0 then cols - 1 else bif k == 1 then cells - 1 else bif k == 2 then 3 else bif k == 3 then cells else bif k == 4 then 0 else -1
def clueB (k a b cols cells : Int) : Bool := inB a 0 (gA k cells) && inB b 0 (gB k cols cells)
/-- Clue number i of a row. -/
def cluAt (a : List Int) (i : Nat) (cols cells : Int) : Bool := clueB (a.getD (i * 3) 0) (a.getD (i * 3 + 1) 0) (a.getD (i * 3 + 1 + 1) 0) cols cells
def allC (a : List Int) (cols cells : Int) : Nat -> Bool
 | 0 => true
 | i + 1 => allC a cols cells i && cluAt a i cols cells
/-- A clue as it lies in an interface. -/
def cluV (k a b : Int) : Value := .agg #[.int .i64 k, .int .i64 a, .int .i64 b]
end Go.Vi
