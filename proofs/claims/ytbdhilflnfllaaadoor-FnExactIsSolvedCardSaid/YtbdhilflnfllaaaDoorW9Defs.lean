/- One digit's text; a cell painted. -/
import Derived.Test.YtbdhilflnfllaaaDoorL1Pf
namespace Go.Vi
def num1 (n : Int) : List UInt8 := [UInt8.ofNat (48 + n).toNat]
def paintB (w : Wd) (x y k : Int) : Bool := goodB w && hasB w x y && inB k 0 ((w.r.length : Int) - 1)
def paintC (w : Wd) (x y k : Int) : List UInt8 := w.c.take (cellIx w x y) ++ num1 k ++ w.c.drop (cellIx w x y + 1)
/-- Of what is never met. -/
abbrev neverF : FSpec := fun _ _ => none
abbrev F_strconv_formatBase10 : FSpec := neverF
abbrev F_strconv_formatBits : FSpec := neverF
abbrev F_strconv_numDigits : FSpec := neverF
end Go.Vi
