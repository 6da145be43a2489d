/- Programs exchanged and joined. -/
import Derived.Test.YtllocclgllappabTXPf
namespace Go.Vi
def joinB (s t : List UInt8) : Bool := progB s && (progB t && progB (s ++ t))
def joinS (s t : List UInt8) : List UInt8 := bif joinB s t then s ++ t else []
end Go.Vi
