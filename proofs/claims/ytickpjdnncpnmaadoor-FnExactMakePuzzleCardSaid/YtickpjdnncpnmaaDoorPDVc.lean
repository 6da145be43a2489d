/- The conditions, reckoned out by program: texts alone. -/
import Derived.Test.YtickpjdnncpnmaaDoorPDDefs
namespace Go.Vi
set_option linter.unusedVariables false
def VC_impl_greatestOf (k:Int)(cols:Int)(cells:Int)(K:V → Prop):Prop:=
 ((k==(0:Int))=true→K (V.tup [V.int .i64 (IntKind.wrap .i64 (cells - (1:Int))),V.int .i64 (IntKind.wrap .i64 (cols - (1:Int)))]))∧((k==(0:Int))=false→((k==(1:Int))=true→
 K (V.tup [V.int .i64 (50:Int),V.int .i64 (IntKind.wrap .i64 (cells - (1:Int)))]))∧((k==(1:Int))=false→((k==(2:Int))=true→K (V.tup [V.int .i64 (50:Int),V.int .i64 (3:Int)]))∧((k==(2:Int))=false→((k==(3:Int))=true→
 K (V.tup [V.int .i64 (50:Int),V.int .i64 cells]))∧((k==(3:Int))=false→((k==(4:Int))=true→K (V.tup [V.int .i64 (100:Int),V.int .i64 (0:Int)]))∧((k==(4:Int))=false→K (V.tup [V.int .i64 (-1:Int),V.int .i64 (-1:Int)]))))))
end Go.Vi
