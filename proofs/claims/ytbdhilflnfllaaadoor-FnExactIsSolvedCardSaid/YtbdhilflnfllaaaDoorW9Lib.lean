/- What is never met has any contract. -/
import Derived.Test.YtbdhilflnfllaaaDoorProg
import Derived.Test.YtbdhilflnfllaaaDoorW9Defs
namespace Go.Proofs.YtbdhilflnfllaaaDoor
open Go Go.Vi
theorem never_ok (f : FuncId) : OK Tryd.prog f neverF.spec := ⟨fun _ _ _ h => (show False from h).elim, fun _ _ _ h => (show False from h).elim⟩
end Go.Proofs.YtbdhilflnfllaaaDoor
