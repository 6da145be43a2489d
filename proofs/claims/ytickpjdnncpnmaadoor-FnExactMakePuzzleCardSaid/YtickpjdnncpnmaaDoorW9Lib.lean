/- What is never met has any contract. -/
import Derived.Test.YtickpjdnncpnmaaDoorProg
import Derived.Test.YtickpjdnncpnmaaDoorW9Pf
namespace Go.Proofs.YtickpjdnncpnmaaDoor
open Go Go.Vi
theorem never_ok (f : FuncId) : OK Tryd.prog f neverF.spec := ⟨fun _ _ _ h => (show False from h).elim, fun _ _ _ h => (show False from h).elim⟩
end Go.Proofs.YtickpjdnncpnmaaDoor
