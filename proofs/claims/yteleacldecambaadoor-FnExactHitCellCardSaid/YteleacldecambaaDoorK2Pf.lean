/- One hit: nothing new. -/
import Derived.Test.YteleacldecambaaDoorK2Vc
import Derived.Test.YteleacldecambaaDoorK2Spec
