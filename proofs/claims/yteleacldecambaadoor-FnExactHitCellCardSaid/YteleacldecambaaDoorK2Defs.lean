/- One hit. -/
import Derived.Test.YteleacldecambaaDoorA1Pf
