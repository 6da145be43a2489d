/- A board shifted. -/
import Derived.Test.YteleacldecambaaM2Pf
