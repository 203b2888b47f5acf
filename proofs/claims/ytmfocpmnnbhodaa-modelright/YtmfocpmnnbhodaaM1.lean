/- Walks: what is wrong with calls (M1a), beside what cells are. -/
import Derived.Test.YtmfocpmnnbhodaaW2
import Derived.Test.YtmfocpmnnbhodaaM1a
