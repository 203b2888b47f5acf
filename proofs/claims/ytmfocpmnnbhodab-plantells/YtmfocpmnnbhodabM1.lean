/- Walks: what is wrong with calls (M1a), beside what cells are. -/
import Derived.Test.YtmfocpmnnbhodabW2
import Derived.Test.YtmfocpmnnbhodabM1a
