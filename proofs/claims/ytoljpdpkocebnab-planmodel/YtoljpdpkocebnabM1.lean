/- Walks: what is wrong with calls (M1a), beside what cells are. -/
import Derived.Test.YtoljpdpkocebnabW2
import Derived.Test.YtoljpdpkocebnabM1a
