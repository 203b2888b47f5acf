/- Walks: what is wrong with calls (M1a), beside what cells are. -/
import Derived.Test.YtoljpdpkocebnaaW2
import Derived.Test.YtoljpdpkocebnaaM1a
