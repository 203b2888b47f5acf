/- Walks: what is wrong with calls (M1a), beside what cells are. -/
import Derived.Test.YthfomjkgiibnaaaW2
import Derived.Test.YthfomjkgiibnaaaM1a
