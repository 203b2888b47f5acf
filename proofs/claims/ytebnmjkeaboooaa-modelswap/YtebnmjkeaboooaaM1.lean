/- Walks: what is wrong with calls (M1a), beside what cells are. -/
import Derived.Test.YtebnmjkeaboooaaW2
import Derived.Test.YtebnmjkeaboooaaM1a
