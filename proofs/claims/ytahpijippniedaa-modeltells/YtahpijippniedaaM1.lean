/- Walks: what is wrong with calls (M1a), beside what cells are. -/
import Derived.Test.YtahpijippniedaaW2
import Derived.Test.YtahpijippniedaaM1a
