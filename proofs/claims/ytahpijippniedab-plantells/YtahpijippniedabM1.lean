/- Walks: what is wrong with calls (M1a), beside what cells are. -/
import Derived.Test.YtahpijippniedabW2
import Derived.Test.YtahpijippniedabM1a
