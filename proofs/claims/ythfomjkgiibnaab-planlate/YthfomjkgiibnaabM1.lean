/- Walks: what is wrong with calls (M1a), beside what cells are. -/
import Derived.Test.YthfomjkgiibnaabW2
import Derived.Test.YthfomjkgiibnaabM1a
