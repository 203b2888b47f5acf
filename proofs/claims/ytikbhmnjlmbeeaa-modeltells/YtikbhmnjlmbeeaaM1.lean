/- Walks: what is wrong with calls (M1a), beside what cells are. -/
import Derived.Test.YtikbhmnjlmbeeaaW2
import Derived.Test.YtikbhmnjlmbeeaaM1a
