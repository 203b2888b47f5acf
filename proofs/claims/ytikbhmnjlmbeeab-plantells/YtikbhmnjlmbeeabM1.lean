/- Walks: what is wrong with calls (M1a), beside what cells are. -/
import Derived.Test.YtikbhmnjlmbeeabW2
import Derived.Test.YtikbhmnjlmbeeabM1a
