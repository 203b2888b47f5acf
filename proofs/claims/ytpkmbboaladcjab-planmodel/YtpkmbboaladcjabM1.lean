/- Walks: what is wrong with calls (M1a), beside what cells are. -/
import Derived.Test.YtpkmbboaladcjabW2
import Derived.Test.YtpkmbboaladcjabM1a
