/- Walks: what is wrong with calls (M1a), beside what cells are. -/
import Derived.Test.YtpkmbboaladcjaaW2
import Derived.Test.YtpkmbboaladcjaaM1a
