/- Walks: what is wrong with calls (M1a), beside what cells are. -/
import Derived.Test.YthaiogagnnpadaaW2
import Derived.Test.YthaiogagnnpadaaM1a
