/- Walks: what is wrong with calls (M1a), beside what cells are. -/
import Derived.Test.YthaiogagnnpadabW2
import Derived.Test.YthaiogagnnpadabM1a
