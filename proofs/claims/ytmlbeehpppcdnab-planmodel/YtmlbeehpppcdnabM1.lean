/- Walks: what is wrong with calls (M1a), beside what cells are. -/
import Derived.Test.YtmlbeehpppcdnabW2
import Derived.Test.YtmlbeehpppcdnabM1a
