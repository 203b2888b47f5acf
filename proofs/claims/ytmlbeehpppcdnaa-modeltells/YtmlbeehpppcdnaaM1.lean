/- Walks: what is wrong with calls (M1a), beside what cells are. -/
import Derived.Test.YtmlbeehpppcdnaaW2
import Derived.Test.YtmlbeehpppcdnaaM1a
