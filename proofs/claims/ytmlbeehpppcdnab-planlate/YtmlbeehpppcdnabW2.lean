/- Walks over the functions of package cell that make memory. -/
import Derived.Test.YtmlbeehpppcdnabW1
import Derived.Test.YtmlbeehpppcdnabW1b
namespace Go.Proofs.Ytmlbeehpppcdnab
open Go.RowKit Go.Mk

end Go.Proofs.Ytmlbeehpppcdnab
