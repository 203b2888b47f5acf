/- Walks: the document's answers that make memory. -/
import Derived.Test.YtmlbeehpppcdnabW3
import Derived.Test.YtmlbeehpppcdnabD3
namespace Go.Proofs.Ytmlbeehpppcdnab
open Go.RowKit Go.Mk

end Go.Proofs.Ytmlbeehpppcdnab
