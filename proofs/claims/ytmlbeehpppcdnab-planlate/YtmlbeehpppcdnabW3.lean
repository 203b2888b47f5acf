/- Walks: what takes writes back. -/
import Derived.Test.YtmlbeehpppcdnabW2
import Derived.BigRegion
namespace Go.Proofs.Ytmlbeehpppcdnab
open Go.RowKit Go.Mk

end Go.Proofs.Ytmlbeehpppcdnab
