/- Walks over the functions of package cell that make memory. -/
import Derived.Test.YthaiogagnnpadabW1
import Derived.Test.YthaiogagnnpadabW1b
namespace Go.Proofs.Ythaiogagnnpadab
open Go.RowKit Go.Mk

end Go.Proofs.Ythaiogagnnpadab
