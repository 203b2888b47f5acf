/- Walks: the document's answers that make memory. -/
import Derived.Test.YthaiogagnnpadabW3
import Derived.Test.YthaiogagnnpadabD3
namespace Go.Proofs.Ythaiogagnnpadab
open Go.RowKit Go.Mk

end Go.Proofs.Ythaiogagnnpadab
