/- Walks over the functions of package cell that make memory. -/
import Derived.Test.YthfomjkgiibnaabW1
import Derived.Test.YthfomjkgiibnaabW1b
namespace Go.Proofs.Ythfomjkgiibnaab
open Go.RowKit Go.Mk

end Go.Proofs.Ythfomjkgiibnaab
