/- Walks: what takes writes back. -/
import Derived.Test.YthaiogagnnpadabW2
import Derived.BigRegion
namespace Go.Proofs.Ythaiogagnnpadab
open Go.RowKit Go.Mk

end Go.Proofs.Ythaiogagnnpadab
