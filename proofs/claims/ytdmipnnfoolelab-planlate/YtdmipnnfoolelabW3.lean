/- Walks: what takes writes back. -/
import Derived.Test.YtdmipnnfoolelabW2
import Derived.BigRegion
namespace Go.Proofs.Ytdmipnnfoolelab
open Go.RowKit Go.Mk

end Go.Proofs.Ytdmipnnfoolelab
