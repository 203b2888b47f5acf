/- Walks over the functions of package cell that make memory. -/
import Derived.Test.YtdmipnnfoolelabW1
import Derived.Test.YtdmipnnfoolelabW1b
namespace Go.Proofs.Ytdmipnnfoolelab
open Go.RowKit Go.Mk

end Go.Proofs.Ytdmipnnfoolelab
