/- Walks: the document's answers that make memory. -/
import Derived.Test.YtdmipnnfoolelabW3
import Derived.Test.YtdmipnnfoolelabD3
namespace Go.Proofs.Ytdmipnnfoolelab
open Go.RowKit Go.Mk

end Go.Proofs.Ytdmipnnfoolelab
