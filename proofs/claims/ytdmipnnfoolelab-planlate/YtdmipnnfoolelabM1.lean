/- Walks: what is wrong with calls (M1a), beside what cells are. -/
import Derived.Test.YtdmipnnfoolelabW2
import Derived.Test.YtdmipnnfoolelabM1a
