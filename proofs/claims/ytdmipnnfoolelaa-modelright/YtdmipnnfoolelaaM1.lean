/- Walks: what is wrong with calls (M1a), beside what cells are. -/
import Derived.Test.YtdmipnnfoolelaaW2
import Derived.Test.YtdmipnnfoolelaaM1a
