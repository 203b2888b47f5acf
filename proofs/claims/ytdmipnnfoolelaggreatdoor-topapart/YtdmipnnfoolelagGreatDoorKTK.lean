/- zbb of the proof, merged: Frame. -/
import Derived.Test.YtdmipnnfoolelagGreatDoorRows
import Derived.Test.YtdmipnnfoolelagGreatDoorKTC
set_option maxRecDepth 100000

namespace Go.Proofs.YtdmipnnfoolelagGreatDoor
open Go.RowKit Go.Mk

theorem Tryz.own:ownKnob Tryz.prog.godebug=none:=by kernel_rfl
theorem Tryz.laidOut:laidOutB Tryz.prog=true:=by kernel_rfl
theorem Tryz.cellsInt:Tryz.prog.cellsOf 3=1:=by kernel_rfl
end Go.Proofs.YtdmipnnfoolelagGreatDoor
