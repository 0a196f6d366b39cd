import Derived.Test.YtokkhhekekeokaaGreatDoorC00
import Derived.Test.YtokkhhekekeokaaGreatDoorRows
import Derived.ProofKit
set_option maxRecDepth 100000
namespace Go.Proofs.YtokkhhekekeokaaGreatDoor
namespace Law
theorem qlz:laidOutB Tryz.pinned.checked.prog=true:=by kernel_rfl
theorem qly:mapsRowed Tryz.pinned.checked.prog=true:=by kernel_rfl
