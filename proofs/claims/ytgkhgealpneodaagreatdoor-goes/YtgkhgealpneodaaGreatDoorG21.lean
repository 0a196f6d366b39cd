import Derived.Test.YtgkhgealpneodaaGreatDoorG00
import Derived.Test.YtgkhgealpneodaaGreatDoorRows
import Derived.ProofKit
set_option maxRecDepth 100000
namespace Go.Proofs.YtgkhgealpneodaaGreatDoor
namespace Law
theorem Zv:laidOutB Tryz.pinned.checked.prog=true:=by kernel_rfl
theorem Zw:mapsRowed Tryz.pinned.checked.prog=true:=by kernel_rfl
