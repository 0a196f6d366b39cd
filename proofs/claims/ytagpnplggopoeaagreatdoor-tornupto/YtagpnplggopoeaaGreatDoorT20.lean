import Derived.Test.YtagpnplggopoeaaGreatDoorRows
import Derived.ProofKit
set_option maxRecDepth 100000
namespace Go.Proofs.YtagpnplggopoeaaGreatDoor
namespace Law
theorem qlz:laidOutB Tryz.pinned.checked.prog=true:=by kernel_rfl
theorem qly:mapsRowed Tryz.pinned.checked.prog=true:=by kernel_rfl
end Law
end Go.Proofs.YtagpnplggopoeaaGreatDoor
