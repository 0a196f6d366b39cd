import Derived.Test.YtnhkpbmplefnaaaGreatDoorRows
import Derived.ProofKit
namespace Go.Proofs.YtnhkpbmplefnaaaGreatDoor
namespace Law
theorem factLaid:laidOutB Tryz.pinned.checked.prog=true:=by kernel_rfl
theorem factMaps:mapsRowed Tryz.pinned.checked.prog=true:=by kernel_rfl
end Law
end Go.Proofs.YtnhkpbmplefnaaaGreatDoor
