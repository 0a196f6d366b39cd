import Derived.Test.YthanmfbakpcigaaGreatDoorRows
import Derived.ProofKit
set_option maxRecDepth 100000
namespace Go.Proofs.YthanmfbakpcigaaGreatDoor
namespace LawOnward
theorem recF:(Rows.onwardRow.recurses == Tryz.pinned.checked.prog.recurses 4)=true:=by kernel_rfl
theorem namF:(Rows.onwardRow.named == Tryz.pinned.checked.prog.varsNamed 4)=true:=by kernel_rfl
end LawOnward
end Go.Proofs.YthanmfbakpcigaaGreatDoor
