import Derived.Test.YthanmfbakpcigaaGreatDoorRows
import Derived.ProofKit
set_option maxRecDepth 100000
namespace Go.Proofs.YthanmfbakpcigaaGreatDoor
namespace LawOnward
theorem qgh:(Rows.onwardRow.inPlace == Tryz.pinned.checked.prog.inPlace 4)=true:=by kernel_rfl
theorem unfF:(Rows.onwardRow.unfollowed == Tryz.pinned.checked.prog.unfollowed 4)=true:=by kernel_rfl
end LawOnward
end Go.Proofs.YthanmfbakpcigaaGreatDoor
