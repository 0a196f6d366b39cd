import Derived.Test.YthanmfbakpcigaaGreatDoorRows
import Derived.ProofKit
set_option maxRecDepth 100000
namespace Go.Proofs.YthanmfbakpcigaaGreatDoor
namespace LawTried
theorem qgh:(Rows.triedRow.inPlace == Tryz.pinned.checked.prog.inPlace 5)=true:=by kernel_rfl
theorem unfF:(Rows.triedRow.unfollowed == Tryz.pinned.checked.prog.unfollowed 5)=true:=by kernel_rfl
end LawTried
end Go.Proofs.YthanmfbakpcigaaGreatDoor
