import Derived.Test.YthanmfbakpcigaaGreatDoorRows
import Derived.ProofKit
set_option maxRecDepth 100000
namespace Go.Proofs.YthanmfbakpcigaaGreatDoor
namespace LawTried
theorem recF:(Rows.triedRow.recurses == Tryz.pinned.checked.prog.recurses 5)=true:=by kernel_rfl
theorem namF:(Rows.triedRow.named == Tryz.pinned.checked.prog.varsNamed 5)=true:=by kernel_rfl
end LawTried
end Go.Proofs.YthanmfbakpcigaaGreatDoor
