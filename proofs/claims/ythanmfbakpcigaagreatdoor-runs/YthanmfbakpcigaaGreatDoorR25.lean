import Derived.Test.YthanmfbakpcigaaGreatDoorRows
import Derived.ProofKit
set_option maxRecDepth 100000
namespace Go.Proofs.YthanmfbakpcigaaGreatDoor
namespace LawRuns
theorem recF:(Rows.runsRow.recurses == Tryz.pinned.checked.prog.recurses 3)=true:=by kernel_rfl
theorem namF:(Rows.runsRow.named == Tryz.pinned.checked.prog.varsNamed 3)=true:=by kernel_rfl
end LawRuns
end Go.Proofs.YthanmfbakpcigaaGreatDoor
