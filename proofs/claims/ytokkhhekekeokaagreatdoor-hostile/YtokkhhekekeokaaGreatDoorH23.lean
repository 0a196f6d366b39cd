import Derived.Test.YtokkhhekekeokaaGreatDoorRows
import Derived.ProofKit
set_option maxRecDepth 100000
namespace Go.Proofs.YtokkhhekekeokaaGreatDoor
namespace LawHostile
theorem recF:(Rows.hostileRow.recurses == Tryz.pinned.checked.prog.recurses 4)=true:=by kernel_rfl
theorem namF:(Rows.hostileRow.named == Tryz.pinned.checked.prog.varsNamed 4)=true:=by kernel_rfl
end LawHostile
end Go.Proofs.YtokkhhekekeokaaGreatDoor
