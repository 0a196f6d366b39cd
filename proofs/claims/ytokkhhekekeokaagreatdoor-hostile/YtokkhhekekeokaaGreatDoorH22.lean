import Derived.Test.YtokkhhekekeokaaGreatDoorRows
import Derived.ProofKit
set_option maxRecDepth 100000
namespace Go.Proofs.YtokkhhekekeokaaGreatDoor
namespace LawHostile
theorem qgh:(Rows.hostileRow.inPlace == Tryz.pinned.checked.prog.inPlace 4)=true:=by kernel_rfl
theorem unfF:(Rows.hostileRow.unfollowed == Tryz.pinned.checked.prog.unfollowed 4)=true:=by kernel_rfl
end LawHostile
end Go.Proofs.YtokkhhekekeokaaGreatDoor
