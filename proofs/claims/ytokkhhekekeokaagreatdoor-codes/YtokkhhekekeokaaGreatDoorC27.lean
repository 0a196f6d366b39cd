import Derived.Test.YtokkhhekekeokaaGreatDoorC00
import Derived.Test.YtokkhhekekeokaaGreatDoorRows
import Derived.ProofKit
set_option maxRecDepth 100000
namespace Go.Proofs.YtokkhhekekeokaaGreatDoor
namespace LawCodes
theorem qgh:(Rows.codesRow.inPlace == Tryz.pinned.checked.prog.inPlace 3)=true:=by kernel_rfl
theorem RQ:(Rows.codesRow.unfollowed == Tryz.pinned.checked.prog.unfollowed 3)=true:=by kernel_rfl
