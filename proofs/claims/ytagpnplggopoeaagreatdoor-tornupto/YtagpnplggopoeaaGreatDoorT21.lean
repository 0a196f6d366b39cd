import Derived.Test.YtagpnplggopoeaaGreatDoorRows
import Derived.ProofKit
set_option maxRecDepth 100000
namespace Go.Proofs.YtagpnplggopoeaaGreatDoor
namespace LawTorn
theorem qgh:(Rows.tornUptoRow.inPlace == Tryz.pinned.checked.prog.inPlace 3)=true:=by kernel_rfl
theorem unfF:(Rows.tornUptoRow.unfollowed == Tryz.pinned.checked.prog.unfollowed 3)=true:=by kernel_rfl
end LawTorn
end Go.Proofs.YtagpnplggopoeaaGreatDoor
