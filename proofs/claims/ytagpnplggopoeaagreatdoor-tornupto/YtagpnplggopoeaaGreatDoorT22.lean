import Derived.Test.YtagpnplggopoeaaGreatDoorRows
import Derived.ProofKit
set_option maxRecDepth 100000
namespace Go.Proofs.YtagpnplggopoeaaGreatDoor
namespace LawTorn
theorem recF:(Rows.tornUptoRow.recurses == Tryz.pinned.checked.prog.recurses 3)=true:=by kernel_rfl
theorem namF:(Rows.tornUptoRow.named == Tryz.pinned.checked.prog.varsNamed 3)=true:=by kernel_rfl
end LawTorn
end Go.Proofs.YtagpnplggopoeaaGreatDoor
