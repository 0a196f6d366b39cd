import Derived.Test.YtnhkpbmplefnaaaGreatDoorRows
import Derived.ProofKit
namespace Go.Proofs.YtnhkpbmplefnaaaGreatDoor
namespace LawChecks
set_option maxRecDepth 100000 in
theorem inPlaceF:(Rows.checksRow.inPlace == Tryz.pinned.checked.prog.inPlace 3)=true:=by kernel_rfl
set_option maxRecDepth 100000 in
theorem unfF:(Rows.checksRow.unfollowed == Tryz.pinned.checked.prog.unfollowed 3)=true:=by kernel_rfl
end LawChecks
end Go.Proofs.YtnhkpbmplefnaaaGreatDoor
