import Derived.Test.YtnhkpbmplefnaaaGreatDoorRows
import Derived.ProofKit
set_option maxRecDepth 100000
namespace Go.Proofs.YtnhkpbmplefnaaaGreatDoor
namespace LawBack
theorem qgh:(Rows.backRow.inPlace == Tryz.pinned.checked.prog.inPlace 9)=true:=by kernel_rfl
theorem unfF:(Rows.backRow.unfollowed == Tryz.pinned.checked.prog.unfollowed 9)=true:=by kernel_rfl
end LawBack
end Go.Proofs.YtnhkpbmplefnaaaGreatDoor
