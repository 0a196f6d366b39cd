import Derived.Test.YtnhkpbmplefnaaaGreatDoorRows
import Derived.ProofKit
set_option maxRecDepth 100000
namespace Go.Proofs.YtnhkpbmplefnaaaGreatDoor
namespace LawBack
theorem recF:(Rows.backRow.recurses == Tryz.pinned.checked.prog.recurses 9)=true:=by kernel_rfl
theorem namF:(Rows.backRow.named == Tryz.pinned.checked.prog.varsNamed 9)=true:=by kernel_rfl
end LawBack
end Go.Proofs.YtnhkpbmplefnaaaGreatDoor
