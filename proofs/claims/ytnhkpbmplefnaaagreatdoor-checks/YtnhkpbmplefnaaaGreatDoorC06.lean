import Derived.Test.YtnhkpbmplefnaaaGreatDoorRows
import Derived.ProofKit
namespace Go.Proofs.YtnhkpbmplefnaaaGreatDoor
namespace LawChecks
set_option maxRecDepth 100000 in
theorem recF:(Rows.checksRow.recurses == Tryz.pinned.checked.prog.recurses 3)=true:=by kernel_rfl
set_option maxRecDepth 100000 in
theorem namF:(Rows.checksRow.named == Tryz.pinned.checked.prog.varsNamed 3)=true:=by kernel_rfl
end LawChecks
end Go.Proofs.YtnhkpbmplefnaaaGreatDoor
