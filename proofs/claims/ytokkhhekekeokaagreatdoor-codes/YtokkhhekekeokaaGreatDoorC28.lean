import Derived.Test.YtokkhhekekeokaaGreatDoorC00
import Derived.Test.YtokkhhekekeokaaGreatDoorRows
import Derived.ProofKit
set_option maxRecDepth 100000
namespace Go.Proofs.YtokkhhekekeokaaGreatDoor
namespace LawCodes
theorem RS:(Rows.codesRow.recurses == Tryz.pinned.checked.prog.recurses 3)=true:=by kernel_rfl
theorem RU:(Rows.codesRow.named == Tryz.pinned.checked.prog.varsNamed 3)=true:=by kernel_rfl
