import Derived.Test.YtgkhgealpneodaaGreatDoorG00
import Derived.Test.YtgkhgealpneodaaGreatDoorRows
import Derived.ProofKit
set_option maxRecDepth 100000
namespace Go.Proofs.YtgkhgealpneodaaGreatDoor
namespace LawGoes
theorem Tt:(Rows.goesRow.recurses==Tryz.pinned.checked.prog.recurses 3)=true:=by kernel_rfl
theorem Tv:(Rows.goesRow.named==Tryz.pinned.checked.prog.varsNamed 3)=true:=by kernel_rfl
