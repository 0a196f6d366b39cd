import Derived.Test.YtgkhgealpneodaaGreatDoorG00
import Derived.Test.YtgkhgealpneodaaGreatDoorRows
import Derived.ProofKit
set_option maxRecDepth 100000
namespace Go.Proofs.YtgkhgealpneodaaGreatDoor
namespace LawGoes
theorem qgh:(Rows.goesRow.inPlace==Tryz.pinned.checked.prog.inPlace 3)=true:=by kernel_rfl
theorem Tq:(Rows.goesRow.unfollowed==Tryz.pinned.checked.prog.unfollowed 3)=true:=by kernel_rfl
