import Derived.Test.YtnhkpbmplefnaaaGreatDoorXB00
import Derived.Test.YtnhkpbmplefnaaaGreatDoorB05
set_option maxRecDepth 100000
namespace Go.Proofs.YtnhkpbmplefnaaaGreatDoor
open Go.RowKit
namespace Ref
theorem AnsAt.keep {w w':World} {v:Value} {l:List Int} (h:AnsAt w v l) (hb:Below w.heap.size w w'):AnsAt w' v l:=by
 obtain ⟨ad,cap,rfl,h1,h2,h3⟩:=h;refine ⟨ad,cap,rfl,h1,h2,fun i hi=>?_⟩
 obtain ⟨a,rfl,h4,h5⟩:=h3 i hi;refine ⟨a,rfl,Nat.lt_of_lt_of_le h4 hb.size,?_⟩;have hbl:(a.add i).block < w.heap.size:=by unfold Addr.add;split<;>exact h4
 rw[hb.cell hbl];exact h5
end Ref
end Go.Proofs.YtnhkpbmplefnaaaGreatDoor
