import Derived.Test.YtnhkpbmplefnaaaGreatDoorB05
import Derived.Test.YtnhkpbmplefnaaaGreatDoorB02
set_option maxRecDepth 100000
namespace Go.Proofs.YtnhkpbmplefnaaaGreatDoor
open Go.RowKit
namespace Ref
theorem _root_.Go.Proofs.YtnhkpbmplefnaaaGreatDoor.Px.zbm (P:Px.Pg) (i:Nat) (arg:Int) (most:Nat) (und:Bool) (m:Px.Ms):(Px.askM P i arg most und m).2.2.asks.length=m.asks.length+1:=by
 unfold Px.askM;split
 ·simp
 ·split
  ·simp
  ·split<;>simp
theorem _root_.Go.Proofs.YtnhkpbmplefnaaaGreatDoor.Px.zup (P:Px.Pg) (i:Px.Ins) (m:Px.Ms):(Px.doM P i m).2.asks.length≤m.asks.length+1:=by
 unfold Px.doM;by_cases h0:i.k=0
 ·rw[if_pos h0];exact Nat.le_succ _
 rw[if_neg h0];by_cases h1:i.k=1
 ·rw[if_pos h1];exact Nat.le_succ _
 rw[if_neg h1];by_cases h2:i.k=2
 ·rw[if_pos h2];exact Nat.le_succ _
 rw[if_neg h2];by_cases h3:i.k=3
 ·rw[if_pos h3];exact Nat.le_succ _
 rw[if_neg h3];by_cases h4:i.k=7
 ·rw[if_pos h4];by_cases hh:m.st.headD 0=0
  ·rw[if_pos hh];exact Nat.le_succ _
  ·rw[if_neg hh];exact Nat.le_succ _
 rw[if_neg h4];by_cases h5:i.k≤10
 ·rw[if_pos h5];exact Nat.le_succ _
 rw[if_neg h5];by_cases h6:i.k=11
 ·rw[if_pos h6];exact Nat.le_succ _
 rw[if_neg h6];by_cases h7:i.k=12
 ·rw[if_pos h7];exact Nat.le_succ _
 rw[if_neg h7];by_cases h8:i.k=13
 ·rw[if_pos h8];exact Nat.le_succ _
 rw[if_neg h8];by_cases h9:i.k=14
 ·rw[if_pos h9];by_cases hh:0 < m.st.headD 0
  ·rw[if_pos hh];exact Nat.le_succ _
  ·rw[if_neg hh];exact Nat.le_succ _
 rw[if_neg h9];by_cases h10:i.k=15
 ·rw[if_pos h10];exact Nat.le_succ _
 rw[if_neg h10];by_cases h11:i.k=16
 ·rw[if_pos h11];exact Nat.le_succ _
 rw[if_neg h11];by_cases h12:i.k=17
 ·rw[if_pos h12];exact Nat.le_succ _
 rw[if_neg h12];by_cases h13:i.k=18
 ·rw[if_pos h13];exact Nat.le_of_eq (mt1 _ _ (Px.zbm P i.a (m.st.headD 0) i.b false m))
 rw[if_neg h13];exact Nat.le_succ _
theorem _root_.Go.Proofs.YtnhkpbmplefnaaaGreatDoor.Px.zel (P:Px.Pg) (m:Px.Ms):(Px.qa2 P m).2.asks.length≤m.asks.length+1:=by
 have hb:(Px.qa2.behind m).2.asks.length=m.asks.length:=by unfold Px.qa2.behind;split<;>rfl
 unfold Px.qa2;split
 ·omega
 ·rename_i u r hu;split
  ·omega
  ·exact Nat.le_of_eq (mt2 _ _ _ (Px.zbm P u.1 u.2 3 true m))
theorem _root_.Go.Proofs.YtnhkpbmplefnaaaGreatDoor.Px.zg7 (P:Px.Pg) (m:Px.Ms):(Px.qbo P m).2.asks.length≤m.asks.length+1:=by
 have hs:(Px.qa1 P m).2.asks.length≤m.asks.length+1:=by
  unfold Px.qa1;split
  ·exact Px.zel P m
  ·split
   ·exact Nat.le_succ _
   ·rename_i i hi;exact mt3 _ _ _ (Px.zup P i { m with place:=m.place+1 })
 exact mt4 _ _ hs
theorem _root_.Go.Proofs.YtnhkpbmplefnaaaGreatDoor.Px.qzv (P:Px.Pg) (n:Nat):∀ m:Px.Ms,(Px.runM P n m).2.asks.length≤m.asks.length+n:=by
 induction n with
 | zero=>intro m;exact Nat.le_refl _
 | succ n ih =>
  intro m;rw[Px.runM];have h1:=Px.zg7 P m;split
  ·dsimp only;omega
  ·have h2:=ih (Px.qbo P m).2;omega
end Ref
end Go.Proofs.YtnhkpbmplefnaaaGreatDoor
