import Derived.Test.YtagpnplggopoeaaGreatDoorProg
import Derived.Test.YtagpnplggopoeaaGreatDoorT00
import Derived.WalkKit
import Derived.WalkSpells
set_option maxRecDepth 100000
namespace Go.Proofs.YtagpnplggopoeaaGreatDoor
open Go.RowKit
namespace Cd
theorem ya0 (l:List UInt8) (n m:Nat):(⟨l.toArray⟩:ByteArray).extract n m=⟨((l.drop n).take (m - n)).toArray⟩:=by
 apply ByteArray.ext
 simp[ByteArray.data_extract,List.extract_eq_take_drop]
theorem zyu (l:List UInt8):(⟨l.toArray⟩:ByteArray).size=l.length:=by
 show l.toArray.size=_
 simp
theorem ybi (l p:List UInt8) (w:World) (_hl:l.length≤maxLen) (_hp:p.length≤1000) :
  Calls Tryz.prog 141 #[.string ⟨l.toArray⟩,.string ⟨p.toArray⟩] w fun e w'=>e=.returned (.bool (decide (l.take p.length=p)))∧w'=w:=by
 have e1:=zyu l;have e2:=zyu p;have e3:(⟨l.toArray⟩:ByteArray).extract 0 p.length=⟨(l.take p.length).toArray⟩:=by rw[ya0];rfl
 by_cases hlt:p.length≤l.length
 ·have hi:(p.length:Int)≤(l.length:Int):=by omega
  by_cases he:l.take p.length=p
  ·have hd:decide (l.take p.length=p)=true:=decide_eq_true he;rw[hd];rw[he] at e3;clear hd he;generalize (⟨l.toArray⟩:ByteArray)=S at *;generalize (⟨p.toArray⟩:ByteArray)=Q at *;have hi2:(Q.size:Int)≤(S.size:Int):=by omega
   go_enter Tryz.func141,Tryz.ntmps141
   go_wp2_with fail;go_ret;exact ⟨rfl,rfl⟩
  ·have hd:decide (l.take p.length=p)=false:=decide_eq_false he;rw[hd];have hne:((⟨(l.take p.length).toArray⟩:ByteArray).toList == (⟨p.toArray⟩:ByteArray).toList)=false:=by
    rw[beq_eq_false_iff_ne];intro h;rw[ByteArray.toList_eq,ByteArray.toList_eq] at h;exact he h
   clear hd he;generalize (⟨(l.take p.length).toArray⟩:ByteArray)=X at *;generalize (⟨l.toArray⟩:ByteArray)=S at *;generalize (⟨p.toArray⟩:ByteArray)=Q at *;have hi2:(Q.size:Int)≤(S.size:Int):=by omega
   go_enter Tryz.func141,Tryz.ntmps141
   go_wp2_with fail;go_ret;exact ⟨rfl,rfl⟩
 ·have hd:decide (l.take p.length=p)=false:=decide_eq_false fun h=>hlt (by have:=congrArg List.length h;rw[List.length_take] at this;omega)
  rw[hd];clear hd e3;generalize (⟨l.toArray⟩:ByteArray)=S at *;generalize (⟨p.toArray⟩:ByteArray)=Q at *;have hi:¬ ((Q.size:Int)≤(S.size:Int)):=by omega
  go_enter Tryz.func141,Tryz.ntmps141
  go_wp2_with fail;go_ret;exact ⟨rfl,rfl⟩
def cutV (l p:List UInt8):Value:=if l.take p.length=p then .tuple #[.string ⟨(l.drop p.length).toArray⟩,.bool true] else .tuple #[.string ⟨l.toArray⟩,.bool false]
theorem ybp (l p:List UInt8) (w:World) (hl:l.length≤maxLen) (hp:p.length≤1000) :
  Calls Tryz.prog 222 #[.string ⟨l.toArray⟩,.string ⟨p.toArray⟩] w fun e w'=>e=.returned (cutV l p)∧w'=w:=by
 have HP:Hid (_):=ybi l p w hl hp;have e1:=zyu l;have e2:=zyu p;have e3:(⟨l.toArray⟩:ByteArray).extract p.length l.length=⟨(l.drop p.length).toArray⟩:=by rw[ya0,List.take_of_length_le (by simp)]
 by_cases he:l.take p.length=p
 ·have hd:decide (l.take p.length=p)=true:=decide_eq_true he;have hlt:p.length≤l.length:=by have:=congrArg List.length he;rw[List.length_take] at this;omega
  have hc:cutV l p=.tuple #[.string ⟨(l.drop p.length).toArray⟩,.bool true]:=if_pos he;rw[hc];rw[hd] at HP;clear hd he hc;generalize (⟨(l.drop p.length).toArray⟩:ByteArray)=X at *;generalize (⟨l.toArray⟩:ByteArray)=S at *;generalize (⟨p.toArray⟩:ByteArray)=Q at *;have hi2:(Q.size:Int)≤(S.size:Int):=by omega
  go_enter Tryz.func222,Tryz.ntmps222
  go_wp2_with fail;refine Calls.mono HP.out ?_;rintro e w1 ⟨rfl,rfl⟩;go_wp2_with fail;go_ret2;exact ⟨rfl,rfl⟩
 ·have hd:decide (l.take p.length=p)=false:=decide_eq_false he;have hc:cutV l p=.tuple #[.string ⟨l.toArray⟩,.bool false]:=if_neg he;rw[hc];rw[hd] at HP;clear hd he hc e3;generalize (⟨l.toArray⟩:ByteArray)=S at *;generalize (⟨p.toArray⟩:ByteArray)=Q at *;go_enter Tryz.func222,Tryz.ntmps222
  go_wp2_with fail;refine Calls.mono HP.out ?_;rintro e w1 ⟨rfl,rfl⟩;go_wp2_with fail;go_ret2;exact ⟨rfl,rfl⟩
theorem zuu (l p:List UInt8) (w:World) (hl:l.length≤maxLen) (hp:p.length≤1000) :
  Calls Tryz.prog 190 #[.string ⟨l.toArray⟩,.string ⟨p.toArray⟩] w fun e w'=>e=.returned (cutV l p)∧w'=w:=by
 have HP:Hid (_):=ybp l p w hl hp;by_cases he:l.take p.length=p
 ·have hc:cutV l p=.tuple #[.string ⟨(l.drop p.length).toArray⟩,.bool true]:=if_pos he;rw[hc] at HP ⊢;generalize (⟨(l.drop p.length).toArray⟩:ByteArray)=X at *;generalize (⟨l.toArray⟩:ByteArray)=S at *;generalize (⟨p.toArray⟩:ByteArray)=Q at *;go_enter Tryz.func190,Tryz.ntmps190
  go_wp2_with fail;refine Calls.mono HP.out ?_;rintro e w1 ⟨rfl,rfl⟩;go_wp2_with fail;go_ret2;exact ⟨rfl,rfl⟩
 ·have hc:cutV l p=.tuple #[.string ⟨l.toArray⟩,.bool false]:=if_neg he;rw[hc] at HP ⊢;generalize (⟨l.toArray⟩:ByteArray)=S at *;generalize (⟨p.toArray⟩:ByteArray)=Q at *;go_enter Tryz.func190,Tryz.ntmps190
  go_wp2_with fail;refine Calls.mono HP.out ?_;rintro e w1 ⟨rfl,rfl⟩;go_wp2_with fail;go_ret2;exact ⟨rfl,rfl⟩
end Cd
end Go.Proofs.YtagpnplggopoeaaGreatDoor
