import Derived.Test.YtgkhgealpneodaaGreatDoorG00
set_option maxRecDepth 100000
namespace Go.Proofs.YtgkhgealpneodaaGreatDoor
open Go.RowKit Tryz
namespace Cd
theorem FY(l:List UInt8)(n m:Nat):(⟨l.toArray⟩:dX).extract n m=⟨((l.drop n).take (m-n)).toArray⟩:=by apply ByteArray.ext;simp[ByteArray.data_extract,List.extract_eq_take_drop]
theorem tL(l:List UInt8):(⟨l.toArray⟩:dX).size=l.length:=by show l.toArray.size=_;simp
theorem UA(l p:List UInt8)(w:dY)(_hl:l.length<=maxLen)(_hp:p.length<=1000):fI 158 #[.string ⟨l.toArray⟩,.string ⟨p.toArray⟩] w fun e w'=>e=fM (.bool (decide (l.take p.length=p)))/\w'=w:=by
 have e1:=tL l;have e2:=tL p;have e3:(⟨l.toArray⟩:dX).extract 0 p.length=⟨(l.take p.length).toArray⟩:=by rw[FY];rfl
 by_cases hlt:p.length<=l.length
 ·have hi:(p.length:Int)<=(l.length:Int):=by omega
  by_cases he:l.take p.length=p
  ·have hd:decide (l.take p.length=p)=true:=decide_eq_true he;rw[hd];rw[he]at e3;generalize (⟨l.toArray⟩:dX)=S at *;generalize (⟨p.toArray⟩:dX)=Q at *;have hi2:(Q.size:Int)<=(S.size:Int):=by omega
   go_enter func158,ntmps158;go_wp2_with fail;go_ret;exact⟨rfl,rfl⟩
  have hd:decide (l.take p.length=p)=false:=decide_eq_false he;rw[hd];have hne:((⟨(l.take p.length).toArray⟩:dX).toList==(⟨p.toArray⟩:dX).toList)=false:=by rw[beq_eq_false_iff_ne];intro h;rw[aP,aP]at h;exact he h
  generalize (⟨(l.take p.length).toArray⟩:dX)=X at *;generalize (⟨l.toArray⟩:dX)=S at *;generalize (⟨p.toArray⟩:dX)=Q at *;have hi2:(Q.size:Int)<=(S.size:Int):=by omega
  go_enter func158,ntmps158;go_wp2_with fail;go_ret;exact⟨rfl,rfl⟩
 have hd:decide (l.take p.length=p)=false:=decide_eq_false fun h=>hlt (by have:=congrArg List.length h;rw[bZ]at this;omega);rw[hd];generalize (⟨l.toArray⟩:dX)=S at *;generalize (⟨p.toArray⟩:dX)=Q at *;have hi:¬((Q.size:Int)<=(S.size:Int)):=by omega
 go_enter func158,ntmps158;go_wp2_with fail;go_ret;exact⟨rfl,rfl⟩
def cutV(l p:List UInt8):dZ:=if l.take p.length=p then .tuple #[.string ⟨(l.drop p.length).toArray⟩,.bool true]else .tuple #[.string ⟨l.toArray⟩,.bool false]
theorem ybp(l p:List UInt8)(w:dY)(hl:l.length<=maxLen)(hp:p.length<=1000):fI 245 #[.string ⟨l.toArray⟩,.string ⟨p.toArray⟩] w fun e w'=>e=fM (cutV l p)/\w'=w:=by
 have HP:Hid _:=UA l p w hl hp;have e1:=tL l;have e2:=tL p;have e3:(⟨l.toArray⟩:dX).extract p.length l.length=⟨(l.drop p.length).toArray⟩:=by rw[FY,dG (by simp)]
 by_cases he:l.take p.length=p
 ·have hd:decide (l.take p.length=p)=true:=decide_eq_true he;have hlt:p.length<=l.length:=by have:=congrArg List.length he;rw[bZ]at this;omega
  have hc:cutV l p=.tuple #[.string ⟨(l.drop p.length).toArray⟩,.bool true]:=aA he;rw[hc];rw[hd]at HP;generalize (⟨(l.drop p.length).toArray⟩:dX)=X at *;generalize (⟨l.toArray⟩:dX)=S at *;generalize (⟨p.toArray⟩:dX)=Q at *;have hi2:(Q.size:Int)<=(S.size:Int):=by omega
  go_enter func245,ntmps245;go_wp2_with fail;refine aB HP.o ?_;rintro e w1 ⟨rfl,rfl⟩;go_wp2_with fail;go_ret2;exact⟨rfl,rfl⟩
 have hd:decide (l.take p.length=p)=false:=decide_eq_false he;have hc:cutV l p=.tuple #[.string ⟨l.toArray⟩,.bool false]:=ah he;rw[hc];rw[hd]at HP;generalize (⟨l.toArray⟩:dX)=S at *;generalize (⟨p.toArray⟩:dX)=Q at *;go_enter func245,ntmps245;go_wp2_with fail;refine aB HP.o ?_;rintro e w1 ⟨rfl,rfl⟩;go_wp2_with fail;go_ret2;exact⟨rfl,rfl⟩
theorem Ub(l p:List UInt8)(w:dY)(hl:l.length<=maxLen)(hp:p.length<=1000):fI 201 #[.string ⟨l.toArray⟩,.string ⟨p.toArray⟩] w fun e w'=>e=fM (cutV l p)/\w'=w:=by
 have HP:Hid _:=ybp l p w hl hp;by_cases he:l.take p.length=p;·have hc:cutV l p=.tuple #[.string ⟨(l.drop p.length).toArray⟩,.bool true]:=aA he;rw[hc]at HP |-;generalize (⟨(l.drop p.length).toArray⟩:dX)=X at *;generalize (⟨l.toArray⟩:dX)=S at *;generalize (⟨p.toArray⟩:dX)=Q at *;go_enter func201,ntmps201;go_wp2_with fail;refine aB HP.o ?_;rintro e w1 ⟨rfl,rfl⟩;go_wp2_with fail;go_ret2;exact⟨rfl,rfl⟩
 have hc:cutV l p=.tuple #[.string ⟨l.toArray⟩,.bool false]:=ah he;rw[hc]at HP |-;generalize (⟨l.toArray⟩:dX)=S at *;generalize (⟨p.toArray⟩:dX)=Q at *;go_enter func201,ntmps201;go_wp2_with fail;refine aB HP.o ?_;rintro e w1 ⟨rfl,rfl⟩;go_wp2_with fail;go_ret2;exact⟨rfl,rfl⟩
