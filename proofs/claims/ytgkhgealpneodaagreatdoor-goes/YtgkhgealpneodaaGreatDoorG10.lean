import Derived.Test.YtgkhgealpneodaaGreatDoorG08
import Derived.Test.YtgkhgealpneodaaGreatDoorG09
set_option maxRecDepth 100000
namespace Go.Proofs.YtgkhgealpneodaaGreatDoor
open Go.RowKit Tryz
namespace Ref
open Px
theorem EM(B c:Nat)(V:Vs)(l:List Sm)(hw:jZ l)(hk:oK V l):∀i(hi:i<l.length),pU B c V 141 l[i]:=by
 match l with
 |[]=>intro i hi;simp at hi
 |⟨op,eH,pl,ex,gH,gG,undo,n,gZ,one,two⟩::rest=>
 obtain⟨w1,w2,w3,w4⟩:=Ak.1 hw;obtain⟨k1,k2,k3,k4⟩:=Bc.1 hk;have hx:pU B c V 141 ⟨op,eH,pl,ex,gH,gG,undo,n,gZ,one,two⟩:=by
  dsimp only at w1 w2 w3 k1 k2 k3;have k1':=k1;obtain h|h|h|h|h|h:=k1;·exact zxv B c V _ h.1 w1.1 k1'
  ·exact zxs B c V _ h.1 (zuo B c V _ h.1 w1.1 k1')
  ·exact JI B c V _ h.1 w1.1 k1' (GY B c V one (EM B c V one w2 (k2 (ak h.1)))).ok (GY B c V two (EM B c V two w3 (k3 (ak h.1)))).ok
  ·exact zuj B c V _ h (zxt B c V _ h (GY B c V one (EM B c V one w2 (k2 (aj (ak h))))).ok (GY B c V two (EM B c V two w3 (k3 (aj h)))).ok)
  ·exact zxu B c V _ h.1 h.2 (GY B c V one (EM B c V one w2 (k2 (aj (aj h.1)))))
  exact zun B c V _ h
 intro i hi;cases i with| zero=>exact hx| succ i=>exact EM B c V rest w4 k4 i (by simpa using hi)
theorem Ri(B c:Nat)(V:Vs)(l:List Sm)(hw:jZ l)(hk:oK V l):EK B c V l:=GY B c V l (EM B c V l hw hk)
theorem qhx(s:dX)(w:dY)(hs:s.size<=maxLen):fI 37 #[.string s] w fun e w'=>e=fM (.tuple #[eF ((gI s).1:Int),eF ((gI s).2:Int)])/\gU w w':=by go_enter func37,ntmps37;go_wp2_with fail;refine(qrh s _ hs).mono ?_;rintro e w1 ⟨hb,a,n,c,a',n',c',rfl,hr⟩;have HB:Hid _:=hb;go_wp2_with fail;go_ret2;exact⟨rfl,HB.o⟩
