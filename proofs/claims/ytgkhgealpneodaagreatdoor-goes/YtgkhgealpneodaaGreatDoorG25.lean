import Derived.Test.YtgkhgealpneodaaGreatDoorG24
set_option maxRecDepth 100000
set_option maxHeartbeats 4000000
namespace Go.Proofs.YtgkhgealpneodaaGreatDoor
open Go.RowKit
namespace Mk
open Lg Px
variable{w:dY}
theorem zx2{k:Nat}{a b c d e:dZ}{t:TypeId}(hh:w.heap[k]?=some (.cells #[a,b,c,d,e] t)):w.cell? ⟨k,0,none⟩=some a/\w.cell? ⟨k,1,none⟩=some b/\w.cell? ⟨k,2,none⟩=some c/\w.cell? ⟨k,3,none⟩=some d/\w.cell? ⟨k,4,none⟩=some e/\∀o,w.frozen? ⟨k,o,none⟩=false:=by refine⟨?_,?_,?_,?_,?_,?_⟩<;>simp[World.cell?,World.frozen?,hh]
theorem ZL(B c k x y:Nat)(L:List fC)(ws vs:List dX)(vl vw vv:dZ)(w:dY)(h:iA w B c L ws vs vl vw vv)(hl:L.length<=10000000):fI 165 #[fq c,eF (k:Int),.slice (some ⟨w.heap.size,0,none⟩) 2 2] (w.alloc (.cells #[eF (x:Int),eF (y:Int)] 3)) fun e w'=>e=fM (.tuple #[])/\jI B c (L++[⟨k,x,y⟩]) ws vs w w':=by obtain⟨h1,b1⟩:=h.same ((fE.refl (fun _=>False) w).alloc (.cells #[eF (x:Int),eF (y:Int)] 3));refine(zly B c k x y w.heap.size L ws vs vl vw vv _ h1 hl (uO jX).1 (uO jX).2.1).mono ?_;rintro e w' ⟨rfl,b2,h2⟩;exact⟨rfl,b1.trans b2,h2⟩
def FU(B c:Nat)(w:dY)(pa:Option Addr)(L1:List fC)(ws vs1:List dX):Prop:=
 (pa=none/\∃L vl vw vv,iA w B c L ws vs1 vl vw vv/\L.length<=10000000/\L++[⟨0,0,0⟩]=L1) \/
 (∃qr tl ql pn,pa=some ⟨qr,0,none⟩/\w.heap[qr]?=some (.cells #[.iface tl (fq ql),pn] 340)/\Az B c tl ql L1 ws vs1 w)
def TD(undo:dX)(L2 L3:List fC)(mX oG:List dX):Prop:=((!undo.toList.isEmpty)=false/\L3=L2/\oG=mX)\/((!undo.toList.isEmpty)=true/\iK mX undo=oG/\L2++[⟨19,fF oG undo,0⟩]=L3)
def TF(B:Nat)(w:dY)(ps:Option Addr)(gH:dX)(L3 L4:List fC)(vs1 rR:List dX):Prop:=(ps=none/\L3++[⟨3,0,0⟩]=L4/\vs1=rR)\/(∃qv pv,qv<B/\ps=some ⟨qv,0,none⟩/\w.heap[qv]?=some (.cells #[.string gH,pv] 289)/\iK vs1 gH=rR/\L3++[⟨2,fF rR gH,0⟩]=L4)
theorem zjh(B c q qn n:Nat)(pm:dZ)(pa ps:Option Addr)(eH undo gH:dX)(L1 L2 L3 L4:List fC)(ws mX oG vs1 rR:List dX)(w:dY)(qc:q<B)(wR:qn<B)(h4:w.heap[q]?=some (.cells #[.string eH,.pointer pa,.pointer ps,.string undo,fq qn] 338))(h6:w.heap[qn]?=some (.cells #[eF (n:Int),pm] 322))(hl1:L1.length<=10000000)(hl2:L2.length<=10000000)(hl3:L3.length<=10000000)(hx:eH.size<=10000000)(hu:undo.size<=10000000)(ha:gH.size<=10000000)(hws:ws.length<=10000000)(KC:mX.length<=10000000)(hvs:vs1.length<=10000000)(hA:FU B c w pa L1 ws vs1)(e1:iK ws eH=mX)(e2:L1++[⟨18,fF mX eH,n⟩]=L2)(hU:TD undo L2 L3 mX oG)(hS:TF B w ps gH L3 L4 vs1 rR):fI 167 #[fq c,fq q] w fun e w'=>e=fM (.tuple #[])/\jI B c L4 oG rR w w':=by
 have CQ:Hid (∀W,Below B w W->(W.cell? ⟨q,0,none⟩=some (.string eH)/\W.cell? ⟨q,1,none⟩=some (.pointer pa)/\W.cell? ⟨q,2,none⟩=some (.pointer ps)/\W.cell? ⟨q,3,none⟩=some (.string undo)/\W.cell? ⟨q,4,none⟩=some (fq qn)/\∀o,W.frozen? ⟨q,o,none⟩=false)/\W.cell? ⟨qn,0,none⟩=some (eF (n:Int))):=fun W hb=>⟨zx2 ((hb.block q qc).trans h4),(uO ((hb.block qn wR).trans h6)).1⟩;have HA:Hid (FU B c w pa L1 ws vs1):=hA;have HU:Hid (TD undo L2 L3 mX oG):=hU;have HS:Hid (TF B w ps gH L3 L4 vs1 rR):=hS;have E1:Hid (iK ws eH=mX):=e1;have E2:Hid (L1++[⟨18,fF mX eH,n⟩]=L2):=e2;have HL:Hid (L1.length<=10000000/\L2.length<=10000000/\L3.length<=10000000/\eH.size<=10000000/\undo.size<=10000000/\gH.size<=10000000/\ws.length<=10000000/\mX.length<=10000000/\vs1.length<=10000000):=⟨hl1,hl2,hl3,hx,hu,ha,hws,KC,hvs⟩;clear h4 h6 hA hU hS e1 e2 hl1 hl2 hl3 hx hu ha hws KC hvs qc wR;obtain⟨rfl,L,vl,vw,vv,hM,hl,hL1⟩|⟨qr,tl,ql,pn,rfl,h5,hC⟩:=HA.o
 ·have HM:Hid (iA w B c L ws vs1 vl vw vv):=hM;have E0:Hid (L.length<=10000000/\L++[⟨0,0,0⟩]=L1):=⟨hl,hL1⟩;clear HA hM hl hL1;obtain⟨⟨c0,c1,c2,c3,c4,cf⟩,c5⟩:=CQ.o w (aF B w);go_enter Tryz.func167,Tryz.ntmps167;go_wp2_with fail;refine(xX B c 0 0 L ws vs1 vl vw vv w HM.o E0.o.1).mono ?_;rintro e w1 ⟨rfl,b1,mQ,qg,qh,h1⟩;rw[E0.o.2]at h1;obtain⟨g1,_⟩:=h1.same (fE.refl (fun _=>False) w1).drew;have H1:Hid (Below B w w1.drew/\iA w1.drew B c L1 ws vs1 mQ qg qh):=⟨b1.drew,g1⟩;clear c0 c1 c2 c3 c4 c5 cf;obtain⟨⟨c0',c1',c2',c3',c4',cf'⟩,c5'⟩:=CQ.o w1 b1;clear b1 h1 g1;go_wp2_with fail;go_cut [] (fun wc=>Hid (Below B w wc/\∃vl vw vv,iA wc B c L2 mX vs1 vl vw vv))
  case first=>
   go_region_with (first
    |(go_at_call 203;refine(EO B c L1 ws vs1 eH mQ qg qh _ H1.o.2 HL.o.2.2.2.1 HL.o.2.2.2.2.2.2.1).mono ?_;rintro e w2 ⟨rfl,b2,om,zL,zM,h2⟩;rw[E1.o]at h2;rw[E1.o];have H2:Hid (Below B w w2/\iA w2 B c L1 mX vs1 om zL zM):=⟨H1.o.1.trans b2,h2⟩;obtain⟨⟨c0,c1,c2,c3,c4,cf⟩,c5⟩:=CQ.o w2 H2.o.1;clear b2 h2)
    |(go_at_call 165;refine(ZL B c 18 _ n L1 _ vs1 _ _ _ _ H2.o.2 HL.o.1).mono ?_;rintro e w3 ⟨rfl,b3,h3⟩;rw[E2.o]at h3;have H3:Hid (Below B w w3/\∃vl vw vv,iA w3 B c L2 mX vs1 vl vw vv):=⟨H2.o.1.trans b3,h3⟩;clear b3 h3))
   all_goals
    go_wp2_with fail;go_meet
    case rel=>exact H3.o
  case rest=>
   clear H1 c0' c1' c2' c3' c4' cf' c5';obtain⟨bc,oW,tF,tH,hc⟩:=hcut.o;have H3:Hid (Below B w wc/\iA wc B c L2 mX vs1 oW tF tH):=⟨bc,hc⟩;clear bc hc hcut;obtain⟨hu0,rfl,rfl⟩|⟨hu0,hu1,hu2⟩:=HU.o
   ·clear HU;obtain⟨rfl,hs1,rfl⟩|⟨qv,pv,xY,rfl,hs0,hs1,hs2⟩:=HS.o
    ·have S1:Hid (L3++[⟨3,0,0⟩]=L4):=hs1;clear hs1 HS;obtain⟨⟨c0,c1,c2,c3,c4,cf⟩,c5⟩:=CQ.o wc H3.o.1;go_wp2_with fail;refine(DF B c 3 L3 _ _ oW tF tH wc H3.o.2 HL.o.2.2.1).mono ?_;rintro e w9 ⟨rfl,b9,h9⟩;rw[S1.o]at h9;have H9:Hid (jI B c L4 oG vs1 w w9):=⟨H3.o.1.trans b9,h9⟩;clear b9 h9 c0 c1 c2 c3 c4 cf c5;go_wp2_with fail;go_end0
     exact⟨rfl,H9.o⟩
    have S1:Hid (iK vs1 gH=rR):=hs1;have S2:Hid (L3++[⟨2,fF rR gH,0⟩]=L4):=hs2;obtain⟨d0,d1,df⟩:=uO ((H3.o.1.block qv xY).trans hs0);clear hs0 hs1 hs2 HS xY;obtain⟨⟨c0,c1,c2,c3,c4,cf⟩,c5⟩:=CQ.o wc H3.o.1;go_wp2_with fail;refine(Av B c L3 _ _ gH oW tF tH wc H3.o.2 HL.o.2.2.2.2.2.1 HL.o.2.2.2.2.2.2.2.2).mono ?_;rintro e w8 ⟨rfl,b8,zN,zO,zP,h8⟩;rw[S1.o]at h8;rw[S1.o];have H8:Hid (Below B w w8/\iA w8 B c L3 oG rR zN zO zP):=⟨H3.o.1.trans b8,h8⟩;clear b8 h8 c0 c1 c2 c3 c4 cf c5 d0 d1 df;go_wp2_with fail;refine(xX B c 2 _ L3 _ _ zN zO zP w8 H8.o.2 HL.o.2.2.1).mono ?_;rintro e w9 ⟨rfl,b9,h9⟩;rw[S2.o]at h9;have H9:Hid (jI B c L4 oG rR w w9):=⟨H8.o.1.trans b9,h9⟩;clear b9 h9;go_wp2_with fail;go_end0
    exact⟨rfl,H9.o⟩
   have U1:Hid (iK mX undo=oG):=hu1;have U2:Hid (L2++[⟨19,fF oG undo,0⟩]=L3):=hu2;clear hu1 hu2 HU;obtain⟨⟨c0,c1,c2,c3,c4,cf⟩,c5⟩:=CQ.o wc H3.o.1;go_wp2_with fail;refine(EO B c L2 _ _ undo oW tF tH wc H3.o.2 HL.o.2.2.2.2.1 HL.o.2.2.2.2.2.2.2.1).mono ?_;rintro e w5 ⟨rfl,b5,DK,DL,DN,h5⟩;rw[U1.o]at h5;rw[U1.o];have H5:Hid (Below B w w5/\iA w5 B c L2 oG vs1 DK DL DN):=⟨H3.o.1.trans b5,h5⟩;clear b5 h5 c0 c1 c2 c3 c4 cf c5;go_wp2_with fail;refine(xX B c 19 _ L2 _ _ DK DL DN w5 H5.o.2 HL.o.2.1).mono ?_;rintro e w6 ⟨rfl,b6,AA,AB,AJ,h6⟩;rw[U2.o]at h6;have H6:Hid (Below B w w6/\iA w6 B c L3 oG vs1 AA AB AJ):=⟨H5.o.1.trans b6,h6⟩;clear b6 h6;obtain⟨rfl,hs1,rfl⟩|⟨qv,pv,xY,rfl,hs0,hs1,hs2⟩:=HS.o
   ·have S1:Hid (L3++[⟨3,0,0⟩]=L4):=hs1;clear hs1 HS;obtain⟨⟨c0,c1,c2,c3,c4,cf⟩,c5⟩:=CQ.o w6 H6.o.1;go_wp2_with fail;refine(DF B c 3 L3 _ _ AA AB AJ w6 H6.o.2 HL.o.2.2.1).mono ?_;rintro e w9 ⟨rfl,b9,h9⟩;rw[S1.o]at h9;have H9:Hid (jI B c L4 oG vs1 w w9):=⟨H6.o.1.trans b9,h9⟩;clear b9 h9 c0 c1 c2 c3 c4 cf c5;go_wp2_with fail;go_end0
    exact⟨rfl,H9.o⟩
   have S1:Hid (iK vs1 gH=rR):=hs1;have S2:Hid (L3++[⟨2,fF rR gH,0⟩]=L4):=hs2;obtain⟨d0,d1,df⟩:=uO ((H6.o.1.block qv xY).trans hs0);clear hs0 hs1 hs2 HS xY;obtain⟨⟨c0,c1,c2,c3,c4,cf⟩,c5⟩:=CQ.o w6 H6.o.1;go_wp2_with fail;refine(Av B c L3 _ _ gH AA AB AJ w6 H6.o.2 HL.o.2.2.2.2.2.1 HL.o.2.2.2.2.2.2.2.2).mono ?_;rintro e w8 ⟨rfl,b8,zN,zO,zP,h8⟩;rw[S1.o]at h8;rw[S1.o];have H8:Hid (Below B w w8/\iA w8 B c L3 oG rR zN zO zP):=⟨H6.o.1.trans b8,h8⟩;clear b8 h8 c0 c1 c2 c3 c4 cf c5 d0 d1 df;go_wp2_with fail;refine(xX B c 2 _ L3 _ _ zN zO zP w8 H8.o.2 HL.o.2.2.1).mono ?_;rintro e w9 ⟨rfl,b9,h9⟩;rw[S2.o]at h9;have H9:Hid (jI B c L4 oG rR w w9):=⟨H8.o.1.trans b9,h9⟩;clear b9 h9;go_wp2_with fail;go_end0
   exact⟨rfl,H9.o⟩
 have KA:Hid (Az B c tl ql L1 ws vs1 w):=hC;obtain⟨d0,d1,df⟩:=uO h5;clear HA hC h5;obtain⟨⟨c0,c1,c2,c3,c4,cf⟩,c5⟩:=CQ.o w (aF B w);go_enter Tryz.func167,Tryz.ntmps167;go_wp2_with fail;refine aB KA.o ?_;rintro e w1 ⟨rfl,b1,mQ,qg,qh,h1⟩;obtain⟨g1,_⟩:=h1.same (fE.refl (fun _=>False) w1).drew;have H1:Hid (Below B w w1.drew/\iA w1.drew B c L1 ws vs1 mQ qg qh):=⟨b1.drew,g1⟩;clear c0 c1 c2 c3 c4 c5 cf;clear d0 d1 df;obtain⟨⟨c0',c1',c2',c3',c4',cf'⟩,c5'⟩:=CQ.o w1 b1;clear b1 h1 g1;go_wp2_with fail;go_cut [] (fun wc=>Hid (Below B w wc/\∃vl vw vv,iA wc B c L2 mX vs1 vl vw vv))
 case first=>
  go_region_with (first
   |(go_at_call 203;refine(EO B c L1 ws vs1 eH mQ qg qh _ H1.o.2 HL.o.2.2.2.1 HL.o.2.2.2.2.2.2.1).mono ?_;rintro e w2 ⟨rfl,b2,om,zL,zM,h2⟩;rw[E1.o]at h2;rw[E1.o];have H2:Hid (Below B w w2/\iA w2 B c L1 mX vs1 om zL zM):=⟨H1.o.1.trans b2,h2⟩;obtain⟨⟨c0,c1,c2,c3,c4,cf⟩,c5⟩:=CQ.o w2 H2.o.1;clear b2 h2)
   |(go_at_call 165;refine(ZL B c 18 _ n L1 _ vs1 _ _ _ _ H2.o.2 HL.o.1).mono ?_;rintro e w3 ⟨rfl,b3,h3⟩;rw[E2.o]at h3;have H3:Hid (Below B w w3/\∃vl vw vv,iA w3 B c L2 mX vs1 vl vw vv):=⟨H2.o.1.trans b3,h3⟩;clear b3 h3))
  all_goals
   go_wp2_with fail;go_meet
   case rel=>exact H3.o
 case rest=>
  clear H1 c0' c1' c2' c3' c4' cf' c5';obtain⟨bc,oW,tF,tH,hc⟩:=hcut.o;have H3:Hid (Below B w wc/\iA wc B c L2 mX vs1 oW tF tH):=⟨bc,hc⟩;clear bc hc hcut;obtain⟨hu0,rfl,rfl⟩|⟨hu0,hu1,hu2⟩:=HU.o
  ·clear HU;obtain⟨rfl,hs1,rfl⟩|⟨qv,pv,xY,rfl,hs0,hs1,hs2⟩:=HS.o
   ·have S1:Hid (L3++[⟨3,0,0⟩]=L4):=hs1;clear hs1 HS;obtain⟨⟨c0,c1,c2,c3,c4,cf⟩,c5⟩:=CQ.o wc H3.o.1;go_wp2_with fail;refine(DF B c 3 L3 _ _ oW tF tH wc H3.o.2 HL.o.2.2.1).mono ?_;rintro e w9 ⟨rfl,b9,h9⟩;rw[S1.o]at h9;have H9:Hid (jI B c L4 oG vs1 w w9):=⟨H3.o.1.trans b9,h9⟩;clear b9 h9 c0 c1 c2 c3 c4 cf c5;go_wp2_with fail;go_end0
    exact⟨rfl,H9.o⟩
   have S1:Hid (iK vs1 gH=rR):=hs1;have S2:Hid (L3++[⟨2,fF rR gH,0⟩]=L4):=hs2;obtain⟨d0,d1,df⟩:=uO ((H3.o.1.block qv xY).trans hs0);clear hs0 hs1 hs2 HS xY;obtain⟨⟨c0,c1,c2,c3,c4,cf⟩,c5⟩:=CQ.o wc H3.o.1;go_wp2_with fail;refine(Av B c L3 _ _ gH oW tF tH wc H3.o.2 HL.o.2.2.2.2.2.1 HL.o.2.2.2.2.2.2.2.2).mono ?_;rintro e w8 ⟨rfl,b8,zN,zO,zP,h8⟩;rw[S1.o]at h8;rw[S1.o];have H8:Hid (Below B w w8/\iA w8 B c L3 oG rR zN zO zP):=⟨H3.o.1.trans b8,h8⟩;clear b8 h8 c0 c1 c2 c3 c4 cf c5 d0 d1 df;go_wp2_with fail;refine(xX B c 2 _ L3 _ _ zN zO zP w8 H8.o.2 HL.o.2.2.1).mono ?_;rintro e w9 ⟨rfl,b9,h9⟩;rw[S2.o]at h9;have H9:Hid (jI B c L4 oG rR w w9):=⟨H8.o.1.trans b9,h9⟩;clear b9 h9;go_wp2_with fail;go_end0
   exact⟨rfl,H9.o⟩
  have U1:Hid (iK mX undo=oG):=hu1;have U2:Hid (L2++[⟨19,fF oG undo,0⟩]=L3):=hu2;clear hu1 hu2 HU;obtain⟨⟨c0,c1,c2,c3,c4,cf⟩,c5⟩:=CQ.o wc H3.o.1;go_wp2_with fail;refine(EO B c L2 _ _ undo oW tF tH wc H3.o.2 HL.o.2.2.2.2.1 HL.o.2.2.2.2.2.2.2.1).mono ?_;rintro e w5 ⟨rfl,b5,DK,DL,DN,h5⟩;rw[U1.o]at h5;rw[U1.o];have H5:Hid (Below B w w5/\iA w5 B c L2 oG vs1 DK DL DN):=⟨H3.o.1.trans b5,h5⟩;clear b5 h5 c0 c1 c2 c3 c4 cf c5;go_wp2_with fail;refine(xX B c 19 _ L2 _ _ DK DL DN w5 H5.o.2 HL.o.2.1).mono ?_;rintro e w6 ⟨rfl,b6,AA,AB,AJ,h6⟩;rw[U2.o]at h6;have H6:Hid (Below B w w6/\iA w6 B c L3 oG vs1 AA AB AJ):=⟨H5.o.1.trans b6,h6⟩;clear b6 h6;obtain⟨rfl,hs1,rfl⟩|⟨qv,pv,xY,rfl,hs0,hs1,hs2⟩:=HS.o
  ·have S1:Hid (L3++[⟨3,0,0⟩]=L4):=hs1;clear hs1 HS;obtain⟨⟨c0,c1,c2,c3,c4,cf⟩,c5⟩:=CQ.o w6 H6.o.1;go_wp2_with fail;refine(DF B c 3 L3 _ _ AA AB AJ w6 H6.o.2 HL.o.2.2.1).mono ?_;rintro e w9 ⟨rfl,b9,h9⟩;rw[S1.o]at h9;have H9:Hid (jI B c L4 oG vs1 w w9):=⟨H6.o.1.trans b9,h9⟩;clear b9 h9 c0 c1 c2 c3 c4 cf c5;go_wp2_with fail;go_end0
   exact⟨rfl,H9.o⟩
  have S1:Hid (iK vs1 gH=rR):=hs1;have S2:Hid (L3++[⟨2,fF rR gH,0⟩]=L4):=hs2;obtain⟨d0,d1,df⟩:=uO ((H6.o.1.block qv xY).trans hs0);clear hs0 hs1 hs2 HS xY;obtain⟨⟨c0,c1,c2,c3,c4,cf⟩,c5⟩:=CQ.o w6 H6.o.1;go_wp2_with fail;refine(Av B c L3 _ _ gH AA AB AJ w6 H6.o.2 HL.o.2.2.2.2.2.1 HL.o.2.2.2.2.2.2.2.2).mono ?_;rintro e w8 ⟨rfl,b8,zN,zO,zP,h8⟩;rw[S1.o]at h8;rw[S1.o];have H8:Hid (Below B w w8/\iA w8 B c L3 oG rR zN zO zP):=⟨H6.o.1.trans b8,h8⟩;clear b8 h8 c0 c1 c2 c3 c4 cf c5 d0 d1 df;go_wp2_with fail;refine(xX B c 2 _ L3 _ _ zN zO zP w8 H8.o.2 HL.o.2.2.1).mono ?_;rintro e w9 ⟨rfl,b9,h9⟩;rw[S2.o]at h9;have H9:Hid (jI B c L4 oG rR w w9):=⟨H8.o.1.trans b9,h9⟩;clear b9 h9;go_wp2_with fail;go_end0
  exact⟨rfl,H9.o⟩
theorem zr2(v:dZ)(w:dY):(Instr.typeAssert (.iface 280 v) 234 280 true).run Tryz.prog w=.ok (.tuple #[v,.bool true]) w:=by kernel_rfl
theorem zlm(v:dZ)(w:dY):(Instr.typeAssert (.iface 290 v) 234 280 true).run Tryz.prog w=.ok (.tuple #[.pointer none,.bool false]) w:=by kernel_rfl
theorem zfg(v:dZ)(w:dY):(Instr.typeAssert (.iface 290 v) 234 290 true).run Tryz.prog w=.ok (.tuple #[v,.bool true]) w:=by kernel_rfl
theorem zwh(v:dZ)(w:dY):(Instr.typeAssert (.iface 292 v) 234 280 true).run Tryz.prog w=.ok (.tuple #[.pointer none,.bool false]) w:=by kernel_rfl
theorem zr3(v:dZ)(w:dY):(Instr.typeAssert (.iface 292 v) 234 290 true).run Tryz.prog w=.ok (.tuple #[.pointer none,.bool false]) w:=by kernel_rfl
theorem KD(v:dZ)(w:dY):(Instr.typeAssert (.iface 292 v) 234 292 true).run Tryz.prog w=.ok (.tuple #[v,.bool true]) w:=by kernel_rfl
theorem zr0(v:dZ)(w:dY):(Instr.typeAssert (.iface 294 v) 234 280 true).run Tryz.prog w=.ok (.tuple #[.pointer none,.bool false]) w:=by kernel_rfl
theorem zlj(v:dZ)(w:dY):(Instr.typeAssert (.iface 294 v) 234 290 true).run Tryz.prog w=.ok (.tuple #[.pointer none,.bool false]) w:=by kernel_rfl
theorem zwg(v:dZ)(w:dY):(Instr.typeAssert (.iface 294 v) 234 292 true).run Tryz.prog w=.ok (.tuple #[.pointer none,.bool false]) w:=by kernel_rfl
theorem zrz(v:dZ)(w:dY):(Instr.typeAssert (.iface 294 v) 234 294 true).run Tryz.prog w=.ok (.tuple #[v,.bool true]) w:=by kernel_rfl
theorem zcf(v:dZ)(w:dY):(Instr.typeAssert (.iface 296 v) 234 280 true).run Tryz.prog w=.ok (.tuple #[.pointer none,.bool false]) w:=by kernel_rfl
theorem qxg(v:dZ)(w:dY):(Instr.typeAssert (.iface 296 v) 234 290 true).run Tryz.prog w=.ok (.tuple #[.pointer none,.bool false]) w:=by kernel_rfl
theorem zfd(v:dZ)(w:dY):(Instr.typeAssert (.iface 296 v) 234 292 true).run Tryz.prog w=.ok (.tuple #[.pointer none,.bool false]) w:=by kernel_rfl
theorem zce(v:dZ)(w:dY):(Instr.typeAssert (.iface 296 v) 234 294 true).run Tryz.prog w=.ok (.tuple #[.pointer none,.bool false]) w:=by kernel_rfl
theorem qsm(v:dZ)(w:dY):(Instr.typeAssert (.iface 296 v) 234 296 true).run Tryz.prog w=.ok (.tuple #[v,.bool true]) w:=by kernel_rfl
theorem zll(v:dZ)(w:dY):(Instr.typeAssert (.iface 298 v) 234 280 true).run Tryz.prog w=.ok (.tuple #[.pointer none,.bool false]) w:=by kernel_rfl
theorem zff(v:dZ)(w:dY):(Instr.typeAssert (.iface 298 v) 234 290 true).run Tryz.prog w=.ok (.tuple #[.pointer none,.bool false]) w:=by kernel_rfl
theorem zr4(v:dZ)(w:dY):(Instr.typeAssert (.iface 298 v) 234 292 true).run Tryz.prog w=.ok (.tuple #[.pointer none,.bool false]) w:=by kernel_rfl
theorem zlk(v:dZ)(w:dY):(Instr.typeAssert (.iface 298 v) 234 294 true).run Tryz.prog w=.ok (.tuple #[.pointer none,.bool false]) w:=by kernel_rfl
theorem qxh(v:dZ)(w:dY):(Instr.typeAssert (.iface 298 v) 234 296 true).run Tryz.prog w=.ok (.tuple #[.pointer none,.bool false]) w:=by kernel_rfl
theorem zfe(v:dZ)(w:dY):(Instr.typeAssert (.iface 298 v) 234 298 true).run Tryz.prog w=.ok (.tuple #[v,.bool true]) w:=by kernel_rfl
theorem Jo(B c q:Nat)(L:List fC)(ws vs:List dX)(w:dY)(hC:fI 167 #[fq c,fq q] w fun e w'=>e=fM (.tuple #[])/\jI B c L ws vs w w'):fI 130 #[fq c,.iface 290 (fq q)] w fun e w'=>e=fM (.tuple #[])/\jI B c L ws vs w w':=by
 have f0:=zlm;have f1:=zfg;have HC:Hid (fI 167 #[fq c,fq q] w fun e w'=>e=fM (.tuple #[])/\jI B c L ws vs w w'):=hC;go_enter Tryz.func130,Tryz.ntmps130;go_wp2_with fail;refine HC.o.mono ?_;rintro e w1 ⟨rfl,h1⟩;have H1:Hid (jI B c L ws vs w w1):=h1;go_wp2_with fail;go_end0
 exact⟨rfl,H1.o⟩
theorem Jq(B c q:Nat)(L:List fC)(ws vs:List dX)(w:dY)(hC:fI 168 #[fq c,fq q] w fun e w'=>e=fM (.tuple #[])/\jI B c L ws vs w w'):fI 130 #[fq c,.iface 292 (fq q)] w fun e w'=>e=fM (.tuple #[])/\jI B c L ws vs w w':=by
 have f0:=zwh;have f1:=zr3;have f2:=KD;have HC:Hid (fI 168 #[fq c,fq q] w fun e w'=>e=fM (.tuple #[])/\jI B c L ws vs w w'):=hC;go_enter Tryz.func130,Tryz.ntmps130;go_wp2_with fail;refine HC.o.mono ?_;rintro e w1 ⟨rfl,h1⟩;have H1:Hid (jI B c L ws vs w w1):=h1;go_wp2_with fail;go_end0
 exact⟨rfl,H1.o⟩
theorem Jr(B c q:Nat)(L:List fC)(ws vs:List dX)(w:dY)(hC:fI 169 #[fq c,fq q] w fun e w'=>e=fM (.tuple #[])/\jI B c L ws vs w w'):fI 130 #[fq c,.iface 294 (fq q)] w fun e w'=>e=fM (.tuple #[])/\jI B c L ws vs w w':=by
 have f0:=zr0;have f1:=zlj;have f2:=zwg;have f3:=zrz;have HC:Hid (fI 169 #[fq c,fq q] w fun e w'=>e=fM (.tuple #[])/\jI B c L ws vs w w'):=hC;go_enter Tryz.func130,Tryz.ntmps130;go_wp2_with fail;refine HC.o.mono ?_;rintro e w1 ⟨rfl,h1⟩;have H1:Hid (jI B c L ws vs w w1):=h1;go_wp2_with fail;go_end0
 exact⟨rfl,H1.o⟩
theorem QM(B c q:Nat)(L:List fC)(ws vs:List dX)(w:dY)(hC:fI 170 #[fq c,fq q] w fun e w'=>e=fM (.tuple #[])/\jI B c L ws vs w w'):fI 130 #[fq c,.iface 296 (fq q)] w fun e w'=>e=fM (.tuple #[])/\jI B c L ws vs w w':=by
 have f0:=zcf;have f1:=qxg;have f2:=zfd;have f3:=zce;have f4:=qsm;have HC:Hid (fI 170 #[fq c,fq q] w fun e w'=>e=fM (.tuple #[])/\jI B c L ws vs w w'):=hC;go_enter Tryz.func130,Tryz.ntmps130;go_wp2_with fail;refine HC.o.mono ?_;rintro e w1 ⟨rfl,h1⟩;have H1:Hid (jI B c L ws vs w w1):=h1;go_wp2_with fail;go_end0
 exact⟨rfl,H1.o⟩
theorem Jp(B c q:Nat)(L:List fC)(ws vs:List dX)(vl vw vv:dZ)(w:dY)(hM:iA w B c L ws vs vl vw vv)(hl:L.length<=10000000):fI 130 #[fq c,.iface 298 (fq q)] w fun e w'=>e=fM (.tuple #[])/\jI B c (L++[⟨17,0,0⟩]) ws vs w w':=by
 have f0:=zll;have f1:=zff;have f2:=zr4;have f3:=zlk;have f4:=qxh;have f5:=zfe;have HM:Hid (iA w B c L ws vs vl vw vv):=hM;go_enter Tryz.func130,Tryz.ntmps130;go_wp2_with fail;refine(DF B c 17 L ws vs vl vw vv w HM.o hl).mono ?_;rintro e w1 ⟨rfl,h1⟩;have H1:Hid (jI B c (L++[⟨17,0,0⟩]) ws vs w w1):=h1;go_wp2_with fail;go_end0
 exact⟨rfl,H1.o⟩
theorem Jm(B c q qv tl ql:Nat)(eH:dX)(pv:dZ)(L1 L2:List fC)(ws vs1 vs2:List dX)(w:dY)(qc:q<B)(xY:qv<B)(h4:w.heap[q]?=some (.cells #[fq qv,.iface tl (fq ql)] 286))(h5:w.heap[qv]?=some (.cells #[.string eH,pv] 289))(hl:L1.length<=10000000)(hx:eH.size<=10000000)(hvs:vs1.length<=10000000)(hC:Az B c tl ql L1 ws vs1 w)(e1:iK vs1 eH=vs2)(e2:L1++[⟨2,fF vs2 eH,0⟩]=L2):fI 130 #[fq c,.iface 280 (fq q)] w fun e w'=>e=fM (.tuple #[])/\jI B c L2 ws vs2 w w':=by
 have f0:=zr2;have CQ:Hid (∀W,Below B w W->(W.cell? ⟨q,0,none⟩=some (fq qv)/\W.cell? ⟨q,1,none⟩=some (.iface tl (fq ql))/\∀o,W.frozen? ⟨q,o,none⟩=false)/\W.cell? ⟨qv,0,none⟩=some (.string eH)):=fun W hb=>⟨uO ((hb.block q qc).trans h4),(uO ((hb.block qv xY).trans h5)).1⟩;have HC:Hid (Az B c tl ql L1 ws vs1 w):=hC;have E1:Hid (iK vs1 eH=vs2):=e1;have E2:Hid (L1++[⟨2,fF vs2 eH,0⟩]=L2):=e2;have HL:Hid (L1.length<=10000000/\eH.size<=10000000/\vs1.length<=10000000):=⟨hl,hx,hvs⟩;obtain⟨⟨c0,c1,cf⟩,c2⟩:=CQ.o w (aF B w);go_enter Tryz.func130,Tryz.ntmps130;go_wp2_with fail;refine aB HC.o ?_;rintro e w1 ⟨rfl,b1,mQ,qg,qh,h1⟩;have H1:Hid (Below B w w1/\iA w1 B c L1 ws vs1 mQ qg qh):=⟨b1,h1⟩;obtain⟨⟨c0,c1,cf⟩,c2⟩:=CQ.o w1 H1.o.1;go_wp2_with fail;refine(Av B c L1 _ _ eH mQ qg qh w1 H1.o.2 HL.o.2.1 HL.o.2.2).mono ?_;rintro e w2 ⟨rfl,b2,om,zL,zM,h2⟩;rw[E1.o]at h2;rw[E1.o];have H2:Hid (Below B w w2/\iA w2 B c L1 ws vs2 om zL zM):=⟨H1.o.1.trans b2,h2⟩;go_wp2_with fail;refine(xX B c 2 _ L1 _ _ om zL zM w2 H2.o.2 HL.o.1).mono ?_;rintro e w3 ⟨rfl,b3,h3⟩;rw[E2.o]at h3;have H3:Hid (jI B c L2 ws vs2 w w3):=⟨H2.o.1.trans b3,h3⟩;go_wp2_with fail;go_end0
 exact⟨rfl,H3.o⟩
variable{v:dZ}{vs:List dZ}{ok:Nat->Prop}
theorem Ik(h:lJ w v vs ok):∃a cap,v=.slice a vs.length cap/\vs.length<=maxLen:=by
 obtain⟨h1,h2⟩|⟨g,cap,cur,h1,h2,h3,h4,h5,h6,h7⟩:=h;·subst h2;exact⟨none,0,h1,by simp⟩
 exact⟨_,cap,h1,by omega⟩
theorem zrv(h:lJ w v vs ok){n:Nat}(hn:n<vs.length):∃g cap,v=.slice (some ⟨g,0,none⟩) vs.length cap/\ok g/\w.cell? ⟨g,n,none⟩=some vs[n]:=by
 obtain⟨h1,h2⟩|⟨g,cap,cur,h1,h2,h3,h4,h5,h6,h7⟩:=h;·subst h2;simp at hn
 refine⟨g,cap,h1,h2,?_⟩;have:cur[n]?=some vs[n]:=by
  have h8:(cur.toList.take vs.length)[n]?=some vs[n]:=by rw[h7];exact bN hn
  rw[bE hn]at h8;simpa using h8
 simp[World.cell?,h3,this]
variable{l:List Sm}
theorem TG(h:gX w l ok vs):vs.length=l.length:=by
 induction l generalizing vs with| nil=>simp[gX.oV.1 h]| cons x l ih=>
 obtain⟨v,vs',rfl,h1,h2⟩:=gX.uY.1 h;simp[ih h1]
theorem zw2(h:gX w l ok vs)(n:Nat)(hn:n<l.length)(hm:n<vs.length):oZ w l[n] ok vs[n]:=by
 induction l generalizing vs n with| nil=>simp at hn| cons x l ih=>
 obtain⟨v,vs',rfl,h1,h2⟩:=gX.uY.1 h;cases n with| zero=>exact h2| succ n=>exact ih h1 n (by simpa using hn) (by simpa using hm)
def DR(B c tl ql:Nat)(L:List fC)(ws vs:List dX)(w:dY):Prop:=fI 130 #[fq c,.iface tl (fq ql)] w fun e w'=>e=fM (.tuple #[])/\jI B c L ws vs w w'
def zQ(B c:Nat)(WW VV:List dX)(x:Sm):Prop:=∀(w:dY)(L:List fC)(ws vs:List dX)(vl vw vv:dZ)(tl ql:Nat),
 oZ w x (· < B) (.iface tl (Ref.ptr ql))->iA w B c L ws vs vl vw vv->Gk w B->l9 x ws <+: WW->lI x vs <+: VV->L.length+lZ x<=10000000->ws.length+lZ x<=10000000->vs.length+lZ x<=10000000 ->
 DR B c tl ql (L++lM (fF WW) (fF VV) x L.length) (l9 x ws) (lI x vs) w
def tJ(B c:Nat)(WW VV:List dX)(l:List Sm):Prop:=∀(w:dY)(L:List fC)(ws vs:List dX)(vl vw vv v:dZ)(us:List dZ),
 lJ w v us (· < B)->gX w l (· < B) us->iA w B c L ws vs vl vw vv->Gk w B->kI l ws <+: WW->jw l vs <+: VV->L.length+mY l<=10000000->ws.length+mY l<=10000000->vs.length+mY l<=10000000 ->
 vI B c v (L++gL (fF WW) (fF VV) l L.length) (kI l ws) (jw l vs) w
def rT(B c:Nat)(WW VV:List dX)(L0:List fC)(wV wW:List dX)(w0:dY)(l:List Sm)(w:dY):Prop:=Below B w0 w/\∃L ws vs vl vw vv,iA w B c L ws vs vl vw vv/\L++gL (fF WW) (fF VV) l L.length=L0/\kI l ws=wV/\jw l vs=wW/\L.length+mY l<=10000000/\ws.length+mY l<=10000000/\vs.length+mY l<=10000000
variable{B c:Nat}{VV WW:List dX}
theorem rT.step{L0:List fC}{wV wW:List dX}{w0:dY}{x:Sm}(h:rT B c WW VV L0 wV wW w0 (x::l) w)(hx:zQ B c WW VV x)(hG:Gk w0 B)(hW:wV <+: WW)(hV:wW <+: VV){tl ql:Nat}(hs:oZ w0 x (· < B) (.iface tl (Ref.ptr ql))):∃L ws vs,DR B c tl ql L ws vs w/\∀w',jI B c L ws vs w w'->rT B c WW VV L0 wV wW w0 l w':=by
 obtain⟨hb,L,ws,vs,vl,vw,vv,hM,e1,e2,e3,b1,b2,b3⟩:=h;rw[Ei]at e1;rw[Gx]at e2;rw[En]at e3;rw[FH]at b1 b2 b3;refine⟨_,_,_,hx w L ws vs vl vw vv tl ql (hs.keep fun i hi=>hb.block i hi) hM (hG.below hb) ?_ ?_ (by omega) (by omega) (by omega),?_⟩;·refine(zn l _).trans ?_;rw[e2];exact hW
 ·refine(yw l _).trans ?_;rw[e3];exact hV
 rintro w' ⟨b4,vl',vw',vv',hM'⟩;have n1:=ZH (fF WW) (fF VV) x (DI _ _ _) (DI _ _ _) L.length;have n2:=ZI x (FP _) (FP _) ws;have n3:=ZJ x (DJ _) (DJ _) vs;refine⟨hb.trans b4,_,_,_,vl',vw',vv',hM',?_,e2,e3,by rw[aC];omega,by omega,by omega⟩;rw[aC,aM];exact e1
theorem TH(B c:Nat)(WW VV:List dX)(l:List Sm)(hx:∀i(hi:i<l.length),zQ B c WW VV l[i]):tJ B c WW VV l:=by
 intro w L ws vs vl vw vv v us hs hm hM hG hW hV hl1 hl2 hl3;generalize hL0:L++gL (fF WW) (fF VV) l L.length=L0;generalize TI:kI l ws=wV at *;generalize TJ:jw l vs=wW at *;have H0:Hid (rT B c WW VV L0 wV wW w l w):=⟨aF B w,L,ws,vs,vl,vw,vv,hM,hL0,TI,TJ,hl1,hl2,hl3⟩;obtain⟨va,vc,rfl,hml⟩:=Ik hs;unfold maxLen at hml;have hlen:=TG hm;have H:Hid (lJ w (.slice va us.length vc) us (· < B)/\gX w l (· < B) us/\Gk w B/\wV <+: WW/\wW <+: VV):=⟨hs,hm,hG,hW,hV⟩;have HX:Hid (∀i(hi:i<l.length),zQ B c WW VV l[i]):=hx;have HLen:Hid (us.length=l.length):=hlen;unfold vI;go_enter Tryz.func51,Tryz.ntmps51;go_wp2_with fail;go_loopw [8] (fun i wr=>∃n:Nat,n<=us.length/\i=eF n/\Hid (rT B c WW VV L0 wV wW w (l.drop n) wr)) (fun i _=>us.length-(intOf i).toNat)
 case atStart=>exact⟨0,by omega,rfl,H0.o⟩
 case round=>
  obtain⟨n,hn,rfl,hr⟩:=hrel;by_cases hlt:n<us.length
  ·have hnl:n<l.length:=by have:=HLen.o;omega
   have wD:=zw2 H.o.2.1 n hnl hlt;obtain⟨t,q,hform⟩:=wD.form;obtain⟨g,cap,hgv,hg,hcell⟩:=zrv H.o.1 hlt;cases hgv;have hcr:wr.cell? ⟨g,n,none⟩=some (.iface t (fq q)):=by rw[aH (w:=w) (a:=⟨g,n,none⟩) (hr.o.1.block g hg),hcell,hform];rfl
   have hdrop:l.drop n=l[n]::l.drop (n+1):=bV hnl;have hr':=hr.o;rw[hdrop]at hr';rw[hform]at wD;obtain⟨L1,uP,vs1,hC,hN⟩:=hr'.step (HX.o n hnl) H.o.2.2.1 H.o.2.2.2.1 H.o.2.2.2.2 wD;have HC:Hid (DR B c t q L1 uP vs1 wr):=hC;have HN:Hid (∀w',jI B c L1 uP vs1 wr w'->rT B c WW VV L0 wV wW w (l.drop (n+1)) w'):=hN;go_wp2_with fail;refine aB HC.o ?_;rintro e w1 ⟨rfl,h1⟩;have H1:Hid (rT B c WW VV L0 wV wW w (l.drop (n+1)) w1):=HN.o w1 h1;go_wp2_with fail;exact⟨⟨n+1,by omega,by go_num,H1.o⟩,by simp[intOf];omega⟩
  have hnl:l.drop n=[]:=dh (by have:=HLen.o;omega);rw[hnl]at hr;have H1:Hid (jI B c L0 wV wW w wr):=by obtain⟨hb,L1,uP,vs1,mQ,qg,qh,hM,e1,e2,e3,_⟩:=hr.o;rw[Gq,bQ]at e1;rw[MC]at e2;rw[ME]at e3;subst e1 e2 e3;exact⟨hb,mQ,qg,qh,hM⟩
  go_wp2_with fail;go_end0
  exact⟨rfl,H1.o⟩
theorem TL(k:Nat)(L a:List fC):pF (L++[⟨k,0,0⟩]++a) L.length=L++([⟨k,L.length+1+a.length,0⟩]++a):=by rw[aM];exact ZK L a k
theorem ZM(k j:Nat)(L a b:List fC):pF (pF (L++[⟨k,0,0⟩]++a++[⟨j,0,0⟩]) L.length++b) (L++[(⟨k,0,0⟩:fC)]++a).length=L++([⟨k,L.length+1+a.length+1,0⟩]++(a++([⟨j,L.length+1+a.length+1+b.length,0⟩]++b))):=by
 rw[show L++[(⟨k,0,0⟩:fC)]++a++[(⟨j,0,0⟩:fC)]=L++[(⟨k,0,0⟩:fC)]++(a++[(⟨j,0,0⟩:fC)])from aM _ _ _,TL];have e:L++([(⟨k,L.length+1+(a++[(⟨j,0,0⟩:fC)]).length,0⟩:fC)]++(a++[(⟨j,0,0⟩:fC)]))++b=(L++([⟨k,L.length+1+(a++[(⟨j,0,0⟩:fC)]).length,0⟩]++a))++(⟨j,0,0⟩::b):=by simp
 have el:(L++[(⟨k,0,0⟩:fC)]++a).length=(L++([(⟨k,L.length+1+(a++[(⟨j,0,0⟩:fC)]).length,0⟩:fC)]++a)).length:=by simp
 rw[e,el,ZK];have e1:L.length+1+(a++[(⟨j,0,0⟩:fC)]).length=L.length+1+a.length+1:=by simp;omega
 have e2:(L++([(⟨k,L.length+1+(a++[(⟨j,0,0⟩:fC)]).length,0⟩:fC)]++a)).length=L.length+1+a.length:=by simp;omega
 rw[e2,e1,aM,aM];rfl
variable{u:dX}
theorem zs2(h:u.size=0):(!u.toList.isEmpty)=false:=by
 rw[aP];have:u.data.toList.length=0:=by simpa using h
 rw[bA.1 this];rfl
theorem zvk(h:¬u.size=0):(!u.toList.isEmpty)=true:=by
 rw[aP];have:u.data.toList.length≠0:=by simpa using h
 cases hh:u.data.toList with| nil=>rw[hh]at this;exact(this rfl).elim| cons _ _=>rfl
theorem TM(B c:Nat)(VV:List dX)(e:fG)(hw:nU e)(ht:qo e)(w:dY)(L:List fC)(ws vs:List dX)(vl vw vv:dZ)(tl ql:Nat)(hX:ku w e (· < B) (.iface tl (Ref.ptr ql)))(hM:iA w B c L ws vs vl vw vv)(hG:Gk w B)(hV:kN e vs <+: VV)(h1:L.length+nI e<=10000000)(h2:vs.length+nI e<=10000000):Az B c tl ql (L++ko (fF VV) e) ws (kN e vs) w:=EW B c VV e hw ht w L ws vs vl vw vv tl ql hX hM hG hV h1 h2
theorem zw6(B c:Nat)(WW VV:List dX)(x:Sm)(hop:x.op=108)(w:dY)(L:List fC)(ws vs:List dX)(vl vw vv:dZ)(q qv tl ql:Nat)(e:fG)(hx:x.ex=some e)(hw:nU e)(ht:qo e)(hq:q<B)(h2:w.heap[q]?=some (.cells #[Ref.ptr qv,.iface tl (Ref.ptr ql)] 286))(h3:kX w x.eH x.pl (· < B) qv)(h5:ku w e (· < B) (.iface tl (Ref.ptr ql)))(hM:iA w B c L ws vs vl vw vv)(hG:Gk w B)(hV:lI x vs <+: VV)(hl:L.length+lZ x<=10000000)(hl3:vs.length+lZ x<=10000000):DR B c 280 q (L++lM (fF WW) (fF VV) x L.length) (l9 x ws) (lI x vs) w:=by
 have ev:lI x vs=iK (kN e vs) x.eH:=by unfold lI;rw[aA hop,hx];rfl
 have ew:l9 x ws=ws:=by unfold l9;rw[ah (by omega),ah (by omega),ah (by omega)]
 have em:lM (fF WW) (fF VV) x L.length=ko (fF VV) e++[⟨2,fF VV x.eH,0⟩]:=by unfold lM;rw[aA hop,hx];rfl
 have es:lZ x≥nI e+x.eH.size+100:=by unfold lZ;rw[hx];show _+nI e+_+_+_+_+_+_≥_;omega
 have e1:=vU (fF VV) e;have e2:=Ci e;have e3:=FN e vs;rw[ev]at hV;have ei:fF VV x.eH=fF (iK (kN e vs) x.eH) x.eH:=I4 (xD _ _) hV;rw[ev,ew,em,ei];exact Jm B c q qv tl ql x.eH _ _ _ ws _ _ w hq h3.1 h2 h3.2 (by rw[aC];omega) (by omega) (by omega) (TM B c VV e hw ht w L ws vs vl vw vv tl ql h5 hM hG ((xE _ _).trans hV) (by omega) (by omega)) rfl (aM _ _ _)
theorem QL(B c:Nat)(WW VV:List dX)(x:Sm)(hop:x.op=99)(w:dY)(L:List fC)(ws vs:List dX)(vl vw vv:dZ)(q qn:Nat)(pa ps:Option Addr)(hw:∀e,x.ex=some e->nU e)(ht:∀e,x.ex=some e->qo e)(hq:q<B)(h2:w.heap[q]?=some (.cells #[.string x.eH,.pointer pa,.pointer ps,.string x.undo,Ref.ptr qn] 338))(h3:nH w x.ex (· < B) (.pointer pa))(h4:qL w x.gH x.gG (· < B) (.pointer ps))(h5:jW w x.n x.gZ (· < B) qn)(hM:iA w B c L ws vs vl vw vv)(hG:Gk w B)(hW:l9 x ws <+: WW)(hV:lI x vs <+: VV)(hl:L.length+lZ x<=10000000)(hl2:ws.length+lZ x<=10000000)(hl3:vs.length+lZ x<=10000000):DR B c 290 q (L++lM (fF WW) (fF VV) x L.length) (l9 x ws) (lI x vs) w:=by
 have ev:lI x vs=if x.gH.size=0 then oC x.ex vs else iK (oC x.ex vs) x.gH:=by unfold lI;rw[ah (by omega),aA hop]
 have ew:l9 x ws=xG x.eH x.undo ws:=by unfold l9;rw[aA hop]
 have em:lM (fF WW) (fF VV) x L.length=yu (fF WW) (fF VV) x.eH x.ex x.gH x.undo x.n:=by unfold lM;rw[ah (by omega),aA hop]
 have es:lZ x≥wB x.ex+x.eH.size+x.gH.size+x.undo.size+100:=by unfold lZ;omega
 have e1:=TB (fF VV) x.ex;have e3:=ZG x.ex vs;have e4:=Ij ws x.eH;have ZN:oC x.ex vs <+: VV:=by
  refine List.IsPrefix.trans ?_ hV;rw[ev];split;·exact aR _
  exact xE _ _
 have hwo:iK ws x.eH <+: WW:=by
  refine List.IsPrefix.trans ?_ hW;rw[ew];unfold xG;split;·exact aR _
  exact xE _ _
 have iw1:fF WW x.eH=fF (iK ws x.eH) x.eH:=I4 (xD _ _) hwo;have hA:FU B c w pa (L++mO (fF VV) x.ex) ws (oC x.ex vs):=by
  cases hx:x.ex with
  |none=>rw[hx]at h3;cases h3;exact ak ⟨rfl,L,vl,vw,vv,hM,by omega,rfl⟩
  |some e=>
  rw[hx]at h3 e1 e3 ZN es;obtain⟨qr,hp,hqr,tl,ql,hr1,hr2⟩:=h3;cases hp;have:wB (some e)=nI e:=rfl;exact aj ⟨qr,tl,ql,_,rfl,hr1,TM B c VV e (hw e hx) (ht e hx) w L ws vs vl vw vv tl ql hr2 hM hG ZN (by omega) (by omega)⟩
 rw[em];refine Jo B c q _ _ _ w ?_;have e5:(L++mO (fF VV) x.ex).length=L.length+(mO (fF VV) x.ex).length:=aC;have hmc:L++yu (fF WW) (fF VV) x.eH x.ex x.gH x.undo x.n=(if x.undo.size=0 then L++mO (fF VV) x.ex++[⟨18,fF (iK ws x.eH) x.eH,x.n⟩]else L++mO (fF VV) x.ex++[⟨18,fF (iK ws x.eH) x.eH,x.n⟩]++[⟨19,fF WW x.undo,0⟩])++[if x.gH.size=0 then⟨3,0,0⟩else⟨2,fF VV x.gH,0⟩]:=by unfold yu;rw[iw1];split<;>simp
 have hU:TD x.undo (L++mO (fF VV) x.ex++[⟨18,fF (iK ws x.eH) x.eH,x.n⟩]) (if x.undo.size=0 then L++mO (fF VV) x.ex++[⟨18,fF (iK ws x.eH) x.eH,x.n⟩]else L++mO (fF VV) x.ex++[⟨18,fF (iK ws x.eH) x.eH,x.n⟩]++[⟨19,fF WW x.undo,0⟩]) (iK ws x.eH) (l9 x ws):=by
  by_cases hu:x.undo.size=0;·rw[aA hu];exact ak ⟨zs2 hu,rfl,by rw[ew];unfold xG;rw[aA hu]⟩
  rw[ah hu];have e6:l9 x ws=iK (iK ws x.eH) x.undo:=by rw[ew];unfold xG;rw[ah hu]
  refine aj ⟨zvk hu,e6.symm,?_⟩;rw[I4 (a:=l9 x ws) (by rw[e6];exact xD _ _) hW]
 have hS:TF B w ps x.gH (if x.undo.size=0 then L++mO (fF VV) x.ex++[⟨18,fF (iK ws x.eH) x.eH,x.n⟩]else L++mO (fF VV) x.ex++[⟨18,fF (iK ws x.eH) x.eH,x.n⟩]++[⟨19,fF WW x.undo,0⟩]) (L++yu (fF WW) (fF VV) x.eH x.ex x.gH x.undo x.n) (oC x.ex vs) (lI x vs):=by
  rw[hmc];obtain⟨ha,hp⟩|⟨ha,qs,hp,hqs,hc⟩:=h4;·cases hp;rw[aA ha];exact ak ⟨rfl,rfl,by rw[ev,aA ha]⟩
  cases hp;have e6:lI x vs=iK (oC x.ex vs) x.gH:=by rw[ev,ah (by omega)]
  rw[ah (by omega:¬x.gH.size=0)];refine aj ⟨qs,_,hqs,rfl,hc,e6.symm,?_⟩;rw[I4 (a:=lI x vs) (by rw[e6];exact xD _ _) hV]
 exact zjh B c q qn x.n _ pa ps x.eH x.undo x.gH _ _ _ _ ws _ _ _ _ w hq h5.1 h2 h5.2 (by omega) (by rw[aC,e5];simp;omega) (by split<;>simp<;>omega) (by omega) (by omega) (by omega) (by omega) (by omega) (by omega) hA rfl rfl hU hS
theorem KE(i:tJ B c WW VV l){w1:dY}{us:List dZ}(hs:lJ w v us (· < B))(hm:gX w l (· < B) us)(hG:Gk w B){L:List fC}{ws vs:List dX}(hp:jI B c L ws vs w w1)(hW:kI l ws <+: WW)(hV:jw l vs <+: VV)(h1:L.length+mY l<=10000000)(h2:ws.length+mY l<=10000000)(h3:vs.length+mY l<=10000000):vI B c v (L++gL (fF WW) (fF VV) l L.length) (kI l ws) (jw l vs) w1:=by obtain⟨b,vl,vw,vv,hM⟩:=hp;exact i w1 L ws vs vl vw vv v us (hs.keep fun k hk=>b.block k hk) (hm.keep fun k hk=>b.block k hk) hM (hG.below b) hW hV h1 h2 h3
theorem KF(B c:Nat)(WW VV:List dX)(x:Sm)(hop:x.op=105)(i1:tJ B c WW VV x.one)(i2:tJ B c WW VV x.two)(w:dY)(L:List fC)(ws vs:List dX)(vl vw vv:dZ)(q qr:Nat)(e:fG)(hx:x.ex=some e)(hw:nU e)(ht:qo e)(hq:q<B)(v1 v2:dZ)(u1 u2:List dZ)(h2:w.heap[q]?=some (.cells #[Ref.ptr qr,v1,v2] 342))(h3:kR w e (· < B) qr)(s1:lJ w v1 u1 (· < B))(l1:gX w x.one (· < B) u1)(s2:lJ w v2 u2 (· < B))(l2:gX w x.two (· < B) u2)(hM:iA w B c L ws vs vl vw vv)(hG:Gk w B)(hW:l9 x ws <+: WW)(hV:lI x vs <+: VV)(hl:L.length+lZ x<=10000000)(hl2:ws.length+lZ x<=10000000)(hl3:vs.length+lZ x<=10000000):DR B c 292 q (L++lM (fF WW) (fF VV) x L.length) (l9 x ws) (lI x vs) w:=by
 have ev:lI x vs=jw x.two (jw x.one (kN e vs)):=by unfold lI;rw[ah (by omega),ah (by omega),aA hop,hx];rfl
 have ew:l9 x ws=kI x.two (kI x.one ws):=by unfold l9;rw[ah (by omega),aA (ak hop)]
 have es:lZ x≥nI e+100+mY x.one+mY x.two:=by unfold lZ;rw[hx];show _+nI e+_+_+_+_+_+_≥_;omega
 rw[ev]at hV;rw[ew]at hW;have m1:=vU (fF VV) e;have m2:=Ci e;have m3:=FN e vs;have m4:=DI (fF WW) (fF VV) x.one (L.length+(ko (fF VV) e).length+1);have m5:=DJ x.one (kN e vs);have m6:=FP x.one ws;have hV1:jw x.one (kN e vs) <+: VV:=(yw _ _).trans hV;have hW1:kI x.one ws <+: WW:=(zn _ _).trans hW;obtain⟨hqr,tl,ql,hr1,hr2⟩:=h3;obtain⟨a1,k1,rfl,_⟩:=Ik s1;obtain⟨a2,k2,rfl,_⟩:=Ik s2;have hl1:=TG l1;have hl2':=TG l2;refine Jq B c q _ _ _ w ?_;have hE:Az B c tl ql (L++ko (fF VV) e) ws (kN e vs) w:=TM B c VV e hw ht w L ws vs vl vw vv tl ql hr2 hM hG ((yw _ _).trans hV1) (by omega) (by omega);have n1:(L++ko (fF VV) e).length=L.length+(ko (fF VV) e).length:=aC;have n2:(L++ko (fF VV) e++[(⟨13,0,0⟩:fC)]).length=L.length+(ko (fF VV) e).length+1:=by rw[aC,n1];rfl
 have hB1:∀w1,jI B c (L++ko (fF VV) e++[⟨13,0,0⟩]) ws (kN e vs) w w1->vI B c (.slice a1 u1.length k1) (L++ko (fF VV) e++[⟨13,0,0⟩]++gL (fF WW) (fF VV) x.one (L.length+(ko (fF VV) e).length+1)) (kI x.one ws) (jw x.one (kN e vs)) w1:=by intro w1 hp;have:=KE i1 s1 l1 hG hp hW1 hV1 (by rw[n2];omega) (by omega) (by omega);rw[n2]at this;exact this
 by_cases h0:x.two=[]
 ·have em:L++lM (fF WW) (fF VV) x L.length=pF (L++ko (fF VV) e++[⟨13,0,0⟩]++gL (fF WW) (fF VV) x.one (L.length+(ko (fF VV) e).length+1)) (L++ko (fF VV) e).length:=by rw[TL,n1,aM];unfold lM;rw[ah (by omega),ah (by omega),aA hop,hx,h0];rfl
  rw[em,ew,ev,h0,ME,MC];rw[h0]at hl2';have hz:u2.length=0:=hl2';rw[hz]at h2;exact qwo B c q qr tl ql _ a1 a2 _ k1 k2 _ _ _ _ ws _ _ _ w hq h2 hr1 rfl rfl (by simp only[aC];omega) (by simp only[aC,aG,aV];omega) hE hB1
 have em:L++lM (fF WW) (fF VV) x L.length=pF (pF (L++ko (fF VV) e++[⟨13,0,0⟩]++gL (fF WW) (fF VV) x.one (L.length+(ko (fF VV) e).length+1)++[⟨12,0,0⟩]) (L++ko (fF VV) e).length++gL (fF WW) (fF VV) x.two (L.length+(ko (fF VV) e).length+1+(gL (fF WW) (fF VV) x.one (L.length+(ko (fF VV) e).length+1)).length+1)) (L++ko (fF VV) e++[(⟨13,0,0⟩:fC)]++gL (fF WW) (fF VV) x.one (L.length+(ko (fF VV) e).length+1)).length:=by
  rw[ZM,n1,aM];have hz:x.two.isEmpty=false:=by cases hh:x.two with
   |nil=>exact(h0 hh).elim
   |cons _ _=>rfl
  unfold lM;rw[ah (by omega),ah (by omega),aA hop,hx,hz];rfl
 rw[em,ew,ev];have hpos:0<u2.length:=by rw[hl2'];exact bR.2 h0
 have n3:(pF (L++ko (fF VV) e++[⟨13,0,0⟩]++gL (fF WW) (fF VV) x.one (L.length+(ko (fF VV) e).length+1)++[⟨12,0,0⟩]) (L++ko (fF VV) e).length).length=L.length+(ko (fF VV) e).length+1+(gL (fF WW) (fF VV) x.one (L.length+(ko (fF VV) e).length+1)).length+1:=by rw[Kv,aC,aC,n2];rfl
 refine qwn B c q qr tl ql _ a1 a2 _ _ k1 k2 _ _ _ _ _ _ ws _ _ _ _ _ w hq h2 hpos hr1 rfl rfl rfl (by simp only[aC];omega) (by simp only[aC,aG,aV];omega) (by simp only[aC,aG,aV];omega) (by simp only[aC,Kv,aG,aV];omega) hE hB1 ?_;intro w1 hp;have:=KE i2 s2 l2 hG hp hW hV (by rw[n3];omega) (by omega) (by omega);rw[n3]at this;exact this
theorem zv4(B c:Nat)(WW VV:List dX)(x:Sm)(hop:x.op=116)(i1:tJ B c WW VV x.one)(i2:tJ B c WW VV x.two)(w:dY)(L:List fC)(ws vs:List dX)(vl vw vv:dZ)(q:Nat)(hq:q<B)(v1 v2:dZ)(u1 u2:List dZ)(h2:w.heap[q]?=some (.cells #[v1,v2] 345))(s1:lJ w v1 u1 (· < B))(l1:gX w x.one (· < B) u1)(s2:lJ w v2 u2 (· < B))(l2:gX w x.two (· < B) u2)(hM:iA w B c L ws vs vl vw vv)(hG:Gk w B)(hW:l9 x ws <+: WW)(hV:lI x vs <+: VV)(hl:L.length+lZ x<=10000000)(hl2:ws.length+lZ x<=10000000)(hl3:vs.length+lZ x<=10000000):DR B c 294 q (L++lM (fF WW) (fF VV) x L.length) (l9 x ws) (lI x vs) w:=by
 have ev:lI x vs=jw x.two (jw x.one vs):=by unfold lI;rw[ah (by omega),ah (by omega),ah (by omega),aA hop]
 have ew:l9 x ws=kI x.two (kI x.one ws):=by unfold l9;rw[ah (by omega),aA (aj hop)]
 have es:lZ x≥100+mY x.one+mY x.two:=by unfold lZ;omega
 rw[ev]at hV;rw[ew]at hW;have m4:=DI (fF WW) (fF VV) x.one (L.length+1);have m5:=DJ x.one vs;have m6:=FP x.one ws;have hV1:jw x.one vs <+: VV:=(yw _ _).trans hV;have hW1:kI x.one ws <+: WW:=(zn _ _).trans hW;obtain⟨a1,k1,rfl,_⟩:=Ik s1;obtain⟨a2,k2,rfl,_⟩:=Ik s2;refine Jr B c q _ _ _ w ?_;have n2:(L++[(⟨15,0,0⟩:fC)]).length=L.length+1:=by rw[aC];rfl
 have n3:(pF (L++[⟨15,0,0⟩]++gL (fF WW) (fF VV) x.one (L.length+1)++[⟨16,0,0⟩]) L.length).length=L.length+1+(gL (fF WW) (fF VV) x.one (L.length+1)).length+1:=by rw[Kv,aC,aC,n2];rfl
 have em:L++lM (fF WW) (fF VV) x L.length=pF (pF (L++[⟨15,0,0⟩]++gL (fF WW) (fF VV) x.one (L.length+1)++[⟨16,0,0⟩]) L.length++gL (fF WW) (fF VV) x.two (L.length+1+(gL (fF WW) (fF VV) x.one (L.length+1)).length+1)) (L++[(⟨15,0,0⟩:fC)]++gL (fF WW) (fF VV) x.one (L.length+1)).length:=by rw[ZM];unfold lM;rw[ah (by omega),ah (by omega),ah (by omega),aA hop]
 rw[em,ew,ev];refine zky B c q a1 a2 _ _ k1 k2 L _ _ _ _ _ ws vs (kI x.one ws) (jw x.one vs) _ _ vl vw vv w hq hM h2 rfl rfl rfl (by omega) (by simp only[aC,aG,aV];omega) (by simp only[aC,aG,aV];omega) (by simp only[aC,Kv,aG,aV];omega) ?_ ?_;·intro w1 hp;have:=KE i1 s1 l1 hG hp hW1 hV1 (by rw[n2];omega) (by omega) (by omega);rw[n2]at this;exact this
 intro w1 hp;have:=KE i2 s2 l2 hG hp hW hV (by rw[n3];omega) (by omega) (by omega);rw[n3]at this;exact this
theorem zfq(B c:Nat)(WW VV:List dX)(x:Sm)(hop:x.op=114)(i1:tJ B c WW VV x.one)(w:dY)(L:List fC)(ws vs:List dX)(vl vw vv:dZ)(q qn:Nat)(hq:q<B)(v1:dZ)(u1:List dZ)(h2:w.heap[q]?=some (.cells #[Ref.ptr qn,v1] 316))(h3:jW w x.n x.gZ (· < B) qn)(s1:lJ w v1 u1 (· < B))(l1:gX w x.one (· < B) u1)(hM:iA w B c L ws vs vl vw vv)(hG:Gk w B)(hW:l9 x ws <+: WW)(hV:lI x vs <+: VV)(hl:L.length+lZ x<=10000000)(hl2:ws.length+lZ x<=10000000)(hl3:vs.length+lZ x<=10000000):DR B c 296 q (L++lM (fF WW) (fF VV) x L.length) (l9 x ws) (lI x vs) w:=by
 have ev:lI x vs=jw x.one vs:=by unfold lI;rw[ah (by omega),ah (by omega),ah (by omega),ah (by omega),aA hop]
 have ew:l9 x ws=kI x.one ws:=by unfold l9;rw[ah (by omega),ah (by omega),aA hop]
 have es:lZ x≥100+mY x.one:=by unfold lZ;omega
 rw[ev]at hV;rw[ew]at hW;have m4:=DI (fF WW) (fF VV) x.one (L.length+2);obtain⟨a1,k1,rfl,_⟩:=Ik s1;refine QM B c q _ _ _ w ?_;have n1:(L++[(⟨0,x.n,0⟩:fC)]).length=L.length+1:=by rw[aC];rfl
 have n2:(L++[(⟨0,x.n,0⟩:fC)]++[(⟨14,0,0⟩:fC)]).length=L.length+2:=by rw[aC,n1];rfl
 have em:L++lM (fF WW) (fF VV) x L.length=pF (L++[⟨0,x.n,0⟩]++[⟨14,0,0⟩]++gL (fF WW) (fF VV) x.one (L.length+2)++[⟨12,(L++[(⟨0,x.n,0⟩:fC)]).length,0⟩]) (L++[(⟨0,x.n,0⟩:fC)]).length:=by
  rw[aM (L++[(⟨0,x.n,0⟩:fC)]++[(⟨14,0,0⟩:fC)]),TL,n1,aM];have e9:L.length+1+1+(gL (fF WW) (fF VV) x.one (L.length+2)++[(⟨12,L.length+1,0⟩:fC)]).length=L.length+2+(gL (fF WW) (fF VV) x.one (L.length+2)).length+1:=by simp;omega
  rw[e9];unfold lM;rw[ah (by omega),ah (by omega),ah (by omega),ah (by omega),aA hop]
 rw[em,ew,ev];refine qxk B c q qn x.n _ a1 _ k1 L _ _ _ _ _ ws vs _ _ vl vw vv w hq hM h2 h3.2 rfl rfl rfl rfl (by omega) (by simp only[aC,aG,aV];omega) (by simp only[aC,aG,aV];omega) (by simp only[aC,aG,aV];omega) ?_;intro w1 hp;have:=KE i1 s1 l1 hG hp hW hV (by rw[n2];omega) (by omega) (by omega);rw[n2]at this;exact this
theorem KG(B c:Nat)(WW VV:List dX)(x:Sm)(hw:xg x)(ht:∀e,x.ex=some e->qo e)(i1:tJ B c WW VV x.one)(i2:tJ B c WW VV x.two):zQ B c WW VV x:=by
 intro w L ws vs vl vw vv tl ql hs hM hG hW hV hl hl2 hl3;obtain⟨v1,v2,u1,u2,⟨q,hq,hnd⟩,s1,l1,s2,l2⟩:=hs;obtain⟨h0,h1,qv,tl',xS,e,h2,h3,h4,h5⟩|⟨h0,h1,pa,ps,qn,h2,h3,h4,h5⟩|⟨h0,h1,qr,e,h2,h3,h4⟩|⟨h0,h1,h2⟩|⟨h0,h1,qn,h2,h3⟩|⟨h0,h1⟩:=hnd;·cases h1;exact zw6 B c WW VV x h0 w L ws vs vl vw vv _ qv tl' xS e h4 (hw.1 e h4) (ht e h4) hq h2 h3 h5 hM hG hV hl hl3
 ·cases h1;exact QL B c WW VV x h0 w L ws vs vl vw vv _ qn pa ps hw.1 ht hq h2 h3 h4 h5 hM hG hW hV hl hl2 hl3
 ·cases h1;exact KF B c WW VV x h0 i1 i2 w L ws vs vl vw vv _ qr e h3 (hw.1 e h3) (ht e h3) hq v1 v2 u1 u2 h2 h4 s1 l1 s2 l2 hM hG hW hV hl hl2 hl3
 ·cases h1;exact zv4 B c WW VV x h0 i1 i2 w L ws vs vl vw vv _ hq v1 v2 u1 u2 h2 s1 l1 s2 l2 hM hG hW hV hl hl2 hl3
 ·cases h1;exact zfq B c WW VV x h0 i1 w L ws vs vl vw vv _ qn hq v1 u1 h2 h3 s1 l1 hM hG hW hV hl hl2 hl3
 cases h1;have ev:lI x vs=vs:=by unfold lI;rw[ah (by omega),ah (by omega),ah (by omega),ah (by omega),ah (by omega)]
 have ew:l9 x ws=ws:=by unfold l9;rw[ah (by omega),ah (by omega),ah (by omega)]
 have em:lM (fF WW) (fF VV) x L.length=[⟨17,0,0⟩]:=by unfold lM;rw[ah (by omega),ah (by omega),ah (by omega),ah (by omega),ah (by omega)]
 rw[em,ew,ev];exact Jp B c _ L ws vs vl vw vv w hM (by omega)
theorem Ch(B c:Nat)(WW VV:List dX)(l:List Sm)(hw:jZ l)(ht:tX l):∀i(hi:i<l.length),zQ B c WW VV l[i]:=by
 match l,hw,ht with
 |[],_,_=>intro i hi;simp at hi
 |⟨op,eH,pl,ex,gH,gG,undo,n,gZ,one,two⟩::rest,hw,ht=>
 obtain⟨w0,w1,w2,w3⟩:=Ak.1 hw;rw[tX]at ht;obtain⟨t0,t1,t2,t3⟩:=ht;intro i hi;cases i with| zero=>exact KG B c WW VV _ w0 t0 (TH B c WW VV one (Ch B c WW VV one w1 t1)) (TH B c WW VV two (Ch B c WW VV two w2 t2))| succ i=>exact Ch B c WW VV rest w3 t3 i (by simpa using hi)
theorem Rz(B c:Nat)(WW VV:List dX)(l:List Sm)(hw:jZ l)(ht:tX l):tJ B c WW VV l:=TH B c WW VV l (Ch B c WW VV l hw ht)
