import Derived.Test.YtokkhhekekeokaaGreatDoorC29
set_option maxRecDepth 100000
set_option maxHeartbeats 4000000
namespace Go.Proofs.YtokkhhekekeokaaGreatDoor
open Go.RowKit Tryz
namespace Mk
open Lg Px
variable {w:fu}
theorem zx2 {k:Nat}{a b c d e:fC}{t:TypeId}(hh:w.heap[k]?=some (.cells #[a,b,c,d,e] t)):w.cell? ⟨k,0,none⟩=some a/\w.cell? ⟨k,1,none⟩=some b/\w.cell? ⟨k,2,none⟩=some c/\w.cell? ⟨k,3,none⟩=some d/\w.cell? ⟨k,4,none⟩=some e/\∀ o,w.frozen? ⟨k,o,none⟩=false:=by
 refine ⟨?_,?_,?_,?_,?_,?_⟩<;>simp[World.cell?,World.frozen?,hh]
theorem YX (B c k x y:Nat)(L:List Px.Ins)(ws vs:List fq)(vl vw vv:fC)(w:fu)(h:gH w B c L ws vs vl vw vv)(hl:L.length<=10000000) :
  Calls prog 104 #[.pointer (some ⟨c,0,none⟩),.int .i64 (k:Int),.slice (some ⟨w.heap.size,0,none⟩) 2 2] (w.alloc (.cells #[.int .i64 (x:Int),.int .i64 (y:Int)] 3)) fun e w'=>e=.returned (.tuple #[])/\iM B c (L++[⟨k,x,y⟩]) ws vs w w':=by
 obtain ⟨h1,b1⟩:=h.same ((fO.refl (fun _=>False) w).alloc (.cells #[.int .i64 (x:Int),.int .i64 (y:Int)] 3))
 refine (zly B c k x y w.heap.size L ws vs vl vw vv _ h1 hl (sQ Lg.new1).1 (sQ Lg.new1).2.1).mono ?_;rintro e w' ⟨rfl,b2,h2⟩;exact ⟨rfl,b1.trans b2,h2⟩
def El (B c:Nat)(w:fu)(pa:Option Addr)(L1:List Px.Ins)(ws vs1:List fq):Prop :=
 (pa=none/\∃ L vl vw vv,gH w B c L ws vs1 vl vw vv/\L.length<=10000000/\L++[⟨0,0,0⟩]=L1) \/
 (∃ qr tl ql pn,pa=some ⟨qr,0,none⟩/\w.heap[qr]?=some (.cells #[.iface tl (.pointer (some ⟨ql,0,none⟩)),pn] 305)/\zB B c tl ql L1 ws vs1 w)
def Sl (undo:fq)(L2 L3:List Px.Ins)(lG nJ:List fq):Prop :=
 ((!undo.toList.isEmpty)=false/\L3=L2/\nJ=lG)\/((!undo.toList.isEmpty)=true/\gN lG undo=nJ/\L2++[⟨19,fM nJ undo,0⟩]=L3)
def Sn (B:Nat)(w:fu)(ps:Option Addr)(gu:fq)(L3 L4:List Px.Ins)(vs1 qF:List fq):Prop :=
 (ps=none/\L3++[⟨3,0,0⟩]=L4/\vs1=qF)\/(∃ qv pv,qv < B/\ps=some ⟨qv,0,none⟩/\w.heap[qv]?=some (.cells #[.string gu,pv] 236)/\gN vs1 gu=qF/\L3++[⟨2,fM qF gu,0⟩]=L4)
theorem zjh (B c q qn n:Nat)(pm:fC)(pa ps:Option Addr)(fD undo gu:fq)(L1 L2 L3 L4:List Px.Ins)(ws lG nJ vs1 qF:List fq)(w:fu)(oJ:q < B)(vI:qn < B)(h4:w.heap[q]?=some (.cells #[.string fD,.pointer pa,.pointer ps,.string undo,.pointer (some ⟨qn,0,none⟩)] 303))(h6:w.heap[qn]?=some (.cells #[.int .i64 (n:Int),pm] 287))(hl1:L1.length<=10000000)(hl2:L2.length<=10000000)(hl3:L3.length<=10000000)(hx:fD.size<=10000000)(hu:undo.size<=10000000)(ha:gu.size<=10000000)(hws:ws.length<=10000000)(JH:lG.length<=10000000)(hvs:vs1.length<=10000000)(hA:El B c w pa L1 ws vs1)(e1:gN ws fD=lG)(e2:L1++[⟨18,fM lG fD,n⟩]=L2)(hU:Sl undo L2 L3 lG nJ)(hS:Sn B w ps gu L3 L4 vs1 qF) :
  Calls prog 106 #[.pointer (some ⟨c,0,none⟩),.pointer (some ⟨q,0,none⟩)] w fun e w'=>e=.returned (.tuple #[])/\iM B c L4 nJ qF w w':=by
 have CQ:Hid (∀ W,Below B w W->(W.cell? ⟨q,0,none⟩=some (.string fD)/\W.cell? ⟨q,1,none⟩=some (.pointer pa)/\W.cell? ⟨q,2,none⟩=some (.pointer ps)/\W.cell? ⟨q,3,none⟩=some (.string undo)/\W.cell? ⟨q,4,none⟩=some (.pointer (some ⟨qn,0,none⟩))/\∀ o,W.frozen? ⟨q,o,none⟩=false)/\W.cell? ⟨qn,0,none⟩=some (.int .i64 (n:Int))):=fun W hb=>⟨zx2 ((hb.block q oJ).trans h4),(sQ ((hb.block qn vI).trans h6)).1⟩
 have HA:Hid (El B c w pa L1 ws vs1):=hA;have HU:Hid (Sl undo L2 L3 lG nJ):=hU;have HS:Hid (Sn B w ps gu L3 L4 vs1 qF):=hS;have E1:Hid (gN ws fD=lG):=e1;have E2:Hid (L1++[⟨18,fM lG fD,n⟩]=L2):=e2;have HL:Hid (L1.length<=10000000/\L2.length<=10000000/\L3.length<=10000000/\fD.size<=10000000/\undo.size<=10000000/\gu.size<=10000000/\ws.length<=10000000/\lG.length<=10000000/\vs1.length<=10000000):=⟨hl1,hl2,hl3,hx,hu,ha,hws,JH,hvs⟩;clear h4 h6 hA hU hS e1 e2 hl1 hl2 hl3 hx hu ha hws JH hvs oJ vI;rcases HA.o with ⟨rfl,L,vl,vw,vv,hM,hl,hL1⟩ | ⟨qr,tl,ql,pn,rfl,h5,hC⟩
 ·have HM:Hid (gH w B c L ws vs1 vl vw vv):=hM;have E0:Hid (L.length<=10000000/\L++[⟨0,0,0⟩]=L1):=⟨hl,hL1⟩;clear HA hM hl hL1;obtain ⟨⟨c0,c1,c2,c3,c4,cf⟩,c5⟩:=CQ.o w (aH B w);go_enter func106,ntmps106
  go_wp2_with fail;refine (wJ B c 0 0 L ws vs1 vl vw vv w HM.o E0.o.1).mono ?_;rintro e w1 ⟨rfl,b1,lD,oL,oM,h1⟩;rw[E0.o.2] at h1;obtain ⟨g1,_⟩:=h1.same (fO.refl (fun _=>False) w1).drew
  have H1:Hid (Below B w w1.drew/\gH w1.drew B c L1 ws vs1 lD oL oM):=⟨b1.drew,g1⟩;clear c0 c1 c2 c3 c4 c5 cf;obtain ⟨⟨c0',c1',c2',c3',c4',cf'⟩,c5'⟩:=CQ.o w1 b1;clear b1 h1 g1;go_wp2_with fail;go_cut [] (fun wc=>Hid (Below B w wc/\∃ vl vw vv,gH wc B c L2 lG vs1 vl vw vv))
  case first =>
   go_region_with (first
    | (go_at_call 153;refine (Dm B c L1 ws vs1 fD lD oL oM _ H1.o.2 HL.o.2.2.2.1 HL.o.2.2.2.2.2.2.1).mono ?_;rintro e w2 ⟨rfl,b2,ny,yE,yF,h2⟩;rw[E1.o] at h2;rw[E1.o];have H2:Hid (Below B w w2/\gH w2 B c L1 lG vs1 ny yE yF):=⟨H1.o.1.trans b2,h2⟩;obtain ⟨⟨c0,c1,c2,c3,c4,cf⟩,c5⟩:=CQ.o w2 H2.o.1;clear b2 h2)
    | (go_at_call 104;refine (YX B c 18 _ n L1 _ vs1 _ _ _ _ H2.o.2 HL.o.1).mono ?_;rintro e w3 ⟨rfl,b3,h3⟩;rw[E2.o] at h3;have H3:Hid (Below B w w3/\∃ vl vw vv,gH w3 B c L2 lG vs1 vl vw vv):=⟨H2.o.1.trans b3,h3⟩;clear b3 h3))
   all_goals
    go_wp2_with fail;go_meet
    case rel=>exact H3.o
  case rest =>
   clear H1 c0' c1' c2' c3' c4' cf' c5';obtain ⟨bc,nR,rF,rG,hc⟩:=hcut.o;have H3:Hid (Below B w wc/\gH wc B c L2 lG vs1 nR rF rG):=⟨bc,hc⟩;clear bc hc hcut;rcases HU.o with ⟨hu0,rfl,rfl⟩ | ⟨hu0,hu1,hu2⟩
   ·clear HU;rcases HS.o with ⟨rfl,hs1,rfl⟩ | ⟨qv,pv,wK,rfl,hs0,hs1,hs2⟩
    ·have S1:Hid (L3++[⟨3,0,0⟩]=L4):=hs1;clear hs1 HS;obtain ⟨⟨c0,c1,c2,c3,c4,cf⟩,c5⟩:=CQ.o wc H3.o.1;go_wp2_with fail;refine (BR B c 3 L3 _ _ nR rF rG wc H3.o.2 HL.o.2.2.1).mono ?_;rintro e w9 ⟨rfl,b9,h9⟩;rw[S1.o] at h9;have H9:Hid (iM B c L4 nJ vs1 w w9):=⟨H3.o.1.trans b9,h9⟩;clear b9 h9 c0 c1 c2 c3 c4 cf c5;go_wp2_with fail;go_end0
     exact ⟨rfl,H9.o⟩
    ·have S1:Hid (gN vs1 gu=qF):=hs1;have S2:Hid (L3++[⟨2,fM qF gu,0⟩]=L4):=hs2;obtain ⟨d0,d1,df⟩:=sQ ((H3.o.1.block qv wK).trans hs0);clear hs0 hs1 hs2 HS wK;obtain ⟨⟨c0,c1,c2,c3,c4,cf⟩,c5⟩:=CQ.o wc H3.o.1;go_wp2_with fail;refine (zw B c L3 _ _ gu nR rF rG wc H3.o.2 HL.o.2.2.2.2.2.1 HL.o.2.2.2.2.2.2.2.2).mono ?_;rintro e w8 ⟨rfl,b8,yH,yI,yJ,h8⟩;rw[S1.o] at h8;rw[S1.o];have H8:Hid (Below B w w8/\gH w8 B c L3 nJ qF yH yI yJ):=⟨H3.o.1.trans b8,h8⟩;clear b8 h8 c0 c1 c2 c3 c4 cf c5 d0 d1 df;go_wp2_with fail;refine (wJ B c 2 _ L3 _ _ yH yI yJ w8 H8.o.2 HL.o.2.2.1).mono ?_
     rintro e w9 ⟨rfl,b9,h9⟩;rw[S2.o] at h9;have H9:Hid (iM B c L4 nJ qF w w9):=⟨H8.o.1.trans b9,h9⟩;clear b9 h9;go_wp2_with fail;go_end0
     exact ⟨rfl,H9.o⟩
   ·have U1:Hid (gN lG undo=nJ):=hu1;have U2:Hid (L2++[⟨19,fM nJ undo,0⟩]=L3):=hu2;clear hu1 hu2 HU;obtain ⟨⟨c0,c1,c2,c3,c4,cf⟩,c5⟩:=CQ.o wc H3.o.1;go_wp2_with fail;refine (Dm B c L2 _ _ undo nR rF rG wc H3.o.2 HL.o.2.2.2.2.1 HL.o.2.2.2.2.2.2.2.1).mono ?_;rintro e w5 ⟨rfl,b5,BX,BZ,Cb,h5⟩;rw[U1.o] at h5;rw[U1.o];have H5:Hid (Below B w w5/\gH w5 B c L2 nJ vs1 BX BZ Cb):=⟨H3.o.1.trans b5,h5⟩;clear b5 h5 c0 c1 c2 c3 c4 cf c5;go_wp2_with fail;refine (wJ B c 19 _ L2 _ _ BX BZ Cb w5 H5.o.2 HL.o.2.1).mono ?_;rintro e w6 ⟨rfl,b6,zC,zD,zF,h6⟩;rw[U2.o] at h6
    have H6:Hid (Below B w w6/\gH w6 B c L3 nJ vs1 zC zD zF):=⟨H5.o.1.trans b6,h6⟩;clear b6 h6;rcases HS.o with ⟨rfl,hs1,rfl⟩ | ⟨qv,pv,wK,rfl,hs0,hs1,hs2⟩
    ·have S1:Hid (L3++[⟨3,0,0⟩]=L4):=hs1;clear hs1 HS;obtain ⟨⟨c0,c1,c2,c3,c4,cf⟩,c5⟩:=CQ.o w6 H6.o.1;go_wp2_with fail;refine (BR B c 3 L3 _ _ zC zD zF w6 H6.o.2 HL.o.2.2.1).mono ?_;rintro e w9 ⟨rfl,b9,h9⟩;rw[S1.o] at h9;have H9:Hid (iM B c L4 nJ vs1 w w9):=⟨H6.o.1.trans b9,h9⟩;clear b9 h9 c0 c1 c2 c3 c4 cf c5;go_wp2_with fail;go_end0
     exact ⟨rfl,H9.o⟩
    ·have S1:Hid (gN vs1 gu=qF):=hs1;have S2:Hid (L3++[⟨2,fM qF gu,0⟩]=L4):=hs2;obtain ⟨d0,d1,df⟩:=sQ ((H6.o.1.block qv wK).trans hs0);clear hs0 hs1 hs2 HS wK;obtain ⟨⟨c0,c1,c2,c3,c4,cf⟩,c5⟩:=CQ.o w6 H6.o.1;go_wp2_with fail;refine (zw B c L3 _ _ gu zC zD zF w6 H6.o.2 HL.o.2.2.2.2.2.1 HL.o.2.2.2.2.2.2.2.2).mono ?_;rintro e w8 ⟨rfl,b8,yH,yI,yJ,h8⟩;rw[S1.o] at h8;rw[S1.o];have H8:Hid (Below B w w8/\gH w8 B c L3 nJ qF yH yI yJ):=⟨H6.o.1.trans b8,h8⟩;clear b8 h8 c0 c1 c2 c3 c4 cf c5 d0 d1 df;go_wp2_with fail;refine (wJ B c 2 _ L3 _ _ yH yI yJ w8 H8.o.2 HL.o.2.2.1).mono ?_
     rintro e w9 ⟨rfl,b9,h9⟩;rw[S2.o] at h9;have H9:Hid (iM B c L4 nJ qF w w9):=⟨H8.o.1.trans b9,h9⟩;clear b9 h9;go_wp2_with fail;go_end0
     exact ⟨rfl,H9.o⟩
 ·have JG:Hid (zB B c tl ql L1 ws vs1 w):=hC;obtain ⟨d0,d1,df⟩:=sQ h5;clear HA hC h5;obtain ⟨⟨c0,c1,c2,c3,c4,cf⟩,c5⟩:=CQ.o w (aH B w);go_enter func106,ntmps106
  go_wp2_with fail;refine aA JG.o ?_;rintro e w1 ⟨rfl,b1,lD,oL,oM,h1⟩;obtain ⟨g1,_⟩:=h1.same (fO.refl (fun _=>False) w1).drew
  have H1:Hid (Below B w w1.drew/\gH w1.drew B c L1 ws vs1 lD oL oM):=⟨b1.drew,g1⟩;clear c0 c1 c2 c3 c4 c5 cf;clear d0 d1 df;obtain ⟨⟨c0',c1',c2',c3',c4',cf'⟩,c5'⟩:=CQ.o w1 b1;clear b1 h1 g1;go_wp2_with fail;go_cut [] (fun wc=>Hid (Below B w wc/\∃ vl vw vv,gH wc B c L2 lG vs1 vl vw vv))
  case first =>
   go_region_with (first
    | (go_at_call 153;refine (Dm B c L1 ws vs1 fD lD oL oM _ H1.o.2 HL.o.2.2.2.1 HL.o.2.2.2.2.2.2.1).mono ?_;rintro e w2 ⟨rfl,b2,ny,yE,yF,h2⟩;rw[E1.o] at h2;rw[E1.o];have H2:Hid (Below B w w2/\gH w2 B c L1 lG vs1 ny yE yF):=⟨H1.o.1.trans b2,h2⟩;obtain ⟨⟨c0,c1,c2,c3,c4,cf⟩,c5⟩:=CQ.o w2 H2.o.1;clear b2 h2)
    | (go_at_call 104;refine (YX B c 18 _ n L1 _ vs1 _ _ _ _ H2.o.2 HL.o.1).mono ?_;rintro e w3 ⟨rfl,b3,h3⟩;rw[E2.o] at h3;have H3:Hid (Below B w w3/\∃ vl vw vv,gH w3 B c L2 lG vs1 vl vw vv):=⟨H2.o.1.trans b3,h3⟩;clear b3 h3))
   all_goals
    go_wp2_with fail;go_meet
    case rel=>exact H3.o
  case rest =>
   clear H1 c0' c1' c2' c3' c4' cf' c5';obtain ⟨bc,nR,rF,rG,hc⟩:=hcut.o;have H3:Hid (Below B w wc/\gH wc B c L2 lG vs1 nR rF rG):=⟨bc,hc⟩;clear bc hc hcut;rcases HU.o with ⟨hu0,rfl,rfl⟩ | ⟨hu0,hu1,hu2⟩
   ·clear HU;rcases HS.o with ⟨rfl,hs1,rfl⟩ | ⟨qv,pv,wK,rfl,hs0,hs1,hs2⟩
    ·have S1:Hid (L3++[⟨3,0,0⟩]=L4):=hs1;clear hs1 HS;obtain ⟨⟨c0,c1,c2,c3,c4,cf⟩,c5⟩:=CQ.o wc H3.o.1;go_wp2_with fail;refine (BR B c 3 L3 _ _ nR rF rG wc H3.o.2 HL.o.2.2.1).mono ?_;rintro e w9 ⟨rfl,b9,h9⟩;rw[S1.o] at h9;have H9:Hid (iM B c L4 nJ vs1 w w9):=⟨H3.o.1.trans b9,h9⟩;clear b9 h9 c0 c1 c2 c3 c4 cf c5;go_wp2_with fail;go_end0
     exact ⟨rfl,H9.o⟩
    ·have S1:Hid (gN vs1 gu=qF):=hs1;have S2:Hid (L3++[⟨2,fM qF gu,0⟩]=L4):=hs2;obtain ⟨d0,d1,df⟩:=sQ ((H3.o.1.block qv wK).trans hs0);clear hs0 hs1 hs2 HS wK;obtain ⟨⟨c0,c1,c2,c3,c4,cf⟩,c5⟩:=CQ.o wc H3.o.1;go_wp2_with fail;refine (zw B c L3 _ _ gu nR rF rG wc H3.o.2 HL.o.2.2.2.2.2.1 HL.o.2.2.2.2.2.2.2.2).mono ?_;rintro e w8 ⟨rfl,b8,yH,yI,yJ,h8⟩;rw[S1.o] at h8;rw[S1.o];have H8:Hid (Below B w w8/\gH w8 B c L3 nJ qF yH yI yJ):=⟨H3.o.1.trans b8,h8⟩;clear b8 h8 c0 c1 c2 c3 c4 cf c5 d0 d1 df;go_wp2_with fail;refine (wJ B c 2 _ L3 _ _ yH yI yJ w8 H8.o.2 HL.o.2.2.1).mono ?_
     rintro e w9 ⟨rfl,b9,h9⟩;rw[S2.o] at h9;have H9:Hid (iM B c L4 nJ qF w w9):=⟨H8.o.1.trans b9,h9⟩;clear b9 h9;go_wp2_with fail;go_end0
     exact ⟨rfl,H9.o⟩
   ·have U1:Hid (gN lG undo=nJ):=hu1;have U2:Hid (L2++[⟨19,fM nJ undo,0⟩]=L3):=hu2;clear hu1 hu2 HU;obtain ⟨⟨c0,c1,c2,c3,c4,cf⟩,c5⟩:=CQ.o wc H3.o.1;go_wp2_with fail;refine (Dm B c L2 _ _ undo nR rF rG wc H3.o.2 HL.o.2.2.2.2.1 HL.o.2.2.2.2.2.2.2.1).mono ?_;rintro e w5 ⟨rfl,b5,BX,BZ,Cb,h5⟩;rw[U1.o] at h5;rw[U1.o];have H5:Hid (Below B w w5/\gH w5 B c L2 nJ vs1 BX BZ Cb):=⟨H3.o.1.trans b5,h5⟩;clear b5 h5 c0 c1 c2 c3 c4 cf c5;go_wp2_with fail;refine (wJ B c 19 _ L2 _ _ BX BZ Cb w5 H5.o.2 HL.o.2.1).mono ?_;rintro e w6 ⟨rfl,b6,zC,zD,zF,h6⟩;rw[U2.o] at h6
    have H6:Hid (Below B w w6/\gH w6 B c L3 nJ vs1 zC zD zF):=⟨H5.o.1.trans b6,h6⟩;clear b6 h6;rcases HS.o with ⟨rfl,hs1,rfl⟩ | ⟨qv,pv,wK,rfl,hs0,hs1,hs2⟩
    ·have S1:Hid (L3++[⟨3,0,0⟩]=L4):=hs1;clear hs1 HS;obtain ⟨⟨c0,c1,c2,c3,c4,cf⟩,c5⟩:=CQ.o w6 H6.o.1;go_wp2_with fail;refine (BR B c 3 L3 _ _ zC zD zF w6 H6.o.2 HL.o.2.2.1).mono ?_;rintro e w9 ⟨rfl,b9,h9⟩;rw[S1.o] at h9;have H9:Hid (iM B c L4 nJ vs1 w w9):=⟨H6.o.1.trans b9,h9⟩;clear b9 h9 c0 c1 c2 c3 c4 cf c5;go_wp2_with fail;go_end0
     exact ⟨rfl,H9.o⟩
    ·have S1:Hid (gN vs1 gu=qF):=hs1;have S2:Hid (L3++[⟨2,fM qF gu,0⟩]=L4):=hs2;obtain ⟨d0,d1,df⟩:=sQ ((H6.o.1.block qv wK).trans hs0);clear hs0 hs1 hs2 HS wK;obtain ⟨⟨c0,c1,c2,c3,c4,cf⟩,c5⟩:=CQ.o w6 H6.o.1;go_wp2_with fail;refine (zw B c L3 _ _ gu zC zD zF w6 H6.o.2 HL.o.2.2.2.2.2.1 HL.o.2.2.2.2.2.2.2.2).mono ?_;rintro e w8 ⟨rfl,b8,yH,yI,yJ,h8⟩;rw[S1.o] at h8;rw[S1.o];have H8:Hid (Below B w w8/\gH w8 B c L3 nJ qF yH yI yJ):=⟨H6.o.1.trans b8,h8⟩;clear b8 h8 c0 c1 c2 c3 c4 cf c5 d0 d1 df;go_wp2_with fail;refine (wJ B c 2 _ L3 _ _ yH yI yJ w8 H8.o.2 HL.o.2.2.1).mono ?_
     rintro e w9 ⟨rfl,b9,h9⟩;rw[S2.o] at h9;have H9:Hid (iM B c L4 nJ qF w w9):=⟨H8.o.1.trans b9,h9⟩;clear b9 h9;go_wp2_with fail;go_end0
     exact ⟨rfl,H9.o⟩
theorem zr2 (v:fC)(w:fu):(Instr.typeAssert (.iface 226 v) 176 226 true).run prog w=.ok (.tuple #[v,.bool true]) w:=by kernel_rfl
theorem zlm (v:fC)(w:fu):(Instr.typeAssert (.iface 237 v) 176 226 true).run prog w=.ok (.tuple #[.pointer none,.bool false]) w:=by kernel_rfl
theorem zfg (v:fC)(w:fu):(Instr.typeAssert (.iface 237 v) 176 237 true).run prog w=.ok (.tuple #[v,.bool true]) w:=by kernel_rfl
theorem zwh (v:fC)(w:fu):(Instr.typeAssert (.iface 239 v) 176 226 true).run prog w=.ok (.tuple #[.pointer none,.bool false]) w:=by kernel_rfl
theorem zr3 (v:fC)(w:fu):(Instr.typeAssert (.iface 239 v) 176 237 true).run prog w=.ok (.tuple #[.pointer none,.bool false]) w:=by kernel_rfl
theorem JI (v:fC)(w:fu):(Instr.typeAssert (.iface 239 v) 176 239 true).run prog w=.ok (.tuple #[v,.bool true]) w:=by kernel_rfl
theorem zr0 (v:fC)(w:fu):(Instr.typeAssert (.iface 241 v) 176 226 true).run prog w=.ok (.tuple #[.pointer none,.bool false]) w:=by kernel_rfl
theorem zlj (v:fC)(w:fu):(Instr.typeAssert (.iface 241 v) 176 237 true).run prog w=.ok (.tuple #[.pointer none,.bool false]) w:=by kernel_rfl
theorem zwg (v:fC)(w:fu):(Instr.typeAssert (.iface 241 v) 176 239 true).run prog w=.ok (.tuple #[.pointer none,.bool false]) w:=by kernel_rfl
theorem zrz (v:fC)(w:fu):(Instr.typeAssert (.iface 241 v) 176 241 true).run prog w=.ok (.tuple #[v,.bool true]) w:=by kernel_rfl
theorem zcf (v:fC)(w:fu):(Instr.typeAssert (.iface 243 v) 176 226 true).run prog w=.ok (.tuple #[.pointer none,.bool false]) w:=by kernel_rfl
theorem qxg (v:fC)(w:fu):(Instr.typeAssert (.iface 243 v) 176 237 true).run prog w=.ok (.tuple #[.pointer none,.bool false]) w:=by kernel_rfl
theorem zfd (v:fC)(w:fu):(Instr.typeAssert (.iface 243 v) 176 239 true).run prog w=.ok (.tuple #[.pointer none,.bool false]) w:=by kernel_rfl
theorem zce (v:fC)(w:fu):(Instr.typeAssert (.iface 243 v) 176 241 true).run prog w=.ok (.tuple #[.pointer none,.bool false]) w:=by kernel_rfl
theorem qsm (v:fC)(w:fu):(Instr.typeAssert (.iface 243 v) 176 243 true).run prog w=.ok (.tuple #[v,.bool true]) w:=by kernel_rfl
theorem zll (v:fC)(w:fu):(Instr.typeAssert (.iface 245 v) 176 226 true).run prog w=.ok (.tuple #[.pointer none,.bool false]) w:=by kernel_rfl
theorem zff (v:fC)(w:fu):(Instr.typeAssert (.iface 245 v) 176 237 true).run prog w=.ok (.tuple #[.pointer none,.bool false]) w:=by kernel_rfl
theorem zr4 (v:fC)(w:fu):(Instr.typeAssert (.iface 245 v) 176 239 true).run prog w=.ok (.tuple #[.pointer none,.bool false]) w:=by kernel_rfl
theorem zlk (v:fC)(w:fu):(Instr.typeAssert (.iface 245 v) 176 241 true).run prog w=.ok (.tuple #[.pointer none,.bool false]) w:=by kernel_rfl
theorem qxh (v:fC)(w:fu):(Instr.typeAssert (.iface 245 v) 176 243 true).run prog w=.ok (.tuple #[.pointer none,.bool false]) w:=by kernel_rfl
theorem zfe (v:fC)(w:fu):(Instr.typeAssert (.iface 245 v) 176 245 true).run prog w=.ok (.tuple #[v,.bool true]) w:=by kernel_rfl
theorem Hz (B c q:Nat)(L:List Px.Ins)(ws vs:List fq)(w:fu)(hC:Calls prog 106 #[.pointer (some ⟨c,0,none⟩),.pointer (some ⟨q,0,none⟩)] w fun e w'=>e=.returned (.tuple #[])/\iM B c L ws vs w w') :
  Calls prog 82 #[.pointer (some ⟨c,0,none⟩),.iface 237 (.pointer (some ⟨q,0,none⟩))] w fun e w'=>e=.returned (.tuple #[])/\iM B c L ws vs w w':=by
 have f0:=zlm;have f1:=zfg;have HC:Hid (Calls prog 106 #[.pointer (some ⟨c,0,none⟩),.pointer (some ⟨q,0,none⟩)] w fun e w'=>e=.returned (.tuple #[])/\iM B c L ws vs w w'):=hC
 clear hC;go_enter func82,ntmps82
 go_wp2_with fail;refine HC.o.mono ?_;rintro e w1 ⟨rfl,h1⟩;have H1:Hid (iM B c L ws vs w w1):=h1;clear h1;go_wp2_with fail;go_end0
 exact ⟨rfl,H1.o⟩
theorem Ia (B c q:Nat)(L:List Px.Ins)(ws vs:List fq)(w:fu)(hC:Calls prog 107 #[.pointer (some ⟨c,0,none⟩),.pointer (some ⟨q,0,none⟩)] w fun e w'=>e=.returned (.tuple #[])/\iM B c L ws vs w w') :
  Calls prog 82 #[.pointer (some ⟨c,0,none⟩),.iface 239 (.pointer (some ⟨q,0,none⟩))] w fun e w'=>e=.returned (.tuple #[])/\iM B c L ws vs w w':=by
 have f0:=zwh;have f1:=zr3;have f2:=JI;have HC:Hid (Calls prog 107 #[.pointer (some ⟨c,0,none⟩),.pointer (some ⟨q,0,none⟩)] w fun e w'=>e=.returned (.tuple #[])/\iM B c L ws vs w w'):=hC
 clear hC;go_enter func82,ntmps82
 go_wp2_with fail;refine HC.o.mono ?_;rintro e w1 ⟨rfl,h1⟩;have H1:Hid (iM B c L ws vs w w1):=h1;clear h1;go_wp2_with fail;go_end0
 exact ⟨rfl,H1.o⟩
theorem Ib (B c q:Nat)(L:List Px.Ins)(ws vs:List fq)(w:fu)(hC:Calls prog 108 #[.pointer (some ⟨c,0,none⟩),.pointer (some ⟨q,0,none⟩)] w fun e w'=>e=.returned (.tuple #[])/\iM B c L ws vs w w') :
  Calls prog 82 #[.pointer (some ⟨c,0,none⟩),.iface 241 (.pointer (some ⟨q,0,none⟩))] w fun e w'=>e=.returned (.tuple #[])/\iM B c L ws vs w w':=by
 have f0:=zr0;have f1:=zlj;have f2:=zwg;have f3:=zrz;have HC:Hid (Calls prog 108 #[.pointer (some ⟨c,0,none⟩),.pointer (some ⟨q,0,none⟩)] w fun e w'=>e=.returned (.tuple #[])/\iM B c L ws vs w w'):=hC
 clear hC;go_enter func82,ntmps82
 go_wp2_with fail;refine HC.o.mono ?_;rintro e w1 ⟨rfl,h1⟩;have H1:Hid (iM B c L ws vs w w1):=h1;clear h1;go_wp2_with fail;go_end0
 exact ⟨rfl,H1.o⟩
theorem Po (B c q:Nat)(L:List Px.Ins)(ws vs:List fq)(w:fu)(hC:Calls prog 109 #[.pointer (some ⟨c,0,none⟩),.pointer (some ⟨q,0,none⟩)] w fun e w'=>e=.returned (.tuple #[])/\iM B c L ws vs w w') :
  Calls prog 82 #[.pointer (some ⟨c,0,none⟩),.iface 243 (.pointer (some ⟨q,0,none⟩))] w fun e w'=>e=.returned (.tuple #[])/\iM B c L ws vs w w':=by
 have f0:=zcf;have f1:=qxg;have f2:=zfd;have f3:=zce;have f4:=qsm;have HC:Hid (Calls prog 109 #[.pointer (some ⟨c,0,none⟩),.pointer (some ⟨q,0,none⟩)] w fun e w'=>e=.returned (.tuple #[])/\iM B c L ws vs w w'):=hC
 clear hC;go_enter func82,ntmps82
 go_wp2_with fail;refine HC.o.mono ?_;rintro e w1 ⟨rfl,h1⟩;have H1:Hid (iM B c L ws vs w w1):=h1;clear h1;go_wp2_with fail;go_end0
 exact ⟨rfl,H1.o⟩
theorem HY (B c q:Nat)(L:List Px.Ins)(ws vs:List fq)(vl vw vv:fC)(w:fu)(hM:gH w B c L ws vs vl vw vv)(hl:L.length<=10000000) :
  Calls prog 82 #[.pointer (some ⟨c,0,none⟩),.iface 245 (.pointer (some ⟨q,0,none⟩))] w fun e w'=>e=.returned (.tuple #[])/\iM B c (L++[⟨17,0,0⟩]) ws vs w w':=by
 have f0:=zll;have f1:=zff;have f2:=zr4;have f3:=zlk;have f4:=qxh;have f5:=zfe;have HM:Hid (gH w B c L ws vs vl vw vv):=hM;clear hM;go_enter func82,ntmps82
 go_wp2_with fail;refine (BR B c 17 L ws vs vl vw vv w HM.o hl).mono ?_;rintro e w1 ⟨rfl,h1⟩;have H1:Hid (iM B c (L++[⟨17,0,0⟩]) ws vs w w1):=h1;clear h1;go_wp2_with fail;go_end0
 exact ⟨rfl,H1.o⟩
theorem Hy (B c q qv tl ql:Nat)(fD:fq)(pv:fC)(L1 L2:List Px.Ins)(ws vs1 vs2:List fq)(w:fu)(oJ:q < B)(wK:qv < B)(h4:w.heap[q]?=some (.cells #[.pointer (some ⟨qv,0,none⟩),.iface tl (.pointer (some ⟨ql,0,none⟩))] 232))(h5:w.heap[qv]?=some (.cells #[.string fD,pv] 236))(hl:L1.length<=10000000)(hx:fD.size<=10000000)(hvs:vs1.length<=10000000)(hC:zB B c tl ql L1 ws vs1 w)(e1:gN vs1 fD=vs2)(e2:L1++[⟨2,fM vs2 fD,0⟩]=L2) :
  Calls prog 82 #[.pointer (some ⟨c,0,none⟩),.iface 226 (.pointer (some ⟨q,0,none⟩))] w fun e w'=>e=.returned (.tuple #[])/\iM B c L2 ws vs2 w w':=by
 have f0:=zr2;have CQ:Hid (∀ W,Below B w W->(W.cell? ⟨q,0,none⟩=some (.pointer (some ⟨qv,0,none⟩))/\W.cell? ⟨q,1,none⟩=some (.iface tl (.pointer (some ⟨ql,0,none⟩)))/\∀ o,W.frozen? ⟨q,o,none⟩=false)/\W.cell? ⟨qv,0,none⟩=some (.string fD)):=fun W hb=>⟨sQ ((hb.block q oJ).trans h4),(sQ ((hb.block qv wK).trans h5)).1⟩
 have HC:Hid (zB B c tl ql L1 ws vs1 w):=hC;have E1:Hid (gN vs1 fD=vs2):=e1;have E2:Hid (L1++[⟨2,fM vs2 fD,0⟩]=L2):=e2;have HL:Hid (L1.length<=10000000/\fD.size<=10000000/\vs1.length<=10000000):=⟨hl,hx,hvs⟩;clear h4 h5 hC e1 e2 hl hx hvs;obtain ⟨⟨c0,c1,cf⟩,c2⟩:=CQ.o w (aH B w);go_enter func82,ntmps82
 go_wp2_with fail;refine aA HC.o ?_;rintro e w1 ⟨rfl,b1,lD,oL,oM,h1⟩;have H1:Hid (Below B w w1/\gH w1 B c L1 ws vs1 lD oL oM):=⟨b1,h1⟩;clear b1 h1 c0 c1 cf c2;obtain ⟨⟨c0,c1,cf⟩,c2⟩:=CQ.o w1 H1.o.1;go_wp2_with fail;refine (zw B c L1 _ _ fD lD oL oM w1 H1.o.2 HL.o.2.1 HL.o.2.2).mono ?_;rintro e w2 ⟨rfl,b2,ny,yE,yF,h2⟩;rw[E1.o] at h2;rw[E1.o];have H2:Hid (Below B w w2/\gH w2 B c L1 ws vs2 ny yE yF):=⟨H1.o.1.trans b2,h2⟩;clear b2 h2 c0 c1 cf c2;go_wp2_with fail;refine (wJ B c 2 _ L1 _ _ ny yE yF w2 H2.o.2 HL.o.1).mono ?_;rintro e w3 ⟨rfl,b3,h3⟩
 rw[E2.o] at h3;have H3:Hid (iM B c L2 ws vs2 w w3):=⟨H2.o.1.trans b3,h3⟩;clear b3 h3;go_wp2_with fail;go_end0
 exact ⟨rfl,H3.o⟩
variable {v:fC}{vs:List fC}{ok:Nat->Prop}
theorem F9 (h:kg w v vs ok):∃ a cap,v=.slice a vs.length cap/\vs.length<=maxLen:=by
 rcases h with ⟨h1,h2⟩ | ⟨g,cap,cur,h1,h2,h3,h4,h5,h6,h7⟩
 ·subst h2;exact ⟨none,0,h1,by simp⟩
 ·exact ⟨_,cap,h1,by omega⟩
theorem zrv (h:kg w v vs ok){n:Nat}(hn:n < vs.length):∃ g cap,v=.slice (some ⟨g,0,none⟩) vs.length cap/\ok g/\w.cell? ⟨g,n,none⟩=some vs[n]:=by
 rcases h with ⟨h1,h2⟩ | ⟨g,cap,cur,h1,h2,h3,h4,h5,h6,h7⟩
 ·subst h2;simp at hn
 ·refine ⟨g,cap,h1,h2,?_⟩
  have:cur[n]?=some vs[n]:=by
   have h8:(cur.toList.take vs.length)[n]?=some vs[n]:=by rw[h7];exact bD hn
   rw[bC hn] at h8
   simpa using h8
  simp[World.cell?,h3,this]
variable {l:List Sm}
theorem Sq (h:gF w l ok vs):vs.length=l.length:=by
 induction l generalizing vs with
 | nil=>simp[gF.nQ.1 h]
 | cons x l ih =>
  obtain ⟨v,vs',rfl,h1,h2⟩:=gF.sW.1 h;simp[ih h1]
theorem zw2 (h:gF w l ok vs)(n:Nat)(hn:n < l.length)(hm:n < vs.length):nS w l[n] ok vs[n]:=by
 induction l generalizing vs n with
 | nil=>simp at hn
 | cons x l ih =>
  obtain ⟨v,vs',rfl,h1,h2⟩:=gF.sW.1 h;cases n with
  | zero=>exact h2
  | succ n=>exact ih h1 n (by simpa using hn) (by simpa using hm)
def Cc (B c tl ql:Nat)(L:List Px.Ins)(ws vs:List fq)(w:fu):Prop :=
 Calls prog 82 #[.pointer (some ⟨c,0,none⟩),.iface tl (.pointer (some ⟨ql,0,none⟩))] w fun e w'=>e=.returned (.tuple #[])/\iM B c L ws vs w w'
def yK (B c:Nat)(WW VV:List fq)(x:Sm):Prop:=∀ (w:fu) (L:List Px.Ins) (ws vs:List fq) (vl vw vv:fC) (tl ql:Nat),
 nS w x (· < B) (.iface tl (Ref.ptr ql))->gH w B c L ws vs vl vw vv->Gk w B->kM x ws <+: WW->kF x vs <+: VV->L.length+kV x<=10000000->ws.length+kV x<=10000000->vs.length+kV x<=10000000 ->
 Cc B c tl ql (L++kE (fM WW) (fM VV) x L.length) (kM x ws) (kF x vs) w
def rH (B c:Nat)(WW VV:List fq)(l:List Sm):Prop:=∀ (w:fu) (L:List Px.Ins) (ws vs:List fq) (vl vw vv v:fC) (us:List fC),
 kg w v us (· < B)->gF w l (· < B) us->gH w B c L ws vs vl vw vv->Gk w B->jq l ws <+: WW->iV l vs <+: VV->L.length+lI l<=10000000->ws.length+lI l<=10000000->vs.length+lI l<=10000000 ->
 tX B c v (L++Px.mkS (fM WW) (fM VV) l L.length) (jq l ws) (iV l vs) w
def qG (B c:Nat)(WW VV:List fq)(L0:List Px.Ins)(xG xH:List fq)(w0:fu)(l:List Sm)(w:fu):Prop :=
 Below B w0 w/\∃ L ws vs vl vw vv,gH w B c L ws vs vl vw vv/\L++Px.mkS (fM WW) (fM VV) l L.length=L0/\jq l ws=xG/\iV l vs=xH/\L.length+lI l<=10000000/\ws.length+lI l<=10000000/\vs.length+lI l<=10000000
variable {B c:Nat}{VV WW:List fq}
theorem qG.step {L0:List Px.Ins}{xG xH:List fq}{w0:fu}{x:Sm}(h:qG B c WW VV L0 xG xH w0 (x::l) w)(hx:yK B c WW VV x)(hG:Gk w0 B)(hW:xG <+: WW)(hV:xH <+: VV){tl ql:Nat}(hs:nS w0 x (· < B) (.iface tl (Ref.ptr ql))) :
  ∃ L ws vs,Cc B c tl ql L ws vs w/\∀ w',iM B c L ws vs w w'->qG B c WW VV L0 xG xH w0 l w':=by
 obtain ⟨hb,L,ws,vs,vl,vw,vv,hM,e1,e2,e3,b1,b2,b3⟩:=h;rw[CK] at e1;rw[CV] at e2;rw[ET] at e3;rw[D5] at b1 b2 b3;refine ⟨_,_,_,hx w L ws vs vl vw vv tl ql (hs.keep fun i hi=>hb.block i hi) hM (hG.below hb) ?_ ?_ (by omega) (by omega) (by omega),?_⟩
 ·refine (xW l _).trans ?_;rw[e2];exact hW
 ·refine (wT l _).trans ?_;rw[e3];exact hV
 ·rintro w' ⟨b4,vl',JK,vv',hM'⟩;have n1:=YS (fM WW) (fM VV) x (BS _ _ _) (BS _ _ _) L.length;have n2:=YT x (Ei _) (Ei _) ws;have n3:=YU x (BU _) (BU _) vs;refine ⟨hb.trans b4,_,_,_,vl',JK,vv',hM',?_,e2,e3,by rw[ay];omega,by omega,by omega⟩
  rw[ay,aI];exact e1
theorem Sr (B c:Nat)(WW VV:List fq)(l:List Sm)(hx:∀ i (hi:i < l.length),yK B c WW VV l[i]):rH B c WW VV l:=by
 intro w L ws vs vl vw vv v us hs hm hM hG hW hV hl1 hl2 hl3;generalize hL0:L++Px.mkS (fM WW) (fM VV) l L.length=L0;generalize JL:jq l ws=xG at *;generalize JM:iV l vs=xH at *;have H0:Hid (qG B c WW VV L0 xG xH w l w):=⟨aH B w,L,ws,vs,vl,vw,vv,hM,hL0,JL,JM,hl1,hl2,hl3⟩;obtain ⟨va,vc,rfl,hml⟩:=F9 hs;unfold maxLen at hml;have hlen:=Sq hm;have H:Hid (kg w (.slice va us.length vc) us (· < B)/\gF w l (· < B) us/\Gk w B/\xG <+: WW/\xH <+: VV):=⟨hs,hm,hG,hW,hV⟩
 have HX:Hid (∀ i (hi:i < l.length),yK B c WW VV l[i]):=hx;have HLen:Hid (us.length=l.length):=hlen;clear hs hm hM hG hW hV hl1 hl2 hl3 hx hlen hL0 JL JM;unfold tX;go_enter func27,ntmps27
 go_wp2_with fail;go_loopw [8] (fun i wr=>∃ n:Nat,n<=us.length/\i=.int .i64 n/\Hid (qG B c WW VV L0 xG xH w (l.drop n) wr)) (fun i _=>us.length - (intOf i).toNat)
 case atStart=>exact ⟨0,by omega,rfl,H0.o⟩
 case round =>
  obtain ⟨n,hn,rfl,hr⟩:=hrel;by_cases hlt:n < us.length
  ·have hnl:n < l.length:=by have:=HLen.o;omega
   have sH:=zw2 H.o.2.1 n hnl hlt;obtain ⟨t,q,hform⟩:=sH.form;obtain ⟨g,cap,hgv,hg,hcell⟩:=zrv H.o.1 hlt;cases hgv;have hcr:wr.cell? ⟨g,n,none⟩=some (.iface t (.pointer (some ⟨q,0,none⟩))):=by rw[aF (w:=w) (a:=⟨g,n,none⟩) (hr.o.1.block g hg),hcell,hform];rfl
   have hdrop:l.drop n=l[n]::l.drop (n+1):=cB hnl;have hr':=hr.o;rw[hdrop] at hr';rw[hform] at sH;obtain ⟨L1,sI,vs1,hC,hN⟩:=hr'.step (HX.o n hnl) H.o.2.2.1 H.o.2.2.2.1 H.o.2.2.2.2 sH;have HC:Hid (Cc B c t q L1 sI vs1 wr):=hC;have HN:Hid (∀ w',iM B c L1 sI vs1 wr w'->qG B c WW VV L0 xG xH w (l.drop (n+1)) w'):=hN;clear hC hN hr' hr sH hcell hform hdrop;go_wp2_with fail;refine aA HC.o ?_;rintro e w1 ⟨rfl,h1⟩;have H1:Hid (qG B c WW VV L0 xG xH w (l.drop (n+1)) w1):=HN.o w1 h1;clear h1 HN HC hcr;go_wp2_with fail;exact ⟨⟨n+1,by omega,by go_num,H1.o⟩,by simp[intOf];omega⟩
  ·have hnl:l.drop n=[]:=cZ (by have:=HLen.o;omega)
   rw[hnl] at hr;have H1:Hid (iM B c L0 xG xH w wr):=by
    obtain ⟨hb,L1,sI,vs1,lD,oL,oM,hM,e1,e2,e3,_⟩:=hr.o;rw[EL,dG] at e1;rw[GX] at e2;rw[Lr] at e3;subst e1 e2 e3;exact ⟨hb,lD,oL,oM,hM⟩
   clear hr hnl;go_wp2_with fail;go_end0
   exact ⟨rfl,H1.o⟩
theorem Sv (k:Nat)(L a:List Px.Ins):nY (L++[⟨k,0,0⟩]++a) L.length=L++([⟨k,L.length+1+a.length,0⟩]++a):=by
 rw[aI];exact YV L a k
theorem YZ (k j:Nat)(L a b:List Px.Ins):nY (nY (L++[⟨k,0,0⟩]++a++[⟨j,0,0⟩]) L.length++b) (L++[(⟨k,0,0⟩:Px.Ins)]++a).length=L++([⟨k,L.length+1+a.length+1,0⟩]++(a++([⟨j,L.length+1+a.length+1+b.length,0⟩]++b))):=by
 rw[show L++[(⟨k,0,0⟩:Px.Ins)]++a++[(⟨j,0,0⟩:Px.Ins)]=L++[(⟨k,0,0⟩:Px.Ins)]++(a++[(⟨j,0,0⟩:Px.Ins)]) from aI _ _ _,Sv];have e:L++([(⟨k,L.length+1+(a++[(⟨j,0,0⟩:Px.Ins)]).length,0⟩:Px.Ins)]++(a++[(⟨j,0,0⟩:Px.Ins)]))++b=(L++([⟨k,L.length+1+(a++[(⟨j,0,0⟩:Px.Ins)]).length,0⟩]++a))++(⟨j,0,0⟩::b):=by simp
 have el:(L++[(⟨k,0,0⟩:Px.Ins)]++a).length=(L++([(⟨k,L.length+1+(a++[(⟨j,0,0⟩:Px.Ins)]).length,0⟩:Px.Ins)]++a)).length:=by simp
 rw[e,el,YV];have e1:L.length+1+(a++[(⟨j,0,0⟩:Px.Ins)]).length=L.length+1+a.length+1:=by simp;omega
 have e2:(L++([(⟨k,L.length+1+(a++[(⟨j,0,0⟩:Px.Ins)]).length,0⟩:Px.Ins)]++a)).length=L.length+1+a.length:=by simp;omega
 rw[e2,e1,aI,aI];rfl
variable {u:fq}
theorem zs2 (h:u.size=0):(!u.toList.isEmpty)=false:=by
 rw[aN]
 have:u.data.toList.length=0:=by simpa using h
 rw[aY.1 this];rfl
theorem zvk (h:¬ u.size=0):(!u.toList.isEmpty)=true:=by
 rw[aN]
 have:u.data.toList.length≠0:=by simpa using h
 cases hh:u.data.toList with
 | nil=>rw[hh] at this;exact (this rfl).elim
 | cons _ _=>rfl
theorem Sw (B c:Nat)(VV:List fq)(e:Px.Ex)(hw:mO e)(ht:oN e)(w:fu)(L:List Px.Ins)(ws vs:List fq)(vl vw vv:fC)(tl ql:Nat)(hX:jv w e (· < B) (.iface tl (Ref.ptr ql)))(hM:gH w B c L ws vs vl vw vv)(hG:Gk w B)(hV:jU e vs <+: VV)(h1:L.length+lU e<=10000000)(h2:vs.length+lU e<=10000000) :
  zB B c tl ql (L++jo (fM VV) e) ws (jU e vs) w:=Dv B c VV e hw ht w L ws vs vl vw vv tl ql hX hM hG hV h1 h2
theorem zw6 (B c:Nat)(WW VV:List fq)(x:Sm)(hop:x.op=108)(w:fu)(L:List Px.Ins)(ws vs:List fq)(vl vw vv:fC)(q qv tl ql:Nat)(e:Px.Ex)(hx:x.ex=some e)(hw:mO e)(ht:oN e)(hq:q < B)(h2:w.heap[q]?=some (.cells #[Ref.ptr qv,.iface tl (Ref.ptr ql)] 232))(h3:jQ w x.fD x.pl (· < B) qv)(h5:jv w e (· < B) (.iface tl (Ref.ptr ql)))(hM:gH w B c L ws vs vl vw vv)(hG:Gk w B)(hV:kF x vs <+: VV)(hl:L.length+kV x<=10000000)(hl3:vs.length+kV x<=10000000) :
  Cc B c 226 q (L++kE (fM WW) (fM VV) x L.length) (kM x ws) (kF x vs) w:=by
 have ev:kF x vs=gN (jU e vs) x.fD:=by unfold kF;rw[if_pos hop,hx];rfl
 have ew:kM x ws=ws:=by unfold kM;rw[if_neg (by omega),if_neg (by omega),if_neg (by omega)]
 have em:kE (fM WW) (fM VV) x L.length=jo (fM VV) e++[⟨2,fM VV x.fD,0⟩]:=by unfold kE;rw[if_pos hop,hx];rfl
 have es:kV x≥lU e+x.fD.size+100:=by unfold kV;rw[hx];show _+lU e+_+_+_+_+_+_≥_;omega
 have e1:=uH (fM VV) e;have e2:=AV e;have e3:=Eh e vs;rw[ev] at hV;have ei:fM VV x.fD=fM (gN (jU e vs) x.fD) x.fD:=GU (vZ _ _) hV;rw[ev,ew,em,ei];exact Hy B c q qv tl ql x.fD _ _ _ ws _ _ w hq h3.1 h2 h3.2 (by rw[ay];omega) (by omega) (by omega) (Sw B c VV e hw ht w L ws vs vl vw vv tl ql h5 hM hG ((wh _ _).trans hV) (by omega) (by omega)) rfl (aI _ _ _)
theorem Pn (B c:Nat)(WW VV:List fq)(x:Sm)(hop:x.op=99)(w:fu)(L:List Px.Ins)(ws vs:List fq)(vl vw vv:fC)(q qn:Nat)(pa ps:Option Addr)(hw:∀ e,x.ex=some e->mO e)(ht:∀ e,x.ex=some e->oN e)(hq:q < B)(h2:w.heap[q]?=some (.cells #[.string x.fD,.pointer pa,.pointer ps,.string x.undo,Ref.ptr qn] 303))(h3:Lg.kZ w x.ex (· < B) (.pointer pa))(h4:qc w x.gu x.fZ (· < B) (.pointer ps))(h5:ji w x.n x.gG (· < B) qn)(hM:gH w B c L ws vs vl vw vv)(hG:Gk w B)(hW:kM x ws <+: WW)(hV:kF x vs <+: VV)(hl:L.length+kV x<=10000000)(hl2:ws.length+kV x<=10000000)(hl3:vs.length+kV x<=10000000) :
  Cc B c 237 q (L++kE (fM WW) (fM VV) x L.length) (kM x ws) (kF x vs) w:=by
 have ev:kF x vs=if x.gu.size=0 then nM x.ex vs else gN (nM x.ex vs) x.gu:=by unfold kF;rw[if_neg (by omega),if_pos hop]
 have ew:kM x ws=vB x.fD x.undo ws:=by unfold kM;rw[if_pos hop]
 have em:kE (fM WW) (fM VV) x L.length=wS (fM WW) (fM VV) x.fD x.ex x.gu x.undo x.n:=by unfold kE;rw[if_neg (by omega),if_pos hop]
 have es:kV x≥uT x.ex+x.fD.size+x.gu.size+x.undo.size+100:=by unfold kV;omega
 have e1:=Sk (fM VV) x.ex;have e3:=YR x.ex vs;have e4:=F8 ws x.fD;have Y0:nM x.ex vs <+: VV:=by
  refine List.IsPrefix.trans ?_ hV;rw[ev];split
  ·exact aO _
  ·exact wh _ _
 have hwo:gN ws x.fD <+: WW:=by
  refine List.IsPrefix.trans ?_ hW;rw[ew];unfold vB;split
  ·exact aO _
  ·exact wh _ _
 have iw1:fM WW x.fD=fM (gN ws x.fD) x.fD:=GU (vZ _ _) hwo;have hA:El B c w pa (L++lu (fM VV) x.ex) ws (nM x.ex vs):=by
  cases hx:x.ex with
  | none =>
   rw[hx] at h3;cases h3;exact ak ⟨rfl,L,vl,vw,vv,hM,by omega,rfl⟩
  | some e =>
   rw[hx] at h3 e1 e3 Y0 es;obtain ⟨qr,hp,hqr,tl,ql,hr1,hr2⟩:=h3;cases hp
   have:uT (some e)=lU e:=rfl
   exact ah ⟨qr,tl,ql,_,rfl,hr1,Sw B c VV e (hw e hx) (ht e hx) w L ws vs vl vw vv tl ql hr2 hM hG Y0 (by omega) (by omega)⟩
 rw[em];refine Hz B c q _ _ _ w ?_;have e5:(L++lu (fM VV) x.ex).length=L.length+(lu (fM VV) x.ex).length:=ay;have hmc:L++wS (fM WW) (fM VV) x.fD x.ex x.gu x.undo x.n=(if x.undo.size=0 then L++lu (fM VV) x.ex++[⟨18,fM (gN ws x.fD) x.fD,x.n⟩] else L++lu (fM VV) x.ex++[⟨18,fM (gN ws x.fD) x.fD,x.n⟩]++[⟨19,fM WW x.undo,0⟩])++[if x.gu.size=0 then ⟨3,0,0⟩ else ⟨2,fM VV x.gu,0⟩]:=by
  unfold wS;rw[iw1];split<;>simp
 have hU:Sl x.undo (L++lu (fM VV) x.ex++[⟨18,fM (gN ws x.fD) x.fD,x.n⟩]) (if x.undo.size=0 then L++lu (fM VV) x.ex++[⟨18,fM (gN ws x.fD) x.fD,x.n⟩] else L++lu (fM VV) x.ex++[⟨18,fM (gN ws x.fD) x.fD,x.n⟩]++[⟨19,fM WW x.undo,0⟩]) (gN ws x.fD) (kM x ws):=by
  by_cases hu:x.undo.size=0
  ·rw[if_pos hu];exact ak ⟨zs2 hu,rfl,by rw[ew];unfold vB;rw[if_pos hu]⟩
  ·rw[if_neg hu];have e6:kM x ws=gN (gN ws x.fD) x.undo:=by rw[ew];unfold vB;rw[if_neg hu]
   refine ah ⟨zvk hu,e6.symm,?_⟩;rw[GU (a:=kM x ws) (by rw[e6];exact vZ _ _) hW]
 have hS:Sn B w ps x.gu (if x.undo.size=0 then L++lu (fM VV) x.ex++[⟨18,fM (gN ws x.fD) x.fD,x.n⟩] else L++lu (fM VV) x.ex++[⟨18,fM (gN ws x.fD) x.fD,x.n⟩]++[⟨19,fM WW x.undo,0⟩]) (L++wS (fM WW) (fM VV) x.fD x.ex x.gu x.undo x.n) (nM x.ex vs) (kF x vs):=by
  rw[hmc];rcases h4 with ⟨ha,hp⟩ | ⟨ha,qs,hp,NC,hc⟩
  ·cases hp;rw[if_pos ha];exact ak ⟨rfl,rfl,by rw[ev,if_pos ha]⟩
  ·cases hp;have e6:kF x vs=gN (nM x.ex vs) x.gu:=by rw[ev,if_neg (by omega)]
   rw[if_neg (by omega:¬ x.gu.size=0)]
   refine ah ⟨qs,_,NC,rfl,hc,e6.symm,?_⟩;rw[GU (a:=kF x vs) (by rw[e6];exact vZ _ _) hV]
 exact zjh B c q qn x.n _ pa ps x.fD x.undo x.gu _ _ _ _ ws _ _ _ _ w hq h5.1 h2 h5.2 (by omega) (by rw[ay,e5];simp;omega) (by split<;>simp<;>omega) (by omega) (by omega) (by omega) (by omega) (by omega) (by omega) hA rfl rfl hU hS
theorem JN (i:rH B c WW VV l){w1:fu}{us:List fC}(hs:kg w v us (· < B))(hm:gF w l (· < B) us)(hG:Gk w B){L:List Px.Ins}{ws vs:List fq}(hp:iM B c L ws vs w w1)(hW:jq l ws <+: WW)(hV:iV l vs <+: VV)(h1:L.length+lI l<=10000000)(h2:ws.length+lI l<=10000000)(h3:vs.length+lI l<=10000000) :
  tX B c v (L++Px.mkS (fM WW) (fM VV) l L.length) (jq l ws) (iV l vs) w1:=by
 obtain ⟨b,vl,vw,vv,hM⟩:=hp;exact i w1 L ws vs vl vw vv v us (hs.keep fun k hk=>b.block k hk) (hm.keep fun k hk=>b.block k hk) hM (hG.below b) hW hV h1 h2 h3
theorem JO (B c:Nat)(WW VV:List fq)(x:Sm)(hop:x.op=105)(i1:rH B c WW VV x.one)(i2:rH B c WW VV x.two)(w:fu)(L:List Px.Ins)(ws vs:List fq)(vl vw vv:fC)(q qr:Nat)(e:Px.Ex)(hx:x.ex=some e)(hw:mO e)(ht:oN e)(hq:q < B)(v1 v2:fC)(u1 u2:List fC)(h2:w.heap[q]?=some (.cells #[Ref.ptr qr,v1,v2] 307))(h3:jK w e (· < B) qr)(s1:kg w v1 u1 (· < B))(l1:gF w x.one (· < B) u1)(s2:kg w v2 u2 (· < B))(l2:gF w x.two (· < B) u2)(hM:gH w B c L ws vs vl vw vv)(hG:Gk w B)(hW:kM x ws <+: WW)(hV:kF x vs <+: VV)(hl:L.length+kV x<=10000000)(hl2:ws.length+kV x<=10000000)(hl3:vs.length+kV x<=10000000) :
  Cc B c 239 q (L++kE (fM WW) (fM VV) x L.length) (kM x ws) (kF x vs) w:=by
 have ev:kF x vs=iV x.two (iV x.one (jU e vs)):=by unfold kF;rw[if_neg (by omega),if_neg (by omega),if_pos hop,hx];rfl
 have ew:kM x ws=jq x.two (jq x.one ws):=by unfold kM;rw[if_neg (by omega),if_pos (ak hop)]
 have es:kV x≥lU e+100+lI x.one+lI x.two:=by unfold kV;rw[hx];show _+lU e+_+_+_+_+_+_≥_;omega
 rw[ev] at hV;rw[ew] at hW;have m1:=uH (fM VV) e;have m2:=AV e;have m3:=Eh e vs;have m4:=BS (fM WW) (fM VV) x.one (L.length+(jo (fM VV) e).length+1);have m5:=BU x.one (jU e vs);have m6:=Ei x.one ws;have hV1:iV x.one (jU e vs) <+: VV:=(wT _ _).trans hV;have hW1:jq x.one ws <+: WW:=(xW _ _).trans hW;obtain ⟨hqr,tl,ql,hr1,hr2⟩:=h3;obtain ⟨a1,k1,rfl,_⟩:=F9 s1;obtain ⟨a2,k2,rfl,_⟩:=F9 s2;have hl1:=Sq l1;have hl2':=Sq l2;refine Ia B c q _ _ _ w ?_;have hE:zB B c tl ql (L++jo (fM VV) e) ws (jU e vs) w:=Sw B c VV e hw ht w L ws vs vl vw vv tl ql hr2 hM hG ((wT _ _).trans hV1) (by omega) (by omega)
 have n1:(L++jo (fM VV) e).length=L.length+(jo (fM VV) e).length:=ay;have n2:(L++jo (fM VV) e++[(⟨13,0,0⟩:Px.Ins)]).length=L.length+(jo (fM VV) e).length+1:=by rw[ay,n1];rfl
 have hB1:∀ w1,iM B c (L++jo (fM VV) e++[⟨13,0,0⟩]) ws (jU e vs) w w1->tX B c (.slice a1 u1.length k1) (L++jo (fM VV) e++[⟨13,0,0⟩]++Px.mkS (fM WW) (fM VV) x.one (L.length+(jo (fM VV) e).length+1)) (jq x.one ws) (iV x.one (jU e vs)) w1:=by
  intro w1 hp
  have:=JN i1 s1 l1 hG hp hW1 hV1 (by rw[n2];omega) (by omega) (by omega)
  rw[n2] at this;exact this
 by_cases h0:x.two=[]
 ·have em:L++kE (fM WW) (fM VV) x L.length=nY (L++jo (fM VV) e++[⟨13,0,0⟩]++Px.mkS (fM WW) (fM VV) x.one (L.length+(jo (fM VV) e).length+1)) (L++jo (fM VV) e).length:=by
   rw[Sv,n1,aI];unfold kE;rw[if_neg (by omega),if_neg (by omega),if_pos hop,hx,h0]
   rfl
  rw[em,ew,ev,h0,Lr,GX];rw[h0] at hl2';have hz:u2.length=0:=hl2';rw[hz] at h2;exact qwo B c q qr tl ql _ a1 a2 _ k1 k2 _ _ _ _ ws _ _ _ w hq h2 hr1 rfl rfl (by simp only[ay];omega) (by simp only[ay,aC,aL];omega) hE hB1
 ·have em:L++kE (fM WW) (fM VV) x L.length=nY (nY (L++jo (fM VV) e++[⟨13,0,0⟩]++Px.mkS (fM WW) (fM VV) x.one (L.length+(jo (fM VV) e).length+1)++[⟨12,0,0⟩]) (L++jo (fM VV) e).length++Px.mkS (fM WW) (fM VV) x.two (L.length+(jo (fM VV) e).length+1+(Px.mkS (fM WW) (fM VV) x.one (L.length+(jo (fM VV) e).length+1)).length+1)) (L++jo (fM VV) e++[(⟨13,0,0⟩:Px.Ins)]++Px.mkS (fM WW) (fM VV) x.one (L.length+(jo (fM VV) e).length+1)).length:=by
   rw[YZ,n1,aI];have hz:x.two.isEmpty=false:=by cases hh:x.two with
    | nil=>exact (h0 hh).elim
    | cons _ _=>rfl
   unfold kE;rw[if_neg (by omega),if_neg (by omega),if_pos hop,hx,hz]
   rfl
  rw[em,ew,ev];have hpos:0 < u2.length:=by
   rw[hl2'];exact bV.2 h0
  have n3:(nY (L++jo (fM VV) e++[⟨13,0,0⟩]++Px.mkS (fM WW) (fM VV) x.one (L.length+(jo (fM VV) e).length+1)++[⟨12,0,0⟩]) (L++jo (fM VV) e).length).length=L.length+(jo (fM VV) e).length+1+(Px.mkS (fM WW) (fM VV) x.one (L.length+(jo (fM VV) e).length+1)).length+1:=by
   rw[JB,ay,ay,n2];rfl
  refine qwn B c q qr tl ql _ a1 a2 _ _ k1 k2 _ _ _ _ _ _ ws _ _ _ _ _ w hq h2 hpos hr1 rfl rfl rfl (by simp only[ay];omega) (by simp only[ay,aC,aL];omega) (by simp only[ay,aC,aL];omega) (by simp only[ay,JB,aC,aL];omega) hE hB1 ?_
  intro w1 hp
  have:=JN i2 s2 l2 hG hp hW hV (by rw[n3];omega) (by omega) (by omega)
  rw[n3] at this;exact this
theorem zv4 (B c:Nat)(WW VV:List fq)(x:Sm)(hop:x.op=116)(i1:rH B c WW VV x.one)(i2:rH B c WW VV x.two)(w:fu)(L:List Px.Ins)(ws vs:List fq)(vl vw vv:fC)(q:Nat)(hq:q < B)(v1 v2:fC)(u1 u2:List fC)(h2:w.heap[q]?=some (.cells #[v1,v2] 310))(s1:kg w v1 u1 (· < B))(l1:gF w x.one (· < B) u1)(s2:kg w v2 u2 (· < B))(l2:gF w x.two (· < B) u2)(hM:gH w B c L ws vs vl vw vv)(hG:Gk w B)(hW:kM x ws <+: WW)(hV:kF x vs <+: VV)(hl:L.length+kV x<=10000000)(hl2:ws.length+kV x<=10000000)(hl3:vs.length+kV x<=10000000) :
  Cc B c 241 q (L++kE (fM WW) (fM VV) x L.length) (kM x ws) (kF x vs) w:=by
 have ev:kF x vs=iV x.two (iV x.one vs):=by unfold kF;rw[if_neg (by omega),if_neg (by omega),if_neg (by omega),if_pos hop]
 have ew:kM x ws=jq x.two (jq x.one ws):=by unfold kM;rw[if_neg (by omega),if_pos (ah hop)]
 have es:kV x≥100+lI x.one+lI x.two:=by unfold kV;omega
 rw[ev] at hV;rw[ew] at hW;have m4:=BS (fM WW) (fM VV) x.one (L.length+1);have m5:=BU x.one vs;have m6:=Ei x.one ws;have hV1:iV x.one vs <+: VV:=(wT _ _).trans hV;have hW1:jq x.one ws <+: WW:=(xW _ _).trans hW;obtain ⟨a1,k1,rfl,_⟩:=F9 s1;obtain ⟨a2,k2,rfl,_⟩:=F9 s2;refine Ib B c q _ _ _ w ?_;have n2:(L++[(⟨15,0,0⟩:Px.Ins)]).length=L.length+1:=by rw[ay];rfl
 have n3:(nY (L++[⟨15,0,0⟩]++Px.mkS (fM WW) (fM VV) x.one (L.length+1)++[⟨16,0,0⟩]) L.length).length=L.length+1+(Px.mkS (fM WW) (fM VV) x.one (L.length+1)).length+1:=by
  rw[JB,ay,ay,n2];rfl
 have em:L++kE (fM WW) (fM VV) x L.length=nY (nY (L++[⟨15,0,0⟩]++Px.mkS (fM WW) (fM VV) x.one (L.length+1)++[⟨16,0,0⟩]) L.length++Px.mkS (fM WW) (fM VV) x.two (L.length+1+(Px.mkS (fM WW) (fM VV) x.one (L.length+1)).length+1)) (L++[(⟨15,0,0⟩:Px.Ins)]++Px.mkS (fM WW) (fM VV) x.one (L.length+1)).length:=by
  rw[YZ];unfold kE;rw[if_neg (by omega),if_neg (by omega),if_neg (by omega),if_pos hop]
 rw[em,ew,ev];refine zky B c q a1 a2 _ _ k1 k2 L _ _ _ _ _ ws vs (jq x.one ws) (iV x.one vs) _ _ vl vw vv w hq hM h2 rfl rfl rfl (by omega) (by simp only[ay,aC,aL];omega) (by simp only[ay,aC,aL];omega) (by simp only[ay,JB,aC,aL];omega) ?_ ?_
 ·intro w1 hp
  have:=JN i1 s1 l1 hG hp hW1 hV1 (by rw[n2];omega) (by omega) (by omega)
  rw[n2] at this;exact this
 ·intro w1 hp
  have:=JN i2 s2 l2 hG hp hW hV (by rw[n3];omega) (by omega) (by omega)
  rw[n3] at this;exact this
theorem zfq (B c:Nat)(WW VV:List fq)(x:Sm)(hop:x.op=114)(i1:rH B c WW VV x.one)(w:fu)(L:List Px.Ins)(ws vs:List fq)(vl vw vv:fC)(q qn:Nat)(hq:q < B)(v1:fC)(u1:List fC)(h2:w.heap[q]?=some (.cells #[Ref.ptr qn,v1] 280))(h3:ji w x.n x.gG (· < B) qn)(s1:kg w v1 u1 (· < B))(l1:gF w x.one (· < B) u1)(hM:gH w B c L ws vs vl vw vv)(hG:Gk w B)(hW:kM x ws <+: WW)(hV:kF x vs <+: VV)(hl:L.length+kV x<=10000000)(hl2:ws.length+kV x<=10000000)(hl3:vs.length+kV x<=10000000) :
  Cc B c 243 q (L++kE (fM WW) (fM VV) x L.length) (kM x ws) (kF x vs) w:=by
 have ev:kF x vs=iV x.one vs:=by unfold kF;rw[if_neg (by omega),if_neg (by omega),if_neg (by omega),if_neg (by omega),if_pos hop]
 have ew:kM x ws=jq x.one ws:=by unfold kM;rw[if_neg (by omega),if_neg (by omega),if_pos hop]
 have es:kV x≥100+lI x.one:=by unfold kV;omega
 rw[ev] at hV;rw[ew] at hW;have m4:=BS (fM WW) (fM VV) x.one (L.length+2);obtain ⟨a1,k1,rfl,_⟩:=F9 s1;refine Po B c q _ _ _ w ?_;have n1:(L++[(⟨0,x.n,0⟩:Px.Ins)]).length=L.length+1:=by rw[ay];rfl
 have n2:(L++[(⟨0,x.n,0⟩:Px.Ins)]++[(⟨14,0,0⟩:Px.Ins)]).length=L.length+2:=by rw[ay,n1];rfl
 have em:L++kE (fM WW) (fM VV) x L.length=nY (L++[⟨0,x.n,0⟩]++[⟨14,0,0⟩]++Px.mkS (fM WW) (fM VV) x.one (L.length+2)++[⟨12,(L++[(⟨0,x.n,0⟩:Px.Ins)]).length,0⟩]) (L++[(⟨0,x.n,0⟩:Px.Ins)]).length:=by
  rw[aI (L++[(⟨0,x.n,0⟩:Px.Ins)]++[(⟨14,0,0⟩:Px.Ins)]),Sv,n1,aI];have e9:L.length+1+1+(Px.mkS (fM WW) (fM VV) x.one (L.length+2)++[(⟨12,L.length+1,0⟩:Px.Ins)]).length=L.length+2+(Px.mkS (fM WW) (fM VV) x.one (L.length+2)).length+1:=by simp;omega
  rw[e9];unfold kE;rw[if_neg (by omega),if_neg (by omega),if_neg (by omega),if_neg (by omega),if_pos hop]
 rw[em,ew,ev];refine qxk B c q qn x.n _ a1 _ k1 L _ _ _ _ _ ws vs _ _ vl vw vv w hq hM h2 h3.2 rfl rfl rfl rfl (by omega) (by simp only[ay,aC,aL];omega) (by simp only[ay,aC,aL];omega) (by simp only[ay,aC,aL];omega) ?_
 intro w1 hp
 have:=JN i1 s1 l1 hG hp hW hV (by rw[n2];omega) (by omega) (by omega)
 rw[n2] at this;exact this
theorem JQ (B c:Nat)(WW VV:List fq)(x:Sm)(hw:vS x)(ht:∀ e,x.ex=some e->oN e)(i1:rH B c WW VV x.one)(i2:rH B c WW VV x.two):yK B c WW VV x:=by
 intro w L ws vs vl vw vv tl ql hs hM hG hW hV hl hl2 hl3;obtain ⟨v1,v2,u1,u2,⟨q,hq,hnd⟩,s1,l1,s2,l2⟩:=hs;rcases hnd with ⟨h0,h1,qv,tl',wE,e,h2,h3,h4,h5⟩ | ⟨h0,h1,pa,ps,qn,h2,h3,h4,h5⟩ | ⟨h0,h1,qr,e,h2,h3,h4⟩ | ⟨h0,h1,h2⟩ | ⟨h0,h1,qn,h2,h3⟩ | ⟨h0,h1⟩
 ·cases h1;exact zw6 B c WW VV x h0 w L ws vs vl vw vv _ qv tl' wE e h4 (hw.1 e h4) (ht e h4) hq h2 h3 h5 hM hG hV hl hl3
 ·cases h1;exact Pn B c WW VV x h0 w L ws vs vl vw vv _ qn pa ps hw.1 ht hq h2 h3 h4 h5 hM hG hW hV hl hl2 hl3
 ·cases h1;exact JO B c WW VV x h0 i1 i2 w L ws vs vl vw vv _ qr e h3 (hw.1 e h3) (ht e h3) hq v1 v2 u1 u2 h2 h4 s1 l1 s2 l2 hM hG hW hV hl hl2 hl3
 ·cases h1;exact zv4 B c WW VV x h0 i1 i2 w L ws vs vl vw vv _ hq v1 v2 u1 u2 h2 s1 l1 s2 l2 hM hG hW hV hl hl2 hl3
 ·cases h1;exact zfq B c WW VV x h0 i1 w L ws vs vl vw vv _ qn hq v1 u1 h2 h3 s1 l1 hM hG hW hV hl hl2 hl3
 ·cases h1;have ev:kF x vs=vs:=by unfold kF;rw[if_neg (by omega),if_neg (by omega),if_neg (by omega),if_neg (by omega),if_neg (by omega)]
  have ew:kM x ws=ws:=by unfold kM;rw[if_neg (by omega),if_neg (by omega),if_neg (by omega)]
  have em:kE (fM WW) (fM VV) x L.length=[⟨17,0,0⟩]:=by unfold kE;rw[if_neg (by omega),if_neg (by omega),if_neg (by omega),if_neg (by omega),if_neg (by omega)]
  rw[em,ew,ev];exact HY B c _ L ws vs vl vw vv w hM (by omega)
theorem AP (B c:Nat)(WW VV:List fq)(l:List Sm)(hw:jM l)(ht:rO l):∀ i (hi:i < l.length),yK B c WW VV l[i]:=by
 match l,hw,ht with
 | [],_,_=>intro i hi;simp at hi
 | ⟨op,fD,pl,ex,gu,fZ,undo,n,gG,one,two⟩::rest,hw,ht =>
  obtain ⟨w0,w1,w2,w3⟩:=zi.1 hw;rw[rO] at ht;obtain ⟨t0,t1,t2,t3⟩:=ht;intro i hi;cases i with
  | zero=>exact JQ B c WW VV _ w0 t0 (Sr B c WW VV one (AP B c WW VV one w1 t1)) (Sr B c WW VV two (AP B c WW VV two w2 t2))
  | succ i=>exact AP B c WW VV rest w3 t3 i (by simpa using hi)
theorem Qp (B c:Nat)(WW VV:List fq)(l:List Sm)(hw:jM l)(ht:rO l):rH B c WW VV l:=Sr B c WW VV l (AP B c WW VV l hw ht)
