import Derived.Test.YtagpnplggopoeaaGreatDoorT23
set_option maxRecDepth 100000
set_option maxHeartbeats 4000000
namespace Go.Proofs.YtagpnplggopoeaaGreatDoor
open Go.RowKit
namespace Mk
theorem zx2 {w:World} {k:Nat} {a b c d e:Value} {t:TypeId} (hh:w.heap[k]?=some (.cells #[a,b,c,d,e] t)):w.cell? ⟨k,0,none⟩=some a∧w.cell? ⟨k,1,none⟩=some b∧w.cell? ⟨k,2,none⟩=some c∧w.cell? ⟨k,3,none⟩=some d∧w.cell? ⟨k,4,none⟩=some e∧∀ o,w.frozen? ⟨k,o,none⟩=false:=by
 refine ⟨?_,?_,?_,?_,?_,?_⟩<;>simp[World.cell?,World.frozen?,hh]
theorem zwk (B c k x y:Nat) (L:List Px.Ins) (ws vs:List ByteArray) (vl vw vv:Value) (w:World) (h:MkAt w B c L ws vs vl vw vv) (hl:L.length≤10000000) :
  Calls Tryz.prog 147 #[.pointer (some ⟨c,0,none⟩),.int .i64 (k:Int),.slice (some ⟨w.heap.size,0,none⟩) 2 2] (w.alloc (.cells #[.int .i64 (x:Int),.int .i64 (y:Int)] 3)) fun e w'=>e=.returned (.tuple #[])∧qar B c (L++[⟨k,x,y⟩]) ws vs w w':=by
 obtain ⟨h1,b1⟩:=h.same ((Tch.refl (fun _=>False) w).alloc (.cells #[.int .i64 (x:Int),.int .i64 (y:Int)] 3))
 refine (zly B c k x y w.heap.size L ws vs vl vw vv _ h1 hl (qfd Lg.new1).1 (qfd Lg.new1).2.1).mono ?_;rintro e w' ⟨rfl,b2,h2⟩;exact ⟨rfl,b1.trans b2,h2⟩
def ArgM (B c:Nat) (w:World) (pa:Option Addr) (L1:List Px.Ins) (ws vs1:List ByteArray):Prop :=
 (pa=none∧∃ L vl vw vv,MkAt w B c L ws vs1 vl vw vv∧L.length≤10000000∧L++[⟨0,0,0⟩]=L1) ∨
 (∃ qr tl ql pn,pa=some ⟨qr,0,none⟩∧w.heap[qr]?=some (.cells #[.iface tl (.pointer (some ⟨ql,0,none⟩)),pn] 317)∧ExC B c tl ql L1 ws vs1 w)
def zvm (undo:ByteArray) (L2 L3:List Px.Ins) (ws2 ws3:List ByteArray):Prop :=
 ((!undo.toList.isEmpty)=false∧L3=L2∧ws3=ws2)∨((!undo.toList.isEmpty)=true∧Px.addW ws2 undo=ws3∧L2++[⟨19,Px.idxW ws3 undo,0⟩]=L3)
def AsM (B:Nat) (w:World) (ps:Option Addr) (asw:ByteArray) (L3 L4:List Px.Ins) (vs1 vs4:List ByteArray):Prop :=
 (ps=none∧L3++[⟨3,0,0⟩]=L4∧vs1=vs4)∨(∃ qv pv,qv < B∧ps=some ⟨qv,0,none⟩∧w.heap[qv]?=some (.cells #[.string asw,pv] 257)∧Px.addW vs1 asw=vs4∧L3++[⟨2,Px.idxW vs4 asw,0⟩]=L4)
theorem zjh (B c q qn n:Nat) (pm:Value) (pa ps:Option Addr) (word undo asw:ByteArray) (L1 L2 L3 L4:List Px.Ins) (ws ws2 ws3 vs1 vs4:List ByteArray) (w:World) (hqB:q < B) (hqn:qn < B)
  (h4:w.heap[q]?=some (.cells #[.string word,.pointer pa,.pointer ps,.string undo,.pointer (some ⟨qn,0,none⟩)] 315)) (h6:w.heap[qn]?=some (.cells #[.int .i64 (n:Int),pm] 299))
  (hl1:L1.length≤10000000) (hl2:L2.length≤10000000) (hl3:L3.length≤10000000) (hx:word.size≤10000000) (hu:undo.size≤10000000) (ha:asw.size≤10000000) (hws:ws.length≤10000000) (hws2:ws2.length≤10000000) (hvs:vs1.length≤10000000)
  (hA:ArgM B c w pa L1 ws vs1) (e1:Px.addW ws word=ws2) (e2:L1++[⟨18,Px.idxW ws2 word,n⟩]=L2) (hU:zvm undo L2 L3 ws2 ws3) (hS:AsM B w ps asw L3 L4 vs1 vs4) :
  Calls Tryz.prog 149 #[.pointer (some ⟨c,0,none⟩),.pointer (some ⟨q,0,none⟩)] w fun e w'=>e=.returned (.tuple #[])∧qar B c L4 ws3 vs4 w w':=by
 have CQ:Hid (∀ W,Below B w W→(W.cell? ⟨q,0,none⟩=some (.string word)∧W.cell? ⟨q,1,none⟩=some (.pointer pa)∧W.cell? ⟨q,2,none⟩=some (.pointer ps)∧W.cell? ⟨q,3,none⟩=some (.string undo)∧W.cell? ⟨q,4,none⟩=some (.pointer (some ⟨qn,0,none⟩))∧∀ o,W.frozen? ⟨q,o,none⟩=false)∧W.cell? ⟨qn,0,none⟩=some (.int .i64 (n:Int))):=fun W hb=>⟨zx2 ((hb.block q hqB).trans h4),(qfd ((hb.block qn hqn).trans h6)).1⟩
 have HA:Hid (ArgM B c w pa L1 ws vs1):=hA;have HU:Hid (zvm undo L2 L3 ws2 ws3):=hU;have HS:Hid (AsM B w ps asw L3 L4 vs1 vs4):=hS;have E1:Hid (Px.addW ws word=ws2):=e1;have E2:Hid (L1++[⟨18,Px.idxW ws2 word,n⟩]=L2):=e2;have HL:Hid (L1.length≤10000000∧L2.length≤10000000∧L3.length≤10000000∧word.size≤10000000∧undo.size≤10000000∧asw.size≤10000000∧ws.length≤10000000∧ws2.length≤10000000∧vs1.length≤10000000):=⟨hl1,hl2,hl3,hx,hu,ha,hws,hws2,hvs⟩;clear h4 h6 hA hU hS e1 e2 hl1 hl2 hl3 hx hu ha hws hws2 hvs hqB hqn;rcases HA.out with ⟨rfl,L,vl,vw,vv,hM,hl,hL1⟩ | ⟨qr,tl,ql,pn,rfl,h5,hC⟩
 ·have HM:Hid (MkAt w B c L ws vs1 vl vw vv):=hM;have E0:Hid (L.length≤10000000∧L++[⟨0,0,0⟩]=L1):=⟨hl,hL1⟩;clear HA hM hl hL1;obtain ⟨⟨c0,c1,c2,c3,c4,cf⟩,c5⟩:=CQ.out w (Below.refl B w);go_enter Tryz.func149,Tryz.ntmps149
  go_wp2_with fail;refine (qmm B c 0 0 L ws vs1 vl vw vv w HM.out E0.out.1).mono ?_;rintro e w1 ⟨rfl,b1,vl1,vw1,vv1,h1⟩;rw[E0.out.2] at h1;obtain ⟨g1,_⟩:=h1.same (Tch.refl (fun _=>False) w1).drew
  have H1:Hid (Below B w w1.drew∧MkAt w1.drew B c L1 ws vs1 vl1 vw1 vv1):=⟨b1.drew,g1⟩;clear c0 c1 c2 c3 c4 c5 cf;obtain ⟨⟨c0',c1',c2',c3',c4',cf'⟩,c5'⟩:=CQ.out w1 b1;clear b1 h1 g1;go_wp2_with fail;go_cut [] (fun wc=>Hid (Below B w wc∧∃ vl vw vv,MkAt wc B c L2 ws2 vs1 vl vw vv))
  case first =>
   go_region_with (first
    | (go_at_call 192;refine (qh0 B c L1 ws vs1 word vl1 vw1 vv1 _ H1.out.2 HL.out.2.2.2.1 HL.out.2.2.2.2.2.2.1).mono ?_;rintro e w2 ⟨rfl,b2,vl2,vw2,vv2,h2⟩;rw[E1.out] at h2;rw[E1.out];have H2:Hid (Below B w w2∧MkAt w2 B c L1 ws2 vs1 vl2 vw2 vv2):=⟨H1.out.1.trans b2,h2⟩;obtain ⟨⟨c0,c1,c2,c3,c4,cf⟩,c5⟩:=CQ.out w2 H2.out.1;clear b2 h2)
    | (go_at_call 147;refine (zwk B c 18 _ n L1 _ vs1 _ _ _ _ H2.out.2 HL.out.1).mono ?_;rintro e w3 ⟨rfl,b3,h3⟩;rw[E2.out] at h3;have H3:Hid (Below B w w3∧∃ vl vw vv,MkAt w3 B c L2 ws2 vs1 vl vw vv):=⟨H2.out.1.trans b3,h3⟩;clear b3 h3))
   all_goals
    go_wp2_with fail;go_meet
    case rel=>exact H3.out
  case rest =>
   clear H1 c0' c1' c2' c3' c4' cf' c5';obtain ⟨bc,vl3,vw3,vv3,hc⟩:=hcut.out;have H3:Hid (Below B w wc∧MkAt wc B c L2 ws2 vs1 vl3 vw3 vv3):=⟨bc,hc⟩;clear bc hc hcut;rcases HU.out with ⟨hu0,rfl,rfl⟩ | ⟨hu0,hu1,hu2⟩
   ·clear HU;rcases HS.out with ⟨rfl,hs1,rfl⟩ | ⟨qv,pv,hqv,rfl,hs0,hs1,hs2⟩
    ·have S1:Hid (L3++[⟨3,0,0⟩]=L4):=hs1;clear hs1 HS;obtain ⟨⟨c0,c1,c2,c3,c4,cf⟩,c5⟩:=CQ.out wc H3.out.1;go_wp2_with fail;refine (qg5 B c 3 L3 _ _ vl3 vw3 vv3 wc H3.out.2 HL.out.2.2.1).mono ?_;rintro e w9 ⟨rfl,b9,h9⟩;rw[S1.out] at h9;have H9:Hid (qar B c L4 ws3 vs1 w w9):=⟨H3.out.1.trans b9,h9⟩;clear b9 h9 c0 c1 c2 c3 c4 cf c5;go_wp2_with fail;go_end0
     exact ⟨rfl,H9.out⟩
    ·have S1:Hid (Px.addW vs1 asw=vs4):=hs1;have S2:Hid (L3++[⟨2,Px.idxW vs4 asw,0⟩]=L4):=hs2;obtain ⟨d0,d1,df⟩:=qfd ((H3.out.1.block qv hqv).trans hs0);clear hs0 hs1 hs2 HS hqv;obtain ⟨⟨c0,c1,c2,c3,c4,cf⟩,c5⟩:=CQ.out wc H3.out.1;go_wp2_with fail;refine (qce B c L3 _ _ asw vl3 vw3 vv3 wc H3.out.2 HL.out.2.2.2.2.2.1 HL.out.2.2.2.2.2.2.2.2).mono ?_;rintro e w8 ⟨rfl,b8,vl8,vw8,vv8,h8⟩;rw[S1.out] at h8;rw[S1.out];have H8:Hid (Below B w w8∧MkAt w8 B c L3 ws3 vs4 vl8 vw8 vv8):=⟨H3.out.1.trans b8,h8⟩;clear b8 h8 c0 c1 c2 c3 c4 cf c5 d0 d1 df;go_wp2_with fail;refine (qmm B c 2 _ L3 _ _ vl8 vw8 vv8 w8 H8.out.2 HL.out.2.2.1).mono ?_
     rintro e w9 ⟨rfl,b9,h9⟩;rw[S2.out] at h9;have H9:Hid (qar B c L4 ws3 vs4 w w9):=⟨H8.out.1.trans b9,h9⟩;clear b9 h9;go_wp2_with fail;go_end0
     exact ⟨rfl,H9.out⟩
   ·have U1:Hid (Px.addW ws2 undo=ws3):=hu1;have U2:Hid (L2++[⟨19,Px.idxW ws3 undo,0⟩]=L3):=hu2;clear hu1 hu2 HU;obtain ⟨⟨c0,c1,c2,c3,c4,cf⟩,c5⟩:=CQ.out wc H3.out.1;go_wp2_with fail;refine (qh0 B c L2 _ _ undo vl3 vw3 vv3 wc H3.out.2 HL.out.2.2.2.2.1 HL.out.2.2.2.2.2.2.2.1).mono ?_;rintro e w5 ⟨rfl,b5,vl5,vw5,vv5,h5⟩;rw[U1.out] at h5;rw[U1.out];have H5:Hid (Below B w w5∧MkAt w5 B c L2 ws3 vs1 vl5 vw5 vv5):=⟨H3.out.1.trans b5,h5⟩;clear b5 h5 c0 c1 c2 c3 c4 cf c5;go_wp2_with fail;refine (qmm B c 19 _ L2 _ _ vl5 vw5 vv5 w5 H5.out.2 HL.out.2.1).mono ?_;rintro e w6 ⟨rfl,b6,vl6,vw6,vv6,h6⟩;rw[U2.out] at h6
    have H6:Hid (Below B w w6∧MkAt w6 B c L3 ws3 vs1 vl6 vw6 vv6):=⟨H5.out.1.trans b6,h6⟩;clear b6 h6;rcases HS.out with ⟨rfl,hs1,rfl⟩ | ⟨qv,pv,hqv,rfl,hs0,hs1,hs2⟩
    ·have S1:Hid (L3++[⟨3,0,0⟩]=L4):=hs1;clear hs1 HS;obtain ⟨⟨c0,c1,c2,c3,c4,cf⟩,c5⟩:=CQ.out w6 H6.out.1;go_wp2_with fail;refine (qg5 B c 3 L3 _ _ vl6 vw6 vv6 w6 H6.out.2 HL.out.2.2.1).mono ?_;rintro e w9 ⟨rfl,b9,h9⟩;rw[S1.out] at h9;have H9:Hid (qar B c L4 ws3 vs1 w w9):=⟨H6.out.1.trans b9,h9⟩;clear b9 h9 c0 c1 c2 c3 c4 cf c5;go_wp2_with fail;go_end0
     exact ⟨rfl,H9.out⟩
    ·have S1:Hid (Px.addW vs1 asw=vs4):=hs1;have S2:Hid (L3++[⟨2,Px.idxW vs4 asw,0⟩]=L4):=hs2;obtain ⟨d0,d1,df⟩:=qfd ((H6.out.1.block qv hqv).trans hs0);clear hs0 hs1 hs2 HS hqv;obtain ⟨⟨c0,c1,c2,c3,c4,cf⟩,c5⟩:=CQ.out w6 H6.out.1;go_wp2_with fail;refine (qce B c L3 _ _ asw vl6 vw6 vv6 w6 H6.out.2 HL.out.2.2.2.2.2.1 HL.out.2.2.2.2.2.2.2.2).mono ?_;rintro e w8 ⟨rfl,b8,vl8,vw8,vv8,h8⟩;rw[S1.out] at h8;rw[S1.out];have H8:Hid (Below B w w8∧MkAt w8 B c L3 ws3 vs4 vl8 vw8 vv8):=⟨H6.out.1.trans b8,h8⟩;clear b8 h8 c0 c1 c2 c3 c4 cf c5 d0 d1 df;go_wp2_with fail;refine (qmm B c 2 _ L3 _ _ vl8 vw8 vv8 w8 H8.out.2 HL.out.2.2.1).mono ?_
     rintro e w9 ⟨rfl,b9,h9⟩;rw[S2.out] at h9;have H9:Hid (qar B c L4 ws3 vs4 w w9):=⟨H8.out.1.trans b9,h9⟩;clear b9 h9;go_wp2_with fail;go_end0
     exact ⟨rfl,H9.out⟩
 ·have HC0:Hid (ExC B c tl ql L1 ws vs1 w):=hC;obtain ⟨d0,d1,df⟩:=qfd h5;clear HA hC h5;obtain ⟨⟨c0,c1,c2,c3,c4,cf⟩,c5⟩:=CQ.out w (Below.refl B w);go_enter Tryz.func149,Tryz.ntmps149
  go_wp2_with fail;refine Calls.mono HC0.out ?_;rintro e w1 ⟨rfl,b1,vl1,vw1,vv1,h1⟩;obtain ⟨g1,_⟩:=h1.same (Tch.refl (fun _=>False) w1).drew
  have H1:Hid (Below B w w1.drew∧MkAt w1.drew B c L1 ws vs1 vl1 vw1 vv1):=⟨b1.drew,g1⟩;clear c0 c1 c2 c3 c4 c5 cf;clear d0 d1 df;obtain ⟨⟨c0',c1',c2',c3',c4',cf'⟩,c5'⟩:=CQ.out w1 b1;clear b1 h1 g1;go_wp2_with fail;go_cut [] (fun wc=>Hid (Below B w wc∧∃ vl vw vv,MkAt wc B c L2 ws2 vs1 vl vw vv))
  case first =>
   go_region_with (first
    | (go_at_call 192;refine (qh0 B c L1 ws vs1 word vl1 vw1 vv1 _ H1.out.2 HL.out.2.2.2.1 HL.out.2.2.2.2.2.2.1).mono ?_;rintro e w2 ⟨rfl,b2,vl2,vw2,vv2,h2⟩;rw[E1.out] at h2;rw[E1.out];have H2:Hid (Below B w w2∧MkAt w2 B c L1 ws2 vs1 vl2 vw2 vv2):=⟨H1.out.1.trans b2,h2⟩;obtain ⟨⟨c0,c1,c2,c3,c4,cf⟩,c5⟩:=CQ.out w2 H2.out.1;clear b2 h2)
    | (go_at_call 147;refine (zwk B c 18 _ n L1 _ vs1 _ _ _ _ H2.out.2 HL.out.1).mono ?_;rintro e w3 ⟨rfl,b3,h3⟩;rw[E2.out] at h3;have H3:Hid (Below B w w3∧∃ vl vw vv,MkAt w3 B c L2 ws2 vs1 vl vw vv):=⟨H2.out.1.trans b3,h3⟩;clear b3 h3))
   all_goals
    go_wp2_with fail;go_meet
    case rel=>exact H3.out
  case rest =>
   clear H1 c0' c1' c2' c3' c4' cf' c5';obtain ⟨bc,vl3,vw3,vv3,hc⟩:=hcut.out;have H3:Hid (Below B w wc∧MkAt wc B c L2 ws2 vs1 vl3 vw3 vv3):=⟨bc,hc⟩;clear bc hc hcut;rcases HU.out with ⟨hu0,rfl,rfl⟩ | ⟨hu0,hu1,hu2⟩
   ·clear HU;rcases HS.out with ⟨rfl,hs1,rfl⟩ | ⟨qv,pv,hqv,rfl,hs0,hs1,hs2⟩
    ·have S1:Hid (L3++[⟨3,0,0⟩]=L4):=hs1;clear hs1 HS;obtain ⟨⟨c0,c1,c2,c3,c4,cf⟩,c5⟩:=CQ.out wc H3.out.1;go_wp2_with fail;refine (qg5 B c 3 L3 _ _ vl3 vw3 vv3 wc H3.out.2 HL.out.2.2.1).mono ?_;rintro e w9 ⟨rfl,b9,h9⟩;rw[S1.out] at h9;have H9:Hid (qar B c L4 ws3 vs1 w w9):=⟨H3.out.1.trans b9,h9⟩;clear b9 h9 c0 c1 c2 c3 c4 cf c5;go_wp2_with fail;go_end0
     exact ⟨rfl,H9.out⟩
    ·have S1:Hid (Px.addW vs1 asw=vs4):=hs1;have S2:Hid (L3++[⟨2,Px.idxW vs4 asw,0⟩]=L4):=hs2;obtain ⟨d0,d1,df⟩:=qfd ((H3.out.1.block qv hqv).trans hs0);clear hs0 hs1 hs2 HS hqv;obtain ⟨⟨c0,c1,c2,c3,c4,cf⟩,c5⟩:=CQ.out wc H3.out.1;go_wp2_with fail;refine (qce B c L3 _ _ asw vl3 vw3 vv3 wc H3.out.2 HL.out.2.2.2.2.2.1 HL.out.2.2.2.2.2.2.2.2).mono ?_;rintro e w8 ⟨rfl,b8,vl8,vw8,vv8,h8⟩;rw[S1.out] at h8;rw[S1.out];have H8:Hid (Below B w w8∧MkAt w8 B c L3 ws3 vs4 vl8 vw8 vv8):=⟨H3.out.1.trans b8,h8⟩;clear b8 h8 c0 c1 c2 c3 c4 cf c5 d0 d1 df;go_wp2_with fail;refine (qmm B c 2 _ L3 _ _ vl8 vw8 vv8 w8 H8.out.2 HL.out.2.2.1).mono ?_
     rintro e w9 ⟨rfl,b9,h9⟩;rw[S2.out] at h9;have H9:Hid (qar B c L4 ws3 vs4 w w9):=⟨H8.out.1.trans b9,h9⟩;clear b9 h9;go_wp2_with fail;go_end0
     exact ⟨rfl,H9.out⟩
   ·have U1:Hid (Px.addW ws2 undo=ws3):=hu1;have U2:Hid (L2++[⟨19,Px.idxW ws3 undo,0⟩]=L3):=hu2;clear hu1 hu2 HU;obtain ⟨⟨c0,c1,c2,c3,c4,cf⟩,c5⟩:=CQ.out wc H3.out.1;go_wp2_with fail;refine (qh0 B c L2 _ _ undo vl3 vw3 vv3 wc H3.out.2 HL.out.2.2.2.2.1 HL.out.2.2.2.2.2.2.2.1).mono ?_;rintro e w5 ⟨rfl,b5,vl5,vw5,vv5,h5⟩;rw[U1.out] at h5;rw[U1.out];have H5:Hid (Below B w w5∧MkAt w5 B c L2 ws3 vs1 vl5 vw5 vv5):=⟨H3.out.1.trans b5,h5⟩;clear b5 h5 c0 c1 c2 c3 c4 cf c5;go_wp2_with fail;refine (qmm B c 19 _ L2 _ _ vl5 vw5 vv5 w5 H5.out.2 HL.out.2.1).mono ?_;rintro e w6 ⟨rfl,b6,vl6,vw6,vv6,h6⟩;rw[U2.out] at h6
    have H6:Hid (Below B w w6∧MkAt w6 B c L3 ws3 vs1 vl6 vw6 vv6):=⟨H5.out.1.trans b6,h6⟩;clear b6 h6;rcases HS.out with ⟨rfl,hs1,rfl⟩ | ⟨qv,pv,hqv,rfl,hs0,hs1,hs2⟩
    ·have S1:Hid (L3++[⟨3,0,0⟩]=L4):=hs1;clear hs1 HS;obtain ⟨⟨c0,c1,c2,c3,c4,cf⟩,c5⟩:=CQ.out w6 H6.out.1;go_wp2_with fail;refine (qg5 B c 3 L3 _ _ vl6 vw6 vv6 w6 H6.out.2 HL.out.2.2.1).mono ?_;rintro e w9 ⟨rfl,b9,h9⟩;rw[S1.out] at h9;have H9:Hid (qar B c L4 ws3 vs1 w w9):=⟨H6.out.1.trans b9,h9⟩;clear b9 h9 c0 c1 c2 c3 c4 cf c5;go_wp2_with fail;go_end0
     exact ⟨rfl,H9.out⟩
    ·have S1:Hid (Px.addW vs1 asw=vs4):=hs1;have S2:Hid (L3++[⟨2,Px.idxW vs4 asw,0⟩]=L4):=hs2;obtain ⟨d0,d1,df⟩:=qfd ((H6.out.1.block qv hqv).trans hs0);clear hs0 hs1 hs2 HS hqv;obtain ⟨⟨c0,c1,c2,c3,c4,cf⟩,c5⟩:=CQ.out w6 H6.out.1;go_wp2_with fail;refine (qce B c L3 _ _ asw vl6 vw6 vv6 w6 H6.out.2 HL.out.2.2.2.2.2.1 HL.out.2.2.2.2.2.2.2.2).mono ?_;rintro e w8 ⟨rfl,b8,vl8,vw8,vv8,h8⟩;rw[S1.out] at h8;rw[S1.out];have H8:Hid (Below B w w8∧MkAt w8 B c L3 ws3 vs4 vl8 vw8 vv8):=⟨H6.out.1.trans b8,h8⟩;clear b8 h8 c0 c1 c2 c3 c4 cf c5 d0 d1 df;go_wp2_with fail;refine (qmm B c 2 _ L3 _ _ vl8 vw8 vv8 w8 H8.out.2 HL.out.2.2.1).mono ?_
     rintro e w9 ⟨rfl,b9,h9⟩;rw[S2.out] at h9;have H9:Hid (qar B c L4 ws3 vs4 w w9):=⟨H8.out.1.trans b9,h9⟩;clear b9 h9;go_wp2_with fail;go_end0
     exact ⟨rfl,H9.out⟩
open Go.RowKit
theorem zr2 (v:Value) (w:World):(Instr.typeAssert (.iface 247 v) 204 247 true).run Tryz.prog w=.ok (.tuple #[v,.bool true]) w:=by kernel_rfl
theorem zlm (v:Value) (w:World):(Instr.typeAssert (.iface 258 v) 204 247 true).run Tryz.prog w=.ok (.tuple #[.pointer none,.bool false]) w:=by kernel_rfl
theorem zfg (v:Value) (w:World):(Instr.typeAssert (.iface 258 v) 204 258 true).run Tryz.prog w=.ok (.tuple #[v,.bool true]) w:=by kernel_rfl
theorem zwh (v:Value) (w:World):(Instr.typeAssert (.iface 260 v) 204 247 true).run Tryz.prog w=.ok (.tuple #[.pointer none,.bool false]) w:=by kernel_rfl
theorem zr3 (v:Value) (w:World):(Instr.typeAssert (.iface 260 v) 204 258 true).run Tryz.prog w=.ok (.tuple #[.pointer none,.bool false]) w:=by kernel_rfl
theorem sIfIf (v:Value) (w:World):(Instr.typeAssert (.iface 260 v) 204 260 true).run Tryz.prog w=.ok (.tuple #[v,.bool true]) w:=by kernel_rfl
theorem zr0 (v:Value) (w:World):(Instr.typeAssert (.iface 262 v) 204 247 true).run Tryz.prog w=.ok (.tuple #[.pointer none,.bool false]) w:=by kernel_rfl
theorem zlj (v:Value) (w:World):(Instr.typeAssert (.iface 262 v) 204 258 true).run Tryz.prog w=.ok (.tuple #[.pointer none,.bool false]) w:=by kernel_rfl
theorem zwg (v:Value) (w:World):(Instr.typeAssert (.iface 262 v) 204 260 true).run Tryz.prog w=.ok (.tuple #[.pointer none,.bool false]) w:=by kernel_rfl
theorem zrz (v:Value) (w:World):(Instr.typeAssert (.iface 262 v) 204 262 true).run Tryz.prog w=.ok (.tuple #[v,.bool true]) w:=by kernel_rfl
theorem zcf (v:Value) (w:World):(Instr.typeAssert (.iface 264 v) 204 247 true).run Tryz.prog w=.ok (.tuple #[.pointer none,.bool false]) w:=by kernel_rfl
theorem qxg (v:Value) (w:World):(Instr.typeAssert (.iface 264 v) 204 258 true).run Tryz.prog w=.ok (.tuple #[.pointer none,.bool false]) w:=by kernel_rfl
theorem zfd (v:Value) (w:World):(Instr.typeAssert (.iface 264 v) 204 260 true).run Tryz.prog w=.ok (.tuple #[.pointer none,.bool false]) w:=by kernel_rfl
theorem zce (v:Value) (w:World):(Instr.typeAssert (.iface 264 v) 204 262 true).run Tryz.prog w=.ok (.tuple #[.pointer none,.bool false]) w:=by kernel_rfl
theorem qsm (v:Value) (w:World):(Instr.typeAssert (.iface 264 v) 204 264 true).run Tryz.prog w=.ok (.tuple #[v,.bool true]) w:=by kernel_rfl
theorem zll (v:Value) (w:World):(Instr.typeAssert (.iface 266 v) 204 247 true).run Tryz.prog w=.ok (.tuple #[.pointer none,.bool false]) w:=by kernel_rfl
theorem zff (v:Value) (w:World):(Instr.typeAssert (.iface 266 v) 204 258 true).run Tryz.prog w=.ok (.tuple #[.pointer none,.bool false]) w:=by kernel_rfl
theorem zr4 (v:Value) (w:World):(Instr.typeAssert (.iface 266 v) 204 260 true).run Tryz.prog w=.ok (.tuple #[.pointer none,.bool false]) w:=by kernel_rfl
theorem zlk (v:Value) (w:World):(Instr.typeAssert (.iface 266 v) 204 262 true).run Tryz.prog w=.ok (.tuple #[.pointer none,.bool false]) w:=by kernel_rfl
theorem qxh (v:Value) (w:World):(Instr.typeAssert (.iface 266 v) 204 264 true).run Tryz.prog w=.ok (.tuple #[.pointer none,.bool false]) w:=by kernel_rfl
theorem zfe (v:Value) (w:World):(Instr.typeAssert (.iface 266 v) 204 266 true).run Tryz.prog w=.ok (.tuple #[v,.bool true]) w:=by kernel_rfl
theorem qi0 (B c q:Nat) (L:List Px.Ins) (ws vs:List ByteArray) (w:World) (hC:Calls Tryz.prog 149 #[.pointer (some ⟨c,0,none⟩),.pointer (some ⟨q,0,none⟩)] w fun e w'=>e=.returned (.tuple #[])∧qar B c L ws vs w w') :
  Calls Tryz.prog 121 #[.pointer (some ⟨c,0,none⟩),.iface 258 (.pointer (some ⟨q,0,none⟩))] w fun e w'=>e=.returned (.tuple #[])∧qar B c L ws vs w w':=by
 have f0:=zlm;have f1:=zfg;have HC:Hid (Calls Tryz.prog 149 #[.pointer (some ⟨c,0,none⟩),.pointer (some ⟨q,0,none⟩)] w fun e w'=>e=.returned (.tuple #[])∧qar B c L ws vs w w'):=hC
 clear hC;go_enter Tryz.func121,Tryz.ntmps121
 go_wp2_with fail;refine HC.out.mono ?_;rintro e w1 ⟨rfl,h1⟩;have H1:Hid (qar B c L ws vs w w1):=h1;clear h1;go_wp2_with fail;go_end0
 exact ⟨rfl,H1.out⟩
theorem qo7 (B c q:Nat) (L:List Px.Ins) (ws vs:List ByteArray) (w:World) (hC:Calls Tryz.prog 150 #[.pointer (some ⟨c,0,none⟩),.pointer (some ⟨q,0,none⟩)] w fun e w'=>e=.returned (.tuple #[])∧qar B c L ws vs w w') :
  Calls Tryz.prog 121 #[.pointer (some ⟨c,0,none⟩),.iface 260 (.pointer (some ⟨q,0,none⟩))] w fun e w'=>e=.returned (.tuple #[])∧qar B c L ws vs w w':=by
 have f0:=zwh;have f1:=zr3;have f2:=sIfIf;have HC:Hid (Calls Tryz.prog 150 #[.pointer (some ⟨c,0,none⟩),.pointer (some ⟨q,0,none⟩)] w fun e w'=>e=.returned (.tuple #[])∧qar B c L ws vs w w'):=hC
 clear hC;go_enter Tryz.func121,Tryz.ntmps121
 go_wp2_with fail;refine HC.out.mono ?_;rintro e w1 ⟨rfl,h1⟩;have H1:Hid (qar B c L ws vs w w1):=h1;clear h1;go_wp2_with fail;go_end0
 exact ⟨rfl,H1.out⟩
theorem qk5 (B c q:Nat) (L:List Px.Ins) (ws vs:List ByteArray) (w:World) (hC:Calls Tryz.prog 151 #[.pointer (some ⟨c,0,none⟩),.pointer (some ⟨q,0,none⟩)] w fun e w'=>e=.returned (.tuple #[])∧qar B c L ws vs w w') :
  Calls Tryz.prog 121 #[.pointer (some ⟨c,0,none⟩),.iface 262 (.pointer (some ⟨q,0,none⟩))] w fun e w'=>e=.returned (.tuple #[])∧qar B c L ws vs w w':=by
 have f0:=zr0;have f1:=zlj;have f2:=zwg;have f3:=zrz;have HC:Hid (Calls Tryz.prog 151 #[.pointer (some ⟨c,0,none⟩),.pointer (some ⟨q,0,none⟩)] w fun e w'=>e=.returned (.tuple #[])∧qar B c L ws vs w w'):=hC
 clear hC;go_enter Tryz.func121,Tryz.ntmps121
 go_wp2_with fail;refine HC.out.mono ?_;rintro e w1 ⟨rfl,h1⟩;have H1:Hid (qar B c L ws vs w w1):=h1;clear h1;go_wp2_with fail;go_end0
 exact ⟨rfl,H1.out⟩
theorem qkn (B c q:Nat) (L:List Px.Ins) (ws vs:List ByteArray) (w:World) (hC:Calls Tryz.prog 152 #[.pointer (some ⟨c,0,none⟩),.pointer (some ⟨q,0,none⟩)] w fun e w'=>e=.returned (.tuple #[])∧qar B c L ws vs w w') :
  Calls Tryz.prog 121 #[.pointer (some ⟨c,0,none⟩),.iface 264 (.pointer (some ⟨q,0,none⟩))] w fun e w'=>e=.returned (.tuple #[])∧qar B c L ws vs w w':=by
 have f0:=zcf;have f1:=qxg;have f2:=zfd;have f3:=zce;have f4:=qsm;have HC:Hid (Calls Tryz.prog 152 #[.pointer (some ⟨c,0,none⟩),.pointer (some ⟨q,0,none⟩)] w fun e w'=>e=.returned (.tuple #[])∧qar B c L ws vs w w'):=hC
 clear hC;go_enter Tryz.func121,Tryz.ntmps121
 go_wp2_with fail;refine HC.out.mono ?_;rintro e w1 ⟨rfl,h1⟩;have H1:Hid (qar B c L ws vs w w1):=h1;clear h1;go_wp2_with fail;go_end0
 exact ⟨rfl,H1.out⟩
theorem qiz (B c q:Nat) (L:List Px.Ins) (ws vs:List ByteArray) (vl vw vv:Value) (w:World) (hM:MkAt w B c L ws vs vl vw vv) (hl:L.length≤10000000) :
  Calls Tryz.prog 121 #[.pointer (some ⟨c,0,none⟩),.iface 266 (.pointer (some ⟨q,0,none⟩))] w fun e w'=>e=.returned (.tuple #[])∧qar B c (L++[⟨17,0,0⟩]) ws vs w w':=by
 have f0:=zll;have f1:=zff;have f2:=zr4;have f3:=zlk;have f4:=qxh;have f5:=zfe;have HM:Hid (MkAt w B c L ws vs vl vw vv):=hM;clear hM;go_enter Tryz.func121,Tryz.ntmps121
 go_wp2_with fail;refine (qg5 B c 17 L ws vs vl vw vv w HM.out hl).mono ?_;rintro e w1 ⟨rfl,h1⟩;have H1:Hid (qar B c (L++[⟨17,0,0⟩]) ws vs w w1):=h1;clear h1;go_wp2_with fail;go_end0
 exact ⟨rfl,H1.out⟩
theorem qk6 (B c q qv tl ql:Nat) (word:ByteArray) (pv:Value) (L1 L2:List Px.Ins) (ws vs1 vs2:List ByteArray) (w:World) (hqB:q < B) (hqv:qv < B) (h4:w.heap[q]?=some (.cells #[.pointer (some ⟨qv,0,none⟩),.iface tl (.pointer (some ⟨ql,0,none⟩))] 253)) (h5:w.heap[qv]?=some (.cells #[.string word,pv] 257))
  (hl:L1.length≤10000000) (hx:word.size≤10000000) (hvs:vs1.length≤10000000) (hC:ExC B c tl ql L1 ws vs1 w) (e1:Px.addW vs1 word=vs2) (e2:L1++[⟨2,Px.idxW vs2 word,0⟩]=L2) :
  Calls Tryz.prog 121 #[.pointer (some ⟨c,0,none⟩),.iface 247 (.pointer (some ⟨q,0,none⟩))] w fun e w'=>e=.returned (.tuple #[])∧qar B c L2 ws vs2 w w':=by
 have f0:=zr2;have CQ:Hid (∀ W,Below B w W→(W.cell? ⟨q,0,none⟩=some (.pointer (some ⟨qv,0,none⟩))∧W.cell? ⟨q,1,none⟩=some (.iface tl (.pointer (some ⟨ql,0,none⟩)))∧∀ o,W.frozen? ⟨q,o,none⟩=false)∧W.cell? ⟨qv,0,none⟩=some (.string word)):=fun W hb=>⟨qfd ((hb.block q hqB).trans h4),(qfd ((hb.block qv hqv).trans h5)).1⟩
 have HC:Hid (ExC B c tl ql L1 ws vs1 w):=hC;have E1:Hid (Px.addW vs1 word=vs2):=e1;have E2:Hid (L1++[⟨2,Px.idxW vs2 word,0⟩]=L2):=e2;have HL:Hid (L1.length≤10000000∧word.size≤10000000∧vs1.length≤10000000):=⟨hl,hx,hvs⟩;clear h4 h5 hC e1 e2 hl hx hvs;obtain ⟨⟨c0,c1,cf⟩,c2⟩:=CQ.out w (Below.refl B w);go_enter Tryz.func121,Tryz.ntmps121
 go_wp2_with fail;refine Calls.mono HC.out ?_;rintro e w1 ⟨rfl,b1,vl1,vw1,vv1,h1⟩;have H1:Hid (Below B w w1∧MkAt w1 B c L1 ws vs1 vl1 vw1 vv1):=⟨b1,h1⟩;clear b1 h1 c0 c1 cf c2;obtain ⟨⟨c0,c1,cf⟩,c2⟩:=CQ.out w1 H1.out.1;go_wp2_with fail;refine (qce B c L1 _ _ word vl1 vw1 vv1 w1 H1.out.2 HL.out.2.1 HL.out.2.2).mono ?_;rintro e w2 ⟨rfl,b2,vl2,vw2,vv2,h2⟩;rw[E1.out] at h2;rw[E1.out];have H2:Hid (Below B w w2∧MkAt w2 B c L1 ws vs2 vl2 vw2 vv2):=⟨H1.out.1.trans b2,h2⟩;clear b2 h2 c0 c1 cf c2;go_wp2_with fail;refine (qmm B c 2 _ L1 _ _ vl2 vw2 vv2 w2 H2.out.2 HL.out.1).mono ?_;rintro e w3 ⟨rfl,b3,h3⟩
 rw[E2.out] at h3;have H3:Hid (qar B c L2 ws vs2 w w3):=⟨H2.out.1.trans b3,h3⟩;clear b3 h3;go_wp2_with fail;go_end0
 exact ⟨rfl,H3.out⟩
open Go.RowKit
theorem qq7 {w:World} {v:Value} {vs:List Value} {ok:Nat→Prop} (h:Lg.SlL w v vs ok):∃ a cap,v=.slice a vs.length cap∧vs.length≤maxLen:=by
 rcases h with ⟨h1,h2⟩ | ⟨g,cap,cur,h1,h2,h3,h4,h5,h6,h7⟩
 ·subst h2;exact ⟨none,0,h1,by simp⟩
 ·exact ⟨_,cap,h1,by omega⟩
theorem zrv {w:World} {v:Value} {vs:List Value} {ok:Nat→Prop} (h:Lg.SlL w v vs ok) {n:Nat} (hn:n < vs.length):∃ g cap,v=.slice (some ⟨g,0,none⟩) vs.length cap∧ok g∧w.cell? ⟨g,n,none⟩=some vs[n]:=by
 rcases h with ⟨h1,h2⟩ | ⟨g,cap,cur,h1,h2,h3,h4,h5,h6,h7⟩
 ·subst h2;simp at hn
 ·refine ⟨g,cap,h1,h2,?_⟩
  have:cur[n]?=some vs[n]:=by
   have h8:(cur.toList.take vs.length)[n]?=some vs[n]:=by rw[h7];exact List.getElem?_eq_getElem hn
   rw[List.getElem?_take_of_lt hn] at h8
   simpa using h8
  simp[World.cell?,h3,this]
theorem zhe {w:World} {l:List Px.Sm} {ok:Nat→Prop} {vs:List Value} (h:Lg.LsAt w l ok vs):vs.length=l.length:=by
 induction l generalizing vs with
 | nil=>simp[Lg.LsAt.qbl.1 h]
 | cons x l ih =>
  obtain ⟨v,vs',rfl,h1,h2⟩:=Lg.LsAt.qcy.1 h;simp[ih h1]
theorem zw2 {w:World} {l:List Px.Sm} {ok:Nat→Prop} {vs:List Value} (h:Lg.LsAt w l ok vs) (n:Nat) (hn:n < l.length) (hm:n < vs.length):Lg.SAt w l[n] ok vs[n]:=by
 induction l generalizing vs n with
 | nil=>simp at hn
 | cons x l ih =>
  obtain ⟨v,vs',rfl,h1,h2⟩:=Lg.LsAt.qcy.1 h;cases n with
  | zero=>exact h2
  | succ n=>exact ih h1 n (by simpa using hn) (by simpa using hm)
def StC (B c tl ql:Nat) (L:List Px.Ins) (ws vs:List ByteArray) (w:World):Prop :=
 Calls Tryz.prog 121 #[.pointer (some ⟨c,0,none⟩),.iface tl (.pointer (some ⟨ql,0,none⟩))] w fun e w'=>e=.returned (.tuple #[])∧qar B c L ws vs w w'
def StOk (B c:Nat) (WW VV:List ByteArray) (x:Px.Sm):Prop:=∀ (w:World) (L:List Px.Ins) (ws vs:List ByteArray) (vl vw vv:Value) (tl ql:Nat),
 Lg.SAt w x (· < B) (.iface tl (Ref.ptr ql))→MkAt w B c L ws vs vl vw vv→Gk w B→Px.wsX x ws <+: WW→Px.vsX x vs <+: VV→L.length+Px.szX x≤10000000→ws.length+Px.szX x≤10000000→vs.length+Px.szX x≤10000000 →
 StC B c tl ql (L++Px.mkX (Px.idxW WW) (Px.idxW VV) x L.length) (Px.wsX x ws) (Px.vsX x vs) w
def BkOk (B c:Nat) (WW VV:List ByteArray) (l:List Px.Sm):Prop:=∀ (w:World) (L:List Px.Ins) (ws vs:List ByteArray) (vl vw vv v:Value) (us:List Value),
 Lg.SlL w v us (· < B)→Lg.LsAt w l (· < B) us→MkAt w B c L ws vs vl vw vv→Gk w B→Px.wsS l ws <+: WW→Px.vsS l vs <+: VV→L.length+Px.szS l≤10000000→ws.length+Px.szS l≤10000000→vs.length+Px.szS l≤10000000 →
 BlC B c v (L++Px.mkS (Px.idxW WW) (Px.idxW VV) l L.length) (Px.wsS l ws) (Px.vsS l vs) w
def BkMid (B c:Nat) (WW VV:List ByteArray) (L0:List Px.Ins) (ws0 vs0:List ByteArray) (w0:World) (l:List Px.Sm) (w:World):Prop :=
 Below B w0 w∧∃ L ws vs vl vw vv,MkAt w B c L ws vs vl vw vv∧L++Px.mkS (Px.idxW WW) (Px.idxW VV) l L.length=L0∧Px.wsS l ws=ws0∧Px.vsS l vs=vs0∧L.length+Px.szS l≤10000000∧ws.length+Px.szS l≤10000000∧vs.length+Px.szS l≤10000000
theorem BkMid.step {B c:Nat} {WW VV:List ByteArray} {L0:List Px.Ins} {ws0 vs0:List ByteArray} {w0:World} {x:Px.Sm} {l:List Px.Sm} {w:World} (h:BkMid B c WW VV L0 ws0 vs0 w0 (x::l) w) (hx:StOk B c WW VV x) (hG:Gk w0 B) (hW:ws0 <+: WW) (hV:vs0 <+: VV) {tl ql:Nat} (hs:Lg.SAt w0 x (· < B) (.iface tl (Ref.ptr ql))) :
  ∃ L ws vs,StC B c tl ql L ws vs w∧∀ w',qar B c L ws vs w w'→BkMid B c WW VV L0 ws0 vs0 w0 l w':=by
 obtain ⟨hb,L,ws,vs,vl,vw,vv,hM,e1,e2,e3,b1,b2,b3⟩:=h;rw[Px.qh7] at e1;rw[Px.qhz] at e2;rw[Px.qjx] at e3;rw[Px.qfq] at b1 b2 b3;refine ⟨_,_,_,hx w L ws vs vl vw vv tl ql (hs.keep fun i hi=>hb.block i hi) hM (hG.below hb) ?_ ?_ (by omega) (by omega) (by omega),?_⟩
 ·refine (Px.qgn l _).trans ?_;rw[e2];exact hW
 ·refine (Px.qf7 l _).trans ?_;rw[e3];exact hV
 ·rintro w' ⟨b4,vl',vw',vv',hM'⟩;have n1:=Px.zqe (Px.idxW WW) (Px.idxW VV) x (Px.qne _ _ _) (Px.qne _ _ _) L.length;have n2:=Px.zpp x (Px.qon _) (Px.qon _) ws;have n3:=Px.zpr x (Px.qnc _) (Px.qnc _) vs;refine ⟨hb.trans b4,_,_,_,vl',vw',vv',hM',?_,e2,e3,by rw[List.length_append];omega,by omega,by omega⟩
  rw[List.length_append,List.append_assoc];exact e1
theorem qm6 (B c:Nat) (WW VV:List ByteArray) (l:List Px.Sm) (hx:∀ i (hi:i < l.length),StOk B c WW VV l[i]):BkOk B c WW VV l:=by
 intro w L ws vs vl vw vv v us hs hm hM hG hW hV hl1 hl2 hl3;generalize hL0:L++Px.mkS (Px.idxW WW) (Px.idxW VV) l L.length=L0;generalize hws0:Px.wsS l ws=ws0 at *;generalize hvs0:Px.vsS l vs=vs0 at *;have H0:Hid (BkMid B c WW VV L0 ws0 vs0 w l w):=⟨Below.refl B w,L,ws,vs,vl,vw,vv,hM,hL0,hws0,hvs0,hl1,hl2,hl3⟩;obtain ⟨va,vc,rfl,hml⟩:=qq7 hs;unfold maxLen at hml;have hlen:=zhe hm;have H:Hid (Lg.SlL w (.slice va us.length vc) us (· < B)∧Lg.LsAt w l (· < B) us∧Gk w B∧ws0 <+: WW∧vs0 <+: VV):=⟨hs,hm,hG,hW,hV⟩
 have HX:Hid (∀ i (hi:i < l.length),StOk B c WW VV l[i]):=hx;have HLen:Hid (us.length=l.length):=hlen;clear hs hm hM hG hW hV hl1 hl2 hl3 hx hlen hL0 hws0 hvs0;unfold BlC;go_enter Tryz.func44,Tryz.ntmps44
 go_wp2_with fail;go_loopw [8] (fun i wr=>∃ n:Nat,n≤us.length∧i=.int .i64 n∧Hid (BkMid B c WW VV L0 ws0 vs0 w (l.drop n) wr)) (fun i _=>us.length - (intOf i).toNat)
 case atStart=>exact ⟨0,by omega,rfl,H0.out⟩
 case round =>
  obtain ⟨n,hn,rfl,hr⟩:=hrel;by_cases hlt:n < us.length
  ·have hnl:n < l.length:=by have:=HLen.out;omega
   have hsat:=zw2 H.out.2.1 n hnl hlt;obtain ⟨t,q,hform⟩:=hsat.form;obtain ⟨g,cap,hgv,hg,hcell⟩:=zrv H.out.1 hlt;cases hgv;have hcr:wr.cell? ⟨g,n,none⟩=some (.iface t (.pointer (some ⟨q,0,none⟩))):=by rw[World.cell?_of_block (w:=w) (a:=⟨g,n,none⟩) (hr.out.1.block g hg),hcell,hform];rfl
   have hdrop:l.drop n=l[n]::l.drop (n+1):=List.drop_eq_getElem_cons hnl;have hr':=hr.out;rw[hdrop] at hr';rw[hform] at hsat;obtain ⟨L1,ws1,vs1,hC,hN⟩:=hr'.step (HX.out n hnl) H.out.2.2.1 H.out.2.2.2.1 H.out.2.2.2.2 hsat;have HC:Hid (StC B c t q L1 ws1 vs1 wr):=hC;have HN:Hid (∀ w',qar B c L1 ws1 vs1 wr w'→BkMid B c WW VV L0 ws0 vs0 w (l.drop (n+1)) w'):=hN;clear hC hN hr' hr hsat hcell hform hdrop;go_wp2_with fail;refine Calls.mono HC.out ?_;rintro e w1 ⟨rfl,h1⟩;have H1:Hid (BkMid B c WW VV L0 ws0 vs0 w (l.drop (n+1)) w1):=HN.out w1 h1;clear h1 HN HC hcr;go_wp2_with fail;exact ⟨⟨n+1,by omega,by go_num,H1.out⟩,by simp[intOf];omega⟩
  ·have hnl:l.drop n=[]:=List.drop_of_length_le (by have:=HLen.out;omega)
   rw[hnl] at hr;have H1:Hid (qar B c L0 ws0 vs0 w wr):=by
    obtain ⟨hb,L1,ws1,vs1,vl1,vw1,vv1,hM,e1,e2,e3,_⟩:=hr.out;rw[Px.qms,List.append_nil] at e1;rw[Px.qoo] at e2;rw[Px.qsc] at e3;subst e1 e2 e3;exact ⟨hb,vl1,vw1,vv1,hM⟩
   clear hr hnl;go_wp2_with fail;go_end0
   exact ⟨rfl,H1.out⟩
open Go.RowKit
theorem zts (k:Nat) (L a:List Px.Ins):qex (L++[⟨k,0,0⟩]++a) L.length=L++([⟨k,L.length+1+a.length,0⟩]++a):=by
 rw[List.append_assoc];exact zak L a k
theorem zw8 (k j:Nat) (L a b:List Px.Ins):qex (qex (L++[⟨k,0,0⟩]++a++[⟨j,0,0⟩]) L.length++b) (L++[(⟨k,0,0⟩:Px.Ins)]++a).length=L++([⟨k,L.length+1+a.length+1,0⟩]++(a++([⟨j,L.length+1+a.length+1+b.length,0⟩]++b))):=by
 rw[show L++[(⟨k,0,0⟩:Px.Ins)]++a++[(⟨j,0,0⟩:Px.Ins)]=L++[(⟨k,0,0⟩:Px.Ins)]++(a++[(⟨j,0,0⟩:Px.Ins)]) from List.append_assoc _ _ _,zts];have e:L++([(⟨k,L.length+1+(a++[(⟨j,0,0⟩:Px.Ins)]).length,0⟩:Px.Ins)]++(a++[(⟨j,0,0⟩:Px.Ins)]))++b=(L++([⟨k,L.length+1+(a++[(⟨j,0,0⟩:Px.Ins)]).length,0⟩]++a))++(⟨j,0,0⟩::b):=by simp
 have el:(L++[(⟨k,0,0⟩:Px.Ins)]++a).length=(L++([(⟨k,L.length+1+(a++[(⟨j,0,0⟩:Px.Ins)]).length,0⟩:Px.Ins)]++a)).length:=by simp
 rw[e,el,zak];have e1:L.length+1+(a++[(⟨j,0,0⟩:Px.Ins)]).length=L.length+1+a.length+1:=by simp;omega
 have e2:(L++([(⟨k,L.length+1+(a++[(⟨j,0,0⟩:Px.Ins)]).length,0⟩:Px.Ins)]++a)).length=L.length+1+a.length:=by simp;omega
 rw[e2,e1,List.append_assoc,List.append_assoc];rfl
theorem zs2 {u:ByteArray} (h:u.size=0):(!u.toList.isEmpty)=false:=by
 rw[ByteArray.toList_eq]
 have:u.data.toList.length=0:=by simpa using h
 rw[List.length_eq_zero_iff.1 this];rfl
theorem zvk {u:ByteArray} (h:¬ u.size=0):(!u.toList.isEmpty)=true:=by
 rw[ByteArray.toList_eq]
 have:u.data.toList.length≠0:=by simpa using h
 cases hh:u.data.toList with
 | nil=>rw[hh] at this;exact (this rfl).elim
 | cons _ _=>rfl
theorem zuf (B c:Nat) (VV:List ByteArray) (e:Px.Ex) (hw:Px.WfE e) (ht:Px.TrE e) (w:World) (L:List Px.Ins) (ws vs:List ByteArray) (vl vw vv:Value) (tl ql:Nat) (hX:Lg.XAt w e (· < B) (.iface tl (Ref.ptr ql))) (hM:MkAt w B c L ws vs vl vw vv) (hG:Gk w B) (hV:Px.vsE e vs <+: VV) (h1:L.length+Px.szE e≤10000000) (h2:vs.length+Px.szE e≤10000000) :
  ExC B c tl ql (L++Px.mkE (Px.idxW VV) e) ws (Px.vsE e vs) w:=qih B c VV e hw ht w L ws vs vl vw vv tl ql hX hM hG hV h1 h2
theorem zw6 (B c:Nat) (WW VV:List ByteArray) (x:Px.Sm) (hop:x.op=108) (w:World) (L:List Px.Ins) (ws vs:List ByteArray) (vl vw vv:Value) (q qv tl ql:Nat) (e:Px.Ex) (hx:x.ex=some e) (hw:Px.WfE e) (ht:Px.TrE e) (hq:q < B)
  (h2:w.heap[q]?=some (.cells #[Ref.ptr qv,.iface tl (Ref.ptr ql)] 253)) (h3:Lg.VarAt w x.word x.pl (· < B) qv) (h5:Lg.XAt w e (· < B) (.iface tl (Ref.ptr ql))) (hM:MkAt w B c L ws vs vl vw vv) (hG:Gk w B) (hV:Px.vsX x vs <+: VV) (hl:L.length+Px.szX x≤10000000) (hl3:vs.length+Px.szX x≤10000000) :
  StC B c 247 q (L++Px.mkX (Px.idxW WW) (Px.idxW VV) x L.length) (Px.wsX x ws) (Px.vsX x vs) w:=by
 have ev:Px.vsX x vs=Px.addW (Px.vsE e vs) x.word:=by unfold Px.vsX;rw[if_pos hop,hx];rfl
 have ew:Px.wsX x ws=ws:=by unfold Px.wsX;rw[if_neg (by omega),if_neg (by omega),if_neg (by omega)]
 have em:Px.mkX (Px.idxW WW) (Px.idxW VV) x L.length=Px.mkE (Px.idxW VV) e++[⟨2,Px.idxW VV x.word,0⟩]:=by unfold Px.mkX;rw[if_pos hop,hx];rfl
 have es:Px.szX x≥Px.szE e+x.word.size+100:=by unfold Px.szX;rw[hx];show _+Px.szE e+_+_+_+_+_+_≥_;omega
 have e1:=Px.qeo (Px.idxW VV) e;have e2:=Px.ql1 e;have e3:=Px.qkk e vs;rw[ev] at hV;have ei:Px.idxW VV x.word=Px.idxW (Px.addW (Px.vsE e vs) x.word) x.word:=Px.qlv (Px.qd3 _ _) hV;rw[ev,ew,em,ei];exact qk6 B c q qv tl ql x.word _ _ _ ws _ _ w hq h3.1 h2 h3.2 (by rw[List.length_append];omega) (by omega) (by omega) (zuf B c VV e hw ht w L ws vs vl vw vv tl ql h5 hM hG ((Px.qd6 _ _).trans hV) (by omega) (by omega)) rfl (List.append_assoc _ _ _)
theorem qyn (B c:Nat) (WW VV:List ByteArray) (x:Px.Sm) (hop:x.op=99) (w:World) (L:List Px.Ins) (ws vs:List ByteArray) (vl vw vv:Value) (q qn:Nat) (pa ps:Option Addr) (hw:∀ e,x.ex=some e→Px.WfE e) (ht:∀ e,x.ex=some e→Px.TrE e) (hq:q < B)
  (h2:w.heap[q]?=some (.cells #[.string x.word,.pointer pa,.pointer ps,.string x.undo,Ref.ptr qn] 315)) (h3:Lg.ArgAt w x.ex (· < B) (.pointer pa)) (h4:Lg.AsAt w x.asw x.asPl (· < B) (.pointer ps)) (h5:Lg.NumAt w x.n x.nPl (· < B) qn) (hM:MkAt w B c L ws vs vl vw vv) (hG:Gk w B) (hW:Px.wsX x ws <+: WW) (hV:Px.vsX x vs <+: VV) (hl:L.length+Px.szX x≤10000000) (hl2:ws.length+Px.szX x≤10000000) (hl3:vs.length+Px.szX x≤10000000) :
  StC B c 258 q (L++Px.mkX (Px.idxW WW) (Px.idxW VV) x L.length) (Px.wsX x ws) (Px.vsX x vs) w:=by
 have ev:Px.vsX x vs=if x.asw.size=0 then Px.vsO x.ex vs else Px.addW (Px.vsO x.ex vs) x.asw:=by unfold Px.vsX;rw[if_neg (by omega),if_pos hop]
 have ew:Px.wsX x ws=Px.wsC x.word x.undo ws:=by unfold Px.wsX;rw[if_pos hop]
 have em:Px.mkX (Px.idxW WW) (Px.idxW VV) x L.length=Px.mkC (Px.idxW WW) (Px.idxW VV) x.word x.ex x.asw x.undo x.n:=by unfold Px.mkX;rw[if_neg (by omega),if_pos hop]
 have es:Px.szX x≥Px.szO x.ex+x.word.size+x.asw.size+x.undo.size+100:=by unfold Px.szX;omega
 have e1:=Px.zhb (Px.idxW VV) x.ex;have e3:=Px.zps x.ex vs;have e4:=Px.qke ws x.word;have hvo:Px.vsO x.ex vs <+: VV:=by
  refine List.IsPrefix.trans ?_ hV;rw[ev];split
  ·exact List.prefix_refl _
  ·exact Px.qd6 _ _
 have hwo:Px.addW ws x.word <+: WW:=by
  refine List.IsPrefix.trans ?_ hW;rw[ew];unfold Px.wsC;split
  ·exact List.prefix_refl _
  ·exact Px.qd6 _ _
 have iw1:Px.idxW WW x.word=Px.idxW (Px.addW ws x.word) x.word:=Px.qlv (Px.qd3 _ _) hwo;have hA:ArgM B c w pa (L++Px.mkO (Px.idxW VV) x.ex) ws (Px.vsO x.ex vs):=by
  cases hx:x.ex with
  | none =>
   rw[hx] at h3;cases h3;exact Or.inl ⟨rfl,L,vl,vw,vv,hM,by omega,rfl⟩
  | some e =>
   rw[hx] at h3 e1 e3 hvo es;obtain ⟨qr,hp,hqr,tl,ql,hr1,hr2⟩:=h3;cases hp
   have:Px.szO (some e)=Px.szE e:=rfl
   exact Or.inr ⟨qr,tl,ql,_,rfl,hr1,zuf B c VV e (hw e hx) (ht e hx) w L ws vs vl vw vv tl ql hr2 hM hG hvo (by omega) (by omega)⟩
 rw[em];refine qi0 B c q _ _ _ w ?_;have e5:(L++Px.mkO (Px.idxW VV) x.ex).length=L.length+(Px.mkO (Px.idxW VV) x.ex).length:=List.length_append;have hmc:L++Px.mkC (Px.idxW WW) (Px.idxW VV) x.word x.ex x.asw x.undo x.n=(if x.undo.size=0 then L++Px.mkO (Px.idxW VV) x.ex++[⟨18,Px.idxW (Px.addW ws x.word) x.word,x.n⟩] else L++Px.mkO (Px.idxW VV) x.ex++[⟨18,Px.idxW (Px.addW ws x.word) x.word,x.n⟩]++[⟨19,Px.idxW WW x.undo,0⟩])++[if x.asw.size=0 then ⟨3,0,0⟩ else ⟨2,Px.idxW VV x.asw,0⟩]:=by
  unfold Px.mkC;rw[iw1];split<;>simp
 have hU:zvm x.undo (L++Px.mkO (Px.idxW VV) x.ex++[⟨18,Px.idxW (Px.addW ws x.word) x.word,x.n⟩]) (if x.undo.size=0 then L++Px.mkO (Px.idxW VV) x.ex++[⟨18,Px.idxW (Px.addW ws x.word) x.word,x.n⟩] else L++Px.mkO (Px.idxW VV) x.ex++[⟨18,Px.idxW (Px.addW ws x.word) x.word,x.n⟩]++[⟨19,Px.idxW WW x.undo,0⟩]) (Px.addW ws x.word) (Px.wsX x ws):=by
  by_cases hu:x.undo.size=0
  ·rw[if_pos hu];exact Or.inl ⟨zs2 hu,rfl,by rw[ew];unfold Px.wsC;rw[if_pos hu]⟩
  ·rw[if_neg hu];have e6:Px.wsX x ws=Px.addW (Px.addW ws x.word) x.undo:=by rw[ew];unfold Px.wsC;rw[if_neg hu]
   refine Or.inr ⟨zvk hu,e6.symm,?_⟩;rw[Px.qlv (a:=Px.wsX x ws) (by rw[e6];exact Px.qd3 _ _) hW]
 have hS:AsM B w ps x.asw (if x.undo.size=0 then L++Px.mkO (Px.idxW VV) x.ex++[⟨18,Px.idxW (Px.addW ws x.word) x.word,x.n⟩] else L++Px.mkO (Px.idxW VV) x.ex++[⟨18,Px.idxW (Px.addW ws x.word) x.word,x.n⟩]++[⟨19,Px.idxW WW x.undo,0⟩]) (L++Px.mkC (Px.idxW WW) (Px.idxW VV) x.word x.ex x.asw x.undo x.n) (Px.vsO x.ex vs) (Px.vsX x vs):=by
  rw[hmc];rcases h4 with ⟨ha,hp⟩ | ⟨ha,qs,hp,hqs,hc⟩
  ·cases hp;rw[if_pos ha];exact Or.inl ⟨rfl,rfl,by rw[ev,if_pos ha]⟩
  ·cases hp;have e6:Px.vsX x vs=Px.addW (Px.vsO x.ex vs) x.asw:=by rw[ev,if_neg (by omega)]
   rw[if_neg (by omega:¬ x.asw.size=0)]
   refine Or.inr ⟨qs,_,hqs,rfl,hc,e6.symm,?_⟩;rw[Px.qlv (a:=Px.vsX x vs) (by rw[e6];exact Px.qd3 _ _) hV]
 exact zjh B c q qn x.n _ pa ps x.word x.undo x.asw _ _ _ _ ws _ _ _ _ w hq h5.1 h2 h5.2 (by omega) (by rw[List.length_append,e5];simp;omega) (by split<;>simp<;>omega) (by omega) (by omega) (by omega) (by omega) (by omega) (by omega) hA rfl rfl hU hS
open Go.RowKit
theorem zjs {B c:Nat} {WW VV:List ByteArray} {l:List Px.Sm} (i:BkOk B c WW VV l) {w w1:World} {v:Value} {us:List Value} (hs:Lg.SlL w v us (· < B)) (hm:Lg.LsAt w l (· < B) us) (hG:Gk w B) {L:List Px.Ins} {ws vs:List ByteArray} (hp:qar B c L ws vs w w1) (hW:Px.wsS l ws <+: WW) (hV:Px.vsS l vs <+: VV) (h1:L.length+Px.szS l≤10000000) (h2:ws.length+Px.szS l≤10000000) (h3:vs.length+Px.szS l≤10000000) :
  BlC B c v (L++Px.mkS (Px.idxW WW) (Px.idxW VV) l L.length) (Px.wsS l ws) (Px.vsS l vs) w1:=by
 obtain ⟨b,vl,vw,vv,hM⟩:=hp;exact i w1 L ws vs vl vw vv v us (hs.keep fun k hk=>b.block k hk) (hm.keep fun k hk=>b.block k hk) hM (hG.below b) hW hV h1 h2 h3
theorem if_ok (B c:Nat) (WW VV:List ByteArray) (x:Px.Sm) (hop:x.op=105) (i1:BkOk B c WW VV x.one) (i2:BkOk B c WW VV x.two) (w:World) (L:List Px.Ins) (ws vs:List ByteArray) (vl vw vv:Value) (q qr:Nat) (e:Px.Ex) (hx:x.ex=some e) (hw:Px.WfE e) (ht:Px.TrE e) (hq:q < B) (v1 v2:Value) (u1 u2:List Value)
  (h2:w.heap[q]?=some (.cells #[Ref.ptr qr,v1,v2] 319)) (h3:Lg.RootAt w e (· < B) qr) (s1:Lg.SlL w v1 u1 (· < B)) (l1:Lg.LsAt w x.one (· < B) u1) (s2:Lg.SlL w v2 u2 (· < B)) (l2:Lg.LsAt w x.two (· < B) u2) (hM:MkAt w B c L ws vs vl vw vv) (hG:Gk w B) (hW:Px.wsX x ws <+: WW) (hV:Px.vsX x vs <+: VV) (hl:L.length+Px.szX x≤10000000) (hl2:ws.length+Px.szX x≤10000000) (hl3:vs.length+Px.szX x≤10000000) :
  StC B c 260 q (L++Px.mkX (Px.idxW WW) (Px.idxW VV) x L.length) (Px.wsX x ws) (Px.vsX x vs) w:=by
 have ev:Px.vsX x vs=Px.vsS x.two (Px.vsS x.one (Px.vsE e vs)):=by unfold Px.vsX;rw[if_neg (by omega),if_neg (by omega),if_pos hop,hx];rfl
 have ew:Px.wsX x ws=Px.wsS x.two (Px.wsS x.one ws):=by unfold Px.wsX;rw[if_neg (by omega),if_pos (Or.inl hop)]
 have es:Px.szX x≥Px.szE e+100+Px.szS x.one+Px.szS x.two:=by unfold Px.szX;rw[hx];show _+Px.szE e+_+_+_+_+_+_≥_;omega
 rw[ev] at hV;rw[ew] at hW;have m1:=Px.qeo (Px.idxW VV) e;have m2:=Px.ql1 e;have m3:=Px.qkk e vs;have m4:=Px.qne (Px.idxW WW) (Px.idxW VV) x.one (L.length+(Px.mkE (Px.idxW VV) e).length+1);have m5:=Px.qnc x.one (Px.vsE e vs);have m6:=Px.qon x.one ws;have hV1:Px.vsS x.one (Px.vsE e vs) <+: VV:=(Px.qf7 _ _).trans hV;have hW1:Px.wsS x.one ws <+: WW:=(Px.qgn _ _).trans hW;obtain ⟨hqr,tl,ql,hr1,hr2⟩:=h3;obtain ⟨a1,k1,rfl,_⟩:=qq7 s1;obtain ⟨a2,k2,rfl,_⟩:=qq7 s2;have hl1:=zhe l1;have hl2':=zhe l2;refine qo7 B c q _ _ _ w ?_;have hE:ExC B c tl ql (L++Px.mkE (Px.idxW VV) e) ws (Px.vsE e vs) w:=zuf B c VV e hw ht w L ws vs vl vw vv tl ql hr2 hM hG ((Px.qf7 _ _).trans hV1) (by omega) (by omega)
 have n1:(L++Px.mkE (Px.idxW VV) e).length=L.length+(Px.mkE (Px.idxW VV) e).length:=List.length_append;have n2:(L++Px.mkE (Px.idxW VV) e++[(⟨13,0,0⟩:Px.Ins)]).length=L.length+(Px.mkE (Px.idxW VV) e).length+1:=by rw[List.length_append,n1];rfl
 have hB1:∀ w1,qar B c (L++Px.mkE (Px.idxW VV) e++[⟨13,0,0⟩]) ws (Px.vsE e vs) w w1→BlC B c (.slice a1 u1.length k1) (L++Px.mkE (Px.idxW VV) e++[⟨13,0,0⟩]++Px.mkS (Px.idxW WW) (Px.idxW VV) x.one (L.length+(Px.mkE (Px.idxW VV) e).length+1)) (Px.wsS x.one ws) (Px.vsS x.one (Px.vsE e vs)) w1:=by
  intro w1 hp
  have:=zjs i1 s1 l1 hG hp hW1 hV1 (by rw[n2];omega) (by omega) (by omega)
  rw[n2] at this;exact this
 by_cases h0:x.two=[]
 ·have em:L++Px.mkX (Px.idxW WW) (Px.idxW VV) x L.length=qex (L++Px.mkE (Px.idxW VV) e++[⟨13,0,0⟩]++Px.mkS (Px.idxW WW) (Px.idxW VV) x.one (L.length+(Px.mkE (Px.idxW VV) e).length+1)) (L++Px.mkE (Px.idxW VV) e).length:=by
   rw[zts,n1,List.append_assoc];unfold Px.mkX;rw[if_neg (by omega),if_neg (by omega),if_pos hop,hx,h0]
   rfl
  rw[em,ew,ev,h0,Px.qsc,Px.qoo];rw[h0] at hl2';have hz:u2.length=0:=hl2';rw[hz] at h2;exact qwo B c q qr tl ql _ a1 a2 _ k1 k2 _ _ _ _ ws _ _ _ w hq h2 hr1 rfl rfl (by simp only[List.length_append];omega) (by simp only[List.length_append,List.length_cons,List.length_nil];omega) hE hB1
 ·have em:L++Px.mkX (Px.idxW WW) (Px.idxW VV) x L.length=qex (qex (L++Px.mkE (Px.idxW VV) e++[⟨13,0,0⟩]++Px.mkS (Px.idxW WW) (Px.idxW VV) x.one (L.length+(Px.mkE (Px.idxW VV) e).length+1)++[⟨12,0,0⟩]) (L++Px.mkE (Px.idxW VV) e).length++Px.mkS (Px.idxW WW) (Px.idxW VV) x.two (L.length+(Px.mkE (Px.idxW VV) e).length+1+(Px.mkS (Px.idxW WW) (Px.idxW VV) x.one (L.length+(Px.mkE (Px.idxW VV) e).length+1)).length+1)) (L++Px.mkE (Px.idxW VV) e++[(⟨13,0,0⟩:Px.Ins)]++Px.mkS (Px.idxW WW) (Px.idxW VV) x.one (L.length+(Px.mkE (Px.idxW VV) e).length+1)).length:=by
   rw[zw8,n1,List.append_assoc];have hz:x.two.isEmpty=false:=by cases hh:x.two with
    | nil=>exact (h0 hh).elim
    | cons _ _=>rfl
   unfold Px.mkX;rw[if_neg (by omega),if_neg (by omega),if_pos hop,hx,hz]
   rfl
  rw[em,ew,ev];have hpos:0 < u2.length:=by
   rw[hl2'];exact List.length_pos_iff.2 h0
  have n3:(qex (L++Px.mkE (Px.idxW VV) e++[⟨13,0,0⟩]++Px.mkS (Px.idxW WW) (Px.idxW VV) x.one (L.length+(Px.mkE (Px.idxW VV) e).length+1)++[⟨12,0,0⟩]) (L++Px.mkE (Px.idxW VV) e).length).length=L.length+(Px.mkE (Px.idxW VV) e).length+1+(Px.mkS (Px.idxW WW) (Px.idxW VV) x.one (L.length+(Px.mkE (Px.idxW VV) e).length+1)).length+1:=by
   rw[qjk,List.length_append,List.length_append,n2];rfl
  refine qwn B c q qr tl ql _ a1 a2 _ _ k1 k2 _ _ _ _ _ _ ws _ _ _ _ _ w hq h2 hpos hr1 rfl rfl rfl (by simp only[List.length_append];omega) (by simp only[List.length_append,List.length_cons,List.length_nil];omega) (by simp only[List.length_append,List.length_cons,List.length_nil];omega) (by simp only[List.length_append,qjk,List.length_cons,List.length_nil];omega) hE hB1 ?_
  intro w1 hp
  have:=zjs i2 s2 l2 hG hp hW hV (by rw[n3];omega) (by omega) (by omega)
  rw[n3] at this;exact this
theorem zv4 (B c:Nat) (WW VV:List ByteArray) (x:Px.Sm) (hop:x.op=116) (i1:BkOk B c WW VV x.one) (i2:BkOk B c WW VV x.two) (w:World) (L:List Px.Ins) (ws vs:List ByteArray) (vl vw vv:Value) (q:Nat) (hq:q < B) (v1 v2:Value) (u1 u2:List Value)
  (h2:w.heap[q]?=some (.cells #[v1,v2] 322)) (s1:Lg.SlL w v1 u1 (· < B)) (l1:Lg.LsAt w x.one (· < B) u1) (s2:Lg.SlL w v2 u2 (· < B)) (l2:Lg.LsAt w x.two (· < B) u2) (hM:MkAt w B c L ws vs vl vw vv) (hG:Gk w B) (hW:Px.wsX x ws <+: WW) (hV:Px.vsX x vs <+: VV) (hl:L.length+Px.szX x≤10000000) (hl2:ws.length+Px.szX x≤10000000) (hl3:vs.length+Px.szX x≤10000000) :
  StC B c 262 q (L++Px.mkX (Px.idxW WW) (Px.idxW VV) x L.length) (Px.wsX x ws) (Px.vsX x vs) w:=by
 have ev:Px.vsX x vs=Px.vsS x.two (Px.vsS x.one vs):=by unfold Px.vsX;rw[if_neg (by omega),if_neg (by omega),if_neg (by omega),if_pos hop]
 have ew:Px.wsX x ws=Px.wsS x.two (Px.wsS x.one ws):=by unfold Px.wsX;rw[if_neg (by omega),if_pos (Or.inr hop)]
 have es:Px.szX x≥100+Px.szS x.one+Px.szS x.two:=by unfold Px.szX;omega
 rw[ev] at hV;rw[ew] at hW;have m4:=Px.qne (Px.idxW WW) (Px.idxW VV) x.one (L.length+1);have m5:=Px.qnc x.one vs;have m6:=Px.qon x.one ws;have hV1:Px.vsS x.one vs <+: VV:=(Px.qf7 _ _).trans hV;have hW1:Px.wsS x.one ws <+: WW:=(Px.qgn _ _).trans hW;obtain ⟨a1,k1,rfl,_⟩:=qq7 s1;obtain ⟨a2,k2,rfl,_⟩:=qq7 s2;refine qk5 B c q _ _ _ w ?_;have n2:(L++[(⟨15,0,0⟩:Px.Ins)]).length=L.length+1:=by rw[List.length_append];rfl
 have n3:(qex (L++[⟨15,0,0⟩]++Px.mkS (Px.idxW WW) (Px.idxW VV) x.one (L.length+1)++[⟨16,0,0⟩]) L.length).length=L.length+1+(Px.mkS (Px.idxW WW) (Px.idxW VV) x.one (L.length+1)).length+1:=by
  rw[qjk,List.length_append,List.length_append,n2];rfl
 have em:L++Px.mkX (Px.idxW WW) (Px.idxW VV) x L.length=qex (qex (L++[⟨15,0,0⟩]++Px.mkS (Px.idxW WW) (Px.idxW VV) x.one (L.length+1)++[⟨16,0,0⟩]) L.length++Px.mkS (Px.idxW WW) (Px.idxW VV) x.two (L.length+1+(Px.mkS (Px.idxW WW) (Px.idxW VV) x.one (L.length+1)).length+1)) (L++[(⟨15,0,0⟩:Px.Ins)]++Px.mkS (Px.idxW WW) (Px.idxW VV) x.one (L.length+1)).length:=by
  rw[zw8];unfold Px.mkX;rw[if_neg (by omega),if_neg (by omega),if_neg (by omega),if_pos hop]
 rw[em,ew,ev];refine zky B c q a1 a2 _ _ k1 k2 L _ _ _ _ _ ws vs (Px.wsS x.one ws) (Px.vsS x.one vs) _ _ vl vw vv w hq hM h2 rfl rfl rfl (by omega) (by simp only[List.length_append,List.length_cons,List.length_nil];omega) (by simp only[List.length_append,List.length_cons,List.length_nil];omega) (by simp only[List.length_append,qjk,List.length_cons,List.length_nil];omega) ?_ ?_
 ·intro w1 hp
  have:=zjs i1 s1 l1 hG hp hW1 hV1 (by rw[n2];omega) (by omega) (by omega)
  rw[n2] at this;exact this
 ·intro w1 hp
  have:=zjs i2 s2 l2 hG hp hW hV (by rw[n3];omega) (by omega) (by omega)
  rw[n3] at this;exact this
theorem zfq (B c:Nat) (WW VV:List ByteArray) (x:Px.Sm) (hop:x.op=114) (i1:BkOk B c WW VV x.one) (w:World) (L:List Px.Ins) (ws vs:List ByteArray) (vl vw vv:Value) (q qn:Nat) (hq:q < B) (v1:Value) (u1:List Value)
  (h2:w.heap[q]?=some (.cells #[Ref.ptr qn,v1] 293)) (h3:Lg.NumAt w x.n x.nPl (· < B) qn) (s1:Lg.SlL w v1 u1 (· < B)) (l1:Lg.LsAt w x.one (· < B) u1) (hM:MkAt w B c L ws vs vl vw vv) (hG:Gk w B) (hW:Px.wsX x ws <+: WW) (hV:Px.vsX x vs <+: VV) (hl:L.length+Px.szX x≤10000000) (hl2:ws.length+Px.szX x≤10000000) (hl3:vs.length+Px.szX x≤10000000) :
  StC B c 264 q (L++Px.mkX (Px.idxW WW) (Px.idxW VV) x L.length) (Px.wsX x ws) (Px.vsX x vs) w:=by
 have ev:Px.vsX x vs=Px.vsS x.one vs:=by unfold Px.vsX;rw[if_neg (by omega),if_neg (by omega),if_neg (by omega),if_neg (by omega),if_pos hop]
 have ew:Px.wsX x ws=Px.wsS x.one ws:=by unfold Px.wsX;rw[if_neg (by omega),if_neg (by omega),if_pos hop]
 have es:Px.szX x≥100+Px.szS x.one:=by unfold Px.szX;omega
 rw[ev] at hV;rw[ew] at hW;have m4:=Px.qne (Px.idxW WW) (Px.idxW VV) x.one (L.length+2);obtain ⟨a1,k1,rfl,_⟩:=qq7 s1;refine qkn B c q _ _ _ w ?_;have n1:(L++[(⟨0,x.n,0⟩:Px.Ins)]).length=L.length+1:=by rw[List.length_append];rfl
 have n2:(L++[(⟨0,x.n,0⟩:Px.Ins)]++[(⟨14,0,0⟩:Px.Ins)]).length=L.length+2:=by rw[List.length_append,n1];rfl
 have em:L++Px.mkX (Px.idxW WW) (Px.idxW VV) x L.length=qex (L++[⟨0,x.n,0⟩]++[⟨14,0,0⟩]++Px.mkS (Px.idxW WW) (Px.idxW VV) x.one (L.length+2)++[⟨12,(L++[(⟨0,x.n,0⟩:Px.Ins)]).length,0⟩]) (L++[(⟨0,x.n,0⟩:Px.Ins)]).length:=by
  rw[List.append_assoc (L++[(⟨0,x.n,0⟩:Px.Ins)]++[(⟨14,0,0⟩:Px.Ins)]),zts,n1,List.append_assoc];have e9:L.length+1+1+(Px.mkS (Px.idxW WW) (Px.idxW VV) x.one (L.length+2)++[(⟨12,L.length+1,0⟩:Px.Ins)]).length=L.length+2+(Px.mkS (Px.idxW WW) (Px.idxW VV) x.one (L.length+2)).length+1:=by simp;omega
  rw[e9];unfold Px.mkX;rw[if_neg (by omega),if_neg (by omega),if_neg (by omega),if_neg (by omega),if_pos hop]
 rw[em,ew,ev];refine qxk B c q qn x.n _ a1 _ k1 L _ _ _ _ _ ws vs _ _ vl vw vv w hq hM h2 h3.2 rfl rfl rfl rfl (by omega) (by simp only[List.length_append,List.length_cons,List.length_nil];omega) (by simp only[List.length_append,List.length_cons,List.length_nil];omega) (by simp only[List.length_append,List.length_cons,List.length_nil];omega) ?_
 intro w1 hp
 have:=zjs i1 s1 l1 hG hp hW hV (by rw[n2];omega) (by omega) (by omega)
 rw[n2] at this;exact this
theorem st_ok (B c:Nat) (WW VV:List ByteArray) (x:Px.Sm) (hw:Px.WfH x) (ht:∀ e,x.ex=some e→Px.TrE e) (i1:BkOk B c WW VV x.one) (i2:BkOk B c WW VV x.two):StOk B c WW VV x:=by
 intro w L ws vs vl vw vv tl ql hs hM hG hW hV hl hl2 hl3;obtain ⟨v1,v2,u1,u2,⟨q,hq,hnd⟩,s1,l1,s2,l2⟩:=hs;rcases hnd with ⟨h0,h1,qv,tl',ql',e,h2,h3,h4,h5⟩ | ⟨h0,h1,pa,ps,qn,h2,h3,h4,h5⟩ | ⟨h0,h1,qr,e,h2,h3,h4⟩ | ⟨h0,h1,h2⟩ | ⟨h0,h1,qn,h2,h3⟩ | ⟨h0,h1⟩
 ·cases h1;exact zw6 B c WW VV x h0 w L ws vs vl vw vv _ qv tl' ql' e h4 (hw.1 e h4) (ht e h4) hq h2 h3 h5 hM hG hV hl hl3
 ·cases h1;exact qyn B c WW VV x h0 w L ws vs vl vw vv _ qn pa ps hw.1 ht hq h2 h3 h4 h5 hM hG hW hV hl hl2 hl3
 ·cases h1;exact if_ok B c WW VV x h0 i1 i2 w L ws vs vl vw vv _ qr e h3 (hw.1 e h3) (ht e h3) hq v1 v2 u1 u2 h2 h4 s1 l1 s2 l2 hM hG hW hV hl hl2 hl3
 ·cases h1;exact zv4 B c WW VV x h0 i1 i2 w L ws vs vl vw vv _ hq v1 v2 u1 u2 h2 s1 l1 s2 l2 hM hG hW hV hl hl2 hl3
 ·cases h1;exact zfq B c WW VV x h0 i1 w L ws vs vl vw vv _ qn hq v1 u1 h2 h3 s1 l1 hM hG hW hV hl hl2 hl3
 ·cases h1;have ev:Px.vsX x vs=vs:=by unfold Px.vsX;rw[if_neg (by omega),if_neg (by omega),if_neg (by omega),if_neg (by omega),if_neg (by omega)]
  have ew:Px.wsX x ws=ws:=by unfold Px.wsX;rw[if_neg (by omega),if_neg (by omega),if_neg (by omega)]
  have em:Px.mkX (Px.idxW WW) (Px.idxW VV) x L.length=[⟨17,0,0⟩]:=by unfold Px.mkX;rw[if_neg (by omega),if_neg (by omega),if_neg (by omega),if_neg (by omega),if_neg (by omega)]
  rw[em,ew,ev];exact qiz B c _ L ws vs vl vw vv w hM (by omega)
theorem qma (B c:Nat) (WW VV:List ByteArray) (l:List Px.Sm) (hw:Px.WfS l) (ht:Px.TrS l):∀ i (hi:i < l.length),StOk B c WW VV l[i]:=by
 match l,hw,ht with
 | [],_,_=>intro i hi;simp at hi
 | ⟨op,word,pl,ex,asw,asPl,undo,n,nPl,one,two⟩::rest,hw,ht =>
  obtain ⟨w0,w1,w2,w3⟩:=Px.qd7.1 hw;rw[Px.TrS] at ht;obtain ⟨t0,t1,t2,t3⟩:=ht;intro i hi;cases i with
  | zero=>exact st_ok B c WW VV _ w0 t0 (qm6 B c WW VV one (qma B c WW VV one w1 t1)) (qm6 B c WW VV two (qma B c WW VV two w2 t2))
  | succ i=>exact qma B c WW VV rest w3 t3 i (by simpa using hi)
theorem qqg (B c:Nat) (WW VV:List ByteArray) (l:List Px.Sm) (hw:Px.WfS l) (ht:Px.TrS l):BkOk B c WW VV l:=qm6 B c WW VV l (qma B c WW VV l hw ht)
end Mk
end Go.Proofs.YtagpnplggopoeaaGreatDoor
