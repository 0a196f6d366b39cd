import Derived.Test.YtgkhgealpneodaaGreatDoorG35
import Derived.Lib.ItoaLen
import Derived.Test.YtgkhgealpneodaaGreatDoorG24
import Derived.Test.YtgkhgealpneodaaGreatDoorG10
set_option maxRecDepth 100000
set_option maxHeartbeats 4000000
namespace Go.Proofs.YtgkhgealpneodaaGreatDoor
open Go.RowKit
namespace Gj
open Gf
open Gf (F0 F1 mq jN)
def ykp(B b:Nat)(q:Int)(v:dZ)(fb:Nat)(C d:dX)(w:dY)(e:Ending)(w':dY):Prop:=e=fM (.bool (mq q C.size d.size))/\F1 w' B b q v fb (if mq q C.size d.size then C++d else C)/\fE (fun k=>k=b\/k=fb) w w'
theorem eE(B b:Nat)(q:Int)(v:dZ)(fb:Nat)(C d:dX)(w:dY)(hC:C.size+d.size<=1000000000000)(hq0:0<=q)(h:F1 w B b q v fb C):fI 95 #[fq b,.string d] w (ykp B b q v fb C d w):=by
 have HA:Hid _:=ykc B b q v fb C d w hC hq0 h;have HS:Hid (∀w1,F1 w1 B b q v fb (C++d)->_):=fun w1 h1=>Le B b q v fb (C++d) w1 h1;go_enter Tryz.func95,Tryz.ntmps95;go_wp2_with fail;refine aB HA.o ?_;rintro e w1 ⟨rfl,h1,t1⟩;cases hok:mq q C.size d.size with| false=>rw[hok,ah (by decide)]at h1;have H1:Hid (F1 w1 B b q v fb C/\fE (fun k=>k=b\/k=fb) w w1):=⟨h1,t1⟩;go_wp2_with fail;go_ret;exact⟨by rw[hok]<;>rfl,by rw[hok,ah (by decide)];exact H1.o.1,H1.o.2⟩| true=>
 rw[hok,aA rfl]at h1;have H1:Hid (F1 w1 B b q v fb (C++d)/\fE (fun k=>k=b\/k=fb) w w1):=⟨h1,t1⟩;go_wp2_with fail;refine aB (HS.o w1 H1.o.1) ?_;rintro e w2 ⟨rfl,h2,t2⟩;have H2:Hid (F1 w2 B b q v fb (C++d)/\fE (fun k=>k=b\/k=fb) w w2):=⟨h2,H1.o.2.trans t2⟩;go_wp2_with fail;go_ret;exact⟨by rw[hok]<;>rfl,by rw[hok,aA rfl];exact H2.o.1,H2.o.2⟩
end Gj
namespace Gf
open Fi
theorem yjs(B b:Nat)(q:Int)(v:dZ)(fb:Nat)(C:dX)(w:dY)(h:F1 w B b q v fb C):fI 96 #[fq b,.string jN] w fun e w'=>e=fM (.bool true)/\fE (·=b) w w'/\∃v',Bq w' b v' q:=by
 have HS:Hid _:=OV b v q w h.bk;have HF:Hid (∀w1,F1 w1 B b q v fb C->_):=fun w1 h1=>OW B b q v fb C w1 h1;have H:Hid _:=h;go_enter Tryz.func96,Tryz.ntmps96;go_wp2_with fail;refine aB HS.o ?_;rintro e w1 ⟨rfl,hb1,ht1⟩;have H1:Hid (F1 w1 B b q v fb C/\fE (·=b) w w1):=⟨H.o.step ht1 hb1,ht1⟩;go_wp2_with fail;refine aB (HF.o w1 H1.o.1) ?_;rintro e w2 ⟨rfl,hb⟩;have H2:Hid (F1 w2 B b q v fb C/\fE (·=b) w w2):=⟨H1.o.1.below hb,H1.o.2.trans (((fE.refl (fun _=>False) w1).below hb).mono fun _ _ h=>h.elim)⟩;obtain⟨g,cap,n,x,rfl,r0,c0,c1,c2,c3,c4,d0,d1,d2,cf,df,cl,dl⟩:=H2.o.1.cells;have hcap:1<=cap:=by
  obtain⟨e,_⟩|⟨g',cap',cur,e,_,_,k4,_⟩:=H2.o.1.row.2;·cases e
  cases e;exact k4
 have eI:(1:Int)<=(cap:Int):=by omega
 obtain⟨i0,hi0,hz0,hz1,hz2⟩:=info_parts cW;have SC:Hid (∀W:dY,W.setCells g (0+0*1) []=W):=fun W=>rfl;have hwr:IntKind.i64.wrap 1=1:=by rw[IntKind.wrap_i64]<;>rfl
 have HT:Hid (∀W,(W=w2.drew.setCell ⟨b,0,none⟩ (.slice (some ⟨g,0,none⟩) 0 0)\/W=(w2.setCell ⟨b,0,none⟩ (.slice (some ⟨g,0,none⟩) 0 0)).drew)->fE (·=b) w W/\∃v',Bq W b v' q):=by
  obtain⟨nn,hnn⟩:=H2.o.1.bk;rintro W (rfl|rfl);·refine⟨fE.setCell (T:=(·=b)) H2.o.2.drew (p:=⟨b,0,none⟩) (ak rfl) _,.slice (some ⟨g,0,none⟩) 0 0,nn,?_⟩;rw[Ref.heap_set (w:=w2.drew) _ hnn];all_goals rfl
  refine⟨(fE.setCell (T:=(·=b)) H2.o.2 (p:=⟨b,0,none⟩) (ak rfl) _).drew,.slice (some ⟨g,0,none⟩) 0 0,nn,?_⟩;show(w2.setCell ⟨b,0,none⟩ (.slice (some ⟨g,0,none⟩) 0 0)).heap[b]?=_;rw[Ref.heap_set _ hnn];all_goals rfl
 by_cases hc1:cap=1
 ·subst hc1;go_wp2_with fail;go_region_law (refine step_append_room rfl _ _ 51 rfl 159 i0 1 Tryz.underlying51 hi0 hz1 g 0 0 0 rfl _ 0 _ [] rfl rfl (fun _ _ h=>by cases h) (fun _ h=>by cases h) (ay _) (fun _ h=>absurd h (Nat.not_lt_zero _)) ?_;rw[SC.o])
  all_goals
   go_wp2_with fail;go_ret;exact⟨rfl,HT.o _ (by first|exact ak rfl|exact aj rfl)⟩
 have hcx:¬(cap:Int)=1:=by omega
 go_wp2_with fail;go_region_law (refine step_append_room rfl _ _ 51 rfl 159 i0 1 Tryz.underlying51 hi0 hz1 g 0 0 0 rfl _ 0 _ [] rfl rfl (fun _ _ h=>by cases h) (fun _ h=>by cases h) (ay _) (fun _ h=>absurd h (Nat.not_lt_zero _)) ?_;rw[SC.o])
 all_goals
  go_wp2_with fail;go_ret;exact⟨rfl,HT.o _ (by first|exact ak rfl|exact aj rfl)⟩
end Gf
namespace Gj
open Cd Fi Gf Jn Lg Ref
open Gf (F0 F1 mq jN)
theorem yim(B b:Nat)(q:Int)(v:dZ)(fb:Nat)(C:dX)(er st f t:Addr)(x:dZ)(u:FrameMode)(w:dY)(h:w.cell? er=some (.iface 120 x))(hs:w.cell? st=some (.bool false))(hf:w.cell? f=some (fq b))(h1:F1 w B b q v fb C):CallsD Tryz.prog 94 #[.pointer (some er),.pointer (some st),.pointer (some f),.pointer (some t)] u w fun e u' w'=>u'=u/\(e=fM (.tuple #[])/\fE (·=b) w w'/\∃v',Bq w' b v' q):=by
 have HR:Hid _:=yjs B b q v fb C w h1;go_enter_d Tryz.func94,Tryz.ntmps94
 go_wp2_with fail;refine aB HR.o ?_;rintro e w1 ⟨rfl,ht⟩;have HT:Hid _:=ht;go_wp2_with fail;go_end0
 exact⟨rfl,HT.o⟩
theorem yj6(d:dX):(⟨#[]⟩:dX)++d=d:=by apply ByteArray.ext;simp
def FZ(n:Nat)(v v':dZ)(fb:Nat):Prop:=n<=fb/\∀k,v'.ownBlock=some k->v.ownBlock=some k\/n<=k
theorem FZ.mono{n m:Nat}{v v':dZ}{fb:Nat}(h:FZ n v v' fb)(hm:m<=n):FZ m v v' fb:=⟨aK hm h.1,fun k hk=>(h.2 k hk).imp id (aK hm)⟩
def UF(E:Nat->Addr)(B b:Nat)(q:Int)(v:dZ)(d:dX)(w:dY)(e:Ending)(w':dY):Prop:=
 fE (fun k=>k=b\/v.ownBlock=some k) w w' /\
 ((mq q 0 d.size=true/\e=fM .nilIface/\∃v' fb,FZ w.heap.size v v' fb/\F1 w' B b q v' fb d) \/
  (mq q 0 d.size=false/\∃f,e=fM (.iface 120 (fq f))/\Jn.FJ w' f (.iface 393 (.pointer (some (E 8))))/\∃v',Bq w' b v' q))
theorem yin(E:Nat->Addr)(B b:Nat)(q:Int)(v:dZ)(d:dX)(w:dY)(h:F0 w B b q v)(hB:B<=w.heap.size)(hG:21<=B)(hd:d.size<=1000000)(hq0:0<=q)(g:Lg.q8 w E):fI 49 #[fq b,.string d] w (UF E B b q v d w):=by
 have Dl:∀(fn:Fn)(first cap:Array dZ)(w:dY),(Instr.makeFunc fn first cap).run Tryz.prog w=.ok (.func fn first cap) w:=fun _ _ _ _=>rfl;have HR:Hid (∀w1,gU w w1->_):=fun w1 h1=>dE B b q v w1 (h.below h1);have HC:Hid (∀w1,gU w w1->_):=fun w1 h1=>yj9 B b q v w1 (h.below h1) (aK hB h1.size);have HW:Hid (∀v' fb w1,F1 w1 B b q v' fb ⟨#[]⟩->_):=fun v' fb w1 h1=>eE B b q v' fb ⟨#[]⟩ d w1 (by show 0+d.size<=_;omega) hq0 h1;have hbl:b<w.heap.size:=by obtain⟨n,hn⟩:=h.bk;exact lt_of_block hn
 have HZ:Hid ((∀k,v.ownBlock=some k->B<=k/\k<w.heap.size)/\B<=b/\Lg.q8 w E):=⟨fun k hk=>h.row.lt k hk,h.lo,g⟩;have hb0:gU w ((w.alloc (.cells #[fq b] 28)).alloc (.cells #[.nilIface] 63)):=((aF _ _).alloc (ay _) _).alloc (by simp) _;have HB0:Hid _:=hb0;go_enter_defers Tryz.func49,Tryz.ntmps49
 go_wp2_with fail;refine aB (HR.o _ HB0.o) ?_;rintro e w1 ⟨rfl,hb1⟩;have B1:Hid (gU w w1):=HB0.o.trans (hb1.mono HB0.o.size);have hz1:w.heap.size+2<=w1.heap.size:=by have:=hb1.size;simp at this;omega
 have cF:w1.heap[w.heap.size]?=some (.cells #[fq b] 28):=by rw[hb1.block w.heap.size (by show w.heap.size<((w.heap.push _).push _).size;simp only[dS];omega)];show((w.heap.push _).push _)[w.heap.size]?=_;rw[aD,ah (by rw[dS];omega),aD,aA rfl]
 have cE:w1.heap[w.heap.size+1]?=some (.cells #[.nilIface] 63):=by rw[hb1.block (w.heap.size+1) (by show w.heap.size+1<((w.heap.push _).push _).size;simp only[dS];omega)];show((w.heap.push _).push _)[w.heap.size+1]?=_;rw[xJ]
 have hb2:gU w1 ((w1.alloc (.cells #[.string ⟨#[]⟩] 9)).alloc (.cells #[.bool false] 4)):=((aF _ _).alloc (ay _) _).alloc (by simp) _;have eK:=(hb2.block w.heap.size (by omega)).trans cF;have cE2:=(hb2.block (w.heap.size+1) (by omega)).trans cE;have cS2:((w1.alloc (.cells #[.string ⟨#[]⟩] 9)).alloc (.cells #[.bool false] 4)).heap[w1.heap.size+1]?=some (.cells #[.bool false] 4):=by show((w1.heap.push _).push _)[w1.heap.size+1]?=_;rw[xJ]
 have cF3:((w1.alloc (.cells #[.string ⟨#[]⟩] 9)).alloc (.cells #[.bool false] 4)).cell? ⟨w.heap.size,0,none⟩=some (fq b):=by simp[World.cell?,eK]
 have B2:Hid (gU w ((w1.alloc (.cells #[.string ⟨#[]⟩] 9)).alloc (.cells #[.bool false] 4))):=B1.o.trans (hb2.mono B1.o.size);have X2:Hid (_/\_/\_):=⟨eK,cE2,cS2⟩;go_wp2_with fail;refine aB (HC.o _ B2.o) ?_;generalize ((w1.alloc (.cells #[.string ⟨#[]⟩] 9)).alloc (.cells #[.bool false] 4))=W at *;rintro e w2 ⟨rfl,v',fb,hfr,f2,t2⟩;have FR:Hid (FZ W.heap.size v v' fb):=hfr;have UG:=hfr.1;have hWz:=B2.o.size;have hn:∀k,w.heap.size<=k->¬(k=b\/v.ownBlock=some k):=fun k hk h=>by
  obtain h|h:=h;·omega
  have:=(HZ.o.1 _ h).2;omega
 have Ab:∀k o,w.heap.size<=k->W.heap[k]?=some o->w2.heap[k]?=some o:=fun k o hk ho=>(t2.block _ (lt_of_block ho) (hn _ hk)).trans ho;have yF:=Ab _ _ (ay _) X2.o.1;have yE:=Ab _ _ (by omega) X2.o.2.1;have yS:=Ab _ _ (by omega) X2.o.2.2;have hWl:w1.heap.size+1<W.heap.size:=lt_of_block X2.o.2.2;have cF4:w2.cell? ⟨w.heap.size,0,none⟩=some (fq b):=by simp[World.cell?,yF]
 have H2:Hid (F1 w2 B b q v' fb ⟨#[]⟩/\fE (fun k=>k=b\/v.ownBlock=some k) w w2/\w2.heap[w.heap.size]?=_/\w2.heap[w.heap.size+1]?=_/\w2.heap[w1.heap.size+1]?=_):=⟨f2,(((fE.refl (fun _=>False) w).below B2.o).mono fun _ _ h=>h.elim).trans t2,yF,yE,yS⟩;go_wp2_with fail;refine aB (HW.o v' fb w2 H2.o.1) ?_;rintro e w3 ⟨rfl,f3,t3⟩;have hq3:∀k,w.heap.size<=k->k<W.heap.size->¬(k=b\/k=fb):=by rintro k h1 h2 (h|h)<;>omega
 have zF:=(t3.block _ (lt_of_block H2.o.2.2.1) (hq3 _ (ay _) (by omega))).trans H2.o.2.2.1;have zE:=(t3.block _ (lt_of_block H2.o.2.2.2.1) (hq3 _ (by omega) (by omega))).trans H2.o.2.2.2.1;have zS:=(t3.block _ (lt_of_block H2.o.2.2.2.2) (hq3 _ (by omega) (by omega))).trans H2.o.2.2.2.2;have e1:w3.cell? ⟨w.heap.size+1,0,none⟩=some .nilIface:=by simp[World.cell?,zE]
 have e2:w3.frozen? ⟨w.heap.size+1,0,none⟩=false:=by simp[World.frozen?,zE]
 have hl1:w.heap.size+1<w3.heap.size:=lt_of_block zE;have T3:Hid (fE (fun k=>k=b\/v.ownBlock=some k) w w3):=fE.new H2.o.2.1 t3 fun k hk h=>by
  obtain h|h:=h;·exact ak h
  omega
 have hz3:w.heap.size<=w3.heap.size:=T3.o.size;have HO:Hid (¬(w.heap.size+1=b)/\¬(w.heap.size+1=fb)/\v'.ownBlock≠some (w.heap.size+1)):=⟨by omega,by omega,fun e=>uR f3.row zE (by decide) e⟩;have c8:w3.cell? ⟨1,0,none⟩=some (.iface 393 (.pointer (some (E 8)))):=by
  have h8:=HZ.o.2.2.v8;refine(aH (w:=w) (a:=⟨1,0,none⟩) (T3.o.block _ (lt_of_cell h8) fun h=>?_)).trans h8;obtain h|h:=h;·have:=HZ.o.2.1;have h':1=b:=h;omega
  have:=(HZ.o.1 _ h).1;have h':B<=1:=this;omega
 have F3:Hid (F1 w3 B b q v' fb (if mq q 0 d.size then⟨#[]⟩++d else⟨#[]⟩)/\_/\_):=⟨f3,zF,zS⟩;have e00:(⟨#[]⟩:dX).size=0:=rfl;rw[e00];cases hok:mq q 0 d.size with
 |true=>
  go_wp2_with fail;have e3:(w3.setCell ⟨w.heap.size+1,0,none⟩ .nilIface).cell? ⟨w.heap.size+1,0,none⟩=some .nilIface:=World.cell?_setCell_same' w3 _ _ (by rw[e1]<;>rfl);refine leaves_cons (f:=94) (args:=#[.pointer (some ⟨w.heap.size+1,0,none⟩),.pointer (some ⟨w1.heap.size+1,0,none⟩),fq w.heap.size,fq w1.heap.size]) (by simp) (by simp[go_sem]) ?_;refine(yd3 _ _ _ _ _ _ e3).mono ?_;rintro e u' w4 ⟨rfl,rfl,hb4⟩;have e4:=(hb4.cell (p:=⟨w.heap.size+1,0,none⟩) (lt_of_cell e3)).trans e3;have hts:fE (·=w.heap.size+1) w3 (w3.setCell ⟨w.heap.size+1,0,none⟩ .nilIface):=(fE.refl (·=w.heap.size+1) w3).setCell (p:=⟨w.heap.size+1,0,none⟩) (ak rfl) _;have T:Hid (UF E B b q v d w (fM .nilIface) w4):=by have f3:=F3.o.1;rw[hok,aA rfl,yj6]at f3;obtain⟨o1,o2,o3⟩:=HO.o;obtain⟨n,hbk⟩:=f3.bk;obtain⟨x,hfl⟩:=f3.fl;have f4:F1 (w3.setCell ⟨w.heap.size+1,0,none⟩ .nilIface) B b q v' fb d:=⟨⟨n,(hts.block b (lt_of_block hbk) fun e=>o1 e.symm).trans hbk⟩,iM f3.row hts (fun k hk e=>o3 (by rw[hk,e])),⟨x,(hts.block fb (lt_of_block hfl) fun e=>o2 e.symm).trans hfl⟩,f3.lo⟩;exact⟨(fE.new T3.o hts fun k hk e=>absurd hk (by omega)).trans (((fE.refl (fun _=>False) _).below hb4).mono fun _ _ h=>h.elim),ak ⟨hok,rfl,v',fb,FR.o.mono hWz,f4.below hb4⟩⟩
  simp[Leaves,settle,results,Tryz.results49,go_sem,e4];exact T.o
 |false=>
 have f3:=F3.o.1;rw[hok,ah (by decide)]at f3;obtain⟨o1,o2,o3⟩:=HO.o;have hts:fE (·=w.heap.size+1) w3 (w3.setCell ⟨w.heap.size+1,0,none⟩ (.iface 120 (fq w3.heap.size))):=(fE.refl (·=w.heap.size+1) w3).setCell (p:=⟨w.heap.size+1,0,none⟩) (ak rfl) _;have e3:(w3.setCell ⟨w.heap.size+1,0,none⟩ (.iface 120 (fq w3.heap.size))).cell? ⟨w.heap.size+1,0,none⟩=some (.iface 120 (fq w3.heap.size)):=World.cell?_setCell_same' w3 _ _ (by rw[e1]<;>rfl);obtain⟨n,hbk⟩:=f3.bk;obtain⟨x,hfl⟩:=f3.fl;have f4:F1 (w3.setCell ⟨w.heap.size+1,0,none⟩ (.iface 120 (fq w3.heap.size))) B b q v' fb ⟨#[]⟩:=⟨⟨n,(hts.block b (lt_of_block hbk) fun e=>o1 e.symm).trans hbk⟩,iM f3.row hts (fun k hk e=>o3 (by rw[hk,e])),⟨x,(hts.block fb (lt_of_block hfl) fun e=>o2 e.symm).trans hfl⟩,f3.lo⟩;have hsz:(w3.setCell ⟨w.heap.size+1,0,none⟩ (.iface 120 (fq w3.heap.size))).heap.size=w3.heap.size:=by simp[World.setCell]
 have b5:Below _ _ ((w3.setCell ⟨w.heap.size+1,0,none⟩ (.iface 120 (fq w3.heap.size))).alloc (.cells #[.string ⟨#[116,104,101,32,104,101,97,100,105,110,103]⟩,.iface 393 (.pointer (some (E 8)))] 122)):=(aF _ _).alloc (ay _) _;have n5:((w3.setCell ⟨w.heap.size+1,0,none⟩ (.iface 120 (fq w3.heap.size))).alloc (.cells #[.string ⟨#[116,104,101,32,104,101,97,100,105,110,103]⟩,.iface 393 (.pointer (some (E 8)))] 122)).heap[w3.heap.size]?=some (.cells #[.string ⟨#[116,104,101,32,104,101,97,100,105,110,103]⟩,.iface 393 (.pointer (some (E 8)))] 122):=by have:=uQ (w:=w3.setCell ⟨w.heap.size+1,0,none⟩ (.iface 120 (fq w3.heap.size))) (o:=.cells #[.string ⟨#[116,104,101,32,104,101,97,100,105,110,103]⟩,.iface 393 (.pointer (some (E 8)))] 122);rw[hsz]at this;exact this
 have s5:=(b5.block _ (by rw[hsz];exact lt_of_block F3.o.2.2)).trans ((hts.block _ (lt_of_block F3.o.2.2) (show ¬w1.heap.size+1=w.heap.size+1 by omega)).trans F3.o.2.2);have p5:=(b5.block _ (by rw[hsz];exact lt_of_block F3.o.2.1)).trans ((hts.block _ (lt_of_block F3.o.2.1) (show ¬w.heap.size=w.heap.size+1 by omega)).trans F3.o.2.1);have c5:=(b5.cell (p:=⟨w.heap.size+1,0,none⟩) (by rw[hsz];exact hl1)).trans e3;have f5:=f4.below b5;have T5:=(fE.new T3.o hts fun k hk e=>absurd hk (by omega)).trans (((fE.refl (fun _=>False) _).below b5).mono fun _ _ h=>h.elim);have Q5:Hid (_/\_/\_/\_/\_/\_):=⟨c5,s5,p5,f5,T5,n5⟩;go_wp2_with fail;generalize ((w3.setCell ⟨w.heap.size+1,0,none⟩ (.iface 120 (fq w3.heap.size))).alloc (.cells #[.string ⟨#[116,104,101,32,104,101,97,100,105,110,103]⟩,.iface 393 (.pointer (some (E 8)))] 122))=W5 at *;obtain⟨c5,s5,p5,f5,T5,n5⟩:=Q5.o;refine leaves_cons (f:=94) (args:=#[.pointer (some ⟨w.heap.size+1,0,none⟩),.pointer (some ⟨w1.heap.size+1,0,none⟩),fq w.heap.size,fq w1.heap.size]) (by simp) (by simp[go_sem]) ?_;refine(yim B b q v' fb ⟨#[]⟩ _ _ _ _ _ _ _ c5 (by simp[World.cell?,s5]) (by simp[World.cell?,p5]) f5).mono ?_;rintro e u' w6 ⟨rfl,rfl,t6,hbq⟩;have e6:w6.cell? ⟨w.heap.size+1,0,none⟩=_:=(aH (w:=W5) (a:=⟨w.heap.size+1,0,none⟩) (t6.block _ (lt_of_cell c5) o1)).trans c5;have T:Hid (UF E B b q v d w (fM (.iface 120 (fq w3.heap.size))) w6):=⟨T5.trans (t6.mono fun k _ hk=>ak hk),aj ⟨hok,_,rfl,⟨_,(t6.block _ (lt_of_block n5) (show ¬w3.heap.size=b by omega)).trans n5⟩,hbq⟩⟩;simp[Leaves,settle,results,Tryz.results49,go_sem,e6];exact T.o
open Jn (cV)
def qP(c:UInt8):List UInt8:=if c=10 then[92,110]else if c=92 then[92,92]else if c=34 then[92,34]else[c]
def esc(l:List UInt8):List UInt8:=l.flatMap qP
def hd(l:List UInt8):List UInt8:=34::esc l++[34,10]
theorem eL(l:List UInt8):(esc l).length<=2*l.length:=by
 induction l with| nil=>simp[esc]| cons c l ih=>
 have:(qP c).length<=2:=by
  unfold qP;split;·simp
  split;·simp
  split<;>simp
 simp only[esc,List.flatMap_cons,aC,aG]at ih |-;omega
theorem yja(s:dX)(j:Nat)(hj:j<s.size):esc (s.data.toList.take (j+1))=esc (s.data.toList.take j)++qP s[j]:=by
 have hl:j<s.data.toList.length:=by rw[dx];exact hj
 rw[aZ hl];have e:s.data.toList[j]=s[j]:=by show s.data.toList[j]=s.data[j];simp
 rw[e];simp[esc]
def yks(s:dX)(w:dY)(e:Ending)(w':dY):Prop:=gU w w'/\e=fM (.string ⟨(hd s.data.toList).toArray⟩)
theorem eQ(s:dX)(w:dY)(hs:s.size<=1000000):fI 48 #[.string s] w (yks s w):=by
 obtain⟨i0,hi,hz0,hz1,hz2⟩:=info_parts zau;have S0:Hid (gU w (w.alloc (.cells #[.int .u8 34] 5))/\(w.alloc (.cells #[.int .u8 34] 5)).ownsRow w.heap.size 5 1 (.slice (some ⟨w.heap.size,0,none⟩) 1 1) ([34]:List UInt8).length (yN [34])):=
  ⟨(aF _ _).alloc (ay _) _,World.ownsRow_lit (base:=w.heap.size) (e:=5) (size:=1) w #[.int .u8 34] 1 (ay _) (by decide) rfl⟩
 go_enter Tryz.func48,Tryz.ntmps48;go_wp2_with fail;go_loopw [3,9] (fun v i wr=>∃(j:Nat)(o:List UInt8),j<=s.size/\i=eF j/\o=34::esc (s.data.toList.take j)/\Hid (gU w wr/\wr.ownsRow w.heap.size 5 1 v o.length (yN o))) (fun _ i _=>s.size-(intOf i).toNat)
 case atStart=>exact⟨0,[34],by omega,rfl,by simp[esc],S0.o⟩
 case round=>
  obtain⟨j,o,hj,rfl,hoe,hr⟩:=hrel;have ho:o.length<=2*j+1:=by have:=eL (s.data.toList.take j);rw[bZ]at this;rw[hoe,aG];omega
  have HO:Hid _:=hoe;clear hoe;obtain⟨va,vn,vc,rfl⟩:=lu hr.o.2;have Lf:w.heap.size<=wr.heap.size:=hr.o.1.size;clear S0;by_cases hlt:j<s.size
  ·have hlt':(j:Int)<(s.size:Int):=by omega
   have HST:Hid _:=yja s j hlt;generalize hc:s[j]=c at *;by_cases h10:c=10
   ·subst h10;go_wp2_with (first
     |(at_builtin;refine Lib.wpList_append_own_string _ rfl _ _ 213 9 rfl w.heap.size 5 i0 Tryz.underlying213 Tryz.underlying9 hi hz0 hz1 hz2 _ _ _ rfl hr.o.2 ⟨#[92,110]⟩ rfl ?d1 ?d2 ?d3 ?_)
     |fail)
    case d1=>unfold maxLen;show o.length+2<=_;omega
    case d2=>show o.length+2<=_;omega
    case d3=>omega
    ·intro v' w5 hown' hgrow _;have HQ:Hid (gU w w5/\w5.ownsRow w.heap.size 5 1 v' (o++[92,110]).length (yN (o++[92,110]))):=by
      refine⟨hr.o.1.trans ?_,?_⟩;·have hT:fE (fun k=>(Value.slice va vn vc).ownBlock=some k) wr w5:=(fE.refl _ _).grown hgrow fun k hk=>ak hk;exact hT.qj Lf fun k hk=>(hr.o.2.lt k hk).1
      rw[aC,Kn];exact hown'
     clear hown' hgrow;go_wp2;exact⟨⟨j+1,o++[92,110],by omega,by go_num,by rw[HST.o,HO.o];simp[qP],HQ.o⟩,by simp[intOf];omega⟩
   have Li:((c.toNat:Int)==10)=false:=by rw[beq_eq_false_iff_ne];intro h;exact h10 (UInt8.toNat_inj.1 (by show c.toNat=10;omega))
   by_cases UH:c=92
   ·subst UH;clear Li;go_wp2_with (first
     |(at_builtin;refine wpList_append_own_at _ rfl _ _ 213 rfl w.heap.size 5 i0 (.int .u8 0) 1 1 Tryz.underlying213 hi hz0 hz1 hz2 rfl (by decide) _ _ _ rfl (hr.o.2.alloc _) ⟨wr.heap.size,0,none⟩ 2 2 [.int .u8 92,.int .u8 92] rfl rfl ?p1 ?p2 ?p3 ?p4 ?p5 ?_)
     |fail)
    case p1=>
     intro j u hj;match j,hj with| 0,hj=>simp at hj;subst hj;simp[Addr.add]| 1,hj=>simp at hj;subst hj;simp[Addr.add]
    case p2=>intro u hu;simp at hu;obtain rfl|rfl:=hu<;>rfl
    case p3=>unfold maxLen;omega
    case p4=>omega
    case p5=>simp;omega
    ·intro v' w5 hown' hgrow _ hloc;have HQ:Hid (gU w w5/\w5.ownsRow w.heap.size 5 1 v' (o++[92,92]).length (yN (o++[92,92]))):=by
      refine⟨hr.o.1.trans ?_,?_⟩;·have hT:fE (fun k=>(Value.slice va vn vc).ownBlock=some k) wr w5:=((fE.refl _ _).alloc _).grown hgrow fun k hk=>ak hk;exact hT.qj Lf fun k hk=>(hr.o.2.lt k hk).1
      rw[aC,Kn];exact hown'
     clear hown' hgrow hloc;go_wp2;exact⟨⟨j+1,o++[92,92],by omega,by go_num,by rw[HST.o,HO.o];simp[qP],HQ.o⟩,by simp[intOf];omega⟩
   by_cases UJ:c=34
   ·subst UJ;clear Li;go_wp2_with (first
     |(at_builtin;refine wpList_append_own_at _ rfl _ _ 213 rfl w.heap.size 5 i0 (.int .u8 0) 1 1 Tryz.underlying213 hi hz0 hz1 hz2 rfl (by decide) _ _ _ rfl (hr.o.2.alloc _) ⟨wr.heap.size,0,none⟩ 2 2 [.int .u8 92,.int .u8 34] rfl rfl ?q1 ?q2 ?q3 ?q4 ?q5 ?_)
     |fail)
    case q1=>
     intro j u hj;match j,hj with| 0,hj=>simp at hj;subst hj;simp[Addr.add]| 1,hj=>simp at hj;subst hj;simp[Addr.add]
    case q2=>intro u hu;simp at hu;obtain rfl|rfl:=hu<;>rfl
    case q3=>unfold maxLen;omega
    case q4=>omega
    case q5=>simp;omega
    ·intro v' w5 hown' hgrow _ hloc;have HQ:Hid (gU w w5/\w5.ownsRow w.heap.size 5 1 v' (o++[92,34]).length (yN (o++[92,34]))):=by
      refine⟨hr.o.1.trans ?_,?_⟩;·have hT:fE (fun k=>(Value.slice va vn vc).ownBlock=some k) wr w5:=((fE.refl _ _).alloc _).grown hgrow fun k hk=>ak hk;exact hT.qj Lf fun k hk=>(hr.o.2.lt k hk).1
      rw[aC,Kn];exact hown'
     clear hown' hgrow hloc;go_wp2;exact⟨⟨j+1,o++[92,34],by omega,by go_num,by rw[HST.o,HO.o];simp[qP],HQ.o⟩,by simp[intOf];omega⟩
   have h92b:((c.toNat:Int)==92)=false:=by rw[beq_eq_false_iff_ne];intro h;exact UH (UInt8.toNat_inj.1 (by show c.toNat=92;omega))
   have h34b:((c.toNat:Int)==34)=false:=by rw[beq_eq_false_iff_ne];intro h;exact UJ (UInt8.toNat_inj.1 (by show c.toNat=34;omega))
   go_wp2_with (first
    |(at_builtin;refine wpList_append_own_at _ rfl _ _ 213 rfl w.heap.size 5 i0 (.int .u8 0) 1 1 Tryz.underlying213 hi hz0 hz1 hz2 rfl (by decide) _ _ _ rfl (hr.o.2.alloc _) ⟨wr.heap.size,0,none⟩ 1 1 [.int .u8 (c.toNat:Int)] rfl rfl ?r1 ?r2 ?r3 ?r4 ?r5 ?_)
    |fail)
   case r1=>
    intro j u hj;match j,hj with| 0,hj=>simp at hj;subst hj;simp[Addr.add]
   case r2=>intro u hu;simp at hu;subst hu;rfl
   case r3=>unfold maxLen;omega
   case r4=>omega
   case r5=>simp;omega
   intro v' w5 hown' hgrow _ hloc;have HQ:Hid (gU w w5/\w5.ownsRow w.heap.size 5 1 v' (o++[c]).length (yN (o++[c]))):=by
    refine⟨hr.o.1.trans ?_,?_⟩;·have hT:fE (fun k=>(Value.slice va vn vc).ownBlock=some k) wr w5:=((fE.refl _ _).alloc _).grown hgrow fun k hk=>ak hk;exact hT.qj Lf fun k hk=>(hr.o.2.lt k hk).1
    rw[aC,Kn];exact hown'
   clear hown' hgrow hloc;go_wp2;exact⟨⟨j+1,o++[c],by omega,by go_num,by rw[HST.o,HO.o];simp[qP,h10,UH,UJ],HQ.o⟩,by simp[intOf];omega⟩
  obtain rfl:j=s.size:=by omega
  have hne:¬((s.size:Int)<(s.size:Int)):=by omega
  go_wp2_with (first
   |(at_builtin;refine wpList_append_own_at _ rfl _ _ 213 rfl w.heap.size 5 i0 (.int .u8 0) 1 1 Tryz.underlying213 hi hz0 hz1 hz2 rfl (by decide) _ _ _ rfl (hr.o.2.alloc _) ⟨wr.heap.size,0,none⟩ 2 2 [.int .u8 34,.int .u8 10] rfl rfl ?z1 ?z2 ?z3 ?z4 ?z5 ?_)
   |fail)
  case z2=>exact⟨rfl,rfl⟩
  case z3=>unfold maxLen;omega
  case z4=>omega
  case z5=>omega
  intro v' w5 hown' hgrow _ hloc;have HQ:Hid (gU w w5/\w5.ownsRow w.heap.size 5 1 v' (o++[34,10]).length (yN (o++[34,10]))):=by
   refine⟨hr.o.1.trans ?_,?_⟩;·have hT:fE (fun k=>(Value.slice va vn vc).ownBlock=some k) wr w5:=((fE.refl _ _).alloc _).grown hgrow fun k hk=>ak hk;exact hT.qj Lf fun k hk=>(hr.o.2.lt k hk).1
   rw[aC,Kn];exact hown'
  clear hown' hgrow hloc;have hcv:=cV HQ.o.2;obtain⟨vb,vm,vk,rfl⟩:=lu HQ.o.2;have HOO:Hid (o++[34,10]=hd s.data.toList):=by unfold Hid;rw[HO.o,dG (by rw[dx];exact ay _)];rfl
  generalize o++[34,10]=oo at *;generalize hO:(⟨oo.toArray⟩:dX)=OO at *;go_wp2_with fail;go_ret;exact⟨HQ.o.1,by rw[<- HOO.o,hO]<;>rfl⟩
theorem get_at(l:List UInt8)(i:Nat):((⟨l.toArray⟩:dX)[i]!)=l.getD i 0:=by
 by_cases h:i<l.length;·rw[getElem!_pos (⟨l.toArray⟩:dX) i (by rw[tL];exact h)];show l.toArray[i]=_;simp[h]
 rw[getElem!_neg (⟨l.toArray⟩:dX) i (by rw[tL];exact h)];simp[List.getD_eq_getElem?_getD,List.getElem?_eq_none (Nat.le_of_not_lt h)];rfl
theorem eR(a b:List UInt8)(ha:(10:UInt8)∉a):firstIdx ⟨(a++10::b).toArray⟩ 10=(a.length:Int):=by
 unfold firstIdx;have:(List.range (⟨(a++10::b).toArray⟩:dX).size).find? (fun i=>(⟨(a++10::b).toArray⟩:dX)[i]! == 10)=some a.length:=by
  rw[List.find?_range_eq_some];refine⟨?_,?_,fun j hj=>?_⟩;·rw[get_at];simp
  ·rw[tL];simp
  rw[get_at,aL,bg hj,bN hj];have:a[j]≠10:=fun e=>ha (e▸List.getElem_mem hj);simpa using this
 rw[this]
theorem yi8(l:List UInt8)(hl:(10:UInt8)∉l):firstIdx ⟨l.toArray⟩ 10=-1:=by
 unfold firstIdx;have:(List.range (⟨l.toArray⟩:dX).size).find? (fun i=>(⟨l.toArray⟩:dX)[i]! == 10)=none:=by rw[List.find?_eq_none];intro j hj;rw[dP,tL]at hj;rw[get_at,aL,bN hj];have:l[j]≠10:=fun e=>hl (e▸List.getElem_mem hj);simpa using this
 rw[this]
theorem eS(s:dX)(w:dY):fI 243 #[.string s,.string ⟨#[10]⟩] w fun e w'=>e=fM (eF (firstIdx s 10))/\w'=w:=by
 have HL:Hid (fI 233 #[.string s,.int .u8 ((⟨#[10]⟩:dX)[0].toNat:Int)] w fun e w'=>e=fM (eF (firstIdx s 10))/\w=w'):=XB s 10 w;have HS:Hid ((([10]:List UInt8)==s.toList)=true->firstIdx s 10=0):=fun h=>by
  rw[beq_iff_eq,aP]at h;have e:s=⟨([]++10::[]:List UInt8).toArray⟩:=by obtain⟨⟨d⟩⟩:=s;simp at h;rw[<- h];all_goals rfl
  rw[e,eR [] [] (by simp)];all_goals rfl
 generalize firstIdx s 10=fi at *;go_enter Tryz.func243,Tryz.ntmps243;go_wp2_with fail;all_goals first
  |(go_ret;exact⟨by rw[HS.o (by assumption)]<;>rfl,rfl⟩)
  |(refine aB HL.o ?_;rintro e w1 ⟨rfl,rfl⟩;go_wp2_with fail;go_ret;exact⟨rfl,rfl⟩)
def F4(a b:List UInt8)(f:Bool)(w:dY)(e:Ending)(w':dY):Prop:=e=fM (.tuple #[.string ⟨a.toArray⟩,.string ⟨b.toArray⟩,.bool f])/\gU w w'
theorem yj7(l:List UInt8)(w:dY)(hl:(10:UInt8)∉l):fI 198 #[.string ⟨l.toArray⟩,.string ⟨#[10]⟩] w (F4 l [] false w):=by
 have HI:Hid _:=eS ⟨l.toArray⟩ w;rw[yi8 l hl]at HI;generalize hS:(⟨l.toArray⟩:dX)=S at *;go_enter Tryz.func198,Tryz.ntmps198;go_wp2_with fail;refine aB HI.o ?_;rintro e w1 ⟨rfl,rfl⟩;go_wp2_with fail
 (try simp only[Exit.inBlock,Exit.then])
 refine bodyPost_ret (iZ rfl _ _ _) rfl ?_;exact⟨by rw[hS]<;>rfl,aF _ _⟩
theorem yj8(a b:List UInt8)(w:dY)(ha:(10:UInt8)∉a)(hl:(a++10::b).length<=maxLen):fI 198 #[.string ⟨(a++10::b).toArray⟩,.string ⟨#[10]⟩] w (F4 a b true w):=by
 have HI:Hid _:=eS ⟨(a++10::b).toArray⟩ w;rw[eR a b ha]at HI;have e1:=FY (a++10::b) 0 a.length;have e2:=FY (a++10::b) (a.length+1) (a++10::b).length;have hz:=tL (a++10::b);have hw:IntKind.i64.wrap ((a.length:Int)+1)=(a.length:Int)+1:=by rw[IntKind.wrap_i64];unfold maxLen at hl;simp at hl;omega
 have x1:((a++10::b).drop 0).take (a.length-0)=a:=by simp
 have x2:((a++10::b).drop (a.length+1)).take ((a++10::b).length-(a.length+1))=b:=by
  have e:(a++10::b).drop (a.length+1)=b:=by simp[List.drop_append]
  rw[e,dG (by simp;omega)]
 rw[x1]at e1;rw[x2]at e2;have hk1:(a.length:Int)<=((a++10::b).length:Int):=by simp;omega
 have hk2:(a.length:Int)+1<=((a++10::b).length:Int):=by simp;omega
 generalize hA:(⟨a.toArray⟩:dX)=A at *;generalize hB:(⟨b.toArray⟩:dX)=B at *;generalize (a++10::b).length=N at *;generalize hS:(⟨(a++10::b).toArray⟩:dX)=S at *;generalize a.length=k at *;go_enter Tryz.func198,Tryz.ntmps198;go_wp2_with fail;refine aB HI.o ?_;rintro e w1 ⟨rfl,rfl⟩;go_wp2_with fail;go_region
 all_goals go_wp2_with fail
 all_goals
  (try simp only[Exit.inBlock,Exit.then])
  refine bodyPost_ret (iZ rfl _ _ _) rfl ?_;exact⟨by rw[hA,hB]<;>rfl,(aF _ _).drew⟩
theorem eW(l a b:List UInt8)(f:Bool)(w:dY)(h:fI 198 #[.string ⟨l.toArray⟩,.string ⟨#[10]⟩] w (F4 a b f w)):fI 157 #[.string ⟨l.toArray⟩,.string ⟨#[10]⟩] w (F4 a b f w):=by
 have HI:Hid _:=h;generalize hS:(⟨l.toArray⟩:dX)=S at *;unfold F4 at *;generalize hA:(⟨a.toArray⟩:dX)=A at *;generalize hB:(⟨b.toArray⟩:dX)=B at *;go_enter Tryz.func157,Tryz.ntmps157;go_wp2_with fail;refine aB HI.o ?_;rintro e w1 ⟨rfl,hb⟩;have HB:Hid _:=hb;go_wp2_with fail
 (try simp only[Exit.inBlock,Exit.then])
 refine bodyPost_ret (iZ rfl _ _ _) rfl ?_;exact⟨rfl,HB.o⟩
theorem fL(a b:List UInt8)(w:dY)(ha:(10:UInt8)∉a)(hl:(a++10::b).length<=maxLen):fI 89 #[.string ⟨(a++10::b).toArray⟩] w fun e w'=>e=fM (.tuple #[.string ⟨a.toArray⟩,.string ⟨b.toArray⟩,.nilIface])/\gU w w':=by
 have HI:Hid _:=eW _ _ _ _ w (yj8 a b w ha hl);generalize hS:(⟨(a++10::b).toArray⟩:dX)=S at *;unfold F4 at HI;generalize hA:(⟨a.toArray⟩:dX)=A at *;generalize hB:(⟨b.toArray⟩:dX)=B at *;go_enter Tryz.func89,Tryz.ntmps89;go_wp2_with fail;refine aB HI.o ?_;rintro e w1 ⟨rfl,hb⟩;have HB:Hid _:=hb;go_wp2_with fail
 (try simp only[Exit.inBlock,Exit.then])
 refine bodyPost_ret (iZ rfl _ _ _) rfl ?_;exact⟨rfl,HB.o⟩
def ykq(E:Nat->Addr)(w:dY)(e:Ending)(w':dY):Prop:=∃f,e=fM (.tuple #[.string ⟨#[]⟩,.string ⟨#[]⟩,.iface 120 (fq f)])/\gU w w'/\Jn.FJ w' f (.iface 393 (.pointer (some (E 10))))
theorem fN(E:Nat->Addr)(l:List UInt8)(w:dY)(hl:(10:UInt8)∉l)(g:Je w E):fI 89 #[.string ⟨l.toArray⟩] w (ykq E w):=by
 have HI:Hid _:=eW _ _ _ _ w (yj7 l w hl);have G0:Hid _:=g;unfold F4 at HI;generalize hS:(⟨l.toArray⟩:dX)=S at *;go_enter Tryz.func89,Tryz.ntmps89;go_wp2_with fail;refine aB HI.o ?_;rintro e w1 ⟨rfl,hb⟩;have HB:Hid _:=hb;have c1:=(G0.o.below hb).t;go_wp2_with fail;all_goals (try go_region)
 all_goals (try go_wp2_with fail)
 all_goals
  (try simp only[Exit.inBlock,Exit.then])
  refine bodyPost_ret (iZ rfl _ _ _) rfl ?_;exact⟨w1.heap.size,rfl,(HB.o.alloc HB.o.size _).drew,_,uQ⟩
theorem yi2(L:List UInt8)(n:Nat)(c:UInt8)(w:dY)(hn:n<L.length)(hat:L[n]?=some c)(hbe:∀k d,n<k->L[k]?=some d->d≠c)(hs:L.length<=maxLen):fI 199 #[.string ⟨L.toArray⟩,.int .u8 (c.toNat:Int)] w fun e w'=>e=fM (eF (n:Int))/\w'=w:=by
 have hz:=tL L;have hg:∀k(hk:k<(⟨L.toArray⟩:dX).size),L[k]?=some ((⟨L.toArray⟩:dX)[k]):=fun k hk=>by rw[hz]at hk;show _=some (L.toArray[k]);simp[hk]
 unfold maxLen at hs;generalize hS:(⟨L.toArray⟩:dX)=S at *;go_enter Tryz.func199,Tryz.ntmps199;have hw0:IntKind.i64.wrap ((S.size:Int)-1)=(S.size:Int)-1:=by rw[IntKind.wrap_i64];omega
 go_wp2_with fail;go_loopw [5] (fun i wr=>wr=w/\∃k:Nat,n<=k/\k<S.size/\i=eF (k:Int)) (fun i _=>(intOf i+1).toNat)
 case atStart=>exact⟨rfl,S.size-1,by omega,by omega,by congr 1;omega⟩
 case round=>
  obtain⟨rfl,k,hk1,hk2,rfl⟩:=hrel;have hlt:(k:Int)<(S.size:Int):=by omega
  have UK:=hg k hk2;have hw1:IntKind.i64.wrap ((k:Int)-1)=(k:Int)-1:=by rw[IntKind.wrap_i64];omega
  by_cases e:k=n;·subst e;rw[hat]at UK;have hgk':=(Option.some.inj UK).symm;go_wp2_with fail;go_ret;exact⟨rfl,rfl⟩
  have hne:=hbe k _ (by omega) UK;have hnk:((S[k].toNat:Int)==(c.toNat:Int))=false:=by rw[beq_eq_false_iff_ne];exact fun h=>hne (UInt8.toNat_inj.1 (by omega))
  go_wp2_with fail;refine⟨⟨trivial,k-1,by omega,by omega,?_⟩,by simp[intOf]⟩;rw[show((k-1:Nat):Int)=(k:Int)-1 by omega]
theorem yjz(L:List UInt8)(n:Nat)(c:UInt8)(w:dY)(hn:n<L.length)(hat:L[n]?=some c)(hbe:∀k d,n<k->L[k]?=some d->d≠c)(hs:L.length<=maxLen):fI 159 #[.string ⟨L.toArray⟩,.string ⟨#[c]⟩] w fun e w'=>e=fM (eF (n:Int))/\w'=w:=by
 have HL:Hid _:=yi2 L n c w hn hat hbe hs;have hz:(⟨#[c]⟩:dX).size=1:=rfl;have h0:(⟨#[c]⟩:dX)[0]'(by rw[hz];decide)=c:=rfl;generalize hC:(⟨#[c]⟩:dX)=C at *;generalize (⟨L.toArray⟩:dX)=S at *;have hz2:(C.size:Int)=1:=by rw[hz]<;>rfl
 have hz3:0<C.size:=by omega
 go_enter Tryz.func159,Tryz.ntmps159;go_wp2_with fail;refine aB HL.o ?_;rintro e w1 ⟨rfl,rfl⟩;go_wp2_with fail;go_ret;exact⟨rfl,rfl⟩
theorem last_at(p r:List UInt8)(c:UInt8)(w:dY)(hr:c∉r)(hs:(p++c::r).length<=maxLen):fI 159 #[.string ⟨(p++c::r).toArray⟩,.string ⟨#[c]⟩] w fun e w'=>e=fM (eF (p.length:Int))/\w'=w:=by refine yjz _ _ _ _ (by simp) (by simp) (fun k d hk hd e=>?_) hs;subst e;rw[aY (by omega),show k-p.length=(k-p.length-1)+1 by omega,bC]at hd;exact hr (bL hd)
theorem yiv(l:List UInt8)(d:UInt8)(w:dY)(hs:(l++[d]).length<=maxLen):fI 177 #[.string ⟨(l++[d]).toArray⟩,.string ⟨#[10]⟩] w fun e w'=>e=fM (.bool (d==10))/\gU w w':=by
 have hz:=tL (l++[d]);have e1:=FY (l++[d]) l.length (l++[d]).length;rw[show((l++[d]).drop l.length).take ((l++[d]).length-l.length)=[d] by simp]at e1;have hp:(⟨#[10]⟩:dX).size=1:=rfl;have e2:((⟨[d].toArray⟩:dX).toList==(⟨#[10]⟩:dX).toList)=(d==10):=by rw[aP,aP];simp
 unfold maxLen at hs;simp only[aC,aS]at hz hs e1;generalize (⟨[d].toArray⟩:dX)=D at *;generalize (⟨(l++[d]).toArray⟩:dX)=S at *;generalize (⟨#[10]⟩:dX)=C at *;have hi:(C.size:Int)<=(S.size:Int):=by omega
 have hw:IntKind.i64.wrap ((S.size:Int)-(C.size:Int))=(l.length:Int):=by rw[IntKind.wrap_i64];omega
 have hi2:(l.length:Int)<=(S.size:Int):=by omega
 generalize l.length=n at *;generalize (d==10)=q at *;go_enter Tryz.func177,Tryz.ntmps177;go_wp2_with fail;go_ret;exact⟨rfl,aF _ _⟩
theorem yjq(l:List UInt8)(d:UInt8)(w:dY)(hs:(l++[d]).length<=maxLen):fI 138 #[.string ⟨(l++[d]).toArray⟩,.string ⟨#[10]⟩] w fun e w'=>e=fM (.bool (d==10))/\gU w w':=by have HL:Hid _:=yiv l d w hs;generalize (⟨(l++[d]).toArray⟩:dX)=S at *;generalize (d==10)=q at *;go_enter Tryz.func138,Tryz.ntmps138;go_wp2_with fail;refine aB HL.o ?_;rintro e w1 ⟨rfl,hb⟩;have HB:Hid _:=hb;go_wp2_with fail;go_ret;exact⟨rfl,HB.o⟩
def rz(l:List UInt8):Int:=l.foldl (fun v d=>v*10-((d.toNat:Int)-48)) 0
theorem UL(l:List UInt8)(d:UInt8):rz (l++[d])=rz l*10-((d.toNat:Int)-48):=by unfold rz;rw[List.foldl_append];all_goals rfl
structure fR(l:List UInt8)(u:Nat):Prop where
 ne:l≠[]
 d:∀j(hj:j<l.length),48<=l[j].toNat/\l[j].toNat<=57
 v:rz l=-(u:Int)
 p:∀j,j<=l.length->-(u:Int)<=rz (l.take j)/\rz (l.take j)<=0
theorem fS{u:Nat}(h:u<10):(UInt8.ofNat (48+u)).toNat=48+u:=by rw[UInt8.toNat_ofNat_of_lt'];show 48+u<256;omega
theorem UM(u:Nat):fR (Lib.decDigits u) u:=by
 induction u using Nat.strongRecOn with| ind u ih=>
 rw[Lib.decDigits];by_cases h:u<10
 ·rw[dif_pos h];have e:=fS h;have e1:rz [UInt8.ofNat (48+u)]=-(u:Int):=by unfold rz;simp only[List.foldl_cons,List.foldl_nil,e];omega
  refine⟨by simp,fun j hj=>?_,e1,fun j hj=>?_⟩
  ·obtain rfl:j=0:=by simp at hj;omega
   simp only[dV,e];omega
  have:j=0\/j=1:=by simp at hj;omega
  obtain rfl|rfl:=this;·show _<=rz []/\rz []<=0;unfold rz;simp
  show _<=rz [UInt8.ofNat (48+u)]/\rz [UInt8.ofNat (48+u)]<=0;rw[e1];omega
 rw[dif_neg h];have k:=ih (u/10) (by omega);have e:=fS (u:=u%10) (by omega);have e1:rz (Lib.decDigits (u/10)++[UInt8.ofNat (48+u%10)])=-(u:Int):=by rw[UL,k.v,e];omega
 refine⟨by simp,fun j hj=>?_,e1,fun j hj=>?_⟩
 ·by_cases hl:j<(Lib.decDigits (u/10)).length;·rw[List.getElem_append_left hl];exact k.d j hl
  rw[List.getElem_append_right (by omega)];simp only[List.getElem_singleton,e];omega
 by_cases hl:j<=(Lib.decDigits (u/10)).length;·rw[List.take_append_of_le_length hl];have:=k.p j hl;omega
 rw[dG (by simp at hj |-;omega),e1];omega
theorem Cw{x:Int}(h1:-9223372036854775808<=x)(h2:x<=9223372036854775807):wrap64 x=x:=by unfold wrap64;omega
theorem fW{V dv:Int}(h:-9223372036854775808<=V*10-dv)(h0:0<=dv)(h9:dv<=9):(-9223372036854775808+dv).tdiv 10<=V:=by
 have e:(-9223372036854775808+dv)=-(9223372036854775808-dv):=by omega
 rw[e,Int.neg_tdiv,Int.tdiv_eq_ediv_of_nonneg (by omega)];omega
theorem yhv(l p:List UInt8)(w:dY)(hl:l.length<=maxLen)(hp:p.length<=1000)(he:l.take p.length≠p):fI 230 #[.string ⟨l.toArray⟩,.string ⟨p.toArray⟩] w fun e w'=>e=fM (.string ⟨l.toArray⟩)/\w'=w:=by have HP:Hid _:=UA l p w hl hp;rw[decide_eq_false he]at HP;generalize (⟨l.toArray⟩:dX)=S at *;generalize (⟨p.toArray⟩:dX)=Q at *;go_enter Tryz.func230,Tryz.ntmps230;go_wp2_with fail;refine aB HP.o ?_;rintro e w1 ⟨rfl,rfl⟩;go_wp2_with fail;go_ret;exact⟨rfl,rfl⟩
theorem fX(l p:List UInt8)(w:dY)(hl:l.length<=maxLen)(hp:p.length<=1000)(he:l.take p.length≠p):fI 182 #[.string ⟨l.toArray⟩,.string ⟨p.toArray⟩] w fun e w'=>e=fM (.string ⟨l.toArray⟩)/\w'=w:=by have HP:Hid _:=yhv l p w hl hp he;generalize (⟨l.toArray⟩:dX)=S at *;generalize (⟨p.toArray⟩:dX)=Q at *;go_enter Tryz.func182,Tryz.ntmps182;go_wp2_with fail;refine aB HP.o ?_;rintro e w1 ⟨rfl,rfl⟩;go_wp2_with fail;go_ret;exact⟨rfl,rfl⟩
theorem fY(u:Nat)(mi:Bool)(hu:u<=9223372036854775808)(hm:mi=false->u<=9223372036854775807)(w:dY):fI 160 #[.string ⟨(if mi then 45::Lib.decDigits u else Lib.decDigits u).toArray⟩] w fun e w'=>e=fM (.tuple #[eF (if mi then -(u:Int)else u),.bool true])/\w'=w:=by
 have D:=UM u;have hln:(Lib.decDigits u).length<=21:=by
  by_cases h0:u=0;·subst h0;rw[Lib.decDigits_one (by decide)];decide
  have:=Lib.itoa_length_le (-(u:Int)) (by omega) (by omega);rw[Lib.itoa,aA (by omega)]at this;simp at this;omega
 generalize Lib.decDigits u=r at *;have hz:=tL r;have hg:∀j(hj:j<r.length),(⟨r.toArray⟩:dX)[j]'(by rw[hz];exact hj)=r[j]:=fun j hj=>by show r.toArray[j]=_;simp
 have hE:(⟨r.toArray⟩:dX).toList=r:=by rw[aP]
 obtain⟨d0,r',rfl⟩:∃d0 r',r=d0::r':=List.exists_cons_of_ne_nil D.ne;have dd:=D.d 0 (by simp);simp only[dV]at dd;have h45:d0≠45:=fun e=>by rw[e]at dd;exact absurd dd.1 (by decide)
 have h43:d0≠43:=fun e=>by rw[e]at dd;exact absurd dd.1 (by decide)
 have HC:Hid _:=Cd.Ub (if mi then 45::d0::r' else d0::r') [45] w (by unfold maxLen;cases mi<;>simp at hln |-<;>omega) (by decide);have HT:Hid _:=fX (d0::r') [43] w (by unfold maxLen;omega) (by decide) (by simpa using h43);have hE1:¬(⟨(d0::r').toArray⟩:dX).toList=[]:=by rw[hE];simp
 have hE2:(⟨(d0::r').toArray⟩:dX).toList.isEmpty=false:=by rw[hE]<;>rfl
 cases mi with
 |true=>
  have hc:Cd.cutV (45::d0::r') [45]=.tuple #[.string ⟨(d0::r').toArray⟩,.bool true]:=aA (by simp);simp only[if_true]at HC |-;rw[hc]at HC;clear hc HT hE hm dd h45 h43;generalize (⟨(45::d0::r').toArray⟩:dX)=S at *;generalize hR:(⟨(d0::r').toArray⟩:dX)=R at *;generalize hrr:d0::r'=r at *;go_enter Tryz.func160,Tryz.ntmps160;go_wp2_with fail;refine aB HC.o ?_;rintro e w1 ⟨rfl,rfl⟩;clear HC;go_wp2_with fail;go_loopw [6,20] (fun n i wr=>wr=w1/\∃j:Nat,j<=r.length/\n=eF (rz (r.take j))/\i=eF j) (fun _ i _=>r.length-(intOf i).toNat)
  case atStart=>exact⟨rfl,0,by omega,rfl,rfl⟩
  case round=>
   obtain⟨rfl,j,hj,rfl,rfl⟩:=hrel;by_cases hlt:j<r.length
   ·have hlt':(j:Int)<(r.length:Int):=by omega
    have hw1:wrap64 ((j:Int)+1)=(j:Int)+1:=by unfold wrap64;omega
    have hw2:IntKind.i64.wrap ((j:Int)+1)=(j:Int)+1:=by rw[IntKind.wrap_i64];omega
    have p0:=D.p j hj;have p1:=D.p (j+1) (by omega);have ds:=D.d j hlt;have eq1:rz (r.take (j+1))=rz (r.take j)*10-((r[j].toNat:Int)-48):=by rw[aZ hlt,UL]
    have hgj:=hg j hlt;clear hg;generalize UN:r[j]=c at *;generalize hV:rz (r.take j)=V at *;generalize hV1:rz (r.take (j+1))=V1 at *;have HX:Hid (V1=V*10-((c.toNat:Int)-48)/\(0<=(c.toNat:Int)-48/\(c.toNat:Int)-48<=9)/\(-9223372036854775808+((c.toNat:Int)-48)).tdiv 10<=V/\-9223372036854775808<=V1/\V1<=0):=⟨eq1,⟨by omega,by omega⟩,fW (by omega) (by omega) (by omega),by omega,by omega⟩;clear eq1 p0 p1 ds;go_upto_region 8 with fail
    go_cut [8] (fun v8 wx=>wx=wr/\v8=eF ((c.toNat:Int)-48))
    case first=>
     go_wp2_with fail;all_goals go_meet
     all_goals
      refine⟨rfl,?_⟩;have x2:=HX.o.2.1;clear HX
      (try rw[UN])
      rw[Cw (x:=(c.toNat:Int)) (by omega) (by omega),Cw (by omega) (by omega)]
    case rest=>
     obtain⟨rfl,rfl⟩:=hcut;generalize (c.toNat:Int)-48=dv at *;go_wp2_with fail;all_goals (obtain⟨x1,x2,x3,x4⟩:=HX.o)
     all_goals first
      |(exfalso;omega)
      |(refine⟨⟨trivial,j+1,by omega,?_,by go_num⟩,by simp[intOf];omega⟩;clear x3 HX;rw[hV1,x1,Cw (x:=V*10) (by omega) (by omega),Cw (by omega) (by omega)])
   obtain rfl:j=r.length:=by omega
   have hne:¬((r.length:Int)<(r.length:Int)):=by omega
   rw[dH,D.v];go_wp2_with fail;go_ret2;exact⟨rfl,rfl⟩
 |false=>
 have hc:Cd.cutV (d0::r') [45]=.tuple #[.string ⟨(d0::r').toArray⟩,.bool false]:=ah (by simpa using h45);simp only[dJ,if_false]at HC |-;rw[hc]at HC;have hu':=hm rfl;clear hc hE hm dd h45 h43;generalize hR:(⟨(d0::r').toArray⟩:dX)=R at *;generalize hrr:d0::r'=r at *;go_enter Tryz.func160,Tryz.ntmps160;go_wp2_with fail;refine aB HC.o ?_;rintro e w1 ⟨rfl,rfl⟩;clear HC;go_wp2_with fail;refine aB HT.o ?_;rintro e w1 ⟨rfl,rfl⟩;clear HT;go_wp2_with fail;go_loopw [6,20] (fun n i wr=>wr=w1/\∃j:Nat,j<=r.length/\n=eF (rz (r.take j))/\i=eF j) (fun _ i _=>r.length-(intOf i).toNat)
 case atStart=>exact⟨rfl,0,by omega,rfl,rfl⟩
 case round=>
  obtain⟨rfl,j,hj,rfl,rfl⟩:=hrel;by_cases hlt:j<r.length
  ·have hlt':(j:Int)<(r.length:Int):=by omega
   have hw1:wrap64 ((j:Int)+1)=(j:Int)+1:=by unfold wrap64;omega
   have hw2:IntKind.i64.wrap ((j:Int)+1)=(j:Int)+1:=by rw[IntKind.wrap_i64];omega
   have p0:=D.p j hj;have p1:=D.p (j+1) (by omega);have ds:=D.d j hlt;have eq1:rz (r.take (j+1))=rz (r.take j)*10-((r[j].toNat:Int)-48):=by rw[aZ hlt,UL]
   have hgj:=hg j hlt;clear hg;generalize UN:r[j]=c at *;generalize hV:rz (r.take j)=V at *;generalize hV1:rz (r.take (j+1))=V1 at *;have HX:Hid (V1=V*10-((c.toNat:Int)-48)/\(0<=(c.toNat:Int)-48/\(c.toNat:Int)-48<=9)/\(-9223372036854775808+((c.toNat:Int)-48)).tdiv 10<=V/\-9223372036854775808<=V1/\V1<=0):=⟨eq1,⟨by omega,by omega⟩,fW (by omega) (by omega) (by omega),by omega,by omega⟩;clear eq1 p0 p1 ds;go_upto_region 8 with fail
   go_cut [8] (fun v8 wx=>wx=wr/\v8=eF ((c.toNat:Int)-48))
   case first=>
    go_wp2_with fail;all_goals go_meet
    all_goals
     refine⟨rfl,?_⟩;have x2:=HX.o.2.1;clear HX
     (try rw[UN])
     rw[Cw (x:=(c.toNat:Int)) (by omega) (by omega),Cw (by omega) (by omega)]
   case rest=>
    obtain⟨rfl,rfl⟩:=hcut;generalize (c.toNat:Int)-48=dv at *;go_wp2_with fail;all_goals (obtain⟨x1,x2,x3,x4⟩:=HX.o)
    all_goals first
     |(exfalso;omega)
     |(refine⟨⟨trivial,j+1,by omega,?_,by go_num⟩,by simp[intOf];omega⟩;clear x3 HX;rw[hV1,x1,Cw (x:=V*10) (by omega) (by omega),Cw (by omega) (by omega)])
  obtain rfl:j=r.length:=by omega
  have hne:¬((r.length:Int)<(r.length:Int)):=by omega
  rw[dH,D.v];have hmin:¬(-(u:Int))=-9223372036854775808:=by omega
  go_wp2_with fail;all_goals first
   |(exfalso;omega)
   |(go_ret2;refine⟨?_,rfl⟩;simp)
theorem yix(a:Int)(ha:Jn.Cv a)(w:dY):fI 160 #[.string ⟨(Lib.itoa a).toArray⟩] w fun e w'=>e=fM (.tuple #[eF a,.bool true])/\w'=w:=by
 obtain⟨h1,h2⟩:=ha;unfold Lib.itoa;by_cases h:a<0;·rw[aA h];have:=fY a.natAbs true (by omega) (fun h=>by cases h) w;simp only[if_true]at this;rw[show -(a.natAbs:Int)=a by omega]at this;exact this
 rw[ah h];have:=fY a.toNat false (by omega) (fun _=>by omega) w;simp only[dJ,if_false]at this;rw[show(a.toNat:Int)=a by omega]at this;exact this
def ln(a:Int):List UInt8:=63::33::(Lib.itoa a++[10])
def body(L:List Int):List UInt8:=L.flatMap ln
theorem gA{l:List UInt8}{u:Nat}(h:fR l u){c:UInt8}(hc:c.toNat<48):c∉l:=fun hm=>by obtain⟨j,hj,e⟩:=dQ hm;have:=(h.d j hj).1;rw[e]at this;omega
theorem gC(a:Int){c:UInt8}(hc:c.toNat<45):c∉Lib.itoa a:=by
 unfold Lib.itoa;split
 ·rw[bn];rintro(e|e);·rw[e]at hc;exact absurd hc (by decide)
  exact gA (UM _) (by omega) e
 exact gA (UM _) (by omega)
def Lj(L:List Int)(w:dY)(e:Ending)(w':dY):Prop:=gU w w'/\∃v,e=fM (.tuple #[v,.nilIface])/\w'.ownsRow w.heap.size 3 1 v L.length (iC L)
theorem yko(E:Nat->Addr)(L:List Int)(tl:List UInt8)(w:dY)(hL:∀a∈L,Jn.Cv a)(ht:(10:UInt8)∉tl)(hl:(body L++tl).length<=10000000000)(hn:L.length<=1000000000)(g:Je w E):fI 91 #[.string ⟨(body L++tl).toArray⟩] w (Lj L w):=by
 have G0:Hid _:=g;have GL:Hid (∀a∈L,Jn.Cv a):=hL;obtain⟨i0,hi,hz0,hz1,hz2⟩:=info_parts cR;generalize hS:(⟨(body L++tl).toArray⟩:dX)=S at *;go_enter Tryz.func91,Tryz.ntmps91;go_wp2_with fail;go_loopw [0,4] (fun sl va wr=>∃(M K:List Int),L=M++K/\sl=.string ⟨(body K++tl).toArray⟩/\Hid (gU w wr/\wr.ownsRow w.heap.size 3 1 va M.length (iC M))) (fun sl _ _=>Aa sl)
 case atStart=>exact⟨[],L,rfl,by rw[hS],aF _ _,aX _ _ _ _⟩
 case round=>
  obtain⟨M,K,Ll,rfl,hr⟩:=hrel;have G1:Hid (Je wr E):=G0.o.below hr.o.1;obtain⟨Lm,vn,vc,rfl⟩:=lu hr.o.2;have hms:Aa (.string ⟨(body K++tl).toArray⟩)=(body K++tl).length:=tL _;have hlen:(body K++tl).length<=10000000000:=by rw[Ll]at hl;simp only[body,List.flatMap_append,aC]at hl |-;omega
  cases K with
  |nil=>
   obtain rfl:M=L:=by simpa using Ll.symm
   have HL:Hid _:=fN E (body []++tl) wr (by simpa[body]using ht) G1.o;generalize (⟨(body []++tl).toArray⟩:dX)=Q at *;go_wp2_with fail;refine aB HL.o ?_;rintro e w1 ⟨f,rfl,b1,hf⟩;have c1:=(G1.o.below b1).t;have HI:Hid _:=Zh f (E 10) w1 (by obtain⟨st,hst⟩:=hf;simp[World.cell?,hst]);have HF:Hid (gU w w1/\w1.ownsRow w.heap.size 3 1 (.slice Lm vn vc) M.length (iC M)):=⟨hr.o.1.trans (b1.mono hr.o.1.size),iM hr.o.2 ((fE.refl (fun _=>False) wr).below b1) (fun _ _ h=>h)⟩;go_wp2_with fail;refine aB HI.o ?_;rintro e w2 ⟨rfl,rfl⟩;go_wp2_with fail;go_ret2;exact⟨HF.o.1,_,rfl,HF.o.2⟩
  |cons a K=>
  have hba:Jn.Cv a:=GL.o a (by rw[Ll];simp);have e0:body (a::K)++tl=(63::33::Lib.itoa a)++10::(body K++tl):=by simp[body,ln]
  have hna:(10:UInt8)∉(63::33::Lib.itoa a):=by have:=gC a (c:=10) (by decide);simpa using this
  rw[e0]at hlen hms |-;have HL:Hid _:=fL (63::33::Lib.itoa a) (body K++tl) wr hna (by unfold maxLen;omega);have hmb:Aa (.string ⟨(body K++tl).toArray⟩)=(body K++tl).length:=tL _;have hdec:Aa (.string ⟨(body K++tl).toArray⟩)<Aa (.string ⟨((63::33::Lib.itoa a)++10::(body K++tl)).toArray⟩):=by rw[hms,hmb];simp only[aC,aG];omega
  have gR:Hid (∀w1,_):=fun w1=>last_at [63] (Lib.itoa a) 33 w1 (gC a (by decide)) (by unfold maxLen;simp only[aC,aG,aV]at hlen |-;omega);have hza:=tL (63::33::Lib.itoa a);have hex:=FY (63::33::Lib.itoa a) 2 (63::33::Lib.itoa a).length;rw[show((63::33::Lib.itoa a).drop 2).take ((63::33::Lib.itoa a).length-2)=Lib.itoa a by simp]at hex;have HNU:Hid (∀w1,_):=fun w1=>yix a hba w1;have hl2:(2:Int)<=((63::33::Lib.itoa a).length:Int):=by simp;omega
  simp only[aS,List.singleton_append]at gR;generalize (⟨((63::33::Lib.itoa a)++10::(body K++tl)).toArray⟩:dX)=Q at *;generalize hB:(⟨(body K++tl).toArray⟩:dX)=B at *;generalize (⟨(Lib.itoa a).toArray⟩:dX)=D at *;generalize (⟨(63::33::Lib.itoa a).toArray⟩:dX)=A at *;generalize (63::33::Lib.itoa a).length=N at *;go_wp2_with fail;refine aB HL.o ?_;rintro e w1 ⟨rfl,b1⟩;have c1:=(G1.o.below b1).t;have HF:Hid (gU w w1/\w1.ownsRow w.heap.size 3 1 (.slice Lm vn vc) M.length (iC M)):=⟨hr.o.1.trans (b1.mono hr.o.1.size),iM hr.o.2 ((fE.refl (fun _=>False) wr).below b1) (fun _ _ h=>h)⟩;have HN:Hid _:=cU (.pointer (some (E 10))) w1;go_wp2_with fail;refine aB HN.o ?_;rintro e w2 ⟨rfl,rfl⟩;go_wp2_with fail;refine aB (gR.o _) ?_;rintro e w3 ⟨rfl,rfl⟩;go_wp2_with fail;refine aB (HNU.o _) ?_;rintro e w4 ⟨rfl,rfl⟩;have hsz:=HF.o.1.size;have hML:M.length+1<=L.length:=by rw[Ll];simp
  go_wp2_with (first
   |(at_builtin;refine wpList_append_own_at _ rfl _ _ 32 rfl w.heap.size 3 i0 (eF 0) 1 8 Tryz.underlying32 hi hz0 hz1 hz2 rfl (by decide) _ _ _ rfl (HF.o.2.alloc _) ⟨w4.heap.size,0,none⟩ 1 1 [eF a] rfl rfl ?c1 ?c2 ?c3 ?c4 ?c5 ?_)
   |fail)
  case c1=>
   intro j u hj;match j,hj with| 0,hj=>simp at hj;subst hj;simp[Addr.add]
  case c2=>intro u hu;simp at hu;subst hu;rfl
  case c3=>unfold maxLen;omega
  case c4=>omega
  case c5=>simp;omega
  intro v' w5 hown' hgrow _ hloc;have HQ:Hid (gU w w5/\w5.ownsRow w.heap.size 3 1 v' (M++[a]).length (iC (M++[a]))):=by
   refine⟨HF.o.1.trans ?_,?_⟩;·have hT:fE (fun k=>(Value.slice Lm vn vc).ownBlock=some k) w4 w5:=((fE.refl _ _).alloc _).grown hgrow fun k hk=>ak hk;exact hT.qj hsz fun k hk=>(HF.o.2.lt k hk).1
   rw[aC];have e:iC (M++[a])=iC M++[eF a]:=by simp[iC]
   rw[e];exact hown'
  go_wp2;exact⟨⟨M++[a],K,by rw[Ll];simp,by rw[hB],HQ.o⟩,hdec⟩
theorem yj5(c:UInt8):(10:UInt8)∉qP c:=by
 unfold qP;split;·decide
 rename_i h;split;·decide
 split;·decide
 intro hm;rw[bD]at hm;exact h hm.symm
theorem ykl(l:List UInt8):(10:UInt8)∉esc l:=by intro h;obtain⟨c,_,hc⟩:=List.mem_flatMap.1 h;exact yj5 c hc
def hl(l:List UInt8):List UInt8:=34::(esc l++[34])
theorem OX(l:List UInt8):hd l=hl l++[10]:=by simp[hd,hl]
theorem UO(l:List UInt8):(10:UInt8)∉hl l:=by have:=ykl l;simp[hl,this]
theorem UQ(l:List UInt8):(hd l).length<=2*l.length+3:=by have:=eL l;simp only[hd,aC,aG,aV];omega
def un:List UInt8->List UInt8
 |[]=>[]
 |[c]=>[c]
 |c::d::r=>if c=92 then(if d=110 then 10 else d)::un r else c::un (d::r)
theorem gS(l:List UInt8):un (esc l)=l:=by
 induction l with| nil=>rfl| cons c l ih=>
 have e:esc (c::l)=qP c++esc l:=rfl;rw[e];unfold qP;split;·rename_i h;show un (92::110::esc l)=_;rw[un,aA rfl,aA rfl,ih,h]
 split;·rename_i h;show un (92::92::esc l)=_;rw[un,aA rfl,ah (by decide),ih,h]
 split;·rename_i h;show un (92::34::esc l)=_;rw[un,aA rfl,ah (by decide),ih,h]
 rename_i h1 h2 h3;show un (c::esc l)=_;cases hx:esc l with| nil=>rw[hx]at ih;rw[un,<- ih];all_goals rfl| cons d r=>rw[un,ah h2,<- hx,ih]
theorem yj4{a b:List UInt8}(h:esc a=esc b):a=b:=by rw[<- gS a,h,gS]
theorem yjb{a b x y:List UInt8}(h:a++10::x=b++10::y)(ha:(10:UInt8)∉a)(hb:(10:UInt8)∉b):a=b:=by
 induction a generalizing b with
 |nil=>
  cases b with| nil=>rfl| cons d b=>
  simp at h;exact absurd h.1 (fun e=>hb (by rw[<- e];simp))
 |cons c a ih=>
 cases b with| nil=>simp at h;exact absurd h.1 (fun e=>ha (by rw[e];simp))| cons d b=>
 simp only[bJ,List.cons.injEq]at h;rw[h.1,ih h.2 (fun e=>ha (by simp[e])) (fun e=>hb (by simp[e]))]
theorem ykj{s t r:List UInt8}(h:(hd s++r).take (hd t).length=hd t):s=t:=by
 have e:hd s++r=hd t++(hd s++r).drop (hd t).length:=by
  conv=>lhs;rw[<- List.take_append_drop (hd t).length (hd s++r)]
  rw[h]
 generalize (hd s++r).drop (hd t).length=z at e;rw[OX,OX,aM,aM]at e;have e2:=yjb e (UO s) (UO t);unfold hl at e2;simp only[List.cons.injEq,true_and]at e2;exact yj4 (List.append_cancel_right e2)
theorem yju(l p:List UInt8)(w:dY)(hl:l.length<=maxLen)(hp:p.length<=1000):fI 90 #[.string ⟨l.toArray⟩,.string ⟨p.toArray⟩] w fun e w'=>e=fM (.bool (decide (l.take p.length=p)))/\w'=w:=by have HP:Hid _:=UA l p w hl hp;generalize (⟨l.toArray⟩:dX)=S at *;generalize (⟨p.toArray⟩:dX)=Q at *;generalize decide (l.take p.length=p)=q at *;go_enter Tryz.func90,Tryz.ntmps90;go_wp2_with fail;refine aB HP.o ?_;rintro e w1 ⟨rfl,rfl⟩;go_wp2_with fail;go_ret;exact⟨rfl,rfl⟩
def cont(s:dX)(L:List Int)(tl:List UInt8):List UInt8:=hd s.data.toList++(body L++tl)
theorem yje(s:dX)(L:List Int)(tl:List UInt8):cont s L tl=hl s.data.toList++10::(body L++tl):=by unfold cont;rw[OX];simp
def F5(E:Nat->Addr)(s t:dX)(L:List Int)(w:dY)(e:Ending)(w':dY):Prop:=gU w w' /\
 ((s=t/\∃v,e=fM (.tuple #[v,.nilIface])/\w'.ownsRow w.heap.size 3 1 v L.length (iC L)) \/
  (s≠t/\∃f,e=fM (.tuple #[iE,.iface 120 (fq f)])/\Jn.FJ w' f (.iface 393 (.pointer (some (E 9))))))
theorem yjt(E:Nat->Addr)(s t:dX)(L:List Int)(tl:List UInt8)(w:dY)(hL:∀a∈L,Jn.Cv a)(ht:(10:UInt8)∉tl)(hc:(cont s L tl).length<=10000000000)(hn:L.length<=1000000000)(hs:t.size<=400)(g:Je w E):fI 46 #[.string ⟨(cont s L tl).toArray⟩,.string t] w (F5 E s t L w):=by
 have G0:Hid _:=g;have e0:=yje s L tl;have HL:Hid _:=fL (hl s.data.toList) (body L++tl) w (UO _) (by rw[<- e0];unfold maxLen;omega);rw[<- e0]at HL;have hlt:(hd t.data.toList).length<=1000:=by have:=UQ t.data.toList;rw[dx]at this;have:(hd t.data.toList).length<=2*t.size+3:=this;omega
 have HP:Hid (∀W,_):=fun W=>yju (cont s L tl) (hd t.data.toList) W (by unfold maxLen;omega) hlt;have hbl:(body L++tl).length<=10000000000:=by unfold cont at hc;rw[aC]at hc;omega
 have HD:Hid ((s=t/\decide ((cont s L tl).take (hd t.data.toList).length=hd t.data.toList)=true)\/(s≠t/\decide ((cont s L tl).take (hd t.data.toList).length=hd t.data.toList)=false)):=by
  by_cases e:s=t;·subst e;exact ak ⟨rfl,decide_eq_true (by unfold cont;rw[List.take_left])⟩
  refine aj ⟨e,decide_eq_false fun h=>e ?_⟩;have:=ykj h;obtain⟨⟨a⟩⟩:=s;obtain⟨⟨b⟩⟩:=t;simp at this;rw[this]
 have HAn:Hid (∀W,Je W E->_):=fun W gW=>yko E L tl W hL ht hbl hn gW;generalize decide ((cont s L tl).take (hd t.data.toList).length=hd t.data.toList)=q at *;generalize (⟨(cont s L tl).toArray⟩:dX)=S at *;generalize (⟨(body L++tl).toArray⟩:dX)=B at *;generalize (⟨(hl s.data.toList).toArray⟩:dX)=A at *;go_enter Tryz.func46,Tryz.ntmps46;go_wp2_with fail;refine aB HL.o ?_;rintro e w1 ⟨rfl,b1⟩;have HB:Hid (gU w w1):=b1;have HH:Hid _:=eQ t w1 (by omega);go_wp2_with fail;refine aB HH.o ?_;rintro e w2 ⟨b2,rfl⟩;have HB2:Hid (gU w w2):=HB.o.trans (b2.mono HB.o.size);generalize (⟨(hd t.data.toList).toArray⟩:dX)=H at *;go_wp2_with fail;refine aB (HP.o _) ?_;rintro e w3 ⟨rfl,rfl⟩;have c9:=(G0.o.below HB2.o).s.v9;obtain⟨he,rfl⟩|⟨he,rfl⟩:=HD.o;·go_wp2_with fail;refine aB (HAn.o _ (G0.o.below HB2.o)) ?_;rintro e w4 ⟨b4,v,rfl,ho⟩;have HF:Hid (F5 E s t L w (fM (.tuple #[v,.nilIface])) w4):=⟨HB2.o.trans (b4.mono HB2.o.size),ak ⟨he,v,rfl,Ir ho HB2.o.size⟩⟩;obtain⟨v0,v1,v2,rfl⟩:=lu ho;go_wp2_with fail;go_ret2;exact HF.o
 go_wp2_with fail;go_region
 all_goals go_wp2_with fail
 all_goals
  go_ret2;exact⟨(HB2.o.alloc HB2.o.size _).drew,aj ⟨he,_,rfl,_,uQ⟩⟩
def ykr(E:Nat->Addr)(w:dY)(e:Ending)(w':dY):Prop:=gU w w'/\∃f g,e=fM (.tuple #[iE,.iface 120 (fq f)])/\Jn.FJ w' f (.iface 120 (fq g))/\Jn.FJ w' g (.iface 393 (.pointer (some (E 10))))
theorem yh0(E:Nat->Addr)(t:dX)(w:dY)(g:Je w E):fI 46 #[.string ⟨#[]⟩,.string t] w (ykr E w):=by
 have HL:Hid _:=fN E [] w (by simp) g;have e0:(⟨([]:List UInt8).toArray⟩:dX)=⟨#[]⟩:=rfl;rw[e0]at HL;generalize hS:(⟨#[]⟩:dX)=S at *;go_enter Tryz.func46,Tryz.ntmps46;go_wp2_with fail;refine aB HL.o ?_;rintro e w1 ⟨f,rfl,b1,hf⟩;have HF:Hid (gU w w1/\Jn.FJ w1 f (.iface 393 (.pointer (some (E 10))))):=⟨b1,hf⟩;go_wp2_with fail;all_goals (try go_region)
 all_goals (try go_wp2_with fail)
 all_goals
  go_ret2;refine⟨?_,_,f,rfl,⟨_,uQ⟩,Jn.FJ.below HF.o.2 ?_⟩
  ·first
    |exact HF.o.1.alloc HF.o.1.size _
    |exact(HF.o.1.alloc HF.o.1.size _).drew
  ·first
    |exact(aF _ _).alloc (ay _) _
    |exact((aF _ _).alloc (ay _) _).drew
open Jn (jJ)
def cB(s:dX)(L:List Int)(tl:List UInt8):dX:=⟨(cont s L tl).toArray⟩
theorem hZ(s:dX):cont s [] []=hd s.data.toList:=by simp[cont,body]
def iS(E:Nat->Addr)(b:Nat)(s t:dX)(L:List Int)(tl:List UInt8)(w:dY)(e:Ending)(w':dY):Prop:=gU w w' /\
 ((s=t/\∃jl vs,e=fM (.tuple #[fq jl,.nilIface])/\w.heap.size<=jl/\w'.heap[jl]?=some (jJ b ((cB s L tl).size:Int) vs ⟨#[]⟩ 0 0 false)/\w'.ownsRow w.heap.size 3 1 vs L.length (iC L)) \/
  (s≠t/\∃f,e=fM (.tuple #[.pointer none,.iface 120 (fq f)])/\Jn.FJ w' f (.iface 393 (.pointer (some (E 9))))))
theorem kA(E:Nat->Addr)(B b:Nat)(q:Int)(v:dZ)(fb:Nat)(s t:dX)(L:List Int)(tl:List UInt8)(w:dY)(h:F1 w B b q v fb (cB s L tl))(hL:∀a∈L,Jn.Cv a)(ht:(10:UInt8)∉tl)(hc:(cont s L tl).length<=10000000000)(hn:L.length<=1000000000)(hs:t.size<=300)(g:Je w E):fI 22 #[fq b,.string t] w (iS E b s t L tl w):=by
 have H:Hid (Je w E):=g;have HR:Hid _:=cX B b q v fb (cB s L tl) w h;have HD:Hid (∀w1,gU w w1->fI 46 #[.string (cB s L tl),.string t] w1 (F5 E s t L w1)):=fun w1 h1=>yjt E s t L tl w1 hL ht hc hn (by omega) (g.below h1);generalize hS:cB s L tl=S at *;go_enter Tryz.func22,Tryz.ntmps22;go_wp2_with fail;refine aB HR.o ?_;rintro e w1 ⟨rfl,hb1⟩;have Cj:Hid _:=HD.o w1 hb1;have B1:Hid _:=hb1;go_wp2_with fail;refine aB Cj.o ?_;rintro e w2 ⟨hb2,hcase⟩;have B2:Hid (gU w w2):=B1.o.trans (hb2.mono B1.o.size);have ct:=(H.o.below B2.o).t;obtain⟨he,va,rfl,hx1⟩|⟨he,f,rfl,hf⟩:=hcase
 ·obtain⟨a1,n1,k1,rfl⟩:=lu hx1;have HX:Hid (∀w3,(w3=w2.alloc (jJ b (S.size:Int) (.slice a1 n1 k1) ⟨#[]⟩ 0 0 false)\/w3=(w2.alloc (jJ b (S.size:Int) (.slice a1 n1 k1) ⟨#[]⟩ 0 0 false)).drew)->iS E b s t L tl w (fM (.tuple #[fq w2.heap.size,.nilIface])) w3):=by
   intro w3 hw3;have hb3:gU w2 w3:=by
    obtain rfl|rfl:=hw3;·exact(aF _ _).alloc (ay _) _
    exact((aF _ _).alloc (ay _) _).drew
   refine⟨B2.o.trans (hb3.mono B2.o.size),ak ⟨he,_,_,rfl,B2.o.size,?_,iM (Ir hx1 B1.o.size) ((fE.refl (fun _=>False) w2).below hb3) (fun _ _ h=>h)⟩⟩;rw[hS];obtain rfl|rfl:=hw3<;>exact uQ
  unfold jJ at HX;go_wp2_with fail;refine aB (cU _ _) ?_;rintro e w3 ⟨rfl,rfl⟩;go_wp2_with fail;all_goals (try go_region)
  all_goals (try go_wp2_with fail)
  all_goals
   go_ret2;exact HX.o _ (by first|exact ak rfl|exact aj rfl)
 obtain⟨ca,ta,ha⟩:=(H.o.below B2.o).s.blk 9 (by decide) (by decide);obtain⟨cb,tb,hbb⟩:=(H.o.below B2.o).b;have HI:Hid _:=Zi f (E 10) (E 9) _ _ _ _ w2 (Jn.FJ.cell hf) ((H.o.ne 9 (by decide) (by decide))) ha hbb;have HF:Hid _:=hf;go_wp2_with fail;refine aB HI.o ?_;rintro e w3 ⟨rfl,rfl⟩;go_wp2_with fail;all_goals (try go_region)
 all_goals (try go_wp2_with fail)
 all_goals
  go_ret2;first
   |exact⟨B2.o,aj ⟨he,f,rfl,HF.o⟩⟩
   |exact⟨B2.o.drew,aj ⟨he,f,rfl,Jn.FJ.below HF.o (aF _ _).drew⟩⟩
def kB(E:Nat->Addr)(B b:Nat)(q:Int)(v:dZ)(s:dX)(w:dY)(e:Ending)(w':dY):Prop:=fE (fun k=>k=b\/v.ownBlock=some k) w w' /\
 ((∃jl v' fb,FZ w.heap.size v v' fb/\e=fM (.tuple #[fq jl,.nilIface])/\w.heap.size<=jl/\w'.heap[jl]?=some (jJ b ((cB s [] []).size:Int) (iE) ⟨#[]⟩ 0 0 false)/\F1 w' B b q v' fb (cB s [] [])) \/
  (0<q/\∃f,e=fM (.tuple #[.pointer none,.iface 120 (fq f)])/\Jn.FJ w' f (.iface 393 (.pointer (some (E 8))))/\∃v',Bq w' b v' q))
theorem yiw(E:Nat->Addr)(B b:Nat)(q:Int)(v:dZ)(s:dX)(w:dY)(h:F0 w B b q v)(hB:B<=w.heap.size)(hG:21<=B)(hq0:0<=q)(hs:s.size<=300)(g:Je w E):fI 22 #[fq b,.string s] w (kB E B b q v s w):=by
 have H:Hid (Je w E):=g;have HR:Hid _:=dE B b q v w h;have HD:Hid (∀w1,gU w w1->_):=fun w1 h1=>yh0 E s w1 (g.below h1);have HH:Hid (∀w1,_):=fun w1=>eQ s w1 (by omega);have hdl:(⟨(hd s.data.toList).toArray⟩:dX).size<=1000000:=by rw[tL];have:=UQ s.data.toList;rw[dx]at this;have:(hd s.data.toList).length<=2*s.size+3:=this;omega
 have HG:Hid (∀w1,gU w w1->_):=fun w1 h1=>yin E B b q v ⟨(hd s.data.toList).toArray⟩ w1 (h.below h1) (aK hB h1.size) hG hdl hq0 (g.below h1).s;have eC:cB s [] []=⟨(hd s.data.toList).toArray⟩:=by show(⟨(cont s [] []).toArray⟩:dX)=_;rw[hZ]
 have HP:Hid (∀w4,fE (fun k=>k=b\/v.ownBlock=some k) w w4->∀v' fb,FZ w.heap.size v v' fb->F1 w4 B b q v' fb (cB s [] [])->∀w5,(w5=w4.alloc (jJ b ((cB s [] []).size:Int) (iE) ⟨#[]⟩ 0 0 false)\/w5=(w4.alloc (jJ b ((cB s [] []).size:Int) (iE) ⟨#[]⟩ 0 0 false)).drew)->kB E B b q v s w (fM (.tuple #[fq w4.heap.size,.nilIface])) w5):=by
  intro w4 t4 v' fb hfr f4 w5 lA;have hb5:gU w4 w5:=by
   obtain rfl|rfl:=lA;·exact(aF _ _).alloc (ay _) _
   exact((aF _ _).alloc (ay _) _).drew
  refine⟨t4.trans (((fE.refl (fun _=>False) w4).below hb5).mono fun _ _ h=>h.elim),ak ⟨_,v',fb,hfr,rfl,t4.size,?_,f4.below hb5⟩⟩;obtain rfl|rfl:=lA<;>exact uQ
 rw[eC]at HP;unfold jJ at HP;go_enter Tryz.func22,Tryz.ntmps22;go_wp2_with fail;refine aB HR.o ?_;rintro e w1 ⟨rfl,hb1⟩;have Cj:Hid _:=HD.o w1 hb1;have B1:Hid _:=hb1;go_wp2_with fail;refine aB Cj.o ?_;rintro e w2 ⟨hb2,f,gg,rfl,hf1,hf2⟩;have B2:Hid (gU w w2):=B1.o.trans (hb2.mono B1.o.size);have ct:=(H.o.below B2.o).t;have HI:Hid _:=ye4 f gg (E 10) w2 (Jn.FJ.cell hf1) (Jn.FJ.cell hf2);go_wp2_with fail;refine aB HI.o ?_;rintro e w3 ⟨rfl,rfl⟩;go_wp2_with fail;refine aB (HH.o _) ?_;rintro e w4 ⟨hb4,rfl⟩;have B4:Hid (gU w w4):=B2.o.trans (hb4.mono B2.o.size);have HG4:Hid _:=HG.o w4 B4.o;generalize (⟨(hd s.data.toList).toArray⟩:dX)=D at *;go_wp2_with fail;refine aB HG4.o ?_;rintro e w5 ⟨t5,hcase⟩;have T5:Hid (fE (fun k=>k=b\/v.ownBlock=some k) w w5):=(((fE.refl (fun _=>False) w).below B4.o).mono fun _ _ h=>h.elim).trans t5;obtain⟨hok,rfl,v',fb,hfr,f5⟩|⟨hok,f',rfl,hf,hbq⟩:=hcase
 ·have HX:Hid _:=HP.o w5 T5.o v' fb (hfr.mono B4.o.size) f5;go_wp2_with fail;all_goals (try go_region)
  all_goals (try go_wp2_with fail)
  all_goals
   go_ret2;exact HX.o _ (by first|exact ak rfl|exact aj rfl)
 have hq:0<q:=by unfold Gf.mq at hok;simp at hok;exact hok.1
 have HF:Hid (_/\_):=⟨hf,hbq⟩;go_wp2_with fail;all_goals (try go_region)
 all_goals (try go_wp2_with fail)
 all_goals
  go_ret2;first
   |exact⟨T5.o,aj ⟨hq,f',rfl,HF.o.1,HF.o.2⟩⟩
   |exact⟨T5.o.drew,aj ⟨hq,f',rfl,Jn.FJ.below HF.o.1 (aF _ _).drew,HF.o.2⟩⟩
theorem yjw{n:Nat}{i j:Int}(hi:Ct (n+1) i)(hj:Ct (n+1) j):qz (qz (qz 0 (n:Int)) i) j=(n:Int):=by
 have q:∀y:Int,Ct (n+1) y->y<=(n:Int):=by rintro y (rfl|⟨k,hk,rfl⟩)<;>omega
 have h1:=q i hi;have h2:=q j hj;have e0:qz 0 (n:Int)=(n:Int):=by unfold qz;split<;>omega
 have e1:qz (n:Int) i=(n:Int):=by unfold qz;split<;>omega
 have e2:qz (n:Int) j=(n:Int):=by unfold qz;split<;>omega
 rw[e0,e1,e2]
theorem yjy(l X:List UInt8)(w:dY)(h:l.length<=1000)(hl:l.take 1≠[63])(hX:(X++[63]).length<=100000000000):fI 144 #[.string ⟨l.toArray⟩,.string ⟨(X++[63]).toArray⟩] w fun e w'=>e=fM (.string ⟨l.toArray⟩)/\gU w w':=by
 have H0:Hid (∀w1,_):=fun w1=>last_at X [] 63 w1 (by simp) (by unfold maxLen;omega);have hz:(⟨(X++[63]).toArray⟩:dX).size=X.length+1:=by rw[tL];simp
 have HT:Hid (∀w1,_):=fun w1=>fX l [63] w1 (by unfold maxLen;omega) (by decide) hl;have ex:=FY (X++[63]) X.length (X++[63]).length;have x63:((X++[(63:UInt8)]).drop X.length).take ((X++[63]).length-X.length)=[63]:=by simp
 rw[x63]at ex;simp only[aC,aS]at ex hX;have e63:(⟨([63]:List UInt8).toArray⟩:dX)=⟨#[63]⟩:=rfl;rw[e63]at ex HT;generalize (⟨(X++[63]).toArray⟩:dX)=Q at *;have hX2:Q.size<=maxLen:=by rw[hz];unfold maxLen;omega
 have H1:Hid (∀c w1,_):=fun c w1=>ydw Q c w1 hX2;generalize (⟨l.toArray⟩:dX)=S at *;generalize X.length=n at *;go_enter Tryz.func144,Tryz.ntmps144;go_wp2_with fail;refine aB (H0.o _) ?_;rintro e w1 ⟨rfl,rfl⟩;go_wp2_with fail;refine aB (H1.o _ _) ?_;rintro e w1 ⟨⟨i2,hi2,rfl⟩,rfl⟩;go_wp2_with fail;refine aB (H1.o _ _) ?_;rintro e w1 ⟨⟨i3,hi3,rfl⟩,rfl⟩;have hmx:=UD #[3,3,3,3] 3 0 (n:Int) i2 i3 w1;rw[hz]at hi2 hi3;rw[yjw hi2 hi3]at hmx;have E9:n<=Q.size:=by omega
 have N9:(n:Int)<=(Q.size:Int):=by omega
 go_wp2_with fail;refine aB (HT.o _) ?_;rintro e w2 ⟨rfl,rfl⟩;go_wp2_with fail;go_ret;exact⟨rfl,aF _ _⟩
open Jn (FJ)
open Lg
theorem ye2{w:dY}{E:Nat->Addr}(h:q8 w E){f n:Nat}(hn:1<=n/\n<=9)(hf:FJ w f (.iface 393 (.pointer (some (E n))))){i:Nat}(hi:1<=i/\i<n):fI 47 #[.iface 120 (fq f),.iface 393 (.pointer (some (E i)))] w fun e w'=>e=fM (.bool false)/\w'=w:=by obtain⟨ca,ta,ha⟩:=h.blk n hn.1 hn.2;obtain⟨cb,tb,hb⟩:=h.blk i hi.1 (by omega);exact Zi f _ _ _ _ _ _ w hf.cell (h.ne n i hn.1 hn.2 hi.1 (by omega) (by omega)) ha hb
theorem UR(E:Nat->Addr)(n f:Nat)(hn:n=8\/n=9)(w:dY)(h:q8 w E)(hf:FJ w f (.iface 393 (.pointer (some (E n))))):fI 44 #[.iface 120 (fq f)] w fun r w'=>r=fM (eF ((n+1:Nat):Int))/\w'=w:=by
 have v1:=h.v1;have v3:=h.v3;have v4:=h.v4;have v5:=h.v5;have v6:=h.v6;have v7:=h.v7;have v8:=h.v8;have v9:=h.v9;have H:Hid (q8 w E/\FJ w f (.iface 393 (.pointer (some (E n))))):=⟨h,hf⟩;obtain rfl|rfl:=hn;all_goals
  go_enter Tryz.func44,Tryz.ntmps44
  repeat (go_wp2_with fail;refine(ye2 H.o.1 (by decide) H.o.2 (by decide)).mono ?_;rintro r w' ⟨rfl,rfl⟩)
  go_wp2_with fail;refine(Zh f (E _) _ H.o.2.cell).mono ?_;rintro r w' ⟨rfl,rfl⟩;go_wp2_with fail;go_ret;exact⟨rfl,rfl⟩
theorem ykd(E:Nat->Addr)(n f:Nat)(hn:n=8\/n=9)(w:dY)(h:q8 w E)(hf:FJ w f (.iface 393 (.pointer (some (E n))))):fI 21 #[.iface 120 (fq f)] w fun r w'=>r=fM (.tuple #[eF ((n+1:Nat):Int),eF 0])/\gU w w':=by
 have H:Hid (q8 w E/\FJ w f (.iface 393 (.pointer (some (E n))))):=⟨h,hf⟩;have hb:Hid (gU w (w.alloc (.cells #[.pointer none] 114))):=(aF _ _).alloc (ay _) _;go_enter Tryz.func21,Tryz.ntmps21;go_wp2_with fail;refine(yfy f (E n) _ _ (H.o.1.below hb.o).et (H.o.2.below hb.o).cell).mono ?_;rintro r w' ⟨rfl,rfl⟩;have hb2:Hid (gU w ((((w.alloc (.cells #[.pointer none] 114)).alloc (.cells #[fq w.heap.size] 116)).alloc (nY (w.alloc (.cells #[.pointer none] 114)))).alloc (nY (w.alloc (.cells #[.pointer none] 114))))):=
  (((hb.o.alloc (by simp) _).alloc (by simp;omega) _).alloc (by simp;omega) _)
 go_wp2_with fail;refine(UR E n f hn _ (H.o.1.below hb2.o) (H.o.2.below hb2.o)).mono ?_;rintro r w' ⟨rfl,rfl⟩;go_wp2_with fail;go_ret2;exact⟨rfl,hb2.o⟩
end Gj
namespace Px
variable{V l:List dX}{w:dX}
theorem yi7(h:iR l w=false):w∉l:=by
 induction l with
 |nil=>intro h;cases h
 |cons v l ih=>
 rw[iR,dK]at h;intro hm;obtain rfl|hm:=bn.1 hm;·simp at h
 exact ih h.2 hm
theorem UU(h:l.Nodup)(w:dX):(iK l w).Nodup:=by
 unfold iK;cases hh:iR l w;·rw[ah (by simp)];exact List.nodup_append.2 ⟨h,by simp,fun a ha b hb=>by rintro rfl;rw[bD.1 hb]at ha;exact yi7 hh ha⟩
 exact h
theorem OY(x:fG):∀vs,vs.Nodup->(kN x vs).Nodup:=by
 match x with
 |⟨op,n,eH,pl,own,none,_⟩=>
  intro vs h;rw[kN];split;·exact UU h _
  exact h
 |⟨op,n,eH,pl,own,some l,none⟩=>intro vs h;rw[kN];exact OY l vs h
 |⟨op,n,eH,pl,own,some l,some r⟩=>intro vs h;rw[kN];exact OY r _ (OY l vs h)
theorem OZ(x:Option fG){vs:List dX}(h:vs.Nodup):(oC x vs).Nodup:=by cases x with| none=>exact h| some e=>exact OY e vs h
theorem O7(l:List Sm):∀vs,vs.Nodup->(jw l vs).Nodup:=by
 match l with
 |[]=>intro vs h;rw[jw];exact h
 |⟨op,eH,pl,ex,gH,gG,undo,n,gZ,one,two⟩::rest=>
 intro vs h;rw[En];refine O7 rest _ ?_;have h1:=O7 one;have h2:=O7 two;unfold lI;dsimp only;split;·exact UU (OZ _ h) _
 split
 ·split;·exact OZ _ h
  exact UU (OZ _ h) _
 split;·exact h2 _ (h1 _ (OZ _ h))
 split;·exact h2 _ (h1 _ h)
 split;·exact h1 _ h
 exact h
theorem lB(l:List dX)(v w:dX):iR (l++[v]) w=(iR l w||(v.toList==w.toList)):=by induction l with| nil=>simp[iR]| cons a l ih=>rw[bJ,iR,ih,iR,Bool.or_assoc]
theorem lE(l:List dX)(v w:dX):(iR l w=true->fF (l++[v]) w=fF l w)/\(iR l w=false->(v.toList==w.toList)=true->fF (l++[v]) w=l.length):=by
 induction l with| nil=>exact⟨fun h=>by simp[iR]at h,fun _ h=>by simp[fF,h]⟩| cons a l ih=>
 rw[bJ,fF,iR,fF];refine⟨fun h=>?_,fun h hv=>?_⟩
 ·split;·rfl
  rename_i hne;have:iR l w=true:=by simpa[hne]using h
  rw[ih.1 this]
 rw[dK]at h;rw[ah (by simp[h.1]),ih.2 h.2 hv];all_goals rfl
variable{i:Nat}
theorem lL(hV:V.Nodup)(hi:i<V.length)(h:(V[i].toList==w.toList)=true):Mk.kK (V.take (i+1)) w=(i:Int):=by
 have e:V.take (i+1)=V.take i++[V[i]]:=aZ hi;have hl:(V.take i).length=i:=by rw[bZ];omega
 have hh:iR (V.take i) w=false:=by
  rw[Bool.eq_false_iff];intro hc;have hw:=Qk h;have hm:w∈V.take i:=by
   revert hc;generalize V.take i=u;intro hc;induction u with| nil=>simp[iR]at hc| cons a u ih=>
   rw[iR,bY]at hc;obtain hc|hc:=hc;·rw[Qk hc];exact dA
   exact List.mem_cons_of_mem _ (ih hc)
  obtain⟨j,hj,lO⟩:=dQ hm;rw[hl]at hj;rw[List.getElem_take]at lO;exact List.pairwise_iff_getElem.1 hV j i (by omega) hi hj (lO.trans hw.symm)
 unfold Mk.kK;rw[e,lB,hh,h,(lE _ _ _).2 hh h,hl];all_goals rfl
theorem lP(hi:i<V.length)(h:(V[i].toList==w.toList)=false):Mk.kK (V.take (i+1)) w=Mk.kK (V.take i) w:=by
 have e:V.take (i+1)=V.take i++[V[i]]:=aZ hi;unfold Mk.kK;rw[e,lB,h,Bool.or_false];split;·rename_i hh;rw[(lE _ _ _).1 hh]
 rfl
theorem yhr(s:Rs):(jH s).held=s.held:=by
 unfold jH;split;·rfl
 split
 ·dsimp only;split;·exact(ML _ _).1
  exact(ML _ _).1
 rfl
theorem yh1(V:Vs)(l:List Sm)(a:List Int):(play V l a).held.length=V.length:=by unfold play;rw[yhr,(Bj V l ⟨List.replicate V.length 0,a,[],[[]],0,false,false⟩ (by simp) (by simp)).1];simp
end Px
namespace Gl
open Fi Px Ref
theorem yU(n:Int)(w:dY):fI 9 #[eF n] w fun e w'=>e=fM (eF n)/\w'=w:=by go_enter Tryz.func9,Tryz.ntmps9;go_wp2_with fail;go_ret;exact⟨rfl,rfl⟩
theorem yi5:(Tryz.prog.info? 4).map (fun i=>(i.zero,i.size,i.bytes))=some (some (.bool false),1,1):=by kernel_rfl
def allT(n:Nat):List dZ:=List.replicate n (.bool true)
theorem yho(B n k:Nat)(v:dZ)(w:dY)(h:w.ownsRow B 4 1 v n (allT n)):fI 34 #[v,eF (k:Int)] w fun e w'=>e=fM (.bool (decide (k<n)))/\w'=w:=by
 by_cases hk:k<n
 ·obtain⟨g,cap,rfl,hc⟩:=yT h hk;have c0:w.cell? ⟨g,k,none⟩=some (.bool true):=hc k _ (by simp[allT,hk]);have hki:(k:Int)<(n:Int):=by omega
  have hd:decide (k<n)=true:=by simp[hk]
  rw[hd];go_enter Tryz.func34,Tryz.ntmps34;go_wp2_with fail;go_ret;exact⟨rfl,rfl⟩
 have hl:∃a c,v=.slice a n c:=by
  obtain⟨rfl,h2⟩|⟨g,cap,cur,rfl,_⟩:=h.2;·exact⟨none,0,by rw[h2]⟩
  exact⟨_,_,rfl⟩
 obtain⟨a,c,rfl⟩:=hl;have hki:¬(k:Int)<(n:Int):=by omega
 have hd:decide (k<n)=false:=by simp[hk]
 rw[hd];go_enter Tryz.func34,Tryz.ntmps34;go_wp2_with fail;go_ret;exact⟨rfl,rfl⟩
theorem UW{w:dY}{B e n g cap i:Nat}{x:dZ}{xs:List dZ}(h:w.ownsRow B e 1 (.slice (some ⟨g,0,none⟩) n cap) n xs):(w.setCell ⟨g,i,none⟩ x).ownsRow B e 1 (.slice (some ⟨g,0,none⟩) n cap) n (xs.set i x):=by
 obtain⟨h1,h2⟩:=h;obtain⟨h2,_⟩|⟨g',cap',cur,he,hB,hg,hn,hc,hs,ht⟩:=h2;·cases h2
 cases he;refine⟨by simpa using h1,aj ⟨g,cap,cur.setIfInBounds i x,rfl,hB,Ref.heap_set _ hg,hn,hc,by simpa using hs,?_⟩⟩;rw[Array.toList_setIfInBounds,<- ht,List.take_set]
def lR:dZ->Nat
 |.slice _ n _=>n
 |_=>0
def UY(B k:Nat)(v:dZ)(w:dY)(r:Ending)(w':dY):Prop :=∃v',r=fM v'/\w'.ownsRow B 4 1 v' (k+1) (allT (k+1))/\fE (fun j=>v.ownBlock=some j) w w'/\(v'.ownBlock=v.ownBlock\/∃j,v'.ownBlock=some j/\w.heap.size<=j)
theorem yi1(B k:Nat)(v:dZ)(w:dY)(hk:k<=100000000000)(h:w.ownsRow B 4 1 v (k+1) (allT (k+1))):fI 31 #[v,eF (k:Int)] w (UY B k v w):=by
 obtain⟨g,cap,rfl,hc⟩:=yT h (i:=k) (by omega);have c0:w.cell? ⟨g,k,none⟩=some (.bool true):=hc k _ (by simp[allT]);have hfz:w.frozen? ⟨g,k,none⟩=false:=by
  obtain⟨h2,_⟩|⟨g',cap',cur,he,hB,hg,_⟩:=h.2;·cases h2
  cases he;simp[World.frozen?,hg]
 have hp:=UW (x:=.bool true) (i:=k) h;have H:Hid ((w.setCell ⟨g,k,none⟩ (.bool true)).ownsRow B 4 1 (.slice (some ⟨g,0,none⟩) (k+1) cap) (k+1) (allT (k+1))):=by
  have e:(allT (k+1)).set k (Value.bool true)=allT (k+1):=by unfold allT;apply List.ext_getElem (by simp);intro i h1 h2;simp
  rw[e]at hp;exact hp
 go_enter Tryz.func31,Tryz.ntmps31;go_wp2_with fail;go_loopw [0] (fun v' wr=>wr=w/\v'=.slice (some ⟨g,0,none⟩) (k+1) cap) (fun _ _=>0)
 case atStart=>exact⟨rfl,rfl⟩
 case round=>
  obtain⟨rfl,rfl⟩:=hrel;have hn:¬((k:Int)+1<=(k:Int)):=by omega
  go_wp2_with fail;go_ret;exact⟨_,rfl,H.o,(fE.refl (fun j=>(Value.slice (some ⟨g,0,none⟩) (k+1) cap).ownBlock=some j) _).setCell (p:=⟨g,k,none⟩) (ak rfl) _,ak rfl⟩
theorem yi0(B k:Nat)(v:dZ)(w:dY)(hk:k<=100000000000)(hB:B<=w.heap.size)(h:w.ownsRow B 4 1 v k (allT k)):fI 31 #[v,eF (k:Int)] w (UY B k v w):=by
 obtain⟨i0,hi,hz0,hz1,hz2⟩:=info_parts yi5;have hl:∃a c,v=.slice a k c:=by
  obtain⟨rfl,h2⟩|⟨g,cap,cur,rfl,_⟩:=h.2;·exact⟨none,0,by rw[h2]⟩
  exact⟨_,_,rfl⟩
 obtain⟨va,vc,rfl⟩:=hl;have H:Hid (w.ownsRow B 4 1 (.slice va k vc) k (allT k)):=h;go_enter Tryz.func31,Tryz.ntmps31;go_wp2_with fail;go_loopw [0] (fun v' wr=>(wr=w/\v'=.slice va k vc)\/Hid (wr.ownsRow B 4 1 v' (k+1) (allT k++[.bool false])/\fE (fun j=>(Value.slice va k vc).ownBlock=some j) w wr/\(v'.ownBlock=(Value.slice va k vc).ownBlock\/∃j,v'.ownBlock=some j/\w.heap.size<=j))) (fun v' _=>k+1-lR v')
 case atStart=>exact ak ⟨rfl,rfl⟩
 case round=>
  obtain⟨rfl,rfl⟩|hr:=hrel
  ·have hle:(k:Int)<=(k:Int):=by omega
   go_wp2_with (first
    |(at_builtin;refine wpList_append_own_at _ rfl _ _ 31 rfl B 4 i0 (.bool false) 1 1 Tryz.underlying31 hi hz0 hz1 hz2 rfl (by decide) _ _ _ rfl (H.o.alloc _) ⟨wr.heap.size,0,none⟩ 1 1 [.bool false] rfl rfl ?c1 ?c2 ?c3 ?c4 ?c5 ?_)
    |fail)
   case c1=>
    intro j u hj;match j,hj with| 0,hj=>simp at hj;subst hj;simp[Addr.add]
   case c2=>intro u hu;simp at hu;subst hu;rfl
   case c3=>unfold maxLen;omega
   case c4=>omega
   case c5=>simp;omega
   intro v' w4 hown' hgrow _ hloc;have HN:Hid (w4.ownsRow B 4 1 v' (k+1) (allT k++[.bool false])/\fE (fun j=>(Value.slice va k vc).ownBlock=some j) wr w4/\(v'.ownBlock=(Value.slice va k vc).ownBlock\/∃j,v'.ownBlock=some j/\wr.heap.size<=j)):=by refine⟨hown',((fE.refl _ _).alloc _).grown hgrow fun k hk=>ak hk,hloc.imp id fun e=>⟨_,e,by simp⟩⟩
   have hsh:∃a c,v'=.slice a (k+1) c:=by
    obtain⟨rfl,h2⟩|⟨g,cap,cur,rfl,_⟩:=hown'.2;·omega
    exact⟨_,_,rfl⟩
   obtain⟨a',c',rfl⟩:=hsh;go_wp2;exact⟨aj HN.o,by simp[lR]⟩
  obtain⟨h1,h2,h3⟩:=hr.o;obtain⟨g,cap,rfl,hc⟩:=yT h1 (i:=k) (by omega);have c0:wr.cell? ⟨g,k,none⟩=some (.bool false):=hc k _ (by simp[allT]);have hfz:wr.frozen? ⟨g,k,none⟩=false:=by
   obtain⟨h2,_⟩|⟨g',cap',cur,he,hB,hg,_⟩:=h1.2;·cases h2
   cases he;simp[World.frozen?,hg]
  have hp:=UW (x:=.bool true) (i:=k) h1;have HP:Hid ((wr.setCell ⟨g,k,none⟩ (.bool true)).ownsRow B 4 1 (.slice (some ⟨g,0,none⟩) (k+1) cap) (k+1) (allT (k+1))/\fE (fun j=>(Value.slice va k vc).ownBlock=some j) w (wr.setCell ⟨g,k,none⟩ (.bool true))/\((Value.slice (some ⟨g,0,none⟩) (k+1) cap).ownBlock=(Value.slice va k vc).ownBlock\/∃j,(Value.slice (some ⟨g,0,none⟩) (k+1) cap).ownBlock=some j/\w.heap.size<=j)):=by
   have e:(allT k++[Value.bool false]).set k (Value.bool true)=allT (k+1):=by unfold allT;rw[List.set_append_right _ _ (by simp)];simp[List.replicate_succ']
   rw[e]at hp;refine⟨hp,h2.setCell (p:=⟨g,k,none⟩) ?_ _,h3⟩;obtain h3|⟨j,h3,h4⟩:=h3;·exact ak h3.symm
   cases h3;exact aj h4
  have hn:¬((k:Int)+1<=(k:Int)):=by omega
  go_wp2_with fail;go_ret;exact⟨_,rfl,HP.o⟩
theorem zj7(wd:dX)(ar tr:Int)(un:Bool)(w:dY):fI 33 #[.agg #[.string wd,eF ar,eF tr,.bool un],.agg #[.string wd,eF ar,eF tr,.bool un]] w fun e w'=>e=fM (.bool true)/\gU w w':=by
 have h1:(wd.toList==wd.toList)=true:=by simp
 cases un;all_goals
  go_enter Tryz.func33,Tryz.ntmps33;go_wp2_with fail;go_ret;exact⟨rfl,((aF _ _).alloc (ay _) _).alloc (by simp) _⟩
abbrev vars(l:List Sm):Vs:=(jv l ⟨[],0,0⟩).vars
abbrev play(l:List Sm)(L:List Int):Rs:=Px.play (vars l) l L
theorem mB{w:dY}{B:Nat}{v:dZ}{l:List Int}(h:w.ownsRow B 3 1 v l.length (gB l))(hl:l.length<=1000000000):zx w v l:=by
 have hv:∃ad cap,v=.slice ad l.length cap:=by
  obtain⟨rfl,h2⟩|⟨g,cap,cur,rfl,_⟩:=h.2;·exact⟨none,0,by rw[h2]⟩
  exact⟨_,_,rfl⟩
 obtain⟨ad,cap,rfl⟩:=hv;refine⟨ad,cap,rfl,by unfold maxLen;omega,by omega,fun i hi=>?_⟩;obtain⟨g,cap',e,hc⟩:=yT h hi;cases e;have:=hc i (eF l[i]) (by simp[gB,hi]);refine⟨_,rfl,lt_of_cell this,?_⟩;have e:(⟨g,0,none⟩:Addr).add i=⟨g,i,none⟩:=by simp[Addr.add];omega
 rw[e];exact this
def O8(l:List Sm)(L:List Int)(w:dY)(r:Ending)(w':dY):Prop :=∃c vh va,r=fM (fq c)/\gU w w'/\w.heap.size<=c/\w'.cell? ⟨c,5,none⟩=some (eF ((play l L).over:Int))/\w'.cell? ⟨c,1,none⟩=some vh/\w'.cell? ⟨c,3,none⟩=some va/\w'.ownsRow w.heap.size 3 1 vh (play l L).held.length (gB (play l L).held)/\w'.ownsRow w.heap.size 95 4 va (play l L).eY.length (zu (play l L).eY)
theorem yjv{s:dX}{l:List Sm}(hr:Px.read s=.ok l)(hc:gI s=(0,0))(L:List Int)(w:dY)(B:Nat)(ok:Nat->Prop)(v:dZ)(qs:List Nat)(vv av:dZ)(h1:jc w v qs ok)(h2:gF w l ok qs)(hok:∀i,ok i->i<w.heap.size)(hv:w.ownsRow 0 101 2 vv (vars l).length (rY (vars l)))(ha:w.ownsRow B 3 1 av L.length (gB L))(hL:L.length<=100000000):fI 32 #[v,vv,av] w (O8 l L w):=by obtain⟨wf,hcn⟩:=Ao hr;have hvn:=zh l ⟨[],0,0⟩;simp at hvn;obtain⟨tr,_⟩:=Qj hr;obtain⟨_,_,_,O9⟩:=CS l ⟨[],0,0⟩ wf tr (fun v hv=>by cases hv) (Qo hr hc);have O9:=O9 [];rw[bQ]at O9;have hlen:=Xu hr hc L;refine(zl5 l (vars l) L w ok v qs vv av h1 h2 hok hv (mB ha (by omega)) (fun B c=>Ref.Ri B c _ l wf O9) (by omega) (by show(jv l ⟨[],0,0⟩).vars.length<=_;omega) (aK hlen (by omega))).mono ?_;rintro e w1 ⟨c,vh,vl,va,vp,pv,rfl,hb,hst⟩;obtain⟨y0,y1,y2,y3,y4,y5,y6,y7,yf⟩:=oh hst.at_;exact⟨c,vh,va,rfl,hb,hst.hB,y5,y1,y3,hst.held,hst.eY⟩
theorem mC{w:dY}{B e z n:Nat}{v:dZ}{xs:List dZ}(h:w.ownsRow B e z v n xs){i:Nat}(hi:i<n):∃g cap,v=.slice (some ⟨g,0,none⟩) n cap/\∀k x,xs[k]?=some x->w.cell? ⟨g,k,none⟩=some x:=by
 obtain⟨_,h2⟩|⟨g,cap,cur,rfl,hg,hh,hn,hm,hz,ht⟩:=h.2;·omega
 refine⟨g,cap,rfl,fun k x hk=>?_⟩;rw[<- ht,List.getElem?_take]at hk;split at hk;·simp only[World.cell?,hh];simpa using hk
 cases hk
theorem yi3{w:dY}{B:Nat}{v:dZ}{A:List iL}(h:w.ownsRow B 95 4 v A.length (zu A))(hA:0<A.length):∃g cap x,A.getLast?=some x/\v=.slice (some ⟨g,0,none⟩) A.length cap/\w.cell? ⟨g,(A.length-1)*4,none⟩=some (.string x.eH)/\w.cell? ⟨g,(A.length-1)*4+1,none⟩=some (eF x.arg)/\w.cell? ⟨g,(A.length-1)*4+2,none⟩=some (eF (x.nth:Int))/\w.cell? ⟨g,(A.length-1)*4+3,none⟩=some (.bool x.undo):=by
 obtain⟨g,cap,rfl,hc⟩:=mC h hA;obtain⟨A',x,rfl⟩:∃A' x,A=A'++[x]:=⟨A.dropLast,A.getLast (by intro e;rw[e]at hA;simp at hA),(bM _).symm⟩;have e:(A'++[x]).length-1=A'.length:=by simp
 have hl:=W8 A';rw[e];refine⟨g,cap,x,by simp,rfl,hc _ _ ?_,hc _ _ ?_,hc _ _ ?_,hc _ _ ?_⟩<;>rw[W9,aY (by omega),hl]<;>simp
