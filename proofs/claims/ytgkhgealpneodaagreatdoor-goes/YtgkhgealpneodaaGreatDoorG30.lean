import Derived.Test.YtgkhgealpneodaaGreatDoorG29
set_option maxRecDepth 100000
set_option maxHeartbeats 4000000
namespace Go.Proofs.YtgkhgealpneodaaGreatDoor
open Go.RowKit
namespace Rn
open Px
variable{M m:Ms}{i:fC}{E:Nat}
theorem cD{P:Pg}(hu:m.jK=false)(hi:P.ins[m.eD]?=some i)(hd:jF P i {m with eD:=m.eD+1}=(E,M)):jB P m=(E,if E=0 then M else{M with eD:=m.eD}):=by
 unfold jB;have hn:¬(m.jK=true):=by rw[hu];decide
 rw[ah hn];simp only[hi,hd];cases E with| zero=>rfl| succ n=>rfl
def Uw(x:Cx)(m M:Ms)(i:fC)(E n:Nat)(W:dY)(f:Nat->dZ)(va:dZ)(e:Ending)(w1:dY):Prop:=
 e=fM (iW x E)/\w1.cell? ⟨n,0,none⟩=some (fq x.g)/\w1.cell? ⟨n+3,0,none⟩=some (eF (i.k:Int))/\w1.cell? ⟨n+3,1,none⟩=some (eF (i.a:Int))/\w1.cell? ⟨n+3,2,none⟩=some (eF (i.b:Int))/\w1.cell? ⟨x.g,5+i.k*4+3,none⟩=some (.func (.func (pq i.k)) #[] (tK x.J i.k))/\w1.cell? ⟨n+1,0,none⟩=some .nilIface/\w1.frozen? ⟨n+1,0,none⟩=false /\
  Hid (∃f1 jD,MK x M w1 f1 jD/\Fr x W f va w1 f1 jD/\lX x m.eD n w1 .nilIface)
def zY(x:Cx)(p:Nat)(i:fC)(w:dY):dY:=((stepW x p w).alloc (iX i)).setCell ⟨x.g,86,none⟩ (eF ((p+1:Nat):Int))
variable{x:Cx}{w:dY}{f:Nat->dZ}{va:dZ}
theorem Ux(hj:jV x)(h:MK x m w f va)(hk:i.k<20):MK x {m with eD:=m.eD+1} (zY x m.eD i w) (upd f 86 (eF ((m.eD+1:Nat):Int))) va/\Fr x (stepW x m.eD w) f va (zY x m.eD i w) (upd f 86 (eF ((m.eD+1:Nat):Int))) va/\lX x m.eD w.heap.size (zY x m.eD i w) .nilIface /\
   (∀o v,(#[Value.int .i64 (i.k:Int),eF (i.a:Int),eF (i.b:Int)]:Array dZ)[o]?=some v->(zY x m.eD i w).cell? ⟨w.heap.size+3,o,none⟩=some v)/\(zY x m.eD i w).cell? ⟨x.g,5+i.k*4+3,none⟩=some (.func (.func (pq i.k)) #[] (tK x.J i.k)):=by
 obtain⟨hT,hn,hs⟩:=K7 x m.eD w;obtain⟨j1,j2⟩:=h.same hj hT;obtain⟨k1,k2⟩:=j1.same hj ((fE.refl _ _).alloc (iX i));obtain⟨i1,i2⟩:=k1.TQ hj (m.eD+1);have hF:=k2.trans i2;have ct:=i1.a.blk.cell (8+4*i.k) (by omega);rw[i1.a.tab i.k hk,show 8+4*i.k=5+i.k*4+3 by omega]at ct;have hlt:=h.a.lt;refine⟨i1,hF,hs.fr' h.a hF,fun o v hv=>?_,ct⟩;have:=yR (stepW x m.eD w) #[eF (i.k:Int),eF (i.a:Int),eF (i.b:Int)] 219 o v hv;rw[hn]at this;unfold zY;rw[Co (fun e=>by have:=congrArg Addr.block e;simp only at this;omega)];exact this
theorem cG(hj:jV x)(lN:zX x)(h:MK x m w f va)(hb:Bd x.P m)(hc:mW x.P i m)(hd:jF x.P i {m with eD:=m.eD+1}=(E,M)):∀Wc,fE (fun _=>False) (zY x m.eD i w) Wc->Calls Tryz.prog (pq i.k) (wF x i) Wc (Uw x m M i E w.heap.size (stepW x m.eD w) f va):=by
 intro Wc hTc;have hk:=hc.k;obtain⟨i1,i2,s1,ha0,_⟩:=Ux hj h (i:=i) hk;obtain⟨k1,k2⟩:=i1.same hj hTc;have hb':Bd x.P {m with eD:=m.eD+1}:=⟨hb.s,hb.u,hb.b,hb.a,hb.t,hb.sw,hb.kY,hb.vars,hb.w⟩;have hc':mW x.P i {m with eD:=m.eD+1}:=⟨hc.k,hc.a,hc.b,hc.st,hc.fit,hc.keep⟩;refine(Ri hj lN _ Wc _ va k1 i hb' hc').mono ?_;rintro e w1 ⟨rfl,f1,jD,q1,q2⟩;rw[hd]at q1 |-;obtain⟨p1,p2⟩:=h.TQ hj (m.eD+1);have hsz:(w.setCell ⟨x.g,86,none⟩ (eF ((m.eD+1:Nat):Int))).heap.size=w.heap.size:=by simp[World.setCell]
 have hF:=k2.trans q2;have s3:lX x m.eD w.heap.size w1 .nilIface:=by have:=lX.fr' (w:=w.setCell ⟨x.g,86,none⟩ (eF ((m.eD+1:Nat):Int))) p1.a (by rw[hsz];exact s1) hF;rw[hsz]at this;exact this
 have ha:∀o v,(#[Value.int .i64 (i.k:Int),eF (i.a:Int),eF (i.b:Int)]:Array dZ)[o]?=some v->w1.cell? ⟨w.heap.size+3,o,none⟩=some v:=fun o v hv=>Fr.loc p1.a (by rw[hsz];omega) hF (ha0 o v hv);have ct:=q1.a.blk.cell (8+4*i.k) (by omega);rw[q1.a.tab i.k hk,show 8+4*i.k=5+i.k*4+3 by omega]at ct;exact⟨rfl,s3.c0,ha 0 _ rfl,ha 1 _ rfl,ha 2 _ rfl,ct,s3.c1,s3.fr,f1,jD,q1,i2.trans (k2.trans q2),s3⟩
def calm(Q:Exit->Act->dY->Prop):Exit->Act->dY->Prop
 |.panic _,_,_=>False
 |e,a,w=>Q e a w
theorem OU{P:Program}{c:Code}{Q:Exit->Act->dY->Prop}{a:Act}(h:c.wp P (calm Q) a w):c.wp P Q a w:=
 wp_mono h fun e a w q=>by
  cases e with
  |panic c=>exact False.elim q
  |normal=>exact q
  |exit i=>exact q
  |goto l=>exact q
  |ret=>exact q
  |outgrown=>exact q
theorem AU{n k:Nat}(h:n≠k)(w1:dY)(u:dZ)(o:Nat):(w1.setCell ⟨n,0,none⟩ u).cell? ⟨k,o,none⟩=w1.cell? ⟨k,o,none⟩:=Co (fun e=>h (congrArg Addr.block e))
theorem alloc_old{W:dY}{k:Nat}(hk:k<W.heap.size)(A:Obj)(o:Nat):(W.alloc A).cell? ⟨k,o,none⟩=W.cell? ⟨k,o,none⟩:=aH (w:=W) (a:=⟨k,o,none⟩) (aI W A k hk)
theorem zlf(hj:jV x)(lN:zX x)(m:Ms)(w:dY)(f:Nat->dZ)(va:dZ)(h:MK x m w f va)(hu:m.jK=false)(i:fC)(hi:x.P.ins[m.eD]?=some i)(hl:x.P.ins.length<=10000000)(hb:Bd x.P m)(hc:mW x.P i m)(hpk:ru i.k=false):fI 131 #[fq x.g] w (x9 x m w f va):=by
 have Dl:∀(fn:Fn)(first cap:Array dZ)(w:dY),(Instr.makeFunc fn first cap).run Tryz.prog w=.ok (.func fn first cap) w:=fun _ _ _ _=>rfl;have wE:=h.a.blk.cell 86 (by decide);rw[h.a.f86]at wE;have hgz:=h.a.lt;obtain⟨E,M,hd⟩:∃E M,jF x.P i {m with eD:=m.eD+1}=(E,M):=⟨_,_,rfl⟩;have es:=cD hu hi hd;obtain⟨hT,hn,hs⟩:=K7 x m.eD w;obtain⟨j1,j2⟩:=h.same hj hT;have wY:=j1.a.blk.cell 88 (by decide);rw[h.a.f88,hu]at wY;have FX:=j1.a.blk.cell 86 (by decide);have f86:=j1.a.blk.fr 86;rw[h.a.f86]at FX;have hk:=hc.k;have et:=j1.a.blk.cell (8+4*i.k) (by omega);rw[j1.a.tab i.k hk,show 8+4*i.k=5+i.k*4+3 by omega]at et;have e4:=j1.a.blk.cell 4 (by decide);rw[h.a.f4]at e4;obtain⟨a,c,ep,hins⟩:=j1.p.read;obtain⟨q,rfl,ek,ea,eb⟩:=hins m.eD i hi;have hq:=lt_of_cell ek;have e0:=hs.c0;have e1:=hs.c1;have OT:=hs.fr;have hlt:m.eD<x.P.ins.length:=(aT.1 hi).1;have hpl:(m.eD:Int)<(x.P.ins.length:Int):=by omega
 have hpe:((m.eD:Int)==(x.P.ins.length:Int))=false:=by simp;omega
 have hkb:(i.k:Int)<20:=by omega
 have HX:Hid _:=cG hj lN h hb hc hd;obtain⟨_,_,u1,u2,u3⟩:=Ux hj h (i:=i) hk;have u0:=u1.c0;have u4:=u2 0 _ rfl;have u5:=u2 1 _ rfl;have u6:=u2 2 _ rfl;have hwr:wrap64 ((m.eD:Int)+1)=(m.eD:Int)+1:=by unfold wrap64;omega
 have K8:zY x m.eD i w=((stepW x m.eD w).alloc (.cells #[eF (i.k:Int),eF (i.a:Int),eF (i.b:Int)] 219)).setCell ⟨x.g,86,none⟩ (eF ((m.eD:Int)+1)):=by unfold zY iX;simp
 clear u1 u2;have HEn:Hid (∀args w,(callFunc (pq i.k) args).run Tryz.prog w=.ok (.enter (pq i.k) args) w):=zdj i.k hk hpk;have HH:Hid (MK x m w f va/\fE (fun _=>False) w (stepW x m.eD w)/\(stepW x m.eD w).heap.size=w.heap.size+3):=⟨h,hT,hn⟩;have hW:stepW x m.eD w=((w.alloc (.cells #[fq x.g] 71)).alloc (.cells #[.nilIface] 63)).alloc (.cells #[eF (m.eD:Int)] 3):=rfl;rw[hW]at wY;have HE:Hid (∀w',gu x (if E=0 then M else{M with eD:=m.eD}) w f va w'->x9 x m w f va (fM (iW x E)) w'):=by intro w' hp;unfold x9;rw[es];exact⟨rfl,hp⟩
 have zZ:tK x.J i.k=#[]:=by unfold tK;rw[hpk];rfl
 have z8:wF x i=#[fq x.g,jS i]:=by unfold wF;rw[hpk];rfl
 have a1:=@alloc_old (stepW x m.eD w) x.g (lt_of_cell e4);have a2:=@alloc_old (stepW x m.eD w) x.pp (lt_of_cell ep);have a3:=@alloc_old (stepW x m.eD w) q (lt_of_cell ek);have a4:=@alloc_old (stepW x m.eD w) w.heap.size (lt_of_cell e0);have a6:∀(A:Obj)(o:Nat),((stepW x m.eD w).alloc A).frozen? ⟨x.g,o,none⟩=(stepW x m.eD w).frozen? ⟨x.g,o,none⟩:=fun A o=>cO (w:=stepW x m.eD w) (a:=⟨x.g,o,none⟩) (aI _ A x.g (lt_of_cell e4));have a5:=@alloc_old (stepW x m.eD w) (w.heap.size+1) (lt_of_cell e1);rw[z8]at HX;unfold Uw at HX;rw[zZ]at HX et u3;rw[K8]at HX u0 u3 u4 u5 u6;clear K8;unfold jS at HX
 skip
 generalize pq i.k=fn at *;clear h hT hs j1 j2 hW es hu lN hb hc hd hi hins hlt z8 zZ hl;go_enter_defers Tryz.func131,Tryz.ntmps131
 go_wp2_with fail;change Code.wp _ _ _ _ (stepW x m.eD w);generalize stepW x m.eD w=W at *;clear wY wE;go_region
 all_goals
  go_wp2_with fail;refine OU ?_;go_region_held (fun w'=>w'.cell? ⟨w.heap.size,0,none⟩=some (fq x.g)/\w'.cell? ⟨x.g,4,none⟩=some (fq x.pp)/\w'.cell? ⟨x.pp,3,none⟩=some (.slice (some ⟨q,0,none⟩) x.P.ins.length c)/\w'.cell? ⟨x.g,86,none⟩=some (eF (m.eD:Int))/\w'.cell? ⟨q,m.eD*3,none⟩=some (eF (i.k:Int))/\w'.cell? ⟨q,m.eD*3+1,none⟩=some (eF (i.a:Int))/\w'.cell? ⟨q,m.eD*3+2,none⟩=some (eF (i.b:Int))) (go_keep) (fail)
  all_goals
   simp only[calm,Exit.then];go_wp2_with fail;refine OU ?_;have hen:=HEn.o;have HS:Hid (∀(w1:dY)(u:dZ),(w1.cell? ⟨w.heap.size,0,none⟩=some (fq x.g)/\w1.cell? ⟨w.heap.size+3,0,none⟩=some (eF (i.k:Int))/\w1.cell? ⟨w.heap.size+3,1,none⟩=some (eF (i.a:Int))/\w1.cell? ⟨w.heap.size+3,2,none⟩=some (eF (i.b:Int))/\w1.cell? ⟨x.g,5+i.k*4+3,none⟩=some (.func (.func fn) #[] #[]))->((w1.setCell ⟨w.heap.size+1,0,none⟩ u).cell? ⟨w.heap.size,0,none⟩=some (fq x.g)/\(w1.setCell ⟨w.heap.size+1,0,none⟩ u).cell? ⟨w.heap.size+3,0,none⟩=some (eF (i.k:Int))/\(w1.setCell ⟨w.heap.size+1,0,none⟩ u).cell? ⟨w.heap.size+3,1,none⟩=some (eF (i.a:Int))/\(w1.setCell ⟨w.heap.size+1,0,none⟩ u).cell? ⟨w.heap.size+3,2,none⟩=some (eF (i.b:Int))/\(w1.setCell ⟨w.heap.size+1,0,none⟩ u).cell? ⟨x.g,5+i.k*4+3,none⟩=some (.func (.func fn) #[] #[]))):=fun w1 u⟨h0,h1,h2,h3,h4⟩=>⟨(AU (by omega) _ _ _).trans h0,(AU (by omega) _ _ _).trans h1,(AU (by omega) _ _ _).trans h2,(AU (by omega) _ _ _).trans h3,(AU (by omega) _ _ _).trans h4⟩;clear a1 a2 a3 a4 a5 a6 FX f86 e4 ep ek ea eb e0 e1 OT et hwr Dl hpl hpe hq hn hk hpk;by_cases h0:E=0
   ·have hev:iW x E=.nilIface:=aA h0;rw[hev]at HX HE;go_region_held (fun w'=>w'.cell? ⟨w.heap.size,0,none⟩=some (fq x.g)/\w'.cell? ⟨w.heap.size+3,0,none⟩=some (eF (i.k:Int))/\w'.cell? ⟨w.heap.size+3,1,none⟩=some (eF (i.a:Int))/\w'.cell? ⟨w.heap.size+3,2,none⟩=some (eF (i.b:Int))/\w'.cell? ⟨x.g,5+i.k*4+3,none⟩=some (.func (.func fn) #[] #[])) (first|(with_reducible refine HS.o _ _ ?_;with_reducible assumption)|go_keep)
     (first|(go_at_fn fn;refine aB (HX.o _ (by first|exact fE.refl _ _|exact(fE.refl _ _).drew|exact(fE.refl _ _).drew.drew|exact(fE.refl _ _).drew.drew.drew)) ?_;rintro e w1 ⟨rfl,d0,d1,d2,d3,d4,d5,d6,H1⟩))
    all_goals
     clear hen u0 u3 u4 u5 u6 d0 d1 d2 d3 d4;simp only[calm,Exit.then];go_wp2_with fail;refine leaves_cons (f:=171) (args:=#[.pointer (some ⟨w.heap.size+1,0,none⟩),.pointer (some ⟨w.heap.size+1+1,0,none⟩),fq w.heap.size]) (by simp) (by simp[go_sem]) ?_;obtain⟨f1,jD,k1,k2,k3⟩:=H1.o;have Q:=step_end (e:=E) hj HH.o.1 HH.o.2.1 HH.o.2.2 k1 k2 k3;rw[hev]at Q;refine CallsD.mono Q ?_;clear Q;rintro e' u' w' ⟨rfl,rfl,hc,hp⟩;simp[Leaves,settle,results,Tryz.results131,go_sem,hc];exact HE.o _ hp
   ·have hev:iW x E=.iface 393 (.pointer (some (x.E E))):=ah h0;rw[hev]at HX HE;go_region_held (fun w'=>w'.cell? ⟨w.heap.size,0,none⟩=some (fq x.g)/\w'.cell? ⟨w.heap.size+3,0,none⟩=some (eF (i.k:Int))/\w'.cell? ⟨w.heap.size+3,1,none⟩=some (eF (i.a:Int))/\w'.cell? ⟨w.heap.size+3,2,none⟩=some (eF (i.b:Int))/\w'.cell? ⟨x.g,5+i.k*4+3,none⟩=some (.func (.func fn) #[] #[])) (first|(with_reducible refine HS.o _ _ ?_;with_reducible assumption)|go_keep)
     (first|(go_at_fn fn;refine aB (HX.o _ (by first|exact fE.refl _ _|exact(fE.refl _ _).drew|exact(fE.refl _ _).drew.drew|exact(fE.refl _ _).drew.drew.drew)) ?_;rintro e w1 ⟨rfl,d0,d1,d2,d3,d4,d5,d6,H1⟩))
    all_goals
     clear hen u0 u3 u4 u5 u6 d0 d1 d2 d3 d4;simp only[calm,Exit.then];go_wp2_with fail;refine leaves_cons (f:=171) (args:=#[.pointer (some ⟨w.heap.size+1,0,none⟩),.pointer (some ⟨w.heap.size+1+1,0,none⟩),fq w.heap.size]) (by simp) (by simp[go_sem]) ?_;obtain⟨f1,jD,k1,k2,k3⟩:=H1.o;have Q:=step_end (e:=E) hj HH.o.1 HH.o.2.1 HH.o.2.2 k1 k2 k3;rw[hev]at Q;refine CallsD.mono Q ?_;clear Q;rintro e' u' w' ⟨rfl,rfl,hc,hp⟩;simp[Leaves,settle,results,Tryz.results131,go_sem,hc];exact HE.o _ hp
