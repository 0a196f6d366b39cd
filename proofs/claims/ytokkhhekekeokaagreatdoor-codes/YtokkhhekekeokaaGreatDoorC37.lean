import Derived.Test.YtokkhhekekeokaaGreatDoorC36
set_option maxRecDepth 100000
set_option maxHeartbeats 4000000
namespace Go.Proofs.YtokkhhekekeokaaGreatDoor
open Go.RowKit Tryz
namespace Rn
open Px
theorem zl9 {k:Nat}(h:sS k=true):nT k=101:=by
 unfold sS at h;simp at h;rcases h with (((((rfl | rfl) | rfl) | rfl) | rfl) | rfl)<;>rfl
theorem zle {x:Cx}(hj:iT x)(jy:xL x)(m:Ms)(w:fu)(f:Nat->fC)(va:fC)(h:MK x m w f va)(hu:m.iZ=false)(i:Px.Ins)(hi:x.P.ins[m.fE]?=some i)(hl:x.P.ins.length<=10000000)(hb:Bd x.P m)(hc:jX x.P i m)(hpk:sS i.k=true) :
  Calls prog 136 #[.pointer (some ⟨x.g,0,none⟩)] w (wM x m w f va):=by
 have DI:∀ (fn:Fn) (first cap:Array fC) (w:fu),(Instr.makeFunc fn first cap).run prog w=.ok (.func fn first cap) w:=fun _ _ _ _=>rfl
 have uX:=h.a.blk.cell 86 (by decide)
 rw[h.a.f86] at uX;have hgz:=h.a.lt;obtain ⟨E,M,hd⟩:∃ E M,jh x.P i { m with fE:=m.fE+1 }=(E,M):=⟨_,_,rfl⟩
 have es:=Zk hu hi hd;obtain ⟨hT,hn,hs⟩:=Km x m.fE w;obtain ⟨j1,j2⟩:=h.same hj hT;have vO:=j1.a.blk.cell 88 (by decide)
 rw[h.a.f88,hu] at vO;have Ep:=j1.a.blk.cell 86 (by decide)
 have f86:=j1.a.blk.fr 86;rw[h.a.f86] at Ep;have hk:=hc.k;have et:=j1.a.blk.cell (8+4 * i.k) (by omega)
 rw[j1.a.tab i.k hk,show 8+4 * i.k=5+i.k * 4+3 by omega] at et
 have e4:=j1.a.blk.cell 4 (by decide)
 rw[h.a.f4] at e4;obtain ⟨a,c,ep,hins⟩:=j1.p.read;obtain ⟨q,rfl,ek,ea,eb⟩:=hins m.fE i hi;have hq:=lt_of_cell ek;have e0:=hs.c0;have e1:=hs.c1;have NM:=hs.fr;have hlt:m.fE < x.P.ins.length:=(aU.1 hi).1;have hpl:(m.fE:Int) < (x.P.ins.length:Int):=by omega
 have hpe:((m.fE:Int) == (x.P.ins.length:Int))=false:=by simp;omega
 have hkb:(i.k:Int) < 20:=by omega
 have HX:Hid (_):=Zl hj jy h hb hc hd;obtain ⟨_,_,u1,u2,u3⟩:=TD hj h (i:=i) hk;have u0:=u1.c0;have u4:=u2 0 _ rfl;have u5:=u2 1 _ rfl;have u6:=u2 2 _ rfl;have hwr:wrap64 ((m.fE:Int)+1)=(m.fE:Int)+1:=by unfold wrap64;omega
 have Ko:yN x m.fE i w=((stepW x m.fE w).alloc (.cells #[.int .i64 (i.k:Int),.int .i64 (i.a:Int),.int .i64 (i.b:Int)] 90)).setCell ⟨x.g,86,none⟩ (.int .i64 ((m.fE:Int)+1)):=by unfold yN gL;simp
 clear u1 u2;have hfn:nT i.k=101:=zl9 hpk;have HH:Hid (MK x m w f va/\fO (fun _=>False) w (stepW x m.fE w)/\(stepW x m.fE w).heap.size=w.heap.size+3):=⟨h,hT,hn⟩
 have hW:stepW x m.fE w=((w.alloc (.cells #[.pointer (some ⟨x.g,0,none⟩)] 119)).alloc (.cells #[.nilIface] 43)).alloc (.cells #[.int .i64 (m.fE:Int)] 3):=rfl;rw[hW] at vO;have HE:Hid (∀ w',PM x (if E=0 then M else { M with fE:=m.fE }) w f va w'->wM x m w f va (.returned (gU x E)) w'):=by
  intro w' hp;unfold wM;rw[es];exact ⟨rfl,hp⟩
 have yO:rJ x.J i.k=#[.pointer (some ⟨x.J i.k,0,none⟩)]:=by unfold rJ;rw[hpk];rfl
 have yP:uY x i=#[.pointer (some ⟨x.g,0,none⟩),iF i,.pointer (some ⟨x.J i.k,0,none⟩)]:=by unfold uY;rw[hpk];rfl
 have a1:=@alloc_old (stepW x m.fE w) x.g (lt_of_cell e4);have a2:=@alloc_old (stepW x m.fE w) x.pp (lt_of_cell ep);have a3:=@alloc_old (stepW x m.fE w) q (lt_of_cell ek);have a4:=@alloc_old (stepW x m.fE w) w.heap.size (lt_of_cell e0);have a6:∀ (A:Obj) (o:Nat),((stepW x m.fE w).alloc A).frozen? ⟨x.g,o,none⟩=(stepW x m.fE w).frozen? ⟨x.g,o,none⟩:=fun A o=>bQ (w:=stepW x m.fE w) (a:=⟨x.g,o,none⟩) (aD _ A x.g (lt_of_cell e4))
 have a5:=@alloc_old (stepW x m.fE w) (w.heap.size+1) (lt_of_cell e1);rw[yP] at HX;unfold TB at HX;rw[yO] at HX et u3;rw[Ko] at HX u0 u3 u4 u5 u6;clear Ko;unfold iF at HX
 skip
 rw[hfn] at HX et u3;clear hfn;generalize x.J i.k=JJ at *;clear h hT hs j1 j2 hW es hu jy hb hc hd hi hins hlt yP yO hl;go_enter_defers func136,ntmps136
 go_wp2_with fail
 change Code.wp _ _ _ _ (stepW x m.fE w)
 generalize stepW x m.fE w=W at *;clear vO uX;go_region
 all_goals
  go_wp2_with fail;refine NP ?_;go_region_held (fun w'=>w'.cell? ⟨w.heap.size,0,none⟩=some (.pointer (some ⟨x.g,0,none⟩))/\w'.cell? ⟨x.g,4,none⟩=some (.pointer (some ⟨x.pp,0,none⟩))/\w'.cell? ⟨x.pp,3,none⟩=some (.slice (some ⟨q,0,none⟩) x.P.ins.length c)/\w'.cell? ⟨x.g,86,none⟩=some (.int .i64 (m.fE:Int))/\w'.cell? ⟨q,m.fE * 3,none⟩=some (.int .i64 (i.k:Int))/\w'.cell? ⟨q,m.fE * 3+1,none⟩=some (.int .i64 (i.a:Int))/\w'.cell? ⟨q,m.fE * 3+2,none⟩=some (.int .i64 (i.b:Int))) (go_keep) (fail)
  all_goals
   simp only[calm,Exit.then];go_wp2_with fail;refine NP ?_;have HS:Hid (∀ (w1:fu) (u:fC),(w1.cell? ⟨w.heap.size,0,none⟩=some (.pointer (some ⟨x.g,0,none⟩))/\w1.cell? ⟨w.heap.size+3,0,none⟩=some (.int .i64 (i.k:Int))/\w1.cell? ⟨w.heap.size+3,1,none⟩=some (.int .i64 (i.a:Int))/\w1.cell? ⟨w.heap.size+3,2,none⟩=some (.int .i64 (i.b:Int))/\w1.cell? ⟨x.g,5+i.k * 4+3,none⟩=some (.func (.func 101) #[] #[.pointer (some ⟨JJ,0,none⟩)]))->((w1.setCell ⟨w.heap.size+1,0,none⟩ u).cell? ⟨w.heap.size,0,none⟩=some (.pointer (some ⟨x.g,0,none⟩))/\(w1.setCell ⟨w.heap.size+1,0,none⟩ u).cell? ⟨w.heap.size+3,0,none⟩=some (.int .i64 (i.k:Int))/\(w1.setCell ⟨w.heap.size+1,0,none⟩ u).cell? ⟨w.heap.size+3,1,none⟩=some (.int .i64 (i.a:Int))/\(w1.setCell ⟨w.heap.size+1,0,none⟩ u).cell? ⟨w.heap.size+3,2,none⟩=some (.int .i64 (i.b:Int))/\(w1.setCell ⟨w.heap.size+1,0,none⟩ u).cell? ⟨x.g,5+i.k * 4+3,none⟩=some (.func (.func 101) #[] #[.pointer (some ⟨JJ,0,none⟩)]))):=fun w1 u ⟨h0,h1,h2,h3,h4⟩=>⟨(zH (by omega) _ _ _).trans h0,(zH (by omega) _ _ _).trans h1,(zH (by omega) _ _ _).trans h2,(zH (by omega) _ _ _).trans h3,(zH (by omega) _ _ _).trans h4⟩
   clear a1 a2 a3 a4 a5 a6 Ep f86 e4 ep ek ea eb e0 e1 NM et hwr DI hpl hpe hq hn hk hpk;by_cases h0:E=0
   ·have hev:gU x E=.nilIface:=if_pos h0;rw[hev] at HX HE;go_region_held (fun w'=>w'.cell? ⟨w.heap.size,0,none⟩=some (.pointer (some ⟨x.g,0,none⟩))/\w'.cell? ⟨w.heap.size+3,0,none⟩=some (.int .i64 (i.k:Int))/\w'.cell? ⟨w.heap.size+3,1,none⟩=some (.int .i64 (i.a:Int))/\w'.cell? ⟨w.heap.size+3,2,none⟩=some (.int .i64 (i.b:Int))/\w'.cell? ⟨x.g,5+i.k * 4+3,none⟩=some (.func (.func 101) #[] #[.pointer (some ⟨JJ,0,none⟩)])) (first | (with_reducible refine HS.o _ _ ?_;with_reducible assumption) | go_keep)
     (first | (go_at_call 101;refine aA (HX.o _ (by first | exact fO.refl _ _ | exact (fO.refl _ _).drew | exact (fO.refl _ _).drew.drew | exact (fO.refl _ _).drew.drew.drew)) ?_;rintro e w1 ⟨rfl,d0,d1,d2,d3,d4,d5,d6,H1⟩))
    all_goals
     clear u0 u3 u4 u5 u6 d0 d1 d2 d3 d4;simp only[calm,Exit.then];go_wp2_with fail;refine leaves_cons (f:=166) (args:=#[.pointer (some ⟨w.heap.size+1,0,none⟩),.pointer (some ⟨w.heap.size+1+1,0,none⟩),.pointer (some ⟨w.heap.size,0,none⟩)]) (by simp) (by simp[go_sem]) ?_
     obtain ⟨f1,iI,k1,k2,k3⟩:=H1.o;have Q:=step_end (e:=E) hj HH.o.1 HH.o.2.1 HH.o.2.2 k1 k2 k3;rw[hev] at Q;refine CallsD.mono Q ?_;clear Q;rintro e' u' w' ⟨rfl,rfl,hc,hp⟩;simp[Leaves,settle,results,results136,go_sem,hc];exact HE.o _ hp
   ·have hev:gU x E=.iface 337 (.pointer (some (x.E E))):=if_neg h0;rw[hev] at HX HE;go_region_held (fun w'=>w'.cell? ⟨w.heap.size,0,none⟩=some (.pointer (some ⟨x.g,0,none⟩))/\w'.cell? ⟨w.heap.size+3,0,none⟩=some (.int .i64 (i.k:Int))/\w'.cell? ⟨w.heap.size+3,1,none⟩=some (.int .i64 (i.a:Int))/\w'.cell? ⟨w.heap.size+3,2,none⟩=some (.int .i64 (i.b:Int))/\w'.cell? ⟨x.g,5+i.k * 4+3,none⟩=some (.func (.func 101) #[] #[.pointer (some ⟨JJ,0,none⟩)])) (first | (with_reducible refine HS.o _ _ ?_;with_reducible assumption) | go_keep)
     (first | (go_at_call 101;refine aA (HX.o _ (by first | exact fO.refl _ _ | exact (fO.refl _ _).drew | exact (fO.refl _ _).drew.drew | exact (fO.refl _ _).drew.drew.drew)) ?_;rintro e w1 ⟨rfl,d0,d1,d2,d3,d4,d5,d6,H1⟩))
    all_goals
     clear u0 u3 u4 u5 u6 d0 d1 d2 d3 d4;simp only[calm,Exit.then];go_wp2_with fail;refine leaves_cons (f:=166) (args:=#[.pointer (some ⟨w.heap.size+1,0,none⟩),.pointer (some ⟨w.heap.size+1+1,0,none⟩),.pointer (some ⟨w.heap.size,0,none⟩)]) (by simp) (by simp[go_sem]) ?_
     obtain ⟨f1,iI,k1,k2,k3⟩:=H1.o;have Q:=step_end (e:=E) hj HH.o.1 HH.o.2.1 HH.o.2.2 k1 k2 k3;rw[hev] at Q;refine CallsD.mono Q ?_;clear Q;rintro e' u' w' ⟨rfl,rfl,hc,hp⟩;simp[Leaves,settle,results,results136,go_sem,hc];exact HE.o _ hp
