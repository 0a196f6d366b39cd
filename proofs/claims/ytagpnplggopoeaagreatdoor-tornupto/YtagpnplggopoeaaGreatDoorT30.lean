import Derived.Test.YtagpnplggopoeaaGreatDoorT29
set_option maxRecDepth 100000
set_option maxHeartbeats 4000000
namespace Go.Proofs.YtagpnplggopoeaaGreatDoor
open Go.RowKit
namespace Rn
theorem zl9 {k:Nat} (h:qit k=true):funK k=144:=by
 unfold qit at h;simp at h;rcases h with (((((rfl | rfl) | rfl) | rfl) | rfl) | rfl)<;>rfl
theorem zle {x:Cx} (hj:JOK x) (hask:qnr x) (m:Px.Ms) (w:World) (f:Nat→Value) (va:Value) (h:MK x m w f va) (hu:m.qak=false) (i:Px.Ins) (hi:x.P.ins[m.place]?=some i) (hl:x.P.ins.length≤10000000) (hb:Bd x.P m) (hc:Px.CanM x.P i m) (hpk:qit i.k=true) :
  Calls Tryz.prog 122 #[.pointer (some ⟨x.g,0,none⟩)] w (qd8 x m w f va):=by
 have hmf:∀ (fn:Fn) (first cap:Array Value) (w:World),(Instr.makeFunc fn first cap).run Tryz.prog w=.ok (.func fn first cap) w:=fun _ _ _ _=>rfl
 have c86:=h.a.blk.cell 86 (by decide)
 rw[h.a.f86] at c86;have hgz:=h.a.lt;obtain ⟨E,M,hd⟩:∃ E M,Px.doM x.P i { m with place:=m.place+1 }=(E,M):=⟨_,_,rfl⟩
 have es:=ze8 hu hi hd;obtain ⟨hT,hn,hs⟩:=qk7 x m.place w;obtain ⟨j1,j2⟩:=h.same hj hT;have e88:=j1.a.blk.cell 88 (by decide)
 rw[h.a.f88,hu] at e88;have e86:=j1.a.blk.cell 86 (by decide)
 have f86:=j1.a.blk.fr 86;rw[h.a.f86] at e86;have hk:=hc.k;have et:=j1.a.blk.cell (8+4 * i.k) (by omega)
 rw[j1.a.tab i.k hk,show 8+4 * i.k=5+i.k * 4+3 by omega] at et
 have e4:=j1.a.blk.cell 4 (by decide)
 rw[h.a.f4] at e4;obtain ⟨a,c,ep,hins⟩:=j1.p.read;obtain ⟨q,rfl,ek,ea,eb⟩:=hins m.place i hi;have hq:=lt_of_cell ek;have e0:=hs.c0;have e1:=hs.c1;have e1f:=hs.fr;have hlt:m.place < x.P.ins.length:=(List.getElem?_eq_some_iff.1 hi).1;have hpl:(m.place:Int) < (x.P.ins.length:Int):=by omega
 have hpe:((m.place:Int) == (x.P.ins.length:Int))=false:=by simp;omega
 have hkb:(i.k:Int) < 20:=by omega
 have HX:Hid (_):=zqu hj hask h hb hc hd;obtain ⟨_,_,u1,u2,u3⟩:=zi5 hj h (i:=i) hk;have u0:=u1.c0;have u4:=u2 0 _ rfl;have u5:=u2 1 _ rfl;have u6:=u2 2 _ rfl;have hwr:wrap64 ((m.place:Int)+1)=(m.place:Int)+1:=by unfold wrap64;omega
 have hdW:doW x m.place i w=((stepW x m.place w).alloc (.cells #[.int .i64 (i.k:Int),.int .i64 (i.a:Int),.int .i64 (i.b:Int)] 190)).setCell ⟨x.g,86,none⟩ (.int .i64 ((m.place:Int)+1)):=by unfold doW insO;simp
 clear u1 u2;have hfn:funK i.k=144:=zl9 hpk;have HH:Hid (MK x m w f va∧Tch (fun _=>False) w (stepW x m.place w)∧(stepW x m.place w).heap.size=w.heap.size+3):=⟨h,hT,hn⟩
 have hW:stepW x m.place w=((w.alloc (.cells #[.pointer (some ⟨x.g,0,none⟩)] 63)).alloc (.cells #[.nilIface] 55)).alloc (.cells #[.int .i64 (m.place:Int)] 3):=rfl;rw[hW] at e88;have HE:Hid (∀ w',PM x (if E=0 then M else { M with place:=m.place }) w f va w'→qd8 x m w f va (.returned (errV x E)) w'):=by
  intro w' hp;unfold qd8;rw[es];exact ⟨rfl,hp⟩
 have ecap:capK x.J i.k=#[.pointer (some ⟨x.J i.k,0,none⟩)]:=by unfold capK;rw[hpk];rfl
 have earg:argK x i=#[.pointer (some ⟨x.g,0,none⟩),insV i,.pointer (some ⟨x.J i.k,0,none⟩)]:=by unfold argK;rw[hpk];rfl
 have a1:=@alloc_old (stepW x m.place w) x.g (lt_of_cell e4);have a2:=@alloc_old (stepW x m.place w) x.pp (lt_of_cell ep);have a3:=@alloc_old (stepW x m.place w) q (lt_of_cell ek);have a4:=@alloc_old (stepW x m.place w) w.heap.size (lt_of_cell e0);have a6:∀ (A:Obj) (o:Nat),((stepW x m.place w).alloc A).frozen? ⟨x.g,o,none⟩=(stepW x m.place w).frozen? ⟨x.g,o,none⟩:=fun A o=>World.frozen?_of_block (w:=stepW x m.place w) (a:=⟨x.g,o,none⟩) (Below.heap_alloc _ A x.g (lt_of_cell e4))
 have a5:=@alloc_old (stepW x m.place w) (w.heap.size+1) (lt_of_cell e1);rw[earg] at HX;unfold zvp at HX;rw[ecap] at HX et u3;rw[hdW] at HX u0 u3 u4 u5 u6;clear hdW;unfold insV at HX
 skip
 rw[hfn] at HX et u3;clear hfn;generalize x.J i.k=JJ at *;clear h hT hs j1 j2 hW es hu hask hb hc hd hi hins hlt earg ecap hl;go_enter_defers Tryz.func122,Tryz.ntmps122
 go_wp2_with fail
 change Code.wp _ _ _ _ (stepW x m.place w)
 generalize stepW x m.place w=W at *;clear e88 c86;go_region
 all_goals
  go_wp2_with fail;refine qr9 ?_;go_region_held (fun w'=>w'.cell? ⟨w.heap.size,0,none⟩=some (.pointer (some ⟨x.g,0,none⟩))∧w'.cell? ⟨x.g,4,none⟩=some (.pointer (some ⟨x.pp,0,none⟩))∧w'.cell? ⟨x.pp,3,none⟩=some (.slice (some ⟨q,0,none⟩) x.P.ins.length c)∧w'.cell? ⟨x.g,86,none⟩=some (.int .i64 (m.place:Int))∧w'.cell? ⟨q,m.place * 3,none⟩=some (.int .i64 (i.k:Int))∧w'.cell? ⟨q,m.place * 3+1,none⟩=some (.int .i64 (i.a:Int))∧w'.cell? ⟨q,m.place * 3+2,none⟩=some (.int .i64 (i.b:Int))) (go_keep) (fail)
  all_goals
   simp only[calm,Exit.then];go_wp2_with fail;refine qr9 ?_;have HS:Hid (∀ (w1:World) (u:Value),(w1.cell? ⟨w.heap.size,0,none⟩=some (.pointer (some ⟨x.g,0,none⟩))∧w1.cell? ⟨w.heap.size+3,0,none⟩=some (.int .i64 (i.k:Int))∧w1.cell? ⟨w.heap.size+3,1,none⟩=some (.int .i64 (i.a:Int))∧w1.cell? ⟨w.heap.size+3,2,none⟩=some (.int .i64 (i.b:Int))∧w1.cell? ⟨x.g,5+i.k * 4+3,none⟩=some (.func (.func 144) #[] #[.pointer (some ⟨JJ,0,none⟩)]))→((w1.setCell ⟨w.heap.size+1,0,none⟩ u).cell? ⟨w.heap.size,0,none⟩=some (.pointer (some ⟨x.g,0,none⟩))∧(w1.setCell ⟨w.heap.size+1,0,none⟩ u).cell? ⟨w.heap.size+3,0,none⟩=some (.int .i64 (i.k:Int))∧(w1.setCell ⟨w.heap.size+1,0,none⟩ u).cell? ⟨w.heap.size+3,1,none⟩=some (.int .i64 (i.a:Int))∧(w1.setCell ⟨w.heap.size+1,0,none⟩ u).cell? ⟨w.heap.size+3,2,none⟩=some (.int .i64 (i.b:Int))∧(w1.setCell ⟨w.heap.size+1,0,none⟩ u).cell? ⟨x.g,5+i.k * 4+3,none⟩=some (.func (.func 144) #[] #[.pointer (some ⟨JJ,0,none⟩)]))):=fun w1 u ⟨h0,h1,h2,h3,h4⟩=>⟨(qhk (by omega) _ _ _).trans h0,(qhk (by omega) _ _ _).trans h1,(qhk (by omega) _ _ _).trans h2,(qhk (by omega) _ _ _).trans h3,(qhk (by omega) _ _ _).trans h4⟩
   clear a1 a2 a3 a4 a5 a6 e86 f86 e4 ep ek ea eb e0 e1 e1f et hwr hmf hpl hpe hq hn hk hpk;by_cases h0:E=0
   ·have hev:errV x E=.nilIface:=if_pos h0;rw[hev] at HX HE;go_region_held (fun w'=>w'.cell? ⟨w.heap.size,0,none⟩=some (.pointer (some ⟨x.g,0,none⟩))∧w'.cell? ⟨w.heap.size+3,0,none⟩=some (.int .i64 (i.k:Int))∧w'.cell? ⟨w.heap.size+3,1,none⟩=some (.int .i64 (i.a:Int))∧w'.cell? ⟨w.heap.size+3,2,none⟩=some (.int .i64 (i.b:Int))∧w'.cell? ⟨x.g,5+i.k * 4+3,none⟩=some (.func (.func 144) #[] #[.pointer (some ⟨JJ,0,none⟩)])) (first | (with_reducible refine HS.out _ _ ?_;with_reducible assumption) | go_keep)
     (first | (go_at_call 144;refine Calls.mono (HX.out _ (by first | exact Tch.refl _ _ | exact (Tch.refl _ _).drew | exact (Tch.refl _ _).drew.drew | exact (Tch.refl _ _).drew.drew.drew)) ?_;rintro e w1 ⟨rfl,d0,d1,d2,d3,d4,d5,d6,H1⟩))
    all_goals
     clear u0 u3 u4 u5 u6 d0 d1 d2 d3 d4;simp only[calm,Exit.then];go_wp2_with fail;refine leaves_cons (f:=153) (args:=#[.pointer (some ⟨w.heap.size+1,0,none⟩),.pointer (some ⟨w.heap.size+1+1,0,none⟩),.pointer (some ⟨w.heap.size,0,none⟩)]) (by simp) (by simp[go_sem]) ?_
     obtain ⟨f1,va1,k1,k2,k3⟩:=H1.out;have Q:=step_end (e:=E) hj HH.out.1 HH.out.2.1 HH.out.2.2 k1 k2 k3;rw[hev] at Q;refine CallsD.mono Q ?_;clear Q;rintro e' u' w' ⟨rfl,rfl,hc,hp⟩;simp[Leaves,settle,results,Tryz.results122,go_sem,hc];exact HE.out _ hp
   ·have hev:errV x E=.iface 359 (.pointer (some (x.E E))):=if_neg h0;rw[hev] at HX HE;go_region_held (fun w'=>w'.cell? ⟨w.heap.size,0,none⟩=some (.pointer (some ⟨x.g,0,none⟩))∧w'.cell? ⟨w.heap.size+3,0,none⟩=some (.int .i64 (i.k:Int))∧w'.cell? ⟨w.heap.size+3,1,none⟩=some (.int .i64 (i.a:Int))∧w'.cell? ⟨w.heap.size+3,2,none⟩=some (.int .i64 (i.b:Int))∧w'.cell? ⟨x.g,5+i.k * 4+3,none⟩=some (.func (.func 144) #[] #[.pointer (some ⟨JJ,0,none⟩)])) (first | (with_reducible refine HS.out _ _ ?_;with_reducible assumption) | go_keep)
     (first | (go_at_call 144;refine Calls.mono (HX.out _ (by first | exact Tch.refl _ _ | exact (Tch.refl _ _).drew | exact (Tch.refl _ _).drew.drew | exact (Tch.refl _ _).drew.drew.drew)) ?_;rintro e w1 ⟨rfl,d0,d1,d2,d3,d4,d5,d6,H1⟩))
    all_goals
     clear u0 u3 u4 u5 u6 d0 d1 d2 d3 d4;simp only[calm,Exit.then];go_wp2_with fail;refine leaves_cons (f:=153) (args:=#[.pointer (some ⟨w.heap.size+1,0,none⟩),.pointer (some ⟨w.heap.size+1+1,0,none⟩),.pointer (some ⟨w.heap.size,0,none⟩)]) (by simp) (by simp[go_sem]) ?_
     obtain ⟨f1,va1,k1,k2,k3⟩:=H1.out;have Q:=step_end (e:=E) hj HH.out.1 HH.out.2.1 HH.out.2.2 k1 k2 k3;rw[hev] at Q;refine CallsD.mono Q ?_;clear Q;rintro e' u' w' ⟨rfl,rfl,hc,hp⟩;simp[Leaves,settle,results,Tryz.results122,go_sem,hc];exact HE.out _ hp
end Rn
end Go.Proofs.YtagpnplggopoeaaGreatDoor
