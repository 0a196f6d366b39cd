import Derived.Test.YtgkhgealpneodaaGreatDoorG40
set_option maxRecDepth 100000
set_option maxHeartbeats 16000000
namespace Go.Proofs.YtgkhgealpneodaaGreatDoor
open Go.RowKit
namespace Gn
open Fi Gf Gj Jn Lg Mk Px Ref Rn Tn
open Gf (F0 F1)
open Gj (cB kL JS)
open Tn (Gt)
def DX(w:dY)(o0 B pp jl:Nat)(P:Pg)(N:List dX):Prop :=∃vl vw vn,w.heap[pp]?=some (.cells #[vw,eF (P.nv:Int),vn,vl] 145)/\w.ownsRow o0 219 3 vl P.ins.length (vQ P.ins)/\w.ownsRow o0 9 1 vw P.gT.length (iG P.gT)/\w.ownsRow o0 9 1 vn N.length (iG N)/\∀k,(k=pp\/vl.ownBlock=some k\/vw.ownBlock=some k\/vn.ownBlock=some k)->o0<=k/\k<B/\k≠jl
theorem DX.keep{w w':dY}{o0 B pp jl:Nat}{P:Pg}{N:List dX}{T:Nat->Prop}(h:DX w o0 B pp jl P N)(hT:fE T w w')(ht:∀k,T k->k<o0\/B<=k\/k=jl\/qQ w k):DX w' o0 B pp jl P N:=by
 obtain⟨vl,vw,vn,h1,h2,h3,h4,h5⟩:=h;have hq:∀k,(k=pp\/vl.ownBlock=some k\/vw.ownBlock=some k\/vn.ownBlock=some k)->T k->qQ w k:=fun k hk e=>by
  have:=h5 k hk;obtain e|e|e|e:=ht k e;·omega
  ·omega
  ·exact absurd e this.2.2
  exact e
 refine⟨vl,vw,vn,(hT.block _ (lt_of_block h1) fun e=>(hq _ (ak rfl) e _ _ _ h1).1 rfl).trans h1,iM h2 hT (fun k hk e=>?_),iM h3 hT (fun k hk e=>?_),iM h4 hT (fun k hk e=>?_),h5⟩;·obtain⟨c,hc⟩:=DW h2 hk;exact(hq _ (aj (ak hk)) e _ _ _ hc).2.1 rfl
 ·obtain⟨c,hc⟩:=DW h3 hk;exact(hq _ (aj (aj (ak hk))) e _ _ _ hc).2.2 rfl
 obtain⟨c,hc⟩:=DW h4 hk;exact(hq _ (aj (aj (aj hk))) e _ _ _ hc).2.2 rfl
theorem DX.oX{w:dY}{o0:Nat}{N:List dX}{x:Cx}(h:DX w o0 x.B x.pp x.jl x.P N):yO x w:=by obtain⟨vl,vw,vn,h1,h2,h3,_,h5⟩:=h;exact⟨vl,vw,vn,o0,h1,(h5 _ (ak rfl)).2.1,(h5 _ (ak rfl)).2.2,h2,fun k hk=>(h5 _ (aj (ak hk))).2,h3,fun k hk=>(h5 _ (aj (aj (ak hk)))).2⟩
structure Po(B0 o0 b fb:Nat)(s:dX)(l:List Sm)(x:Cx):Prop where
 r:Px.read s=.ok l
 c:gI s=(0,0)
 P:x.P=iU l
 K:x.K=Kq o0 x.B x.jl b fb
 vj:x.vj=.iface 68 (fq x.jl)
 jl:o0<=x.jl/\x.jl<x.B
 J:∀k,ru k=true->x.B<=x.J k
 E:∀i,1<=i->i<=4->(x.E i).block<B0
 G:21<=B0
 o:B0<=o0
 fb:fb<x.B
theorem Po.ja{B0 o0 b fb:Nat}{s:dX}{l:List Sm}{x:Cx}(h:Po B0 o0 b fb s l x):JA x 292:=yi4 h.K h.jl.2 h.fb
structure Ev where
 l:List Sm
 o0:Nat
 x:Cx
 v:dZ
 fb:Nat
 eb:Nat
 asked:Bool
 L:List Int
 o:Bool
 m:Ms
 f:Nat->dZ
 va:dZ
structure Er(w0:dY)(E F:Nat->Addr)(s:dX)(b:Nat)(q:Int)(e:Ev)(w:dY):Prop where
 at_:w.heap[e.eb]?=some (.cells #[fq e.x.g,fq e.x.jl,.bool e.asked] 78)
 y:Po w0.heap.size e.o0 b e.fb s e.l e.x
 g0:Gt w0 E F
 mc:MK e.x e.m w e.f e.va
 fs:F1 w w0.heap.size b q e.v e.fb (cB s e.L (kL e.o))
 pn:DX w e.o0 e.x.B e.x.pp e.x.jl (iU e.l) (jw e.l [])
 lo:∀k,(k=b\/k=e.fb\/e.v.ownBlock=some k)->k<e.x.B
 eo:¬kG e.x e.f e.va e.eb
 eJ:∀j,ru j=true->e.eb≠e.x.J j
 eB:e.x.B<=e.eb
 be:gU w0 w
structure Live(e:Ev):Prop where
 cm:Cm (iU e.l) e.L e.m
 hL:∀a∈e.L,mZ a
 aw:e.asked=true->e.o=true
 of:e.o=true->e.m.fin=0
structure Off(b:Nat)(e:Ev)(k:Nat):Prop where
 eb:k≠e.eb
 ow:¬kG e.x e.f e.va k
 J:∀j,ru j=true->k≠e.x.J j
 b:k≠b
 fb:k≠e.fb
 v:e.v.ownBlock≠some k
 o:k<e.o0\/e.x.B<=k
def nJ(b:Nat)(e e':Ev)(w w':dY):Prop:=fE (fun k=>¬Off b e k) w w'/\∀k,k<w.heap.size->Off b e k->Off b e' k
theorem nJ.refl{b:Nat}{e:Ev}{w w':dY}(h:gU w w'):nJ b e e w w':=⟨((fE.refl (fun _=>False) w).below h).mono fun _ _ h=>h.elim,fun _ _ h=>h⟩
theorem nJ.trans{b:Nat}{e e1 e2:Ev}{w w1 w2:dY}(h:nJ b e e1 w w1)(h2:nJ b e1 e2 w1 w2):nJ b e e2 w w2:=⟨fE.new h.1 h2.1 fun k hk hn ho=>hn (h.2 k hk ho),fun k hk ho=>h2.2 k (aJ hk h.1.size) (h.2 k hk ho)⟩
section
variable{w0:dY} {E F:Nat->Addr} {s:dX} {b:Nat} {q:Int} {e:Ev} {w:dY}
theorem Er.gt(h:Er w0 E F s b q e w):Gt w E F:=h.g0.below h.be
theorem Er.same(h:Er w0 E F s b q e w){w':dY}(hb:gU w w'):Er w0 E F s b q e w':=⟨(hb.block e.eb (lt_of_block h.at_)).trans h.at_,h.y,h.g0,(h.mc.same h.y.ja.ok ((fE.refl _ _).below hb)).1,h.fs.below hb,h.pn.keep ((fE.refl (fun _=>False) w).below hb) (fun _ h=>h.elim),h.lo,h.eo,h.eJ,h.eB,h.be.trans (hb.mono h.be.size)⟩
theorem Er.cells(h:Er w0 E F s b q e w):w.cell? ⟨e.eb,0,none⟩=some (fq e.x.g)/\w.cell? ⟨e.eb,1,none⟩=some (fq e.x.jl)/\w.cell? ⟨e.eb,2,none⟩=some (.bool e.asked)/\(∀o,w.frozen? ⟨e.eb,o,none⟩=false)/\e.eb<w.heap.size:=by refine⟨?_,?_,?_,?_,lt_of_block h.at_⟩<;>simp[World.cell?,World.frozen?,h.at_]
theorem Er.aside(h:Er w0 E F s b q e w){w':dY}{T:Nat->Prop}(t:fE T w w')(hT:∀k,T k->Off b e k/\w0.heap.size<=k):Er w0 E F s b q e w':=by
 have hr:∀r∈fZ e.f e.va,∀k,r.ownBlock=some k->¬T k:=fun r hr k hk ht=>(hT k ht).1.ow (aj (aj ⟨r,hr,hk⟩));have hp:=h.pn.keep t fun k hk=>(hT k hk).1.o.elim ak fun h=>aj (ak h);have ff:=Gj.F1.away h.fs t fun k hk=>⟨(hT k hk).1.b,(hT k hk).1.fb,(hT k hk).1.v⟩;have hk:e.x.K e.m.left e.m.eY e.va w':=by
  have:=h.mc.k;rw[h.y.K]at this |-;obtain⟨C,y,vs,wd,ar,tr,un,k1,k2,k3,k4⟩:=this;refine⟨C,y,vs,wd,ar,tr,un,(t.block _ (lt_of_block k1) fun hk=>(hT _ hk).1.ow (aj (ak rfl))).trans k1,(t.block _ (lt_of_block k2) fun hk=>(hT _ hk).1.fb rfl).trans k2,k3,k4.keep fun g cur hg hv=>t.block g (lt_of_block hg) fun hk=>?_⟩;obtain hv|hv:=hv;·have:=(hT _ hk).1.o;omega
  exact(hT _ hk).1.ow (aj (aj ⟨_,by simp[fZ],hv⟩))
 have hp':=hp;rw[<- h.y.P]at hp';refine⟨(t.block e.eb (lt_of_block h.at_) fun hk=>(hT _ hk).1.eb rfl).trans h.at_,h.y,h.g0,⟨⟨h.mc.a.hB,h.mc.a.hj,h.mc.a.blk.oL (by decide) t (fun ht=>(hT _ ht).1.ow (ak rfl)),h.mc.a.f3,h.mc.a.f4,h.mc.a.tab,h.mc.a.f86,h.mc.a.f87,h.mc.a.f88,h.mc.a.f89,iM h.mc.a.st t (hr _ (by simp[fZ])),iM h.mc.a.un t (hr _ (by simp[fZ])),iM h.mc.a.be t (hr _ (by simp[fZ])),iM h.mc.a.zT t (hr _ (by simp[fZ])),h.mc.a.sep.world t.size,fun k hk=>?_⟩,hk,hp'.oX,h.mc.e.low t (fun k hk=>(hT k hk).2) h.y.G h.y.E⟩,ff,hp,h.lo,h.eo,h.eJ,h.eB,Ac h.be t (ay _) fun k hk=>(hT k hk).2⟩;obtain⟨a1,a2⟩:=h.mc.a.jn k hk;exact⟨(aH (w:=w) (a:=⟨e.x.J k,0,none⟩) (t.block _ (lt_of_cell a1) (fun ht=>(hT _ ht).1.J k hk rfl))).trans a1,a2⟩
theorem Er.off(h:Er w0 E F s b q e w){k:Nat}(hk:w.heap.size<=k):Off b e k:=by
 have h1:=lt_of_block h.at_;have h2:=h.mc.a.lt;have h3:=h.mc.a.hB;refine⟨by omega,fun ho=>?_,fun j hj=>?_,fun e=>?_,fun e=>?_,fun e=>?_,aj (by omega)⟩;·have:=kG.lt h.mc.a ho;omega
 ·have:e.x.J j<w.heap.size:=lt_of_cell (h.mc.a.jn j hj).1;omega
 ·have:=h.lo k (ak e);omega
 ·have:=h.lo k (aj (ak e));omega
 have:=h.lo k (aj (aj e));omega
theorem Er.put(h:Er w0 E F s b q e w)(a:Bool):Er w0 E F s b q {e with asked:=a} (w.setCell ⟨e.eb,2,none⟩ (.bool a))/\nJ b e {e with asked:=a} w (w.setCell ⟨e.eb,2,none⟩ (.bool a)):=by have ht:fE (·=e.eb) w (w.setCell ⟨e.eb,2,none⟩ (.bool a)):=(fE.refl (·=e.eb) w).setCell (p:=⟨e.eb,2,none⟩) (ak rfl) _;have eB:=h.eB;have h1:=h.y.o;have h2:=h.y.jl;refine⟨⟨by rw[Ref.heap_set _ h.at_]<;>rfl,h.y,h.g0,h.mc.away h.y.ja.ok ht (fun k hk=>by rw[hk];exact h.eB) (fun k hk=>by rw[hk];exact h.eo) (fun k j hk hj=>by rw[hk];exact h.eJ j hj),Gj.F1.away h.fs ht fun k hk=>?_,h.pn.keep ht (fun k hk=>aj (ak (by rw[hk];exact h.eB))),h.lo,h.eo,h.eJ,h.eB,Ac h.be ht (ay _) fun k hk=>by omega⟩,ht.mono fun k _ hk ho=>ho.eb hk,fun k _ ho=>⟨ho.eb,ho.ow,ho.J,ho.b,ho.fb,ho.v,ho.o⟩⟩;rw[hk];exact⟨fun e=>absurd (h.lo _ (ak e)) (by omega),fun e=>absurd (h.lo _ (aj (ak e))) (by omega),fun e=>absurd (h.lo _ (aj (aj e))) (by omega)⟩
theorem Er.kj(h:Er w0 E F s b q e w):∃vs wd ar tr un,JS w0.heap.size b e.x.jl q e.v e.fb s e.L e.o vs wd ar tr un w/\rV e.m.eY wd ar tr un/\Rn.rU w e.o0 e.x.B vs e.m.left e.va:=by have:=h.mc.k;rw[h.y.K]at this;obtain⟨C,y,vs,wd,ar,tr,un,k1,k2,k3,k4⟩:=this;obtain⟨z,hz⟩:=h.fs.fl;rw[hz]at k2;cases k2;exact⟨vs,wd,ar,tr,un,⟨h.fs,k1⟩,k3,k4⟩
theorem Er.low(h:Er w0 E F s b q e w){T:Nat->Prop}{L:List Int}{o:Bool}{l:List Int}{a:List iL}{va':dZ}{w':dY}(hk:e.x.K l a va' w')(hf:F1 w' w0.heap.size b q e.v e.fb (cB s L (kL o)))(hT:fE T w w')(hq:∀k,T k->(k=e.x.jl\/k=b\/k=e.fb)\/∃cur,w.heap[k]?=some (.cells cur 3 (0,0))/\((e.o0<=k/\k<e.x.B)\/e.va.ownBlock=some k))(h5:va'=e.va\/∃n,va'.ownBlock=some n/\w.heap.size<=n/\n<w'.heap.size):Er w0 E F s b q {e with L:=L,o:=o,m:={e.m with left:=l,eY:=a},va:=va'} w'/\nJ b e {e with L:=L,o:=o,m:={e.m with left:=l,eY:=a},va:=va'} w w':=by
 have eB:=h.eB;have yo:=h.y.o;have yj:=h.y.jl;have hsep:=h.mc.a.sep.own e.va (by simp[fZ]);have hq2:∀k,T k->(k<e.x.B\/e.va.ownBlock=some k)/\w0.heap.size<=k/\qQ w k/\¬Off b e k:=by
  intro k hk;obtain(rfl|rfl|rfl)|⟨cur,e1,e2⟩:=hq k hk;·obtain⟨vs,wd,ar,tr,un,k1,_⟩:=h.kj;exact⟨ak h.y.jl.2,by omega,qQ.of k1.j (by decide) (by decide) (by decide),fun ho=>ho.ow (aj (ak rfl))⟩
  ·obtain⟨n,hn⟩:=h.fs.bk;exact⟨ak (h.lo _ (ak rfl)),h.fs.lo.1,qQ.of hn (by decide) (by decide) (by decide),fun ho=>ho.b rfl⟩
  ·obtain⟨n,hn⟩:=h.fs.fl;exact⟨ak (h.lo _ (aj (ak rfl))),h.fs.lo.2,qQ.of hn (by decide) (by decide) (by decide),fun ho=>ho.fb rfl⟩
  have hn:qQ w k:=qQ.of e1 (by decide) (by decide) (by decide);obtain e2|e2:=e2;·exact⟨ak e2.2,by omega,hn,fun ho=>by have:=ho.o;omega⟩
  have:=hsep k e2;exact⟨aj e2,by omega,hn,fun ho=>ho.ow (aj (aj ⟨_,by simp[fZ],e2⟩))⟩
 have how:∀k,k<w.heap.size->kG e.x e.f va' k->kG e.x e.f e.va k:=by
  rintro k hkz (ho|ho|⟨r,hr,ho⟩);·exact ak ho
  ·exact aj (ak ho)
  obtain hr|rfl:=OH (va:=e.va) hr;·exact aj (aj ⟨r,hr,ho⟩)
  obtain rfl|⟨n,hn,hn1,_⟩:=h5;·exact aj (aj ⟨_,by simp[fZ],ho⟩)
  rw[hn]at ho;cases ho;omega
 have LC:=lt_of_block h.at_;refine⟨⟨(hT.block e.eb LC fun hh=>?_).trans h.at_,h.y,h.g0,h.mc.low (B0:=w0.heap.size) hk hT (fun k hk=>(hq2 k hk).1) (fun k hk=>(hq2 k hk).2.2.1) (fun k hk=>(hq2 k hk).2.1) h.y.G h.y.E h.y.J h5,hf,h.pn.keep hT (fun k hk=>aj (aj (aj (hq2 k hk).2.2.1))),h.lo,fun ho=>h.eo (how _ LC ho),h.eJ,h.eB,Ac h.be hT (ay _) fun k hk=>(hq2 k hk).2.1⟩,hT.mono fun k _ hk=>(hq2 k hk).2.2.2,fun k hkz ho=>⟨ho.eb,fun h'=>ho.ow (how k hkz h'),ho.J,ho.b,ho.fb,ho.v,ho.o⟩⟩;obtain q|q:=(hq2 _ hh).1;·omega
 exact h.eo (aj (aj ⟨_,by simp[fZ],q⟩))
theorem Er.go(h:Er w0 E F s b q e w){m2:Ms}{w':dY}(hP:gu e.x m2 w e.f e.va w'):∃f' va',Er w0 E F s b q {e with m:=m2,f:=f',va:=va'} w'/\nJ b e {e with m:=m2,f:=f',va:=va'} w w':=by
 obtain⟨f',va',k1,k2⟩:=hP;have yo:=h.y.o;have yj:=h.y.jl;have hg:=h.mc.a.hB;obtain⟨vs,wd,ar,tr,un,j1,_⟩:=h.kj;have hq:∀k,kG e.x e.f e.va k->w0.heap.size<=k/\(k≠b/\k≠e.fb/\e.v.ownBlock≠some k)/\(e.x.B<=k\/k=e.x.jl):=by
  have hh:∀k,e.x.B<=k->k≠b/\k≠e.fb/\e.v.ownBlock≠some k:=fun k hk=>⟨fun e=>absurd (h.lo _ (ak e)) (by omega),fun e=>absurd (h.lo _ (aj (ak e))) (by omega),fun e=>absurd (h.lo _ (aj (aj e))) (by omega)⟩;rintro k (rfl|rfl|⟨r,hr,hk⟩);·exact⟨by omega,hh _ hg,ak hg⟩
  ·exact⟨by omega,Gj.F1.other h.fs j1.j (by decide) (by decide) (by decide),aj rfl⟩
  have:=h.mc.a.sep.own r hr k hk;exact⟨by omega,hh _ this.1,ak this.1⟩
 have LC:=lt_of_block h.at_;exact⟨f',va',⟨(k2.t.block e.eb LC h.eo).trans h.at_,h.y,h.g0,k1,Gj.F1.away h.fs k2.t fun k hk=>(hq k hk).2.1,h.pn.keep k2.t (fun k hk=>(hq k hk).2.2.elim (fun h=>aj (ak h)) fun h=>aj (aj (ak h))),h.lo,fun ho=>h.eo (k2.o e.eb LC ho),h.eJ,h.eB,Ac h.be k2.t (ay _) fun k hk=>(hq k hk).1⟩,k2.t.mono fun k _ hk ho=>ho.ow hk,fun k hkz ho=>⟨ho.eb,fun h'=>ho.ow (k2.o k hkz h'),ho.J,ho.b,ho.fb,ho.v,ho.o⟩⟩
end
abbrev Pp:dZ:=.agg #[.string ⟨#[]⟩,eF 0,eF 0,.bool false]
def NxQ(w0:dY)(E F:Nat->Addr)(s:dX)(b:Nat)(q:Int)(e:Ev)(w:dY)(r:Ending)(w':dY):Prop:=
 (e.m.fin≠0/\r=fM (.tuple #[Pp,.bool false,eF (e.m.fin:Int),eF 0])/\Er w0 E F s b q {e with asked:=false} w'/\nJ b e {e with asked:=false} w w') \/
 (e.m.fin=0/\∃wd ar tr un,rV e.m.eY wd ar tr un/\r=fM (.tuple #[.agg #[.string wd,eF ar,eF tr,.bool un],.bool e.o,eF 0,eF 0])/\Er w0 E F s b q {e with asked:=true,o:=true} w'/\nJ b e {e with asked:=true,o:=true} w w') \/
 (e.m.fin=0/\e.o=false/\0<q/\r=fM (.tuple #[Pp,.bool false,eF 0,eF 9])/\Er w0 E F s b q {e with asked:=false} w'/\nJ b e {e with asked:=false} w w')
section
variable{w0:dY} {E F:Nat->Addr} {s:dX} {b:Nat} {q:Int} {e:Ev} {w:dY}
theorem Er.new{e':Ev}(h0:Er w0 E F s b q e w){w1 w2:dY}{n:Nat}(h:Er w0 E F s b q e' w1)(hf:nJ b e e' w w1)(t:fE (·=n) w1 w2)(hn:w.heap.size<=n)(ho:Off b e' n):Er w0 E F s b q e' w2/\nJ b e e' w w2:=⟨h.aside t fun k hk=>⟨by rw[hk];exact ho,by rw[hk];exact aK h0.be.size hn⟩,fE.new hf.1 t fun k hk e=>absurd hk (by omega),hf.2⟩
theorem Er.then{e':Ev}{w1 w2:dY}(h:Er w0 E F s b q e' w1/\nJ b e e' w w1)(hb:gU w1 w2):Er w0 E F s b q e' w2/\nJ b e e' w w2:=⟨h.1.same hb,h.2.trans (nJ.refl hb)⟩
end
theorem oY(w0:dY)(E F:Nat->Addr)(s:dX)(b:Nat)(q:Int)(e:Ev)(w:dY)(hq0:0<=q)(hC:(Gj.cont s e.L (kL e.o)).length<=100000000000)(h:Er w0 E F s b q e w):fI 30 #[fq e.eb] w (NxQ w0 E F s b q e w):=by
 have hb0:gU w (w.alloc (.cells #[.string ⟨#[]⟩,eF 0,eF 0,.bool false] 84)):=(aF _ _).alloc (ay _) _;have H0:Hid _:=h;have HO:Hid (Off b {e with asked:=false} w.heap.size/\Off b {e with asked:=true,o:=true} w.heap.size):=by have:=h.off (ay _);exact⟨⟨this.eb,this.ow,this.J,this.b,this.fb,this.v,this.o⟩,⟨this.eb,this.ow,this.J,this.b,this.fb,this.v,this.o⟩⟩
 have HW:Hid ((Er w0 E F s b q e (w.alloc (.cells #[.string ⟨#[]⟩,eF 0,eF 0,.bool false] 84))/\nJ b e e w (w.alloc (.cells #[.string ⟨#[]⟩,eF 0,eF 0,.bool false] 84)))/\(w.alloc (.cells #[.string ⟨#[]⟩,eF 0,eF 0,.bool false] 84)).heap[w.heap.size]?=some (.cells #[.string ⟨#[]⟩,eF 0,eF 0,.bool false] 84)):=⟨⟨h.same hb0,nJ.refl hb0⟩,uQ⟩;have hew:e.eb<w.heap.size:=lt_of_block h.at_;go_enter Tryz.func30,Tryz.ntmps30;go_wp2_with fail;generalize w.alloc (.cells #[.string ⟨#[]⟩,eF 0,eF 0,.bool false] 84)=W at *;obtain⟨c0,c1,c2,cf,cl⟩:=HW.o.1.1.cells;refine aB (UZ e.eb e.x.g W c0) ?_;rintro r w1 ⟨rfl,rfl⟩;go_wp2_with fail;have H1:Hid ((Er w0 E F s b q {e with asked:=false} (w1.setCell ⟨e.eb,2,none⟩ (.bool false))/\nJ b e {e with asked:=false} w (w1.setCell ⟨e.eb,2,none⟩ (.bool false)))/\(w1.setCell ⟨e.eb,2,none⟩ (.bool false)).heap[w.heap.size]?=some (.cells #[.string ⟨#[]⟩,eF 0,eF 0,.bool false] 84)):=⟨⟨(HW.o.1.1.put false).1,HW.o.1.2.trans (HW.o.1.1.put false).2⟩,(((fE.refl (·=e.eb) w1).setCell (p:=⟨e.eb,2,none⟩) (ak rfl) _).block _ (lt_of_block HW.o.2) (by omega)).trans HW.o.2⟩;generalize w1.setCell ⟨e.eb,2,none⟩ (.bool false)=W1 at *;obtain⟨c0,c1,c2,cf,cl⟩:=H1.o.1.1.cells;have AO:=H1.o.1.1.mc.a.blk.cell 89 (by decide);rw[H1.o.1.1.mc.a.f89]at AO;refine aB (yfu e.x.g e.m.fin W1 AO) ?_;rintro r w2 ⟨rfl,rfl⟩;by_cases hf:e.m.fin=0
 ·rw[hf];obtain⟨vs,wd,ar,tr,un,hk1,hk2,hk3⟩:=H1.o.1.1.kj;have HA:Hid _:=ykn E w0.heap.size b e.x.jl q e.v e.fb s e.L e.o vs wd ar tr un w2 hq0 H0.o.y.G (aK H0.o.y.o H0.o.y.jl.1) hC hk1 H1.o.1.1.gt.l.s;have HK:Hid (JS _ _ _ _ _ _ _ _ _ vs wd ar tr un w2/\rV e.m.eY wd ar tr un/\Rn.rU w2 e.o0 e.x.B vs e.m.left e.va):=⟨hk1,hk2,hk3⟩;have HL:Hid (∀o w3,fE (fun k=>k=e.x.jl\/k=b\/k=e.fb) w2 w3->JS w0.heap.size b e.x.jl q e.v e.fb s e.L o vs wd ar tr un w3->Er w0 E F s b q {e with asked:=false,o:=o} w3/\nJ b e {e with asked:=false,o:=o} w w3):=fun o w3 t3 j3=>by
   obtain⟨z,hz⟩:=j3.f.fl;have hk:e.x.K e.m.left e.m.eY e.va w3:=by
    rw[H0.o.y.K];refine⟨_,z,vs,wd,ar,tr,un,j3.j,hz,HK.o.2.1,HK.o.2.2.keep fun g cur hg _=>t3.block g (lt_of_block hg) ?_⟩;obtain⟨o1,o2,_⟩:=Gj.F1.other HK.o.1.f hg (by decide) (by decide) (by decide);rintro(h|h|h);·exact F6 HK.o.1.j hg h.symm
    ·exact o1 h
    exact o2 h
   have:=H1.o.1.1.low (L:=e.L) (o:=o) (l:=e.m.left) (a:=e.m.eY) (va':=e.va) hk j3.f t3 (fun k hk=>ak hk) (ak rfl);exact⟨this.1,H1.o.1.2.trans this.2⟩
  go_wp2_with fail;refine aB HA.o ?_;rintro r w3 ⟨t3,⟨rfl,hJ⟩|⟨ho,hq,g,rfl,hg3,hJ⟩⟩
  ·have h3:=HL.o true w3 t3 hJ;have n3:w3.heap[w.heap.size]?=_:=(t3.block _ (lt_of_block H1.o.2) (by
    have h1:=H0.o.lo;have h2:=H0.o.y.jl.2;have h4:=H0.o.eB;rintro(h|h|h);·omega
    ·have:=h1 _ (ak h);omega
    ·have:=h1 _ (aj (ak h));omega)).trans H1.o.2
   obtain⟨d0,d1,d2,df,dl⟩:=h3.1.cells;have H4:Hid ((Er w0 E F s b q {e with asked:=true,o:=true} (w3.setCell ⟨e.eb,2,none⟩ (.bool true))/\nJ b e {e with asked:=true,o:=true} w (w3.setCell ⟨e.eb,2,none⟩ (.bool true)))/\(w3.setCell ⟨e.eb,2,none⟩ (.bool true)).heap[w.heap.size]?=_):=⟨⟨(h3.1.put true).1,h3.2.trans (h3.1.put true).2⟩,(((fE.refl (·=e.eb) w3).setCell (p:=⟨e.eb,2,none⟩) (ak rfl) _).block _ (lt_of_block n3) (by omega)).trans n3⟩;obtain⟨r0,r2,r3,r4,rf⟩:=Ad n3;have HQ:Hid _:=Iu H4.o.2 (.string wd) (eF ar) (eF tr) (.bool un);have hlt3:w.heap.size<w3.heap.size:=lt_of_block n3;have hne:¬e.eb=w.heap.size:=by omega
   have hne2:¬w.heap.size=e.eb:=by omega
   go_wp2_with fail;obtain⟨q1,q2⟩:=HQ.o;have hb5:Below _ _ (((((((w3.setCell ⟨e.eb,2,none⟩ (.bool true)).setCell ⟨w.heap.size,0,none⟩ (.string wd)).setCell ⟨w.heap.size,1,none⟩ (eF ar)).setCell ⟨w.heap.size,2,none⟩ (eF tr)).setCell ⟨w.heap.size,3,none⟩ (.bool un)).alloc (.cells #[.string wd,eF ar,eF tr,.bool un] 130))):=(aF _ _).alloc (ay _) _;obtain⟨m0,m1,m2,m3,_⟩:=Ad ((hb5.block _ (lt_of_block q1)).trans q1);have QE:Hid (Er w0 E F s b q {e with asked:=true,o:=true} _/\nJ b e {e with asked:=true,o:=true} w _):=Er.then (H0.o.new H4.o.1.1 H4.o.1.2 q2 (ay _) HO.o.2) hb5;generalize ((((((w3.setCell ⟨e.eb,2,none⟩ (.bool true)).setCell ⟨w.heap.size,0,none⟩ (.string wd)).setCell ⟨w.heap.size,1,none⟩ (eF ar)).setCell ⟨w.heap.size,2,none⟩ (eF tr)).setCell ⟨w.heap.size,3,none⟩ (.bool un)).alloc (.cells #[.string wd,eF ar,eF tr,.bool un] 130))=W4 at *;refine bodyPost_ret (v:=.tuple #[.agg #[.string wd,eF ar,eF tr,.bool un],.bool e.o,eF 0,eF 0]) (by simp[results,Tryz.results30,go_sem,m0,m1,m2,m3]) rfl ?_;exact aj (ak ⟨hf,wd,ar,tr,un,HK.o.2.1,rfl,QE.o.1,QE.o.2⟩)
  have h3:=HL.o false w3 t3 hJ;have n3:w3.heap[w.heap.size]?=_:=(t3.block _ (lt_of_block H1.o.2) (by
   have h1:=H0.o.lo;have h2:=H0.o.y.jl.2;have h4:=H0.o.eB;rintro(h|h|h);·omega
   ·have:=h1 _ (ak h);omega
   ·have:=h1 _ (aj (ak h));omega)).trans H1.o.2
  have ho':({e with asked:=false,o:=false}:Ev)={e with asked:=false}:=by rw[<- ho]
  rw[ho']at h3;have hb4:gU w3 (w3.alloc (.cells #[.string ⟨#[]⟩,eF 0,eF 0,.bool false] 130)):=(aF _ _).alloc (ay _) _;have hg4:Jn.FJ (w3.alloc (.cells #[.string ⟨#[]⟩,eF 0,eF 0,.bool false] 130)) g _:=Jn.FJ.below hg3 hb4;have H3:Hid (Er w0 E F s b q {e with asked:=false} (w3.alloc (.cells #[.string ⟨#[]⟩,eF 0,eF 0,.bool false] 130))/\nJ b e {e with asked:=false} w (w3.alloc (.cells #[.string ⟨#[]⟩,eF 0,eF 0,.bool false] 130))):=⟨h3.1.same hb4,h3.2.trans (nJ.refl hb4)⟩;have n4:=(hb4.block _ (lt_of_block n3)).trans n3;obtain⟨r0,r2,r3,r4,rf⟩:=Ad n4;have HQ:Hid _:=Iu n4 (.string ⟨#[]⟩) (eF 0) (eF 0) (.bool false);have HN:Hid _:=UR E 8 g (ak rfl) _ H3.o.1.gt.l.s hg4;go_wp2_with fail;generalize w3.alloc (.cells #[.string ⟨#[]⟩,eF 0,eF 0,.bool false] 130)=w3 at *;refine aB HN.o ?_;rintro r w4 ⟨rfl,rfl⟩;go_wp2_with fail;all_goals (try go_region)
  all_goals (try go_wp2_with fail)
  all_goals
   obtain⟨q1,q2⟩:=HQ.o;obtain⟨m0,m1,m2,m3,_⟩:=Ad q1;have QE:Hid (Er w0 E F s b q {e with asked:=false} _/\nJ b e {e with asked:=false} w _):=H0.o.new H3.o.1 H3.o.2 q2 (ay _) HO.o.1;generalize (((w4.setCell ⟨w.heap.size,0,none⟩ (.string ⟨#[]⟩)).setCell ⟨w.heap.size,1,none⟩ (eF 0)).setCell ⟨w.heap.size,2,none⟩ (eF 0)).setCell ⟨w.heap.size,3,none⟩ (.bool false)=W4 at *;refine bodyPost_ret (v:=.tuple #[Pp,.bool false,eF 0,eF 9]) (by simp[results,Tryz.results30,go_sem,m0,m1,m2,m3]) rfl ?_;exact aj (aj ⟨hf,ho,hq,rfl,QE.o.1,QE.o.2⟩)
 have hfi:¬(e.m.fin:Int)=0:=by omega
 obtain⟨r0,r2,r3,r4,rf⟩:=Ad H1.o.2;have HQ:Hid _:=Iu H1.o.2 (.string ⟨#[]⟩) (eF 0) (eF 0) (.bool false);go_wp2_with fail;all_goals (try go_region)
 all_goals (try go_wp2_with fail)
 all_goals
  obtain⟨q1,q2⟩:=HQ.o;obtain⟨m0,m1,m2,m3,_⟩:=Ad q1;have QE:Hid (Er w0 E F s b q {e with asked:=false} _/\nJ b e {e with asked:=false} w _):=H0.o.new H1.o.1.1 H1.o.1.2 q2 (ay _) HO.o.1;generalize (((w2.setCell ⟨w.heap.size,0,none⟩ (.string ⟨#[]⟩)).setCell ⟨w.heap.size,1,none⟩ (eF 0)).setCell ⟨w.heap.size,2,none⟩ (eF 0)).setCell ⟨w.heap.size,3,none⟩ (.bool false)=W4 at *;refine bodyPost_ret (v:=.tuple #[Pp,.bool false,eF (e.m.fin:Int),eF 0]) (by simp[results,Tryz.results30,go_sem,m0,m1,m2,m3]) rfl ?_;exact ak ⟨hf,rfl,QE.o.1,QE.o.2⟩
open Tn (Gt F7)
def TeQ(w0:dY)(E F:Nat->Addr)(s:dX)(b:Nat)(q:Int)(e:Ev)(a:Int)(w:dY)(r:Ending)(w':dY):Prop:=
 (e.asked=false/\r=fM (eF 8)/\Er w0 E F s b q e w'/\nJ b e e w w') \/
 (e.asked=true/\0<q/\r=fM (eF 9)/\Er w0 E F s b q e w'/\nJ b e e w w') \/
 (e.asked=true/\r=fM (eF 0)/\∃m f va,Er w0 E F s b q {e with asked:=false,L:=e.L++[a],o:=false,m:=m,f:=f,va:=va} w'/\Live {e with asked:=false,L:=e.L++[a],o:=false,m:=m,f:=f,va:=va}/\nJ b e {e with asked:=false,L:=e.L++[a],o:=false,m:=m,f:=f,va:=va} w w')
theorem U3(w0:dY)(E F:Nat->Addr)(s:dX)(b:Nat)(q:Int)(e:Ev)(w:dY)(hq0:0<=q)(hC:(Gj.cont s e.L (kL e.o)).length<=10000000000)(h:Er w0 E F s b q e w)(lv:Live e)(a:Int)(ha:mZ a):fI 35 #[fq e.eb,eF a] w (TeQ w0 E F s b q e a w):=by
 obtain⟨c0,c1,c2,cf,cl⟩:=h.cells;have HS:Hid _:=UZ e.eb e.x.g w c0;cases has:e.asked with
 |false=>rw[has]at c2;have H0:Hid _:=h;go_enter Tryz.func35,Tryz.ntmps35;go_wp2_with fail;refine aB HS.o ?_;rintro r w1 ⟨rfl,rfl⟩;go_wp2_with fail;go_ret;exact ak ⟨has,rfl,H0.o,nJ.refl (aF _ _)⟩
 |true=>
 rw[has]at c2;have ho:=lv.aw has;have hfin:=lv.of ho;obtain⟨S,hS⟩:=Y8 (Zp e.l);have fit:=F7 h.y.r;obtain⟨hI,pA,hleft⟩:=Kj h.y.r h.y.c hS fit.ok lv.cm lv.hL hfin a ha;rw[<- h.y.P]at hI pA hS fit;obtain⟨vs,wd,ar,tr,un,hk1,hk2,hk3⟩:=h.kj;rw[hleft]at hk3;rw[ho]at hk1 hC;have HT:Hid _:=Gj.U3 E w0.heap.size b e.o0 e.x.B e.x.jl q e.v e.va e.fb s e.L vs wd ar tr un a ha w hq0 h.y.G (aK h.y.o h.y.jl.1) hC hk1 hk3 h.gt.l.s (fun w1 hb=>(h.gt.below hb).tab);have HG:Hid (∀w1 f1 jD,MK e.x {e.m with left:=[a],eY:=[]} w1 f1 jD->_):=fun w1 f1 jD hk=>cP h.y.ja.ok (cQ h.y.ja h.y.vj) hS fit.ok fit.li fit.lw (by decide) _ hI w1 f1 jD hk;have HL:Hid (∀f va,Live {e with asked:=false,L:=e.L++[a],o:=false,m:=(gJ e.x.P 4000000 {e.m with left:=[a],eY:=[]}).2,f:=f,va:=va}):=fun f va=>⟨by rw[<- h.y.P];exact pA,fun z hz=>(bT.1 hz).elim (lv.hL z) fun hz=>by rw[bD.1 hz];exact ha,(fun h=>by cases h),(fun h=>by cases h)⟩;have HD:Hid (∀w2,fE (fun k=>k=e.x.jl\/k=b\/k=e.fb) w w2->JS w0.heap.size b e.x.jl q e.v e.fb s e.L true vs wd ar tr un w2->Er w0 E F s b q e w2/\nJ b e e w w2):=fun w2 t2 j2=>by
  obtain⟨z,hz⟩:=j2.f.fl;have hk:e.x.K e.m.left e.m.eY e.va w2:=by
   rw[h.y.K,hleft];refine⟨_,z,vs,wd,ar,tr,un,j2.j,hz,hk2,hk3.keep fun g cur hg _=>t2.block g (lt_of_block hg) ?_⟩;obtain⟨o1,o2,_⟩:=Gj.F1.other hk1.f hg (by decide) (by decide) (by decide);rintro(h|h|h);·exact F6 hk1.j hg h.symm
   ·exact o1 h
   exact o2 h
  have:=h.low (L:=e.L) (o:=true) (l:=e.m.left) (a:=e.m.eY) (va':=e.va) hk j2.f t2 (fun k hk=>ak hk) (ak rfl);rw[<- ho]at this;exact this
 have HE:Hid (∀w2,Cy w0.heap.size b e.o0 e.x.B e.x.jl q e.v e.va e.fb (cB s (e.L++[a]) (kL false)) wd ar tr un a w w2->∃va',Er w0 E F s b q {e with L:=e.L++[a],o:=false,m:={e.m with left:=[a],eY:=[]},va:=va'} w2/\nJ b e {e with L:=e.L++[a],o:=false,m:={e.m with left:=[a],eY:=[]},va:=va'} w w2):=fun w2 hT=>by
  obtain⟨vs',va',t1,t2,t3,t4,t5⟩:=hT;obtain⟨z,hz⟩:=t3.fl;have hk:e.x.K [a] [] va' w2:=by rw[h.y.K];exact⟨_,z,vs',wd,ar,tr,un,t1,hz,(fun x hx=>by cases hx),t2⟩
  exact⟨va',h.low hk t3 t4 (fun k hk=>hk) t5⟩
 have H0:Hid _:=h;go_enter Tryz.func35,Tryz.ntmps35;go_wp2_with fail;refine aB HS.o ?_;rintro r w1 ⟨rfl,rfl⟩;go_wp2_with fail;refine aB HT.o ?_;rintro r w2 (⟨rfl,hT⟩|⟨hq,g,rfl,hg2,hJ,t2⟩);·obtain⟨va',h2,fr2⟩:=HE.o w2 hT;have H3:Hid (Er w0 E F s b q {e with asked:=false,L:=e.L++[a],o:=false,m:={e.m with left:=[a],eY:=[]},va:=va'} (w2.setCell ⟨e.eb,2,none⟩ (.bool false))/\nJ b e {e with asked:=false,L:=e.L++[a],o:=false,m:={e.m with left:=[a],eY:=[]},va:=va'} w1 (w2.setCell ⟨e.eb,2,none⟩ (.bool false))):=⟨(h2.put false).1,fr2.trans (h2.put false).2⟩;obtain⟨d0,d1,d2,df,dl⟩:=h2.cells;go_wp2_with fail;generalize w2.setCell ⟨e.eb,2,none⟩ (.bool false)=W3 at *;refine aB (HG.o W3 e.f va' H3.o.1.mc) ?_;rintro r w4 ⟨rfl,hP⟩;obtain⟨f',jO,h4,fr4⟩:=H3.o.1.go hP;have H4:Hid (_/\_):=⟨h4,H3.o.2.trans fr4⟩;go_wp2_with fail;go_ret;exact aj (aj ⟨has,rfl,_,f',jO,H4.o.1,HL.o _ _,H4.o.2⟩)
 have H2:Hid (Er w0 E F s b q e w2/\nJ b e e w1 w2):=HD.o w2 t2 hJ;have HN:Hid _:=UR E 8 g (ak rfl) w2 H2.o.1.gt.l.s hg2;go_wp2_with fail;refine aB HN.o ?_;rintro r w3 ⟨rfl,rfl⟩;go_wp2_with fail;go_ret;exact aj (ak ⟨has,hq,rfl,H2.o.1,H2.o.2⟩)
def cx(w:dY)(o0 g pp jl b fb n:Nat)(P:Pg)(F:Nat->Addr):Cx:=⟨w.heap.size,g,pp,jl,.iface 68 (fq jl),oI n,P,F,Kq o0 w.heap.size jl b fb⟩
structure Pre(w0:dY)(E F:Nat->Addr)(s:dX)(l:List Sm)(L:List Int)(o:Bool)(o0 jl b:Nat)(q:Int)(v:dZ)(fb pp:Nat)(w2 w3:dY):Prop where
 g0:Gt w0 E F
 r:Px.read s=.ok l
 c:gI s=(0,0)
 be:gU w0 w2
 fs:F1 w2 w0.heap.size b q v fb (cB s L (kL o))
 oo:w0.heap.size<=o0/\o0<=w2.heap.size
 jb:o0<=jl
 j:∃vs,w2.heap[jl]?=some (Jn.jJ b ((cB s L (kL o)).size:Int) vs ⟨#[]⟩ 0 0 false)/\w2.ownsRow o0 3 1 vs L.length (iC L)
 ll:L.length<=1000000000
 lr:∀a∈L,mZ a
 b3:gU w2 w3
 p:Cn w3 w2.heap.size (iU l) (jw l []) pp
section
variable{w0:dY} {E F:Nat->Addr} {s:dX} {l:List Sm} {L:List Int} {o:Bool} {o0 jl b:Nat} {q:Int} {v:dZ} {fb pp:Nat} {w2 w3:dY}
theorem Pre.jz(h:Pre w0 E F s l L o o0 jl b q v fb pp w2 w3):jl<w2.heap.size/\fb<w2.heap.size/\w2.heap.size<=w3.heap.size/\w0.heap.size<=w2.heap.size:=by obtain⟨vs,h1,_⟩:=h.j;obtain⟨z,hz⟩:=h.fs.fl;exact⟨lt_of_block h1,lt_of_block hz,h.b3.size,h.be.size⟩
theorem Pre.lo(h:Pre w0 E F s l L o o0 jl b q v fb pp w2 w3):∀k,(k=b\/k=fb\/v.ownBlock=some k)->k<w3.heap.size:=by
 obtain⟨z1,z2,z3,z4⟩:=h.jz;rintro k (rfl|rfl|hk);·obtain⟨n,hn⟩:=h.fs.bk;have:=lt_of_block hn;omega
 ·omega
 have:=(h.fs.row.lt k hk).2;omega
theorem Pre.sty(h:Pre w0 E F s l L o o0 jl b q v fb pp w2 w3){g n gv:Nat}{vj:dZ}{w4:dY}(hN:nC pp (iU l).nv vj w3 w4 g n gv):Po w0.heap.size o0 b fb s l (cx w3 o0 g pp jl b fb n (iU l) F):=by obtain⟨z1,z2,z3,z4⟩:=h.jz;refine⟨h.r,h.c,rfl,rfl,rfl,⟨h.jb,by show jl<w3.heap.size;omega⟩,fun k hk=>(hN.jn k hk).2.2.2,fun i h1 h2=>?_,h.g0.l.lo,h.oo.1,by show fb<w3.heap.size;omega⟩;obtain⟨c,t,hb⟩:=h.g0.b i h1 h2;exact lt_of_block hb
theorem Pre.pB(h:Pre w0 E F s l L o o0 jl b q v fb pp w2 w3):DX w3 o0 w3.heap.size pp jl (iU l) (jw l []):=by
 obtain⟨z1,z2,z3,z4⟩:=h.jz;have U9:=h.oo;obtain⟨hBp,vl,vw,vn,h1,h2,h3,h4⟩:=h.p;refine⟨vl,vw,vn,h1,Ir h2 h.oo.2,Ir h3 h.oo.2,Ir h4 h.oo.2,fun k hk=>?_⟩;obtain rfl|hk|hk|hk:=hk;·have:=lt_of_block h1;exact⟨by omega,this,by omega⟩
 ·have:=h2.lt k hk;exact⟨by omega,this.2,by omega⟩
 ·have:=h3.lt k hk;exact⟨by omega,this.2,by omega⟩
 have:=h4.lt k hk;exact⟨by omega,this.2,by omega⟩
theorem Pre.ge(h:Pre w0 E F s l L o o0 jl b q v fb pp w2 w3)(g n:Nat):Rn.Ge (cx w3 o0 g pp jl b fb n (iU l) F) w3:=by obtain⟨z1,z2,z3,z4⟩:=h.jz;have U9:=h.oo;have hjb:=h.jb;have g3:Gt w3 E F:=h.g0.below (h.be.trans (h.b3.mono z4));refine⟨g3.v1,g3.v2,g3.v3,g3.v4,fun i h1 h2=>?_,g3.ne,g3.l.lo,aK h.g0.l.lo (show _<=jl by omega)⟩;obtain⟨c,t,hb⟩:=g3.b i h1 h2;obtain⟨c',t',hb'⟩:=h.g0.b i h1 h2;have:=lt_of_block hb';exact⟨lt_of_block hb,(show(F i).block≠jl by omega),c,t,hb⟩
theorem Pre.made(h:Pre w0 E F s l L o o0 jl b q v fb pp w2 w3){g n gv:Nat}{w4:dY}(hN:nC pp (iU l).nv (.iface 68 (fq jl)) w3 w4 g n gv):∃f,MK (cx w3 o0 g pp jl b fb n (iU l) F) (vH (iU l) L) w4 f (iE):=by
 obtain⟨z1,z2,z3,z4⟩:=h.jz;obtain⟨vs,h1,h2⟩:=h.j;obtain⟨y,hy⟩:=h.fs.fl;have t24:fE (fun _=>False) w2 w4:=((fE.refl _ _).below h.b3).trans hN.t;have ll:=h.ll;have hk:Kq o0 w3.heap.size jl b fb L [] (iE) w4:=by
  refine⟨_,y,vs,⟨#[]⟩,0,0,false,(t24.block jl z1 fun h=>h).trans h1,(t24.block fb z2 fun h=>h).trans hy,(fun x hx=>by cases hx),?_⟩;obtain⟨k1,k2⟩:=h2;obtain⟨rfl,k3⟩|⟨q,cap,cur,rfl,hq,hh,k4,k5,k6,k7⟩:=k2;·exact⟨none,0,by rw[k3],by omega,by omega,fun _=>rfl,fun p hp=>by cases hp⟩
  refine⟨some ⟨q,0,none⟩,cap,rfl,k4,by omega,(fun h=>by cases h),fun p hp=>?_⟩;cases hp;have hqz:=lt_of_block hh;refine⟨q,0,cur,rfl,(t24.block q hqz fun h=>h).trans hh,by omega,fun i hi=>?_,ak ⟨hq,by omega⟩⟩;have e:cur.toList[i]?=some (eF L[i]):=by
   have:(iC L)[i]?=some (eF L[i]):=by simp[iC,hi]
   rw[<- k7,bE (by omega)]at this;exact this
  rw[cZ,<- Array.getElem?_toList];exact e
 exact⟨_,zwy (x:=cx w3 o0 g pp jl b fb n (iU l) F) hN rfl rfl (show jl<w3.heap.size by omega) (F7 h.r).nv rfl hk (DX.oX (x:=cx w3 o0 g pp jl b fb n (iU l) F) h.pB) (h.ge g n)⟩
theorem Pre.er(h:Pre w0 E F s l L o o0 jl b q v fb pp w2 w3){g n gv:Nat}{w4 w5 w6:dY}(hN:nC pp (iU l).nv (.iface 68 (fq jl)) w3 w4 g n gv){f:Nat->dZ}(hM:MK (cx w3 o0 g pp jl b fb n (iU l) F) (vH (iU l) L) w4 f (iE)){m:Ms}(hP:gu (cx w3 o0 g pp jl b fb n (iU l) F) m w4 f (iE) w5)(h6:w6=w5.alloc (.cells #[fq g,fq jl,.bool false] 78)\/w6=(w5.alloc (.cells #[fq g,fq jl,.bool false] 78)).drew):∃f' va',Er w0 E F s b q ⟨l,o0,cx w3 o0 g pp jl b fb n (iU l) F,v,fb,w5.heap.size,false,L,o,m,f',va'⟩ w6/\fE (fun k=>o0<=k) w2 w6 /\
   ∀k,k<o0->k≠b->k≠fb->v.ownBlock≠some k->Off b ⟨l,o0,cx w3 o0 g pp jl b fb n (iU l) F,v,fb,w5.heap.size,false,L,o,m,f',va'⟩ k:=by
 obtain⟨z1,z2,z3,z4⟩:=h.jz;have U9:=h.oo;have y:=h.sty hN;have t24:fE (fun _=>False) w2 w4:=((fE.refl _ _).below h.b3).trans hN.t;obtain⟨f',va',k1,k2⟩:=hP;have hf4:F1 w4 w0.heap.size b q v fb (cB s L (kL o)):=Gj.F1.away h.fs t24 fun k hk=>hk.elim;have hlo:=h.lo;have hjb:=h.jb;have hh:∀k,w3.heap.size<=k->k≠b/\k≠fb/\v.ownBlock≠some k:=fun k hk=>⟨fun e=>absurd (hlo _ (ak e)) (by omega),fun e=>absurd (hlo _ (aj (ak e))) (by omega),fun e=>absurd (hlo _ (aj (aj e))) (by omega)⟩;have hq:∀k,kG (cx w3 o0 g pp jl b fb n (iU l) F) f (iE) k->o0<=k/\(k≠b/\k≠fb/\v.ownBlock≠some k)/\(w3.heap.size<=k\/k=jl):=by
  rintro k (hk|hk|⟨r,hr,hk⟩);·have:=hN.g1;have hk':k=g:=hk;exact⟨by omega,hh _ (by omega),ak (by omega)⟩
  ·obtain⟨vs,h1,_⟩:=h.j;obtain rfl:k=jl:=hk;exact⟨h.jb,Gj.F1.other h.fs h1 (by decide) (by decide) (by decide),aj rfl⟩
  ·have:=(hM.a.sep.own r hr k hk).1;have:w3.heap.size<=k:=this;exact⟨by omega,hh _ this,ak this⟩
 have hf5:=Gj.F1.away hf4 k2.t fun k hk=>(hq k hk).2.1;have hp4:=h.pB.keep hN.t (fun k hk=>hk.elim);have hp5:=hp4.keep k2.t (fun k hk=>(hq k hk).2.2.elim (fun h=>aj (ak h)) fun h=>aj (aj (ak h)));have b4:gU w0 w4:=Ac h.be t24 (ay _) fun k hk=>hk.elim;have b5:gU w0 w5:=Ac b4 k2.t (ay _) fun k hk=>aK U9.1 (hq k hk).1;have b6:gU w5 w6:=by
  obtain rfl|rfl:=h6;·exact(aF _ _).alloc (ay _) _
  ·exact((aF _ _).alloc (ay _) _).drew
 have hn6:w6.heap[w5.heap.size]?=some (.cells #[fq g,fq jl,.bool false] 78):=by obtain rfl|rfl:=h6<;>exact uQ
 have hB4:=hN.t.size;have hB5:w3.heap.size<=w5.heap.size:=by have:=k2.t.size;omega
 have hown:∀k,k<o0->¬kG (cx w3 o0 g pp jl b fb n (iU l) F) f' va' k:=fun k hk ho=>by have:=(hq k (k2.o k (by omega) ho)).1;omega
 refine⟨f',va',⟨hn6,y,h.g0,(k1.same y.ja.ok ((fE.refl _ _).below b6)).1,hf5.below b6,hp5.keep ((fE.refl (fun _=>False) w5).below b6) (fun k hk=>hk.elim),hlo,fun ho=>Nat.lt_irrefl _ (kG.lt k1.a ho),fun j hj=>by have:_<w5.heap.size:=lt_of_cell (k1.a.jn j hj).1;exact Nat.ne_of_gt this,hB5,b5.trans (b6.mono b5.size)⟩,?_,fun k hk h1 h2 h3=>⟨by show k≠w5.heap.size;omega,hown k hk,fun j hj=>?_,h1,h2,h3,ak hk⟩⟩;·exact((t24.mono fun _ _ h=>h.elim).trans (k2.t.mono fun k _ hk=>(hq k hk).1)).trans (((fE.refl (fun _=>False) w5).below b6).mono fun _ _ h=>h.elim)
 ·exact Nat.ne_of_lt (aJ (show k<w3.heap.size by omega) (y.J j hj))
end
open Tn (Gt F7 U4)
def OpQ(E:Nat->Addr)(B0 b:Nat)(q:Int)(s:dX)(L:List Int)(o:Bool)(T X Z:Nat->Prop)(Y:Prop)(w:dY)(r:Ending)(w':dY):Prop:=fE T w w' /\
 ((Y/\∃jl vs v fb,r=fM (.tuple #[fq jl,.nilIface])/\w.heap.size<=jl/\w'.heap[jl]?=some (Jn.jJ b ((cB s L (kL o)).size:Int) vs ⟨#[]⟩ 0 0 false)/\w'.ownsRow w.heap.size 3 1 vs L.length (iC L)/\F1 w' B0 b q v fb (cB s L (kL o))/\∀k,k<w.heap.size->(k=fb\/v.ownBlock=some k)->X k) \/
  (∃n f,(n=8\/n=9)/\Z n/\r=fM (.tuple #[.pointer none,.iface 120 (fq f)])/\Jn.FJ w' f (.iface 393 (.pointer (some (E n))))/\∃v,Bq w' b v q))
def Pq(w0:dY)(E F:Nat->Addr)(s:dX)(b:Nat)(q:Int)(L:List Int)(o:Bool)(T X Z:Nat->Prop)(Y:Prop)(w:dY)(r:Ending)(w':dY):Prop:=
 (∃c p:Nat,gI s=(c,p)/\c≠0/\r=fM (.tuple #[.pointer none,eF (c:Int),eF (p:Int)])/\gU w w') \/
 (gI s=(0,0)/\∃n,(n=8\/n=9)/\Z n/\r=fM (.tuple #[.pointer none,eF ((n+1:Nat):Int),eF 0])/\fE T w w'/\∃v,Bq w' b v q) \/
 (Y/\gI s=(0,0)/\∃e:Ev,r=fM (.tuple #[fq e.eb,eF 0,eF 0])/\(e.L=L/\e.o=o/\e.asked=false)/\Er w0 E F s b q e w'/\Live e/\fE T w w'/\∀k,k<w.heap.size->k≠b->¬X k->Off b e k)
theorem Va(w0:dY)(E F:Nat->Addr)(hblk:∀l,jZ l->∀c m B,q9 c m B E l)(s:dX)(b:Nat)(q:Int)(L:List Int)(o:Bool)(T X Z:Nat->Prop)(Y:Prop)(w:dY)(hs:s.size<=maxLen)(g0:Gt w0 E F)(hb:gU w0 w)(hT:∀k,T k->w0.heap.size<=k/\k<w.heap.size)(hl:L.length<=1000000000)(hL:∀a∈L,mZ a)(hof:o=true->∀l,Px.read s=.ok l->(Px.play (jv l ⟨[],0,0⟩).vars l L).over=0)(hO:∀w1,s.size<=300->gU w w1->fI 22 #[fq b,.string s] w1 (OpQ E w0.heap.size b q s L o T X Z Y w1)):fI 8 #[fq b,.string s] w (Pq w0 E F s b q L o T X Z Y w):=by
 have G0:Hid (Gt w0 E F/\gU w0 w/\(∀k,T k->w0.heap.size<=k/\k<w.heap.size)/\L.length<=1000000000/\(∀a∈L,mZ a)/\(o=true->∀l,Px.read s=.ok l->(Px.play (jv l ⟨[],0,0⟩).vars l L).over=0)):=⟨g0,hb,hT,hl,hL,hof⟩;have HR:Hid (fI 20 #[.string s] w (Zt s E w)):=yfl E hblk s w hs (g0.below hb).l;have HOp:Hid _:=hO;go_enter Tryz.func8,Tryz.ntmps8;go_wp2_with fail;refine HR.o.mono ?_;rintro e w1 ⟨hb1,vt,er,rfl,hc⟩;have B1:Hid (gU w w1/\gU w0 w1):=⟨hb1,G0.o.2.1.trans (hb1.mono G0.o.2.1.size)⟩;obtain⟨h1,rfl,l,vs,hr,hsl,hls⟩|⟨h1,rfl⟩|⟨c,p,f,h2,h3,h1,rfl,hF⟩:=hc
 ·have HO:Hid _:=HOp.o w1 (U4 hr) B1.o.1;have HC:Hid (gI s=(0,0)/\Px.read s=.ok l/\lJ w1 vt vs (gD w w1)/\gX w1 l (gD w w1) vs):=⟨h1,hr,hsl,hls⟩;obtain⟨Lm,vn0,vc0,rfl⟩:=hsl.form;go_wp2_with fail;refine aB HO.o ?_;rintro e w2 ⟨t2,hcase⟩;have b2:gU w0 w2:=Ac B1.o.2 t2 (ay _) fun k hk=>(G0.o.2.2.1 k hk).1;have T2:Hid (gU w0 w2/\fE T w w2/\w1.heap.size<=w2.heap.size):=⟨b2,(((fE.refl (fun _=>False) w).below B1.o.1).mono fun _ _ h=>h.elim).trans t2,t2.size⟩;obtain⟨hY,jl,vj,v,fb,rfl,o1,o2,o3,o4,o5⟩|⟨n,f,hn,hz,rfl,hf,vq,hbq⟩:=hcase
  ·have hk:∀k,gD w w1 k->w2.heap[k]?=w1.heap[k]?:=fun k hk=>t2.block k hk.2 fun e=>by have:=(G0.o.2.2.1 k e).2;have:=hk.1;omega
   have HM:Hid _:=zm4 l (Ao HC.o.2.1).1 (Qj HC.o.2.1).1 (qxo HC.o.2.1).2 w2 (.slice Lm vn0 vc0) vs ((HC.o.2.2.1.keep hk).mono fun k hk=>aJ hk.2 t2.size) ((HC.o.2.2.2.keep hk).mono fun k hk=>aJ hk.2 t2.size) (G0.o.1.below b2).k;have HPr:Hid (∀w3 pp,gU w2 w3->Cn w3 w2.heap.size (iU l) (jw l []) pp->Pre w0 E F s l L o w.heap.size jl b q v fb pp w2 w3):=fun w3 pp hb3 hp=>⟨G0.o.1,HC.o.2.1,HC.o.1,b2,o4,⟨G0.o.2.1.size,aK B1.o.1.size t2.size⟩,aK B1.o.1.size o1,⟨vj,o2,Ir o3 B1.o.1.size⟩,G0.o.2.2.2.1,G0.o.2.2.2.2.1,hb3,hp⟩;have HX:Hid (∀k,k<w.heap.size->k=fb\/v.ownBlock=some k->X k):=fun k hk h=>o5 k (aJ hk B1.o.1.size) h;go_wp2_with fail;refine aB HM.o ?_;rintro e w3 ⟨pp,rfl,hb3,hp3⟩;have PR:Hid _:=HPr.o w3 pp hb3 hp3;obtain⟨_,vl,vw,vn,hpp,_⟩:=hp3;have hpc:w3.cell? ⟨pp,1,none⟩=some (eF ((iU l).nv:Int)):=by simp[World.cell?,hpp]
   have HNw:Hid _:=zs8 pp (iU l).nv (.iface 68 (fq jl)) 68 ⟨jl,0,none⟩ rfl w3 hpc (F7 HC.o.2.1).nv;go_wp2_with fail;refine aB HNw.o ?_;rintro e w4 ⟨g,n,gv,rfl,hN⟩;obtain⟨f0,hM⟩:=PR.o.made hN;obtain⟨S,hS⟩:=Y8 (Zp l);have fit:=F7 HC.o.2.1;have y:=PR.o.sty hN;have HGo:Hid _:=cP y.ja.ok (cQ y.ja y.vj) hS fit.ok fit.li fit.lw (by decide) _ (Zg hS PR.o.lr) w4 f0 _ hM;have HE:Hid (∀w5 w6,gu (cx w3 w.heap.size g pp jl b fb n (iU l) F) (gJ (iU l) 4000000 (vH (iU l) L)).2 w4 f0 (iE) w5->(w6=w5.alloc (.cells #[fq g,fq jl,.bool false] 78)\/w6=(w5.alloc (.cells #[fq g,fq jl,.bool false] 78)).drew)->_):=fun w5 w6 hP h6=>PR.o.er hN hM hP h6;have HL:Hid (∀x v fb eb f va,Live ⟨l,w.heap.size,x,v,fb,eb,false,L,o,(gJ (iU l) 4000000 (vH (iU l) L)).2,f,va⟩):=fun x v fb eb f va=>⟨Zq _ _,G0.o.2.2.2.2.1,(fun h=>by cases h),fun h=>((Ig HC.o.2.1 HC.o.1 (Zq _ _)).1).trans (G0.o.2.2.2.2.2 h l HC.o.2.1)⟩;go_wp2_with fail;refine aB HGo.o ?_;rintro e w5 ⟨rfl,hP⟩;have HE5:Hid _:=fun w6 h6=>HE.o w5 w6 hP h6;go_wp2_with fail;all_goals (try go_region)
   all_goals (try go_wp2_with fail)
   all_goals
    (try simp only[Exit.inBlock,Exit.then])
    refine bodyPost_ret (iZ rfl _ _ _) rfl ?_;obtain⟨f',va',hEr,ht6,hoff⟩:=HE5.o _ (by first|exact ak rfl|exact aj rfl);exact aj (aj ⟨hY,HC.o.1,_,rfl,⟨rfl,rfl,rfl⟩,hEr,HL.o _ _ _ _ _ _,fE.new T2.o.2.1 ht6 (fun k hk h=>absurd h (by omega)),fun k hk h1 h2=>hoff k hk h1 (fun h=>h2 (HX.o k hk (ak h))) (fun h=>h2 (HX.o k hk (aj h)))⟩)
  have HT:Hid _:=ykd E n f hn w2 (G0.o.1.below b2).l.s hf;go_wp2_with fail;refine aB HT.o ?_;rintro e w3 ⟨rfl,hb3⟩;have B3:Hid (fE T w w3/\∃v,Bq w3 b v q):=⟨T2.o.2.1.trans (((fE.refl (fun _=>False) w2).below hb3).mono fun _ _ h=>h.elim),vq,hbq.below hb3⟩;go_wp2_with fail
  (try simp only[Exit.inBlock,Exit.then])
  refine bodyPost_ret (iZ rfl _ _ _) rfl ?_;exact aj (ak ⟨HC.o.1,n,hn,hz,rfl,B3.o.1,B3.o.2⟩)
 ·have HT:Hid _:=qo0 E w1 (G0.o.1.below B1.o.2).l.s;go_wp2_with fail;refine aB HT.o ?_;rintro e w2 ⟨rfl,b2⟩;have B2:Hid (gU w w2):=B1.o.1.trans (b2.mono B1.o.1.size);go_wp2_with fail
  (try simp only[Exit.inBlock,Exit.then])
  refine bodyPost_ret (iZ rfl _ _ _) rfl ?_;exact ak ⟨1,0,h1,by decide,rfl,B2.o⟩
 have HT:Hid _:=qmh E c p f w1 (G0.o.1.below B1.o.2).l.s hF ⟨h2,h3⟩;go_wp2_with fail;refine aB HT.o ?_;rintro e w2 ⟨rfl,b2⟩;have B2:Hid (gU w w2):=B1.o.1.trans (b2.mono B1.o.1.size);go_wp2_with fail
 (try simp only[Exit.inBlock,Exit.then])
 refine bodyPost_ret (iZ rfl _ _ _) rfl ?_;exact ak ⟨c,p,h1,by omega,rfl,B2.o⟩
section
variable{w0:dY} {E F:Nat->Addr}
theorem pC(hblk:∀l,jZ l->∀c m B,q9 c m B E l)(s:dX)(b:Nat)(q:Int)(v:dZ)(w:dY)(hs:s.size<=maxLen)(hq0:0<=q)(g0:Gt w0 E F)(hb:gU w0 w)(h:F0 w w0.heap.size b q v):fI 8 #[fq b,.string s] w (Pq w0 E F s b q [] false (fun k=>k=b\/v.ownBlock=some k) (fun k=>v.ownBlock=some k) (fun n=>n=8/\0<q) True w):=by
 refine Va w0 E F hblk s b q [] false _ _ _ _ w hs g0 hb ?_ (by simp) (fun a h=>by cases h) (fun h=>by cases h) fun w1 hs3 h1=>?_
 ·rintro k (rfl|hk);·obtain⟨n,hn⟩:=h.bk;exact⟨h.lo,lt_of_block hn⟩
  exact h.row.lt k hk
 refine(yiw E w0.heap.size b q v s w1 (h.below h1) (aK hb.size h1.size) g0.l.lo hq0 hs3 ((g0.below hb).below h1).t).mono ?_;rintro r w2 ⟨t,⟨jl,v',fb,fr,rfl,a1,a2,a3⟩|⟨hq,f,rfl,hf,hbq⟩⟩
 ·refine⟨t,ak ⟨trivial,jl,_,v',fb,rfl,a1,a2,aX _ _ _ _,a3,fun k hk hx=>?_⟩⟩;obtain rfl|hx:=hx;·have:=fr.1;omega
  obtain h|h:=fr.2 k hx;·exact h
  omega
 exact⟨t,aj ⟨8,f,ak rfl,⟨rfl,hq⟩,rfl,hf,hbq⟩⟩
theorem pD(hblk:∀l,jZ l->∀c m B,q9 c m B E l)(s t:dX)(b:Nat)(q:Int)(v:dZ)(fb:Nat)(L:List Int)(o:Bool)(w:dY)(hs:t.size<=maxLen)(g0:Gt w0 E F)(hb:gU w0 w)(h:F1 w w0.heap.size b q v fb (cB s L (kL o)))(hc:(Gj.cont s L (kL o)).length<=10000000000)(hl:L.length<=1000000000)(hL:∀a∈L,mZ a)(hof:o=true->∀l,Px.read s=.ok l->(Px.play (jv l ⟨[],0,0⟩).vars l L).over=0):fI 8 #[fq b,.string t] w (fun r w'=>(s=t/\Pq w0 E F s b q L o (fun _=>False) (fun k=>k=fb\/v.ownBlock=some k) (fun _=>False) True w r w')\/(s≠t/\Pq w0 E F t b q [] false (fun _=>False) (fun _=>False) (fun n=>n=9) False w r w' )):=by
 by_cases hst:s=t
 ·subst hst;refine aB (Va w0 E F hblk s b q L o (fun _=>False) (fun k=>k=fb\/v.ownBlock=some k) (fun _=>False) True w hs g0 hb (fun _ h=>h.elim) hl hL hof fun w1 hs3 h1=>?_) (fun r w' h=>ak ⟨rfl,h⟩);refine(kA E w0.heap.size b q v fb s s L (kL o) w1 (h.below h1) hL (mT o) hc hl hs3 ((g0.below hb).below h1).t).mono ?_;rintro r w2 ⟨hb2,⟨_,jl,vs,rfl,a1,a2,a3⟩|⟨hne,_⟩⟩;·exact⟨(fE.refl _ _).below hb2,ak ⟨trivial,jl,vs,v,fb,rfl,a1,a2,a3,(h.below h1).below hb2,fun k _ hx=>hx⟩⟩
  exact absurd rfl hne
 refine aB (Va w0 E F hblk t b q [] false (fun _=>False) (fun _=>False) (fun n=>n=9) False w hs g0 hb (fun _ h=>h.elim) (by simp) (fun a h=>by cases h) (fun h=>by cases h) fun w1 hs3 h1=>?_) (fun r w' h=>aj ⟨hst,h⟩);refine(kA E w0.heap.size b q v fb s t L (kL o) w1 (h.below h1) hL (mT o) hc hl hs3 ((g0.below hb).below h1).t).mono ?_;rintro r w2 ⟨hb2,⟨he,_⟩|⟨hne,f,rfl,hf⟩⟩;·exact absurd he hst
 exact⟨(fE.refl _ _).below hb2,aj ⟨9,f,aj rfl,rfl,rfl,hf,_,((h.below h1).below hb2).bk⟩⟩
end
open Mk (kK)
theorem pH{l:List dX}{x:dX}:kK l x=-1\/∃i:Nat,i<l.length/\kK l x=(i:Int):=by
 unfold kK;cases h:iR l x;·exact ak rfl
 refine aj ⟨fF l x,?_,rfl⟩;induction l with| nil=>simp[iR]at h| cons a l ih=>
 rw[fF];split;·simp
 rename_i hne;have:iR l x=true:=by rw[iR]at h;simpa[hne]using h
 have:=ih this;simp;omega
def Ae(e:Ev)(wd:dX):dZ:=if kK (jw e.l []) wd=-1 then .tuple #[eF 0,eF 5]else .tuple #[eF (e.m.vars.getD (kK (jw e.l []) wd).toNat 0),eF 0]
section
variable{w0:dY} {E F:Nat->Addr} {s:dX} {b:Nat} {q:Int} {e:Ev} {w:dY}
theorem Er.pL(h:Er w0 E F s b q e w)(lv:Live e):e.m.vars.length=(jw e.l []).length:=by obtain⟨_,h2,_⟩:=Ig h.y.r h.y.c lv.cm;have he:=Qo h.y.r h.y.c;obtain⟨wf,_⟩:=Ao h.y.r;have hvs:jw e.l []=(jv e.l ⟨[],0,0⟩).vars.map Prod.fst:=Bh e.l ⟨[],0,0⟩ wf he;rw[h2,yh1,hvs,List.length_map]
end
theorem yhn(w0:dY)(E F:Nat->Addr)(s:dX)(b:Nat)(q:Int)(e:Ev)(w:dY)(h:Er w0 E F s b q e w)(lv:Live e)(wd:dX):fI 63 #[fq e.x.g,.string wd] w fun r w'=>r=fM (if kK (jw e.l []) wd=-1 then .tuple #[eF 0,.bool false]else .tuple #[eF (e.m.vars.getD (kK (jw e.l []) wd).toNat 0),.bool true])/\w'=w:=by
 obtain⟨vl,vw,vn,h1,_,_,h4,_⟩:=h.pn;have c4:=h.mc.a.blk.cell 4 (by decide);rw[h.mc.a.f4]at c4;have c85:=h.mc.a.blk.cell 85 (by decide);have p2:w.cell? ⟨e.x.pp,2,none⟩=some vn:=by simp[World.cell?,h1]
 obtain⟨na,nn,nc,rfl⟩:=lu h4;have HI:Hid _:=Mk.JO (jw e.l []) wd w _ na nn nc h4;have hlen:=h.pL lv;have hrow:=h.mc.a.zT;obtain⟨ra,rn,rc,Vb⟩:=lu hrow;rw[Vb]at c85 hrow;obtain hi|⟨i,hil,hi⟩:=pH (l:=jw e.l []) (x:=wd);·rw[hi]at HI |-;go_enter Tryz.func63,Tryz.ntmps63;go_wp2_with fail;refine aB HI.o ?_;rintro r w1 ⟨rfl,rfl⟩;go_wp2_with fail;go_ret2;exact⟨rfl,rfl⟩
 rw[hi]at HI |-;have hiv:i<e.m.vars.length:=by omega
 obtain⟨g,cap,hsl,hc⟩:=yT hrow hiv;cases hsl;have hci:w.cell? ⟨g,i,none⟩=some (eF (e.m.vars.getD i 0)):=hc i _ (by simp[lD,List.getD_eq_getElem?_getD,hiv]);have hml:e.m.vars.length<=10000000:=by have:=(Tn.F7 h.y.r).nv;rw[hlen];exact this
 have hni:¬(i:Int)=-1:=by omega
 rw[ah hni,Int.toNat_natCast];generalize e.m.vars.getD i 0=y at hci |-;go_enter Tryz.func63,Tryz.ntmps63;go_wp2_with fail;refine aB HI.o ?_;rintro r w1 ⟨rfl,rfl⟩;go_wp2_with fail;go_ret2;exact⟨rfl,rfl⟩
theorem yiu(w0:dY)(E F:Nat->Addr)(s:dX)(b:Nat)(q:Int)(e:Ev)(w:dY)(h:Er w0 E F s b q e w)(lv:Live e)(wd:dX):fI 36 #[fq e.eb,.string wd] w fun r w'=>r=fM (Ae e wd)/\w'=w:=by
 obtain⟨c0,c1,c2,cf,cl⟩:=h.cells;have HS:Hid _:=UZ e.eb e.x.g w c0;have HV:Hid _:=yhn w0 E F s b q e w h lv wd;go_enter Tryz.func36,Tryz.ntmps36;go_wp2_with fail;refine aB HS.o ?_;rintro r w1 ⟨rfl,rfl⟩;go_wp2_with fail;refine aB HV.o ?_;rintro r w2 ⟨rfl,rfl⟩;by_cases hi:kK (jw e.l []) wd=-1;·rw[aA hi];go_wp2_with fail;go_ret2;exact⟨by unfold Ae;rw[aA hi]<;>rfl,rfl⟩
 rw[ah hi];have hy:Hid (∃y,e.m.vars.getD (kK (jw e.l []) wd).toNat 0=y):=⟨_,rfl⟩;obtain⟨y,hy'⟩:=hy.o;rw[hy'];have hy:Hid (e.m.vars.getD (kK (jw e.l []) wd).toNat 0=y):=hy';go_wp2_with fail;go_ret2;exact⟨by unfold Ae;rw[ah hi,hy.o]<;>rfl,rfl⟩
end Gn
namespace Gl
open Fi Gf Gn Jn Lg Px Ref Rn
open Gn (Ev Er Live Off nJ)
open Gf (F0 F1)
open Gj (cB kL)
structure Zs where
 W:Nat
 l:List Sm
 uS:dZ
 sF:dZ
 qs:List Nat
 ok:Nat->Prop
def Lb(z:Zs)(jm je iT:dZ)(k:Nat):Prop:=k=z.W\/z.ok k\/z.sF.ownBlock=some k\/jm.ownBlock=some k\/je.ownBlock=some k\/iT.ownBlock=some k
def nS(L:List Int)(o:Bool):Nat:=if o then L.length+1 else L.length
abbrev wO(s:dX)(q:Int)(b:Nat)(z:Zs)(ve:dZ)(jm iT:dZ)(op:Bool):Obj:=.cells #[.string s,z.uS,z.sF,eF q,fq b,ve,jm,iT,iE,.bool op,iE] 34
structure Lh(B0:Nat)(s:dX)(b:Nat)(q:Int)(z:Zs)(X:Nat->Prop)(op:Bool)(ve:dZ)(L:List Int)(n:Nat)(jm je iT:dZ)(w:dY):Prop where
 at_:w.heap[z.W]?=some (wO s q b z ve jm iT op)
 r:Px.read s=.ok z.l
 c:gI s=(0,0)
 sl:jc w z.uS z.qs z.ok
 sm:gF w z.l z.ok z.qs
 vr:w.ownsRow 0 101 2 z.sF (vars z.l).length (rY (vars z.l))
 kn:w.ownsRow B0 32 1 jm 1 [je]
 k0:w.ownsRow B0 3 1 je L.length (gB L)
 su:w.ownsRow B0 4 1 iT n (allT n)
 off:∀k,Lb z jm je iT k->X k/\B0<=k/\k<w.heap.size
 nk:∀k,z.ok k->k≠z.W/\jm.ownBlock≠some k/\iT.ownBlock≠some k
section
variable{B0:Nat} {s:dX} {b:Nat} {q:Int} {z:Zs} {X:Nat->Prop} {op:Bool} {ve:dZ} {L:List Int} {n:Nat} {jm je iT:dZ} {w:dY}
theorem DY{w:dY}{B e m k:Nat}{v:dZ}{N:Nat}{xs:List dZ}(h:w.ownsRow B e m v N xs)(hk:v.ownBlock=some k):B<=k/\k<w.heap.size:=h.lt k hk
theorem Lh.keep(h:Lh B0 s b q z X op ve L n jm je iT w){T X':Nat->Prop}{w':dY}(t:fE T w w')(hT:∀k,Lb z jm je iT k->¬T k)(hX:∀k,k<w.heap.size->X k->X' k):Lh B0 s b q z X' op ve L n jm je iT w':=by have hb:∀k,Lb z jm je iT k->w'.heap[k]?=w.heap[k]?:=fun k hk=>t.block k (h.off k hk).2.2 (hT k hk);refine⟨(hb _ (ak rfl)).trans h.at_,h.r,h.c,h.sl.keep fun k hk=>hb k (aj (ak hk)),h.sm.keep fun k hk=>hb k (aj (ak hk)),iM h.vr t fun k hk=>hT k (aj (aj (ak hk))),iM h.kn t fun k hk=>hT k (aj (aj (aj (ak hk)))),iM h.k0 t fun k hk=>hT k (aj (aj (aj (aj (ak hk))))),iM h.su t fun k hk=>hT k (aj (aj (aj (aj (aj hk))))),fun k hk=>?_,h.nk⟩;obtain⟨a,b,c⟩:=h.off k hk;exact⟨hX k c a,b,aJ c t.size⟩
theorem Lh.same(h:Lh B0 s b q z X op ve L n jm je iT w){w':dY}(hb:gU w w'):Lh B0 s b q z X op ve L n jm je iT w':=h.keep ((fE.refl (fun _=>False) w).below hb) (fun _ _ h=>h) (fun _ _ h=>h)
theorem Lh.Iy{e e':Ev}(h:Lh B0 s b q z (Off b e) op ve L n jm je iT w){w':dY}(f:nJ b e e' w w'):Lh B0 s b q z (Off b e') op ve L n jm je iT w':=h.keep f.1 (fun k hk hn=>hn (h.off k hk).1) f.2
theorem Lh.ne(h:Lh B0 s b q z X op ve L n jm je iT w):z.sF.ownBlock≠some z.W/\jm.ownBlock≠some z.W/\je.ownBlock≠some z.W/\iT.ownBlock≠some z.W:=⟨uR h.vr h.at_ (by decide),uR h.kn h.at_ (by decide),uR h.k0 h.at_ (by decide),uR h.su h.at_ (by decide)⟩
theorem Lh.put(h:Lh B0 s b q z X op ve L n jm je iT w){op':Bool}{ve':dZ}{i:Nat}{u:dZ}(hi:(#[.string s,z.uS,z.sF,eF q,fq b,ve,jm,iT,iE,.bool op,iE]:Array dZ).setIfInBounds i u=#[.string s,z.uS,z.sF,eF q,fq b,ve',jm,iT,iE,.bool op',iE]):Lh B0 s b q z X op' ve' L n jm je iT (w.setCell ⟨z.W,i,none⟩ u):=by have t:fE (·=z.W) w (w.setCell ⟨z.W,i,none⟩ u):=(fE.refl (·=z.W) w).setCell (p:=⟨z.W,i,none⟩) (ak rfl) _;obtain⟨n1,n2,n3,n4⟩:=h.ne;have hb:∀k,z.ok k->(w.setCell ⟨z.W,i,none⟩ u).heap[k]?=w.heap[k]?:=fun k hk=>t.block k (h.off k (aj (ak hk))).2.2 (h.nk k hk).1;refine⟨by rw[Ref.heap_set _ h.at_,hi],h.r,h.c,h.sl.keep hb,h.sm.keep hb,iM h.vr t (fun k hk e=>n1 (by rw[hk,e])),iM h.kn t (fun k hk e=>n2 (by rw[hk,e])),iM h.k0 t (fun k hk e=>n3 (by rw[hk,e])),iM h.su t (fun k hk e=>n4 (by rw[hk,e])),fun k hk=>?_,h.nk⟩;obtain⟨a,b,c⟩:=h.off k hk;exact⟨a,b,aJ c t.size⟩
theorem Lh.Af(h:Lh B0 s b q z X op ve L n jm je iT w)(op':Bool):Lh B0 s b q z X op' ve L n jm je iT (w.setCell ⟨z.W,9,none⟩ (.bool op')):=h.put (by simp)
theorem Lh.yc(h:Lh B0 s b q z X op ve L n jm je iT w)(ve':dZ):Lh B0 s b q z X op ve' L n jm je iT (w.setCell ⟨z.W,5,none⟩ ve'):=h.put (by simp)
theorem Lh.F8(h:Lh B0 s b q z X op ve L n jm je iT w){mJ lF:dZ}{L':List Int}(hk:w.ownsRow B0 32 1 mJ 1 [lF])(h0:w.ownsRow B0 3 1 lF L'.length (gB L'))(ho:∀k,(mJ.ownBlock=some k\/lF.ownBlock=some k)->X k)(hn:∀k,z.ok k->mJ.ownBlock≠some k):Lh B0 s b q z X op ve L' n mJ lF iT (w.setCell ⟨z.W,6,none⟩ mJ):=by
 have t:fE (·=z.W) w (w.setCell ⟨z.W,6,none⟩ mJ):=(fE.refl (·=z.W) w).setCell (p:=⟨z.W,6,none⟩) (ak rfl) _;obtain⟨n1,n2,n3,n4⟩:=h.ne;have hb:∀k,z.ok k->(w.setCell ⟨z.W,6,none⟩ mJ).heap[k]?=w.heap[k]?:=fun k hk=>t.block k (h.off k (aj (ak hk))).2.2 (h.nk k hk).1;refine⟨by rw[Ref.heap_set _ h.at_];simp,h.r,h.c,h.sl.keep hb,h.sm.keep hb,iM h.vr t (fun k hk e=>n1 (by rw[hk,e])),iM hk t (fun k hk' e=>uR hk h.at_ (by decide) (by rw[hk',e])),iM h0 t (fun k hk' e=>uR h0 h.at_ (by decide) (by rw[hk',e])),iM h.su t (fun k hk e=>n4 (by rw[hk,e])),fun k hk'=>?_,fun k hk'=>⟨(h.nk k hk').1,hn k hk',(h.nk k hk').2.2⟩⟩;have sz:=t.size;obtain e|e|e|e|e|e:=hk';·obtain⟨a,b,c⟩:=h.off k (ak e);exact⟨a,b,aJ c sz⟩
 ·obtain⟨a,b,c⟩:=h.off k (aj (ak e));exact⟨a,b,aJ c sz⟩
 ·obtain⟨a,b,c⟩:=h.off k (aj (aj (ak e)));exact⟨a,b,aJ c sz⟩
 ·exact⟨ho k (ak e),(DY hk e).1,aJ (DY hk e).2 sz⟩
 ·exact⟨ho k (aj e),(DY h0 e).1,aJ (DY h0 e).2 sz⟩
 obtain⟨a,b,c⟩:=h.off k (aj (aj (aj (aj (aj e)))));exact⟨a,b,aJ c sz⟩
theorem Lh.F9{g c:Nat}(h:Lh B0 s b q z X op ve L n (.slice (some ⟨g,0,none⟩) 1 c) je iT w){lF:dZ}{L':List Int}(h0:w.ownsRow B0 3 1 lF L'.length (gB L'))(ho:∀k,lF.ownBlock=some k->X k):Lh B0 s b q z X op ve L' n (.slice (some ⟨g,0,none⟩) 1 c) lF iT (w.setCell ⟨g,0,none⟩ lF):=by
 have t:fE (·=g) w (w.setCell ⟨g,0,none⟩ lF):=(fE.refl (·=g) w).setCell (p:=⟨g,0,none⟩) (ak rfl) _;obtain⟨n1,n2,n3,n4⟩:=h.ne;have hb:∀k,z.ok k->(w.setCell ⟨g,0,none⟩ lF).heap[k]?=w.heap[k]?:=fun k hk=>t.block k (h.off k (aj (ak hk))).2.2 (fun e=>(h.nk k hk).2.1 (by rw[e]<;>rfl));obtain⟨cg,hg⟩:=DW h.kn (k:=g) rfl;refine⟨(t.block z.W (lt_of_block h.at_) (fun e=>n2 (by rw[e]<;>rfl))).trans h.at_,h.r,h.c,h.sl.keep hb,h.sm.keep hb,iM h.vr t (fun k hk e=>uR h.vr hg (by decide) (by rw[hk,e])),UW h.kn,iM h0 t (fun k hk e=>uR h0 hg (by decide) (by rw[hk,e])),iM h.su t (fun k hk e=>uR h.su hg (by decide) (by rw[hk,e])),fun k hk'=>?_,h.nk⟩;have sz:=t.size;obtain e|e|e|e|e|e:=hk';·obtain⟨a,b,c⟩:=h.off k (ak e);exact⟨a,b,aJ c sz⟩
 ·obtain⟨a,b,c⟩:=h.off k (aj (ak e));exact⟨a,b,aJ c sz⟩
 ·obtain⟨a,b,c⟩:=h.off k (aj (aj (ak e)));exact⟨a,b,aJ c sz⟩
 ·obtain⟨a,b,c⟩:=h.off k (aj (aj (aj (ak e))));exact⟨a,b,aJ c sz⟩
 ·exact⟨ho k e,(DY h0 e).1,aJ (DY h0 e).2 sz⟩
 obtain⟨a,b,c⟩:=h.off k (aj (aj (aj (aj (aj e)))));exact⟨a,b,aJ c sz⟩
theorem Lh.Ga(h:Lh B0 s b q z X op ve L n jm je iT w){lY:dZ}{n':Nat}{w1:dY}(hs:w1.ownsRow B0 4 1 lY n' (allT n'))(t:fE (fun j=>iT.ownBlock=some j) w w1)(hl:lY.ownBlock=iT.ownBlock\/∃j,lY.ownBlock=some j/\w.heap.size<=j)(hX:∀k,w.heap.size<=k->X k):Lh B0 s b q z X op ve L n' jm je lY (w1.setCell ⟨z.W,7,none⟩ lY)/\fE (fun j=>j=z.W\/iT.ownBlock=some j) w (w1.setCell ⟨z.W,7,none⟩ lY):=by
 obtain⟨n1,n2,n3,n4⟩:=h.ne;have t2:fE (fun j=>j=z.W\/iT.ownBlock=some j) w (w1.setCell ⟨z.W,7,none⟩ lY):=(t.mono (T':=fun j=>j=z.W\/iT.ownBlock=some j) fun k _ hk=>aj hk).setCell (p:=⟨z.W,7,none⟩) (ak (ak rfl)) _;have tw:fE (·=z.W) w1 (w1.setCell ⟨z.W,7,none⟩ lY):=(fE.refl (·=z.W) w1).setCell (p:=⟨z.W,7,none⟩) (ak rfl) _;have hW:w1.heap[z.W]?=some (wO s q b z ve jm iT op):=(t.block _ (lt_of_block h.at_) n4).trans h.at_;have hb:∀k,z.ok k->(w1.setCell ⟨z.W,7,none⟩ lY).heap[k]?=w.heap[k]?:=fun k hk=>t2.block k (h.off k (aj (ak hk))).2.2 (fun e=>e.elim (h.nk k hk).1 (h.nk k hk).2.2);have hd:∀{e' z' N:Nat}{B:Nat}{v:dZ}{xs:List dZ},w.ownsRow B e' z' v N xs->4≠e'->∀k,v.ownBlock=some k->iT.ownBlock≠some k:=fun hv hne k hk e=>by obtain⟨c,hc⟩:=DW h.su e;exact uR hv hc hne hk
 refine⟨⟨by rw[Ref.heap_set _ hW];simp,h.r,h.c,h.sl.keep hb,h.sm.keep hb,iM h.vr t2 (fun k hk e=>e.elim (fun e=>n1 (by rw[hk,e])) (hd h.vr (by decide) k hk)),iM h.kn t2 (fun k hk e=>e.elim (fun e=>n2 (by rw[hk,e])) (hd h.kn (by decide) k hk)),iM h.k0 t2 (fun k hk e=>e.elim (fun e=>n3 (by rw[hk,e])) (hd h.k0 (by decide) k hk)),iM hs tw (fun k hk e=>uR hs hW (by decide) (by rw[hk,e])),fun k hk'=>?_,fun k hk'=>⟨(h.nk k hk').1,(h.nk k hk').2.1,fun e=>?_⟩⟩,t2⟩
 ·have sz:=t2.size;have hk'':Lb z jm je iT k\/lY.ownBlock=some k:=by
   obtain e|e|e|e|e|e:=hk';·exact ak (ak e)
   ·exact ak (aj (ak e))
   ·exact ak (aj (aj (ak e)))
   ·exact ak (aj (aj (aj (ak e))))
   ·exact ak (aj (aj (aj (aj (ak e)))))
   exact aj e
  obtain e|e:=hk'';·obtain⟨a,b,c⟩:=h.off k e;exact⟨a,b,aJ c sz⟩
  obtain hl|⟨j,hl,hj⟩:=hl;·obtain⟨a,b,c⟩:=h.off k (aj (aj (aj (aj (aj (by rw[<- hl];exact e))))));exact⟨a,b,aJ c sz⟩
  rw[hl]at e;cases e;exact⟨hX _ hj,(DY hs hl).1,aJ (DY hs hl).2 tw.size⟩
 obtain hl|⟨j,hl,hj⟩:=hl;·exact(h.nk k hk').2.2 (by rw[<- hl];exact e)
 rw[hl]at e;cases e;have:=(h.off k (aj (ak hk'))).2.2;omega
theorem jy{w:dY}{k:Nat}{a b c d e f g h i j l:dZ}{t:TypeId}(hh:w.heap[k]?=some (.cells #[a,b,c,d,e,f,g,h,i,j,l] t)):w.cell? ⟨k,0,none⟩=some a/\w.cell? ⟨k,1,none⟩=some b/\w.cell? ⟨k,2,none⟩=some c/\w.cell? ⟨k,3,none⟩=some d/\w.cell? ⟨k,4,none⟩=some e/\w.cell? ⟨k,5,none⟩=some f/\w.cell? ⟨k,6,none⟩=some g/\w.cell? ⟨k,7,none⟩=some h/\w.cell? ⟨k,8,none⟩=some i/\w.cell? ⟨k,9,none⟩=some j/\w.cell? ⟨k,10,none⟩=some l/\(∀o,w.frozen? ⟨k,o,none⟩=false)/\k<w.heap.size:=by refine⟨?_,?_,?_,?_,?_,?_,?_,?_,?_,?_,?_,?_,lt_of_block hh⟩<;>simp[World.cell?,World.frozen?,hh]
end
structure La(w0:dY)(E F:Nat->Addr)(s:dX)(b:Nat)(q:Int)(z:Zs)(e:Ev)(op:Bool)(ve:dZ)(L:List Int)(n:Nat)(jm je iT:dZ)(w:dY):Prop where
 er:Er w0 E F s b q e w
 lh:Lh w0.heap.size s b q z (Off b e) op ve L n jm je iT w
section
variable{w0:dY} {E F:Nat->Addr} {s:dX} {b:Nat} {q:Int} {z:Zs} {e:Ev} {op:Bool} {ve:dZ} {L:List Int} {n:Nat} {jm je iT:dZ} {w:dY}
theorem La.same(h:La w0 E F s b q z e op ve L n jm je iT w){w':dY}(hb:gU w w'):La w0 E F s b q z e op ve L n jm je iT w':=⟨h.er.same hb,h.lh.same hb⟩
theorem La.l(h:La w0 E F s b q z e op ve L n jm je iT w):z.l=e.l:=by have h1:=h.lh.r;rw[h.er.y.r]at h1;exact(Except.ok.inj h1).symm
theorem La.LD(h:La w0 E F s b q z e op ve L n jm je iT w){T:Nat->Prop}{w':dY}(t:fE T w w')(hT:∀k,T k->Lb z jm je iT k):Er w0 E F s b q e w':=h.er.aside t fun k hk=>⟨(h.lh.off k (hT k hk)).1,(h.lh.off k (hT k hk)).2.1⟩
theorem La.Af(h:La w0 E F s b q z e op ve L n jm je iT w)(op':Bool):La w0 E F s b q z e op' ve L n jm je iT (w.setCell ⟨z.W,9,none⟩ (.bool op')):=⟨h.LD ((fE.refl (·=z.W) w).setCell (p:=⟨z.W,9,none⟩) (ak rfl) _) (fun _ hk=>ak hk),h.lh.Af op'⟩
theorem La.yc(h:La w0 E F s b q z e op ve L n jm je iT w)(ve':dZ):La w0 E F s b q z e op ve' L n jm je iT (w.setCell ⟨z.W,5,none⟩ ve'):=⟨h.LD ((fE.refl (·=z.W) w).setCell (p:=⟨z.W,5,none⟩) (ak rfl) _) (fun _ hk=>ak hk),h.lh.yc ve'⟩
theorem La.F8(h:La w0 E F s b q z e op ve L n jm je iT w){mJ lF:dZ}{L':List Int}(hk:w.ownsRow w0.heap.size 32 1 mJ 1 [lF])(h0:w.ownsRow w0.heap.size 3 1 lF L'.length (gB L'))(ho:∀k,(mJ.ownBlock=some k\/lF.ownBlock=some k)->Off b e k)(hn:∀k,z.ok k->mJ.ownBlock≠some k):La w0 E F s b q z e op ve L' n mJ lF iT (w.setCell ⟨z.W,6,none⟩ mJ):=⟨h.LD ((fE.refl (·=z.W) w).setCell (p:=⟨z.W,6,none⟩) (ak rfl) _) (fun _ hk=>ak hk),h.lh.F8 hk h0 ho hn⟩
theorem La.F9{g c:Nat}(h:La w0 E F s b q z e op ve L n (.slice (some ⟨g,0,none⟩) 1 c) je iT w){lF:dZ}{L':List Int}(h0:w.ownsRow w0.heap.size 3 1 lF L'.length (gB L'))(ho:∀k,lF.ownBlock=some k->Off b e k):La w0 E F s b q z e op ve L' n (.slice (some ⟨g,0,none⟩) 1 c) lF iT (w.setCell ⟨g,0,none⟩ lF):=⟨h.LD ((fE.refl (·=g) w).setCell (p:=⟨g,0,none⟩) (ak rfl) _) (fun k hk=>aj (aj (aj (ak (by rw[hk]<;>rfl))))),h.lh.F9 h0 ho⟩
theorem La.Ga(h:La w0 E F s b q z e op ve L n jm je iT w){lY:dZ}{n':Nat}{w1:dY}(hs:w1.ownsRow w0.heap.size 4 1 lY n' (allT n'))(t:fE (fun j=>iT.ownBlock=some j) w w1)(hl:lY.ownBlock=iT.ownBlock\/∃j,lY.ownBlock=some j/\w.heap.size<=j):La w0 E F s b q z e op ve L n' jm je lY (w1.setCell ⟨z.W,7,none⟩ lY):=by obtain⟨h1,h2⟩:=h.lh.Ga hs t hl fun k hk=>h.er.off hk;exact⟨h.LD h2 (fun k hk=>hk.elim ak fun hk=>aj (aj (aj (aj (aj hk))))),h1⟩
end
def Ok(w0:dY)(E F:Nat->Addr)(s:dX)(b:Nat)(q:Int)(z:Zs)(e:Ev)(w:dY):Prop :=∃jm je iT,La w0 E F s b q z e e.asked (fq e.eb) e.L (nS e.L e.o) jm je iT w/\Live e
def LG(w0:dY)(E F:Nat->Addr)(s:dX)(b:Nat)(q:Int)(z:Zs)(e:Ev)(r:Ending)(w':dY):Prop:=r=fM (.bool true)/\∃e',Ok w0 E F s b q z e' w'/\e'.L.length<=e.L.length+e.o.toNat
theorem wG(b:Nat)(v:dZ)(q:Int)(w:dY)(h:Bq w b v q):fI 12 #[fq b] w fun e w'=>e=fM (.bool false)/\w'=w:=by obtain⟨n,hn⟩:=h;obtain⟨c0,c1,c2,c3,c4,cf,cl⟩:=Fi.cells5 hn;go_enter Tryz.func12,Tryz.ntmps12;go_wp2_with fail;go_ret;exact⟨rfl,rfl⟩
theorem DZ(W:Nat)(q:Int)(n:Int)(w:dY)(h:w.cell? ⟨W,3,none⟩=some (eF q)):fI 26 #[fq W,eF n] w fun e w'=>e=fM (.bool (decide (n=9)&&decide (0<q)))/\w'=w:=by
 have HN:Hid _:=yU n w;by_cases h9:n=9
 ·subst h9;by_cases hq:0<q
  ·have e:(decide ((9:Int)=9)&&decide (0<q))=true:=by simp[hq]
   rw[e];go_enter Tryz.func26,Tryz.ntmps26;go_wp2_with fail;refine aB HN.o ?_;rintro r w1 ⟨rfl,rfl⟩;go_wp2_with fail;go_ret;exact⟨rfl,rfl⟩
  have e:(decide ((9:Int)=9)&&decide (0<q))=false:=by simp[hq]
  rw[e];have hd:decide (0<q)=false:=decide_eq_false hq;go_enter Tryz.func26,Tryz.ntmps26;go_wp2_with fail;refine aB HN.o ?_;rintro r w1 ⟨rfl,rfl⟩;go_wp2_with fail;go_ret;exact⟨rfl,rfl⟩
 have e:(decide (n=9)&&decide (0<q))=false:=by simp[h9]
 rw[e];go_enter Tryz.func26,Tryz.ntmps26;go_wp2_with fail;refine aB HN.o ?_;rintro r w1 ⟨rfl,rfl⟩;go_wp2_with fail;go_ret;exact⟨rfl,rfl⟩
open Tn (Gt)
theorem pM{w0:dY}{E F:Nat->Addr}{s:dX}{b:Nat}{q:Int}{e:Ev}{w:dY}(h:Er w0 E F s b q e w)(lv:Live e):e.o=true->∀l,Px.read s=.ok l->(Px.play (jv l ⟨[],0,0⟩).vars l e.L).over=0:=fun ho l hl=>by have h1:=h.y.r;rw[hl]at h1;cases h1;rw[<- (Ig h.y.r h.y.c lv.cm).1];exact lv.of ho
def pN(w0:dY)(E F:Nat->Addr)(s:dX)(b:Nat)(q:Int)(z:Zs)(L:List Int)(o:Bool)(n:Nat)(jm je iT:dZ)(w':dY):Prop :=∃e:Ev,La w0 E F s b q z e false (fq e.eb) L n jm je iT w'/\Live e/\e.L=L/\e.o=o/\e.asked=false
theorem yht(w0:dY)(E F:Nat->Addr)(hblk:∀l,jZ l->∀c m B,q9 c m B E l)(s:dX)(b:Nat)(q:Int)(z:Zs)(e:Ev)(op:Bool)(ve:dZ)(n:Nat)(jm je iT:dZ)(w:dY)(hs:s.size<=maxLen)(hc:(Gj.cont s e.L (kL e.o)).length<=10000000000)(hl:e.L.length<=1000000000)(h:La w0 E F s b q z e op ve e.L n jm je iT w)(lv:Live e):fI 8 #[fq b,.string s] w fun r w'=>∃e':Ev,r=fM (.tuple #[fq e'.eb,eF 0,eF 0])/\La w0 E F s b q z e' op ve e.L n jm je iT w'/\Live e'/\e'.L=e.L/\e'.o=e.o/\e'.asked=false:=by
 refine(pD hblk s s b q e.v e.fb e.L e.o w hs h.er.g0 h.er.be h.er.fs hc hl lv.hL (pM h.er lv)).mono ?_;rintro r w1 (⟨_,hq⟩|⟨hne,_⟩)
 ·obtain⟨c,p,h1,h2,_⟩|⟨_,n',_,hz,_⟩|⟨_,_,e',rfl,⟨hL',ho',ha'⟩,her,hlv,ht,hoff⟩:=hq;·rw[h.lh.c]at h1;cases h1;exact absurd rfl h2
  ·exact hz.elim
  exact⟨e',rfl,⟨her,h.lh.keep ht (fun _ _ h=>h) fun k hk ho=>hoff k hk ho.b fun hx=>hx.elim ho.fb ho.v⟩,hlv,hL',ho',ha'⟩
 exact absurd rfl hne
theorem ygw(w0:dY)(E F:Nat->Addr)(hblk:∀l,jZ l->∀c m B,q9 c m B E l)(s:dX)(b:Nat)(q:Int)(z:Zs)(e:Ev)(op:Bool)(ve:dZ)(n:Nat)(jm je iT:dZ)(w:dY)(hs:s.size<=maxLen)(hc:(Gj.cont s e.L (kL e.o)).length<=10000000000)(hl:e.L.length<=1000000000)(h:La w0 E F s b q z e op ve e.L n jm je iT w)(lv:Live e):fI 10 #[fq z.W] w fun r w'=>r=fM (.bool true)/\pN w0 E F s b q z e.L e.o n jm je iT w':=by
 obtain⟨c0,c1,c2,c3,c4,c5,c6,c7,c8,c9,c10,cf,cl⟩:=jy h.lh.at_;have HS:Hid _:=yht w0 E F hblk s b q z e op ve n jm je iT w.drew hs hc hl (h.same (aF _ _).drew) lv;clear h lv hc hl hblk c1 c2 c3 c5 c6 c7 c8 c9 c10;go_enter Tryz.func10,Tryz.ntmps10;go_wp2_with fail;go_cut [3,4,5] (fun x y u wc=>∃e':Ev,x=fq e'.eb/\y=eF 0/\u=eF 0/\Hid (La w0 E F s b q z e' op ve e.L n jm je iT wc/\Live e'/\e'.L=e.L/\e'.o=e.o/\e'.asked=false))
 case first=>
  go_region_with (go_at_call 8;refine aB HS.o ?_;rintro r w1 ⟨e',rfl,hq⟩)
  all_goals
   go_wp2_with fail;go_meet
   case rel=>exact⟨e',rfl,rfl,rfl,hq⟩
 case rest=>
 obtain⟨e',rfl,rfl,rfl,hcut⟩:=hcut;have H1:Hid (La w0 E F s b q z e' false (fq e'.eb) e.L n jm je iT ((wc.setCell ⟨z.W,5,none⟩ (fq e'.eb)).setCell ⟨z.W,9,none⟩ (.bool false))/\Live e'/\e'.L=e.L/\e'.o=e.o/\e'.asked=false):=⟨(hcut.o.1.yc _).Af _,hcut.o.2⟩;clear c0 c4 cf cl HS;obtain⟨c0,c1,c2,c3,c4,c5,c6,c7,c8,c9,c10,cf,cl⟩:=jy hcut.o.1.lh.at_;obtain⟨d0,d1,d2,d3,d4,d5,d6,d7,d8,d9,kJ,df,dl⟩:=jy H1.o.1.lh.at_;clear hcut c0 c1 c2 c3 c6 c7 c8 c10 d0 d1 d2 d6 d7 d8 kJ;go_wp2_with fail;refine aB (wG b _ q _ H1.o.1.er.fs.bk) ?_;rintro r w2 ⟨rfl,rfl⟩;go_wp2_with fail;refine aB (DZ z.W q 0 _ d3) ?_;rintro r w2 ⟨rfl,rfl⟩;go_wp2_with fail;refine aB (yU 0 _) ?_;rintro r w2 ⟨rfl,rfl⟩;go_wp2_with fail;go_ret;exact⟨rfl,e',H1.o⟩
def pP(w0:dY)(E F:Nat->Addr)(s:dX)(b:Nat)(q:Int)(z:Zs)(op:Bool)(ve:dZ)(n:Nat)(jm je iT:dZ)(x:dZ)(c:Int)(w':dY):Prop:=
 (c=0/\∃e':Ev,x=fq e'.eb/\La w0 E F s b q z e' op ve [] n jm je iT w'/\Live e'/\e'.L=[]/\e'.o=false/\e'.asked=false) \/
 (c=9/\0<q/\x=.pointer none/\gU w0 w'/\Lh w0.heap.size s b q z (fun k=>k≠b) op ve [] n jm je iT w'/\∃v,Bq w' b v q)
theorem yhq(w0:dY)(E F:Nat->Addr)(hblk:∀l,jZ l->∀c m B,q9 c m B E l)(s:dX)(b:Nat)(q:Int)(z:Zs)(op:Bool)(ve:dZ)(n:Nat)(jm je iT:dZ)(w:dY)(hs:s.size<=maxLen)(hq0:0<=q)(g0:Gt w0 E F)(hb:gU w0 w)(hf:F0 w w0.heap.size b q (iE))(h:Lh w0.heap.size s b q z (fun k=>k≠b) op ve [] n jm je iT w):fI 8 #[fq b,.string s] w fun r w'=>∃x c,r=fM (.tuple #[x,eF c,eF 0])/\pP w0 E F s b q z op ve n jm je iT x c w':=by
 refine(pC hblk s b q _ w hs hq0 g0 hb hf).mono ?_;rintro r w1 hq;have pS:∀k,Lb z jm je iT k->¬(k=b\/(Value.slice none 0 0).ownBlock=some k):=fun k hk e=>e.elim (h.off k hk).1 fun e=>by cases e
 obtain⟨c,p,h1,h2,_⟩|⟨_,n',hn',hz,rfl,ht,v,hbq⟩|⟨_,_,e',rfl,⟨hL',ho',ha'⟩,her,hlv,ht,hoff⟩:=hq;·rw[h.c]at h1;cases h1;exact absurd rfl h2
 ·obtain⟨rfl,Vd⟩:=hz;exact⟨_,_,rfl,aj ⟨rfl,Vd,rfl,Ac hb ht (ay _) (fun k hk=>hk.elim (fun e=>e▸hf.lo) fun e=>by cases e),h.keep ht pS fun k _ h=>h,v,hbq⟩⟩
 exact⟨_,_,rfl,ak ⟨rfl,e',rfl,⟨her,h.keep ht pS fun k hk ho=>hoff k hk ho fun hx=>by cases hx⟩,hlv,hL',ho',ha'⟩⟩
theorem ygv(w0:dY)(E F:Nat->Addr)(hblk:∀l,jZ l->∀c m B,q9 c m B E l)(s:dX)(b:Nat)(q:Int)(z:Zs)(op:Bool)(ve:dZ)(n:Nat)(jm je iT:dZ)(w:dY)(hs:s.size<=maxLen)(hq0:0<=q)(g0:Gt w0 E F)(hb:gU w0 w)(hf:F0 w w0.heap.size b q (iE))(h:Lh w0.heap.size s b q z (fun k=>k≠b) op ve [] n jm je iT w):fI 10 #[fq z.W] w fun r w'=>r=fM (.bool true)/\(pN w0 E F s b q z [] false n jm je iT w'\/(gU w0 w'/\w'.cell? ⟨z.W,5,none⟩=some (.pointer none))):=by
 obtain⟨c0,c1,c2,c3,c4,c5,c6,c7,c8,c9,c10,cf,cl⟩:=jy h.at_;have HS:Hid _:=yhq w0 E F hblk s b q z op ve n jm je iT w.drew hs hq0 g0 hb.drew (hf.below (aF _ _).drew) (h.same (aF _ _).drew);clear h hf g0 hb hblk c1 c2 c3 c5 c6 c7 c8 c9 c10;go_enter Tryz.func10,Tryz.ntmps10;go_wp2_with fail;go_cut [3,4,5] (fun x y u wc=>∃c:Int,y=eF c/\u=eF 0/\Hid (pP w0 E F s b q z op ve n jm je iT x c wc))
 case first=>
  go_region_with (go_at_call 8;refine aB HS.o ?_;rintro r w1 ⟨x,c,rfl,hq⟩)
  all_goals
   go_wp2_with fail;go_meet
   case rel=>exact⟨c,rfl,rfl,hq⟩
 case rest=>
 obtain⟨c,rfl,rfl,hcut⟩:=hcut;clear c0 c4 cf cl HS;obtain⟨rfl,e',rfl,hla,hlv⟩|⟨rfl,Vd,rfl,hb1,hl1,v,hbq⟩:=hcut.o;·have H1:Hid (La w0 E F s b q z e' false (fq e'.eb) [] n jm je iT ((wc.setCell ⟨z.W,5,none⟩ (fq e'.eb)).setCell ⟨z.W,9,none⟩ (.bool false))/\Live e'/\e'.L=[]/\e'.o=false/\e'.asked=false):=⟨(hla.yc _).Af _,hlv⟩;obtain⟨c0,c1,c2,c3,c4,c5,c6,c7,c8,c9,c10,cf,cl⟩:=jy hla.lh.at_;obtain⟨d0,d1,d2,d3,d4,d5,d6,d7,d8,d9,kJ,df,dl⟩:=jy H1.o.1.lh.at_;clear hcut hla hlv c0 c1 c2 c3 c6 c7 c8 c10 d0 d1 d2 d6 d7 d8 kJ;go_wp2_with fail;refine aB (wG b _ q _ H1.o.1.er.fs.bk) ?_;rintro r w2 ⟨rfl,rfl⟩;go_wp2_with fail;refine aB (DZ z.W q 0 _ d3) ?_;rintro r w2 ⟨rfl,rfl⟩;go_wp2_with fail;refine aB (yU 0 _) ?_;rintro r w2 ⟨rfl,rfl⟩;go_wp2_with fail;go_ret;exact⟨rfl,ak ⟨e',H1.o⟩⟩
 obtain⟨hbW,hW0,_⟩:=hl1.off z.W (ak rfl);have hl2:Lh w0.heap.size s b q z (fun k=>k≠b) false (.pointer none) [] n jm je iT ((wc.setCell ⟨z.W,5,none⟩ (.pointer none)).setCell ⟨z.W,9,none⟩ (.bool false)):=(hl1.yc _).Af _;have hl3:Lh w0.heap.size s b q z (fun k=>k≠b) false (.pointer none) [] n jm je iT (((wc.setCell ⟨z.W,5,none⟩ (.pointer none)).setCell ⟨z.W,9,none⟩ (.bool false)).setCell ⟨z.W,5,none⟩ (.pointer none)):=hl2.yc _;have tw:fE (·=z.W) wc ((wc.setCell ⟨z.W,5,none⟩ (.pointer none)).setCell ⟨z.W,9,none⟩ (.bool false)):=((fE.refl (·=z.W) wc).setCell (p:=⟨z.W,5,none⟩) (ak rfl) _).setCell (p:=⟨z.W,9,none⟩) (ak rfl) _;have LH:Bq ((wc.setCell ⟨z.W,5,none⟩ (.pointer none)).setCell ⟨z.W,9,none⟩ (.bool false)) b v q:=by obtain⟨x,hx⟩:=hbq;exact⟨x,(tw.block b (lt_of_block hx) fun e=>hbW e.symm).trans hx⟩
 have hb3:gU w0 (((wc.setCell ⟨z.W,5,none⟩ (.pointer none)).setCell ⟨z.W,9,none⟩ (.bool false)).setCell ⟨z.W,5,none⟩ (.pointer none)):=Ac hb1 (tw.setCell (p:=⟨z.W,5,none⟩) (ak rfl) _) (ay _) fun k hk=>by omega
 obtain⟨c0,c1,c2,c3,c4,c5,c6,c7,c8,c9,c10,cf,cl⟩:=jy hl1.at_;obtain⟨d0,d1,d2,d3,d4,d5,d6,d7,d8,d9,kJ,df,dl⟩:=jy hl2.at_;have e5:=(jy hl3.at_).2.2.2.2.2.1;have H1:Hid (_/\_/\_):=⟨hb3,e5,LH⟩;clear hl1 hl2 hl3 tw hb3 e5 hb1 hbq LH hcut c0 c1 c2 c3 c6 c7 c8 c10 d0 d1 d2 d6 d7 d8 kJ;go_wp2_with fail;refine aB (wG b _ q _ H1.o.2.2) ?_;rintro r w2 ⟨rfl,rfl⟩;go_wp2_with fail;refine aB (DZ z.W q 9 _ d3) ?_;rintro r w2 ⟨rfl,rfl⟩;rw[show(decide ((9:Int)=9)&&decide (0<q))=true by simp[Vd]];go_wp2_with fail;go_ret;exact⟨rfl,aj ⟨H1.o.1,H1.o.2.1⟩⟩
theorem yhm(w0:dY)(E F:Nat->Addr)(hblk:∀l,jZ l->∀c m B,q9 c m B E l)(s t:dX)(b:Nat)(q:Int)(z:Zs)(e:Ev)(w:dY)(ht:t.size<=maxLen)(hst:s≠t)(hc:(Gj.cont s e.L (kL e.o)).length<=10000000000)(hl:e.L.length<=1000000000)(h:Ok w0 E F s b q z e w):fI 17 #[fq z.W,.string t] w (LG w0 E F s b q z e):=by
 obtain⟨jm,je,iT,h,lv⟩:=h;obtain⟨c0,c1,c2,c3,c4,c5,c6,c7,c8,c9,c10,cf,cl⟩:=jy h.lh.at_;have HS:Hid _:=pD hblk s t b q e.v e.fb e.L e.o w ht h.er.g0 h.er.be h.er.fs hc hl lv.hL (pM h.er lv);have HC:Hid (∀w1,_):=fun w1=>qhx t w1 ht;have H:Hid (_/\Live e):=⟨h,lv⟩;go_enter Tryz.func17,Tryz.ntmps17;go_wp2_with fail;refine aB HS.o ?_;rintro r w1 (⟨hst',_⟩|⟨_,hq⟩);·exact absurd hst' hst
 obtain⟨c,p,h1,h2,rfl,hb⟩|⟨h1,n',_,rfl,rfl,hb,_⟩|⟨hY,_⟩:=hq
 ·have H1:Hid (_/\Live e):=⟨H.o.1.same hb,H.o.2⟩;obtain⟨c0,c1,c2,c3,c4,c5,c6,c7,c8,c9,c10,cf,cl⟩:=jy H1.o.1.lh.at_;have hci:¬(c:Int)=0:=by omega
  go_wp2_with fail;refine aB (wG b _ q _ H1.o.1.er.fs.bk) ?_;rintro r w2 ⟨rfl,rfl⟩;go_wp2_with fail;refine aB (HC.o _) ?_;rintro r w2 ⟨rfl,hb2⟩;have H2:Hid (_/\Live e):=⟨H1.o.1.same hb2,H1.o.2⟩;rw[h1];go_wp2_with fail;refine aB (yU _ _) ?_;rintro r w3 ⟨rfl,rfl⟩;go_wp2_with fail;go_ret;exact⟨rfl,e,⟨_,_,_,H2.o.1,H2.o.2⟩,Nat.le_add_right _ _⟩
 ·have H1:Hid (_/\Live e):=⟨H.o.1.same (hb.qj (ay _) fun _ h=>h.elim),H.o.2⟩;obtain⟨c0,c1,c2,c3,c4,c5,c6,c7,c8,c9,c10,cf,cl⟩:=jy H1.o.1.lh.at_;go_wp2_with fail;refine aB (wG b _ q _ H1.o.1.er.fs.bk) ?_;rintro r w2 ⟨rfl,rfl⟩;go_wp2_with fail;refine aB (HC.o _) ?_;rintro r w2 ⟨rfl,hb2⟩;have H2:Hid (_/\Live e):=⟨H1.o.1.same hb2,H1.o.2⟩;rw[h1];go_wp2_with fail;refine aB (yU _ _) ?_;rintro r w3 ⟨rfl,rfl⟩;go_wp2_with fail;go_ret;exact⟨rfl,e,⟨_,_,_,H2.o.1,H2.o.2⟩,Nat.le_add_right _ _⟩
 exact hY.elim
theorem Pt:(Tryz.prog.info? 32).map (fun i=>(i.zero,i.size,i.bytes))=some (some (iE),1,24):=by kernel_rfl
abbrev aO(wd:dX)(ar tr:Int)(un:Bool):Obj:=.cells #[.string wd,eF ar,eF tr,.bool un] 84
theorem qR{w:dY}{k:Nat}{a b c d:dZ}{t:TypeId}(hh:w.heap[k]?=some (.cells #[a,b,c,d] t)):w.cell? ⟨k,0,none⟩=some a/\w.cell? ⟨k,1,none⟩=some b/\w.cell? ⟨k,2,none⟩=some c/\w.cell? ⟨k,3,none⟩=some d/\k<w.heap.size:=by refine⟨?_,?_,?_,?_,lt_of_block hh⟩<;>simp[World.cell?,hh]
section
variable{w0:dY} {E F:Nat->Addr} {s:dX} {b:Nat} {q:Int} {z:Zs} {e:Ev} {op:Bool} {ve:dZ} {L:List Int} {n:Nat} {jm je iT:dZ} {w:dY}
theorem La.yV(h:La w0 E F s b q z e op ve L n jm je iT w):∃g c a m,jm=.slice (some ⟨g,0,none⟩) 1 c/\je=.slice a L.length m/\w.cell? ⟨g,0,none⟩=some je:=by
 obtain⟨g,c,rfl,hc⟩:=yT h.lh.kn (i:=0) (by decide);have hv:∃a m,je=.slice a L.length m:=by
  obtain⟨rfl,h2⟩|⟨g,cap,cur,rfl,_⟩:=h.lh.k0.2;·exact⟨none,0,by rw[h2]⟩
  exact⟨_,_,rfl⟩
 obtain⟨a,m,rfl⟩:=hv;exact⟨g,c,a,m,rfl,rfl,hc 0 _ rfl⟩
theorem La.vs(h:La w0 E F s b q z e op ve L n jm je iT w):∃a1 n1 c1 a2 n2 c2,z.uS=.slice a1 n1 c1/\z.sF=.slice a2 n2 c2:=by obtain⟨a1,c1,h1,_⟩:=h.lh.sl.len;obtain⟨a2,n2,c2,h2⟩:=lu h.lh.vr;exact⟨_,_,_,_,_,_,h1,h2⟩
theorem La.play(h:La w0 E F s b q z e op ve L n jm je iT w)(hL:L.length<=100000000):fI 32 #[z.uS,z.sF,je] w (O8 z.l L w):=yjv h.lh.r h.lh.c L w w0.heap.size z.ok z.uS z.qs z.sF je h.lh.sl h.lh.sm (fun i hi=>(h.lh.off i (aj (ak hi))).2.2) h.lh.vr h.lh.k0 hL
theorem La.left(h:La w0 E F s b q z e op ve L n jm je iT w){v:dZ}{N:Nat}(hv:w.ownsRow w0.heap.size 32 1 v 1 [je])(hN:∀k,v.ownBlock=some k->N<=k)(ho:∀k,N<=k->Off b e k)(hz:∀k,z.ok k->k<N):La w0 E F s b q z e op ve L n v je iT (w.setCell ⟨z.W,6,none⟩ v):=h.F8 hv h.lh.k0 (fun k hk=>hk.elim (fun hk=>ho k (hN k hk)) fun hk=>(h.lh.off k (aj (aj (aj (aj (ak hk)))))).1) fun k hk hv'=>by have:=hz k hk;have:=hN k hv';omega
end
theorem yh5(w0:dY)(E F:Nat->Addr)(s:dX)(b:Nat)(q:Int)(z:Zs)(e:Ev)(n:Nat)(jm je iT:dZ)(w:dY)(hq0:0<=q)(hC:(Gj.cont s e.L (kL e.o)).length<=100000000000)(hl:e.L.length<=100000000)(hf:e.m.fin≠0)(h:La w0 E F s b q z e e.asked (fq e.eb) e.L n jm je iT w)(lv:Live e):fI 14 #[fq z.W] w fun r w'=>r=fM (.bool true)/\∃mJ,La w0 E F s b q z {e with asked:=false} false (fq e.eb) e.L n mJ je iT w':=by
 obtain⟨i0,hi,hz0,hz1,hz2⟩:=info_parts Pt;obtain⟨c0,c1,c2,c3,c4,c5,c6,c7,c8,c9,c10,cf,cl⟩:=jy h.lh.at_;have HX:Hid _:=oY w0 E F s b q e w hq0 hC h.er;have hov:=(Ig h.er.y.r h.er.y.c lv.cm).1;have HO:Hid (e.m.fin=(play z.l e.L).over):=by show e.m.fin=(Px.play (jv z.l ⟨[],0,0⟩).vars z.l e.L).over;rw[h.l];exact hov
 have H:Hid _:=h;clear h lv hov hC c0 c1 c2 c3 c4 c6 c7 c8 c10 c9;go_enter Tryz.func14,Tryz.ntmps14;go_wp2_with fail;refine aB HX.o ?_;rintro r w1 (⟨_,rfl,her,hfr⟩|⟨h0,_⟩|⟨h0,_⟩)
 rotate_left
 ·exact absurd h0 hf
 ·exact absurd h0 hf
 clear c5 cf cl HX;have hla:La w0 E F s b q z {e with asked:=false} e.asked (fq e.eb) e.L n jm je iT w1:=⟨her,H.o.lh.Iy hfr⟩;obtain⟨c0,c1,c2,c3,c4,c5,c6,c7,c8,c9,c10,cf,cl⟩:=jy hla.lh.at_;have oJ:La w0 E F s b q z {e with asked:=false} false (fq e.eb) e.L n jm je iT ((w1.setCell ⟨z.W,9,none⟩ (.bool false)).alloc (aO ⟨#[]⟩ 0 0 false)):=(hla.Af false).same ((aF _ _).alloc (ay _) _);have ha2:((w1.setCell ⟨z.W,9,none⟩ (.bool false)).alloc (aO ⟨#[]⟩ 0 0 false)).heap[w1.heap.size]?=some (aO ⟨#[]⟩ 0 0 false):=by have:=uQ (w:=w1.setCell ⟨z.W,9,none⟩ (.bool false)) (o:=aO ⟨#[]⟩ 0 0 false);simpa[World.setCell]using this
 have H2:Hid (_/\_):=⟨oJ,ha2⟩;clear hla oJ ha2 her hfr H c0 c1 c2 c3 c5 c6 c7 c8 c10;go_wp2_with fail;refine aB (wG b _ q _ H2.o.1.er.fs.bk) ?_;rintro r w2 ⟨rfl,rfl⟩;unfold aO at H2;generalize ((w1.setCell ⟨z.W,9,none⟩ (.bool false)).alloc (.cells #[.string ⟨#[]⟩,eF 0,eF 0,.bool false] 84))=w3 at *;generalize w1.heap.size=ab at *;clear c4 c9 cf cl;obtain⟨c0,c1,c2,c3,c4,c5,c6,c7,c8,c9,c10,cf,cl⟩:=jy H2.o.1.lh.at_;go_wp2_with fail;refine aB (DZ z.W q 0 _ c3) ?_;rintro r w3 ⟨rfl,rfl⟩;obtain⟨g,kc,ka,km,rfl,rfl,k0⟩:=H2.o.1.yV;obtain⟨jD,pT,pZ,jO,vn2,vc2,D5,LJ⟩:=H2.o.1.vs;obtain⟨a0,a1,a2,a3,al⟩:=qR H2.o.2;have HP:Hid _:=(H2.o.1.same (aF _ _).drew).play hl;rw[D5,LJ]at HP;rw[D5]at c1;rw[LJ]at c2;obtain⟨ov,hov⟩:∃ov,e.m.fin=ov:=⟨_,rfl⟩;rw[hov]at HO hf |-;have hfi:¬(ov:Int)=0:=by omega
 have t1:((ov:Int) != 0)=true:=by rw[bne_iff_ne];exact hfi
 have t2:((ov:Int)==0)=false:=by rw[beq_eq_false_iff_ne];exact hfi
 clear c0 c3 c4 c5 c7 c8 c9 c10 hov;obtain⟨rA,Ag⟩:∃rA,Hid (rA=w3.heap.size):=⟨_,rfl⟩;go_wp2_with fail;go_loopw [10,11] (fun left i wr=>(left=iE/\i=eF 0/\wr=w3)\/(∃g' c',left=.slice (some ⟨g',0,none⟩) 1 c'/\i=eF 1/\Hid (La w0 E F s b q z {e with asked:=false} false (fq e.eb) e.L n (.slice (some ⟨g,0,none⟩) 1 kc) (.slice ka e.L.length km) iT wr/\wr.ownsRow w0.heap.size 32 1 left 1 [.slice ka e.L.length km]/\rA<=g'))) (fun _ i _=>1-(intOf i).toNat)
 case atStart=>exact ak ⟨rfl,rfl,rfl⟩
 case round=>
  obtain⟨rfl,rfl,rfl⟩|⟨g',c',rfl,rfl,hr⟩:=hrel
  ·go_wp2_with fail;go_cut [12] (fun p wc=>∃c:Nat,p=fq c/\Hid (gU wr wc/\wc.cell? ⟨c,5,none⟩=some (eF (ov:Int))))
   case first=>
    go_region_with (go_at_call 32;refine aB HP.o ?_;rintro r w4 ⟨c,vh,va,rfl,hb4,hc4,y5,_⟩;rw[HO.o.symm]at y5)
    all_goals
     go_wp2_with fail;go_meet
     case rel=>exact⟨c,rfl,⟨hb4.os,hb4.tape,hb4.output,hb4.size,hb4.block⟩,y5⟩
   case rest=>
   obtain⟨c,rfl,hcut⟩:=hcut;obtain⟨hb4,y5⟩:=hcut.o;have H4:Hid (_/\rA<=wc.heap.size):=⟨H2.o.1.same hb4,by rw[Ag.o];exact hb4.size⟩;obtain⟨d0,d1,d2,d3,dl⟩:=qR ((hb4.block ab al).trans H2.o.2);clear c1 c2 c6 cf cl k0 a0 a1 a2 a3 al;obtain⟨c0,c1,c2,c3,c4,c5,c6,c7,c8,c9,c10,cf,cl⟩:=jy H4.o.1.lh.at_;obtain⟨_,_,_,_,e1,e2,k0⟩:=H4.o.1.yV;cases e1;cases e2;clear hcut hb4 H2 HP c0 c1 c2 c3 c4 c5 c7 c8 c9 c10;go_wp2_with (first
    |(at_builtin;refine wpList_append_own_at _ rfl _ _ 30 rfl w0.heap.size 32 i0 (iE) 1 24 Tryz.underlying30 hi hz0 hz1 hz2 rfl (by decide) _ _ _ rfl (aX _ _ _ _) ⟨wc.heap.size,0,none⟩ 1 1 [.slice ka e.L.length km] rfl rfl ?c1 ?c2 ?c3 ?c4 ?c5 ?_)
    |fail)
   case c1=>
    intro j u hj;match j,hj with| 0,hj=>simp at hj;subst hj;simp[Addr.add]
   case c2=>intro u hu;simp at hu;subst hu;rfl
   case c3=>unfold maxLen;omega
   case c4=>omega
   case c5=>have:=H4.o.1.er.be.size;simp;omega
   intro v' w5 hown' hgrow _ hloc;obtain⟨g',c',rfl,_⟩:=yT hown' (i:=0) (by decide);have HN:Hid (La w0 E F s b q z {e with asked:=false} false (fq e.eb) e.L n (.slice (some ⟨g,0,none⟩) 1 kc) (.slice ka e.L.length km) iT w5/\w5.ownsRow w0.heap.size 32 1 (.slice (some ⟨g',0,none⟩) 1 c') 1 [.slice ka e.L.length km]/\rA<=g'):=by
    have hT:fE (fun _=>False) wc w5:=((fE.refl _ _).alloc _).grown hgrow fun k hk=>by cases hk
    refine⟨H4.o.1.same (hT.qj (ay _) fun _ h=>h.elim),hown',?_⟩;obtain h|h:=hloc;·cases h
    have h1:g'=wc.heap.size+1:=Option.some.inj h;have:=H4.o.2;omega
   clear hown' hgrow hloc;go_wp2;exact⟨aj ⟨g',c',rfl,by go_num,HN.o⟩,by simp[intOf]⟩
  obtain⟨hla,hrow,hg'⟩:=hr.o;have hz:∀k,z.ok k->k<rA:=fun k hk=>by rw[Ag.o];exact(H2.o.1.lh.off k (aj (ak hk))).2.2
  have ho:∀k,rA<=k->Off b {e with asked:=false} k:=fun k hk=>H2.o.1.er.off (by rw[<- Ag.o];exact hk);have oJ:=hla.left hrow (fun k hk=>by cases hk;exact hg') ho hz;have H5:Hid (_/\_):=⟨oJ,oJ.Af false⟩;clear c1 c2 c6 cf cl k0 a0 a1 a2 a3 al;obtain⟨c0,c1,c2,c3,c4,c5,c6,c7,c8,c9,c10,cf,cl⟩:=jy hla.lh.at_;clear hr hla oJ hrow hz ho HP H2 hg' c0 c1 c2 c3 c4 c5 c7 c8 c10;go_wp2_with fail;refine aB (yU 0 _) ?_;rintro r w6 ⟨rfl,rfl⟩;obtain⟨d0,d1,d2,d3,d4,d5,d6,d7,d8,d9,kJ,df,dl⟩:=jy H5.o.1.lh.at_;clear c6 c9 cf cl d0 d1 d2 d3 d4 d5 d6 d7 d8 kJ;go_wp2_with fail;go_loopw [16] (fun i wq=>i=eF 0/\wq=(wr.setCell ⟨z.W,6,none⟩ (.slice (some ⟨g',0,none⟩) 1 c')).setCell ⟨z.W,9,none⟩ (.bool false)) (fun _ _=>0)
  case atStart=>exact⟨rfl,rfl⟩
  case round=>
   obtain⟨rfl,rfl⟩:=hrel;obtain⟨f0,f1,f2,f3,f4,f5,f6,f7,f8,f9,f10,ff,fl⟩:=jy H5.o.2.lh.at_;clear d9 df dl f0 f1 f2 f3 f4 f5 f6 f7 f8 f10;go_wp2_with fail;go_ret;exact⟨rfl,_,H5.o.2⟩
open Mk (kK)
def qS(y:Int)(i:Nat)(w:dY)(r:Ending)(w':dY):Prop :=∃c g n cap,r=fM (fq c)/\gU w w'/\w'.cell? ⟨c,1,none⟩=some (.slice (some ⟨g,0,none⟩) n cap)/\i<n/\w'.cell? ⟨g,i,none⟩=some (eF y)
theorem LK{l:List Sm}{L:List Int}{i:Nat}(hi:i<(play l L).held.length){w:dY}{r:Ending}{w':dY}(h:O8 l L w r w'):qS ((play l L).held.getD i 0) i w r w':=by obtain⟨c,vh,va,rfl,hb,_,_,y1,_,hh,_⟩:=h;obtain⟨g,cap,rfl,hc⟩:=yT hh hi;exact⟨c,g,_,cap,rfl,hb,y1,hi,hc i _ (by simp[gB,List.getD_eq_getElem?_getD,hi])⟩
theorem yiz{s:dX}{l:List Sm}(hr:Px.read s=.ok l)(hc:gI s=(0,0)):jw l []=(vars l).map Prod.fst:=Bh l ⟨[],0,0⟩ (Ao hr).1 (Qo hr hc)
theorem yhk(w0:dY)(E F:Nat->Addr)(s:dX)(b:Nat)(q:Int)(z:Zs)(e:Ev)(wd:dX)(w:dY)(hl:e.L.length<=100000000)(h:Ok w0 E F s b q z e w):fI 16 #[fq z.W,.string wd] w (LG w0 E F s b q z e):=by
 obtain⟨jm,je,iT,h,lv⟩:=h;obtain⟨i0,hi0,hz0,hz1,hz2⟩:=info_parts Pt;obtain⟨c0,c1,c2,c3,c4,c5,c6,c7,c8,c9,c10,cf,cl⟩:=jy h.lh.at_;have HX:Hid _:=yiu w0 E F s b q e w h.er lv wd;have hN:=yiz h.lh.r h.lh.c;have hnd:=O7 z.l [] List.nodup_nil;have hvl:=h.er.pL lv;rw[<- h.l]at hvl;have D6:e.m.vars=(play z.l e.L).held:=by show e.m.vars=(Px.play (jv z.l ⟨[],0,0⟩).vars z.l e.L).held;rw[h.l];exact(Ig h.er.y.r h.er.y.c lv.cm).2.1
 have hval:Ae e wd=if kK (jw z.l []) wd=-1 then .tuple #[eF 0,eF 5]else .tuple #[eF (e.m.vars.getD (kK (jw z.l []) wd).toNat 0),eF 0]:=by unfold Ae;rw[h.l]
 have hcell:∀j,j<(vars z.l).length->∃g cap,z.sF=.slice (some ⟨g,0,none⟩) (vars z.l).length cap/\w.cell? ⟨g,j*2,none⟩=some (.string ((jw z.l []).getD j ⟨#[]⟩)):=fun j hj=>by obtain⟨g,cap,e1,hc⟩:=mC h.lh.vr hj;refine⟨g,cap,e1,?_⟩;rw[hc _ _ (WY _ j hj).1,hN];simp[List.getD_eq_getElem?_getD,hj]
 have hnl:(vars z.l).length=(jw z.l []).length:=by rw[hN,List.length_map]
 have hvs:∃a c,z.sF=.slice a (vars z.l).length c:=by
  obtain⟨e1,e2⟩|⟨g,cap,cur,e1,_⟩:=h.lh.vr.2;·exact⟨none,0,by rw[e1,e2]⟩
  exact⟨_,_,e1⟩
 have hml:(vars z.l).length<=1000000:=by have h1:=zh z.l ⟨[],0,0⟩;have h2:=(Ao h.lh.r).2;simp at h1;show(jv z.l ⟨[],0,0⟩).vars.length<=_;omega
 generalize hNN:jw z.l []=N at *;generalize hmm:(vars z.l).length=m at *;subst hnl;have HC:Hid (_/\N.Nodup/\_):=⟨hcell,hnd,D6⟩;obtain⟨va,vc,ev⟩:=hvs;rw[ev]at c2;have H:Hid (_/\Live e):=⟨h,lv⟩;clear h lv hN hnd hcell D6 hmm hNN c0 c1 c3 c6 c7 c8 c9 c10;obtain hi|⟨i,hil,hi⟩:=pH (l:=N) (x:=wd)
 ·rw[hi,aA rfl]at hval;rw[hval]at HX;go_enter Tryz.func16,Tryz.ntmps16;go_wp2_with fail;refine aB HX.o ?_;rintro r w ⟨rfl,rfl⟩;go_wp2_with fail;refine aB (wG b _ q _ H.o.1.er.fs.bk) ?_;rintro r w ⟨rfl,rfl⟩;go_wp2_with fail;go_loopw [7,8] (fun is i wr=>wr=w/\∃j:Nat,j<=N.length/\i=eF j/\is=eF (kK (N.take j) wd)) (fun _ i _=>N.length-(intOf i).toNat)
  case atStart=>exact⟨rfl,0,aQ _,rfl,rfl⟩
  case round=>
   obtain⟨rfl,j,hj,rfl,rfl⟩:=hrel;by_cases hlt:j<N.length
   ·obtain⟨g,cap,e1,k0⟩:=HC.o.1 j hlt;rw[ev]at e1;cases e1;have hlt':(j:Int)<(N.length:Int):=by omega
    have Ve:N.getD j ⟨#[]⟩=N[j]:=by simp[List.getD_eq_getElem?_getD,hlt]
    rw[Ve]at k0;cases hc:(N[j].toList==wd.toList)with| true=>have HI:Hid _:=lL HC.o.2.1 hlt hc;generalize N[j]=nj at *;go_wp2_with fail;refine⟨⟨trivial,j+1,by omega,by go_num,?_⟩,by simp[intOf];omega⟩;rw[HI.o]| false=>
    have HI:Hid _:=lP hlt hc;generalize N[j]=nj at *;go_wp2_with fail;refine⟨⟨trivial,j+1,by omega,by go_num,?_⟩,by simp[intOf];omega⟩;rw[HI.o]
   obtain rfl:j=N.length:=by omega
   have hne:¬((N.length:Int)<(N.length:Int)):=by omega
   rw[dH,hi];go_wp2_with fail;refine aB (yU 5 _) ?_;rintro r w ⟨rfl,rfl⟩;go_wp2_with fail;go_ret;exact⟨rfl,e,⟨_,_,_,H.o.1,H.o.2⟩,Nat.le_add_right _ _⟩
 have hni:¬(i:Int)=-1:=by omega
 rw[hi,ah hni,Int.toNat_natCast]at hval;have hin:i<(play z.l e.L).held.length:=by rw[<- HC.o.2.2];omega
 have HP:Hid (fI 32 #[z.uS,z.sF,je] w.drew (qS (e.m.vars.getD i 0) i w.drew)):=((H.o.1.same (aF _ _).drew).play hl).mono fun r w' h=>by rw[HC.o.2.2];exact LK hin h
 obtain⟨jD,pT,pZ,_,_,_,D5,_⟩:=H.o.1.vs;rw[D5,ev]at HP;generalize e.m.vars.getD i 0=y at *;rw[hval]at HX;obtain⟨g0,kc,ka,km,rfl,rfl,_⟩:=H.o.1.yV;have hin0:¬((i:Int)<0):=by omega
 go_enter Tryz.func16,Tryz.ntmps16;go_wp2_with fail;refine aB HX.o ?_;rintro r w ⟨rfl,rfl⟩;go_wp2_with fail;refine aB (wG b _ q _ H.o.1.er.fs.bk) ?_;rintro r w ⟨rfl,rfl⟩;go_wp2_with fail;go_loopw [7,8] (fun is i wr=>wr=w/\∃j:Nat,j<=N.length/\i=eF j/\is=eF (kK (N.take j) wd)) (fun _ i _=>N.length-(intOf i).toNat)
 case atStart=>exact⟨rfl,0,aQ _,rfl,rfl⟩
 case round=>
  obtain⟨rfl,j,hj,rfl,rfl⟩:=hrel;by_cases hlt:j<N.length
  ·obtain⟨g,cap,e1,k0⟩:=HC.o.1 j hlt;rw[ev]at e1;cases e1;have hlt':(j:Int)<(N.length:Int):=by omega
   have Ve:N.getD j ⟨#[]⟩=N[j]:=by simp[List.getD_eq_getElem?_getD,hlt]
   rw[Ve]at k0;cases hc:(N[j].toList==wd.toList)with| true=>have HI:Hid _:=lL HC.o.2.1 hlt hc;generalize N[j]=nj at *;go_wp2_with fail;refine⟨⟨trivial,j+1,by omega,by go_num,?_⟩,by simp[intOf];omega⟩;rw[HI.o]| false=>
   have HI:Hid _:=lP hlt hc;generalize N[j]=nj at *;go_wp2_with fail;refine⟨⟨trivial,j+1,by omega,by go_num,?_⟩,by simp[intOf];omega⟩;rw[HI.o]
  obtain rfl:j=N.length:=by omega
  have hne:¬((N.length:Int)<(N.length:Int)):=by omega
  rw[dH,hi];clear HC hne hj;obtain⟨d0,d1,d2,d3,d4,d5,d6,d7,d8,d9,kJ,df,dl⟩:=jy H.o.1.lh.at_;obtain⟨_,_,_,_,e1,e2,k0⟩:=H.o.1.yV;cases e1;cases e2;rw[D5]at d1;clear d0 d2 d3 d4 d5 d7 d8 d9 kJ df dl;obtain⟨rA,Ag⟩:∃rA,Hid (rA=wr.heap.size):=⟨_,rfl⟩;go_wp2_with fail;obtain⟨w3,rfl⟩:∃w3,w3=wr:=⟨_,rfl⟩;go_loopw [9,10] (fun left i wr=>(left=iE/\i=eF 0/\wr=w3)\/(∃g' c',left=.slice (some ⟨g',0,none⟩) 1 c'/\i=eF 1/\Hid (La w0 E F s b q z e e.asked (fq e.eb) e.L (nS e.L e.o) (.slice (some ⟨g0,0,none⟩) 1 kc) (.slice ka e.L.length km) iT wr/\wr.ownsRow w0.heap.size 32 1 left 1 [.slice ka e.L.length km]/\rA<=g'))) (fun _ i _=>1-(intOf i).toNat)
  case atStart=>exact ak ⟨rfl,rfl,rfl⟩
  case round=>
   obtain⟨rfl,rfl,rfl⟩|⟨g',c',rfl,rfl,hr⟩:=hrel
   ·go_wp2_with fail;go_cut [11] (fun p wc=>∃c g2 n2 cap2:Nat,p=fq c/\Hid (gU wr wc/\wc.cell? ⟨c,1,none⟩=some (.slice (some ⟨g2,0,none⟩) n2 cap2)/\i<n2/\wc.cell? ⟨g2,i,none⟩=some (eF y)))
    case first=>
     go_region_with (go_at_call 32;refine aB HP.o ?_;rintro r w4 ⟨c,g2,n2,cap2,rfl,hb4,hq4⟩)
     all_goals
      go_wp2_with fail;go_meet
      case rel=>exact⟨c,g2,n2,cap2,rfl,⟨hb4.os,hb4.tape,hb4.output,hb4.size,hb4.block⟩,hq4⟩
    case rest=>
    obtain⟨c,g2,n2,cap2,rfl,hcut⟩:=hcut;obtain⟨hb4,y1,hin2,y3⟩:=hcut.o;have hin2':(i:Int)<(n2:Int):=by omega
    have H4:Hid (_/\rA<=wc.heap.size):=⟨H.o.1.same hb4,by rw[Ag.o];exact hb4.size⟩;clear c2 c4 c5 cf cl d1 d6 k0;obtain⟨c0,c1,c2,c3,c4,c5,c6,c7,c8,c9,c10,cf,cl⟩:=jy H4.o.1.lh.at_;obtain⟨_,_,_,_,e1',e2',k0⟩:=H4.o.1.yV;cases e1';cases e2';clear hcut hb4 HP c0 c1 c2 c3 c4 c5 c7 c8 c9 c10;go_wp2_with (first
     |(at_builtin;refine wpList_append_own_at _ rfl _ _ 30 rfl w0.heap.size 32 i0 (iE) 1 24 Tryz.underlying30 hi0 hz0 hz1 hz2 rfl (by decide) _ _ _ rfl (aX _ _ _ _) ⟨wc.heap.size,0,none⟩ 1 1 [.slice ka e.L.length km] rfl rfl ?c1 ?c2 ?c3 ?c4 ?c5 ?_)
     |fail)
    case c1=>
     intro j u hj;match j,hj with| 0,hj=>simp at hj;subst hj;simp[Addr.add]
    case c2=>intro u hu;simp at hu;subst hu;rfl
    case c3=>unfold maxLen;omega
    case c4=>omega
    case c5=>have:=H4.o.1.er.be.size;simp;omega
    intro v' w5 hown' hgrow _ hloc;obtain⟨g',c',rfl,_⟩:=yT hown' (i:=0) (by decide);have HN:Hid (La w0 E F s b q z e e.asked (fq e.eb) e.L (nS e.L e.o) (.slice (some ⟨g0,0,none⟩) 1 kc) (.slice ka e.L.length km) iT w5/\w5.ownsRow w0.heap.size 32 1 (.slice (some ⟨g',0,none⟩) 1 c') 1 [.slice ka e.L.length km]/\rA<=g'):=by
     have hT:fE (fun _=>False) wc w5:=((fE.refl _ _).alloc _).grown hgrow fun k hk=>by cases hk
     refine⟨H4.o.1.same (hT.qj (ay _) fun _ h=>h.elim),hown',?_⟩;obtain h|h:=hloc;·cases h
     have h1:g'=wc.heap.size+1:=Option.some.inj h;have:=H4.o.2;omega
    clear hown' hgrow hloc;go_wp2;exact⟨aj ⟨g',c',rfl,by go_num,HN.o⟩,by simp[intOf]⟩
   obtain⟨hla,hrow,hg'⟩:=hr.o;have hz:∀k,z.ok k->k<rA:=fun k hk=>by rw[Ag.o];exact(H.o.1.lh.off k (aj (ak hk))).2.2
   have ho:∀k,rA<=k->Off b e k:=fun k hk=>H.o.1.er.off (by rw[<- Ag.o];exact hk);have H5:Hid (_/\Live e):=⟨hla.left hrow (fun k hk=>by cases hk;exact hg') ho hz,H.o.2⟩;clear c2 c4 c5 cf cl d1 d6 k0;obtain⟨c0,c1,c2,c3,c4,c5,c6,c7,c8,c9,c10,cf,cl⟩:=jy hla.lh.at_;clear hr hla hrow hz ho HP H hg' c0 c1 c2 c3 c4 c5 c7 c8 c9 c10;go_wp2_with fail;refine aB (yU 0 _) ?_;rintro r w6 ⟨rfl,rfl⟩;go_wp2_with fail;go_ret;exact⟨rfl,e,⟨_,_,_,H5.o.1,H5.o.2⟩,Nat.le_add_right _ _⟩
def qT(x:iL)(w:dY)(r:Ending)(w':dY):Prop :=∃c g cap M,r=fM (fq c)/\gU w w'/\w'.cell? ⟨c,5,none⟩=some (eF 0)/\w'.cell? ⟨c,3,none⟩=some (.slice (some ⟨g,0,none⟩) (M+1) cap)/\w'.cell? ⟨g,M*4,none⟩=some (.string x.eH)/\w'.cell? ⟨g,M*4+1,none⟩=some (eF x.arg)/\w'.cell? ⟨g,M*4+2,none⟩=some (eF (x.nth:Int))/\w'.cell? ⟨g,M*4+3,none⟩=some (.bool x.undo)/\M<=1000000000
theorem LM{l:List Sm}{L:List Int}{x:iL}(h0:(play l L).over=0)(hx:(play l L).eY.getLast?=some x)(hl:(play l L).eY.length<=1000000000){w:dY}{r:Ending}{w':dY}(h:O8 l L w r w'):qT x w r w':=by
 obtain⟨c,vh,va,rfl,hb,_,y5,_,y3,_,ha⟩:=h;have hp:0<(play l L).eY.length:=by
  obtain e|e:=Nat.eq_zero_or_pos (play l L).eY.length;·rw[List.eq_nil_of_length_eq_zero e]at hx;cases hx
  exact e
 obtain⟨g,cap,x',hx',rfl,k0,k1,k2,k3⟩:=yi3 ha hp;rw[hx]at hx';cases hx';rw[h0]at y5;refine⟨c,g,cap,(play l L).eY.length-1,rfl,hb,y5,?_,k0,k1,k2,k3,by omega⟩;rw[show(play l L).eY.length-1+1=(play l L).eY.length by omega];exact y3
theorem yh9(w0:dY)(E F:Nat->Addr)(s:dX)(b:Nat)(q:Int)(z:Zs)(e:Ev)(o:Bool)(n:Nat)(jm je iT:dZ)(w:dY)(hq0:0<=q)(hC:(Gj.cont s e.L (kL e.o)).length<=100000000000)(hl:e.L.length<=100000000)(hf:e.m.fin=0)(ho:e.o=o)(hn:n=nS e.L o)(h:La w0 E F s b q z e e.asked (fq e.eb) e.L n jm je iT w)(lv:Live e):fI 14 #[fq z.W] w fun r w'=>r=fM (.bool true)/\((∃mJ lY,La w0 E F s b q z {e with asked:=true,o:=true} true (fq e.eb) e.L (e.L.length+1) mJ je lY w')\/La w0 E F s b q z {e with asked:=false} false (fq e.eb) e.L n jm je iT w'):=by
 obtain⟨i0,hi,hz0,hz1,hz2⟩:=info_parts Pt;obtain⟨c0,c1,c2,c3,c4,c5,c6,c7,c8,c9,c10,cf,cl⟩:=jy h.lh.at_;have HX:Hid _:=oY w0 E F s b q e w hq0 hC h.er;obtain⟨h1,_,h3⟩:=Ig h.er.y.r h.er.y.c lv.cm;rw[hf]at h1;have hov:(play z.l e.L).over=0:=by show(Px.play (jv z.l ⟨[],0,0⟩).vars z.l e.L).over=0;rw[h.l];exact h1.symm
 obtain⟨x,hx⟩:∃x,(play z.l e.L).eY.getLast?=some x:=by cases hg:(play z.l e.L).eY.getLast? with| some x=>exact⟨x,rfl⟩| none=>exact absurd (List.getLast?_eq_none_iff.1 hg) (Mz _ _ _ hov)
 have hmx:e.m.eY.getLast?=some x:=by rw[h3,<- h.l];exact hx
 have hln:=Xu h.lh.r h.lh.c e.L;have HO:Hid (_/\_/\(play z.l e.L).eY.length<=1000000000):=⟨hov,hx,aK hln (by decide)⟩;have H:Hid _:=h;clear h lv hov hC h1 h3 hx hln c0 c1 c2 c3 c4 c6 c7 c8 c10 c9;go_enter Tryz.func14,Tryz.ntmps14;go_wp2_with fail;refine aB HX.o ?_;rintro r w1 (⟨h0,_⟩|⟨_,wd,ar,tr,un,hsaid,rfl,her,hfr⟩|⟨_,ho2,hq,rfl,her,hfr⟩);·exact absurd hf h0
 ·obtain⟨rfl,rfl,rfl,rfl⟩:=hsaid x hmx;rw[ho];clear c5 cf cl HX hmx hsaid;have hla:La w0 E F s b q z {e with asked:=true,o:=true} e.asked (fq e.eb) e.L n jm je iT w1:=⟨her,H.o.lh.Iy hfr⟩;obtain⟨c0,c1,c2,c3,c4,c5,c6,c7,c8,c9,c10,cf,cl⟩:=jy hla.lh.at_;have oJ:La w0 E F s b q z {e with asked:=true,o:=true} false (fq e.eb) e.L n jm je iT ((w1.setCell ⟨z.W,9,none⟩ (.bool false)).alloc (aO x.eH x.arg (x.nth:Int) x.undo)):=(hla.Af false).same ((aF _ _).alloc (ay _) _);have ha2:((w1.setCell ⟨z.W,9,none⟩ (.bool false)).alloc (aO x.eH x.arg (x.nth:Int) x.undo)).heap[w1.heap.size]?=some (aO x.eH x.arg (x.nth:Int) x.undo):=by have:=uQ (w:=w1.setCell ⟨z.W,9,none⟩ (.bool false)) (o:=aO x.eH x.arg (x.nth:Int) x.undo);simpa[World.setCell]using this
  have H2:Hid (_/\_):=⟨oJ,ha2⟩;clear hla oJ ha2 her hfr H c0 c1 c2 c3 c5 c6 c7 c8 c10;generalize hE1:({e with asked:=true,o:=true}:Ev)=e1 at H2 |-;go_wp2_with fail;refine aB (wG b _ q _ H2.o.1.er.fs.bk) ?_;rintro r w2 ⟨rfl,rfl⟩;unfold aO at H2;generalize ((w1.setCell ⟨z.W,9,none⟩ (.bool false)).alloc (.cells #[.string x.eH,eF x.arg,eF (x.nth:Int),.bool x.undo] 84))=w3 at *;generalize w1.heap.size=ab at *;clear c4 c9 cf cl;obtain⟨c0,c1,c2,c3,c4,c5,c6,c7,c8,c9,c10,cf,cl⟩:=jy H2.o.1.lh.at_;go_wp2_with fail;refine aB (DZ z.W q 0 _ c3) ?_;rintro r w3 ⟨rfl,rfl⟩;obtain⟨g,kc,ka,km,rfl,rfl,k0⟩:=H2.o.1.yV;obtain⟨jD,pT,pZ,jO,vn2,vc2,D5,LJ⟩:=H2.o.1.vs;obtain⟨a0,a1,a2,a3,al⟩:=qR H2.o.2;have HP:Hid (fI 32 #[z.uS,z.sF,.slice ka e.L.length km] w3.drew (qT x w3.drew)):=((H2.o.1.same (aF _ _).drew).play hl).mono fun r w' h=>LM HO.o.1 HO.o.2.1 HO.o.2.2 h;rw[D5,LJ]at HP;rw[D5]at c1;rw[LJ]at c2;clear c0 c3 c4 c5 c7 c8 c9 c10;obtain⟨rA,Ag⟩:∃rA,Hid (rA=w3.heap.size):=⟨_,rfl⟩;go_wp2_with fail;go_loopw [10,11] (fun left i wr=>(left=iE/\i=eF 0/\wr=w3)\/(∃g' c',left=.slice (some ⟨g',0,none⟩) 1 c'/\i=eF 1/\Hid (La w0 E F s b q z e1 false (fq e.eb) e.L n (.slice (some ⟨g,0,none⟩) 1 kc) (.slice ka e.L.length km) iT wr/\wr.ownsRow w0.heap.size 32 1 left 1 [.slice ka e.L.length km]/\rA<=g'))) (fun _ i _=>1-(intOf i).toNat)
  case atStart=>exact ak ⟨rfl,rfl,rfl⟩
  case round=>
   obtain⟨rfl,rfl,rfl⟩|⟨g',c',rfl,rfl,hr⟩:=hrel
   ·go_wp2_with fail;go_cut [12] (fun p wc=>∃c g2 cap2 M:Nat,p=fq c/\Hid (gU wr wc/\wc.cell? ⟨c,5,none⟩=some (eF 0)/\wc.cell? ⟨c,3,none⟩=some (.slice (some ⟨g2,0,none⟩) (M+1) cap2)/\wc.cell? ⟨g2,M*4,none⟩=some (.string x.eH)/\wc.cell? ⟨g2,M*4+1,none⟩=some (eF x.arg)/\wc.cell? ⟨g2,M*4+2,none⟩=some (eF (x.nth:Int))/\wc.cell? ⟨g2,M*4+3,none⟩=some (.bool x.undo)/\M<=1000000000))
    case first=>
     go_region_with (go_at_call 32;refine aB HP.o ?_;rintro r w4 ⟨c,g2,cap2,M,rfl,hb4,hq4⟩)
     all_goals
      go_wp2_with fail;go_meet
      case rel=>exact⟨c,g2,cap2,M,rfl,⟨hb4.os,hb4.tape,hb4.output,hb4.size,hb4.block⟩,hq4⟩
    case rest=>
    obtain⟨c,g2,cap2,M,rfl,hcut⟩:=hcut;obtain⟨hb4,y5,y3,x0,x1,x2,x3,hM⟩:=hcut.o;have H4:Hid ((_/\rA<=wc.heap.size)/\_):=⟨⟨H2.o.1.same hb4,by rw[Ag.o];exact hb4.size⟩,(hb4.block ab al).trans H2.o.2⟩;obtain⟨d0,d1,d2,d3,dl⟩:=qR H4.o.2;clear c1 c2 c6 cf cl k0 a0 a1 a2 a3 al;obtain⟨c0,c1,c2,c3,c4,c5,c6,c7,c8,c9,c10,cf,cl⟩:=jy H4.o.1.1.lh.at_;obtain⟨_,_,_,_,e1',e2',k0⟩:=H4.o.1.1.yV;cases e1';cases e2';clear hcut hb4 H2 HP c0 c1 c2 c3 c4 c5 c7 c8 c9 c10;obtain⟨wA,rfl⟩:∃wA,wA=wc:=⟨_,rfl⟩;have hwM:IntKind.i64.wrap (M:Int)=(M:Int):=by rw[IntKind.wrap_i64];omega
    have hk1:(M:Int)<M+1:=by omega
    go_wp2_with fail;go_cut [15] (fun v wc=>v=.bool true/\Hid (gU wA wc))
    case first=>
     go_region_with (go_at_call 33;refine aB (zj7 _ _ _ _ _) ?_;rintro r w5 ⟨rfl,hb5⟩)
     all_goals
      go_wp2_with fail;go_meet
      case rel=>exact⟨rfl,hb5.os,hb5.tape,hb5.output,hb5.size,hb5.block⟩
    case rest=>
    obtain⟨rfl,hcut⟩:=hcut;have H6:Hid (_/\rA<=wc.heap.size):=⟨H4.o.1.1.same hcut.o,aK H4.o.1.2 hcut.o.size⟩;clear c6 cf cl k0 d0 d1 d2 d3 dl y5 y3 x0 x1 x2 x3 H4 hcut;obtain⟨c0,c1,c2,c3,c4,c5,c6,c7,c8,c9,c10,cf,cl⟩:=jy H6.o.1.lh.at_;obtain⟨_,_,_,_,e1',e2',k0⟩:=H6.o.1.yV;cases e1';cases e2';obtain⟨sa,sn,sc,rfl⟩:=lu H6.o.1.lh.su;have hmk:Hid (decide (e.L.length<n)=o):=by subst hn;cases o<;>simp[Hid,nS]
    clear c0 c1 c2 c3 c4 c5 c8 c9 c10;cases o;all_goals
     go_wp2_with fail;refine aB (yho w0.heap.size n e.L.length _ _ H6.o.1.lh.su) ?_;rintro r w6 ⟨rfl,rfl⟩;rw[hmk.o];go_wp2_with (first
      |(at_builtin;refine wpList_append_own_at _ rfl _ _ 30 rfl w0.heap.size 32 i0 (iE) 1 24 Tryz.underlying30 hi hz0 hz1 hz2 rfl (by decide) _ _ _ rfl (aX _ _ _ _) ⟨w6.heap.size,0,none⟩ 1 1 [.slice ka e.L.length km] rfl rfl ?c1 ?c2 ?c3 ?c4 ?c5 ?_)
      |fail)
     case c1=>
      intro j u hj;match j,hj with| 0,hj=>simp at hj;subst hj;simp[Addr.add]
     case c2=>intro u hu;simp at hu;subst hu;rfl
     case c3=>unfold maxLen;omega
     case c4=>omega
     case c5=>have:=H6.o.1.er.be.size;simp;omega
     ·intro v' w7 hown' hgrow _ hloc;obtain⟨g',c',rfl,_⟩:=yT hown' (i:=0) (by decide);have HN:Hid (La w0 E F s b q z e1 false (fq e.eb) e.L n (.slice (some ⟨g,0,none⟩) 1 kc) (.slice ka e.L.length km) (.slice sa sn sc) w7/\w7.ownsRow w0.heap.size 32 1 (.slice (some ⟨g',0,none⟩) 1 c') 1 [.slice ka e.L.length km]/\rA<=g'):=by
       have hT:fE (fun _=>False) w6 w7:=((fE.refl _ _).alloc _).grown hgrow fun k hk=>by cases hk
       refine⟨H6.o.1.same (hT.qj (ay _) fun _ h=>h.elim),hown',?_⟩;obtain h|h:=hloc;·cases h
       have h1:g'=w6.heap.size+1:=Option.some.inj h;have:=H6.o.2;omega
      clear hown' hgrow hloc;go_wp2;exact⟨aj ⟨g',c',rfl,by go_num,HN.o⟩,by simp[intOf]⟩
   obtain⟨hla,hrow,hg'⟩:=hr.o;have hz:∀k,z.ok k->k<rA:=fun k hk=>by rw[Ag.o];exact(H2.o.1.lh.off k (aj (ak hk))).2.2
   have ho:∀k,rA<=k->Off b e1 k:=fun k hk=>H2.o.1.er.off (by rw[<- Ag.o];exact hk);have oJ:=hla.left hrow (fun k hk=>by cases hk;exact hg') ho hz;have H5:Hid (_/\_):=⟨oJ,oJ.Af true⟩;clear c1 c2 c6 cf cl k0 a0 a1 a2 a3 al;obtain⟨c0,c1,c2,c3,c4,c5,c6,c7,c8,c9,c10,cf,cl⟩:=jy hla.lh.at_;clear hr hla oJ hrow hz ho HP H2 hg' c0 c1 c2 c3 c4 c5 c7 c8 c10;go_wp2_with fail;refine aB (yU 0 _) ?_;rintro r w6 ⟨rfl,rfl⟩;obtain⟨d0,d1,d2,d3,d4,d5,d6,d7,d8,d9,kJ,df,dl⟩:=jy H5.o.1.lh.at_;clear c6 c9 cf cl d0 d1 d2 d3 d4 d5 d6 d7 d8 kJ;go_wp2_with fail;clear d9 df dl;generalize hW7:((wr.setCell ⟨z.W,6,none⟩ (.slice (some ⟨g',0,none⟩) 1 c')).setCell ⟨z.W,9,none⟩ (.bool true))=w7 at H5 |-;clear hW7;go_loopw [16] (fun i wq=>(i=eF 0/\wq=w7)\/(i=eF 1/\Hid (∃lY,La w0 E F s b q z e1 true (fq e.eb) e.L (e.L.length+1) (.slice (some ⟨g',0,none⟩) 1 c') (.slice ka e.L.length km) lY wq))) (fun i _=>1-(intOf i).toNat)
   case atStart=>exact ak ⟨rfl,rfl⟩
   case round=>
    obtain⟨rfl,rfl⟩|⟨rfl,hr⟩:=hrel
    ·obtain⟨f0,f1,f2,f3,f4,f5,f6,f7,f8,f9,f10,ff,fl⟩:=jy H5.o.2.lh.at_;obtain⟨_,_,_,_,e1',e2',k0⟩:=H5.o.2.yV;cases e1';cases e2';obtain⟨sa,sn,sc,rfl⟩:=lu H5.o.2.lh.su;have HM:Hid (fI 31 #[.slice sa sn sc,eF (e.L.length:Int)] wr (UY w0.heap.size e.L.length (.slice sa sn sc) wr)):=by
      have hsu:=H5.o.2.lh.su;have hbz:=H5.o.2.er.be.size;subst hn;cases o;·exact yi0 _ _ _ _ (by omega) hbz hsu
      exact yi1 _ _ _ _ (by omega) hsu
     clear f0 f1 f2 f3 f4 f5 f6 f8 f10;go_wp2_with fail;refine aB HM.o ?_;rintro r w8 ⟨v',rfl,m1,m2,m3⟩;obtain⟨xa,xn,xc,rfl⟩:=lu m1;have HL:=H5.o.2.Ga m1 m2 m3;have H8:Hid _:=HL;have f7':w8.cell? ⟨z.W,7,none⟩=some (.slice sa sn sc):=(aH (w:=wr) (a:=⟨z.W,7,none⟩) (m2.block _ fl H5.o.2.lh.ne.2.2.2)).trans f7;have ff':∀o,w8.frozen? ⟨z.W,o,none⟩=false:=fun o=>by have hb:=(m2.block _ fl H5.o.2.lh.ne.2.2.2).trans H5.o.2.lh.at_;simp[World.frozen?,hb]
     have fl':z.W<w8.heap.size:=aJ fl m2.size;clear HL m1 m2 m3 HM f7 f9 ff fl k0;go_wp2_with fail;exact⟨aj ⟨by go_num,_,H8.o⟩,by simp[intOf]⟩
    obtain⟨lY,hla⟩:=hr.o;have H8:Hid _:=hla;clear hr hla H5;go_wp2_with fail;go_ret;subst hE1;exact⟨rfl,ak ⟨_,_,H8.o⟩⟩
 clear c5 cf cl HX hmx;have hla:La w0 E F s b q z {e with asked:=false} e.asked (fq e.eb) e.L n jm je iT w1:=⟨her,H.o.lh.Iy hfr⟩;obtain⟨c0,c1,c2,c3,c4,c5,c6,c7,c8,c9,c10,cf,cl⟩:=jy hla.lh.at_;have oJ:La w0 E F s b q z {e with asked:=false} false (fq e.eb) e.L n jm je iT ((w1.setCell ⟨z.W,9,none⟩ (.bool false)).alloc (aO ⟨#[]⟩ 0 0 false)):=(hla.Af false).same ((aF _ _).alloc (ay _) _);have ha2:((w1.setCell ⟨z.W,9,none⟩ (.bool false)).alloc (aO ⟨#[]⟩ 0 0 false)).heap[w1.heap.size]?=some (aO ⟨#[]⟩ 0 0 false):=by have:=uQ (w:=w1.setCell ⟨z.W,9,none⟩ (.bool false)) (o:=aO ⟨#[]⟩ 0 0 false);simpa[World.setCell]using this
 have H2:Hid (_/\_):=⟨oJ,ha2⟩;clear hla oJ ha2 her hfr H c0 c1 c2 c3 c5 c6 c7 c8 c10;generalize hE1:({e with asked:=false}:Ev)=e1 at H2 |-;go_wp2_with fail;refine aB (wG b _ q _ H2.o.1.er.fs.bk) ?_;rintro r w2 ⟨rfl,rfl⟩;unfold aO at H2;generalize ((w1.setCell ⟨z.W,9,none⟩ (.bool false)).alloc (.cells #[.string ⟨#[]⟩,eF 0,eF 0,.bool false] 84))=w3 at *;generalize w1.heap.size=ab at *;clear c4 c9 cf cl;obtain⟨c0,c1,c2,c3,c4,c5,c6,c7,c8,c9,c10,cf,cl⟩:=jy H2.o.1.lh.at_;obtain⟨a0,a1,a2,a3,al⟩:=qR H2.o.2;clear c0 c1 c2 c4 c5 c6 c7 c8 c9 c10;go_wp2_with fail;refine aB (DZ z.W q 9 _ c3) ?_;rintro r w3 ⟨rfl,rfl⟩;rw[show(decide ((9:Int)=9)&&decide (0<q))=true by simp[hq]];go_wp2_with fail;go_ret;subst hE1;exact⟨rfl,aj H2.o.1⟩
theorem yh3(w0:dY)(E F:Nat->Addr)(s:dX)(b:Nat)(q:Int)(z:Zs)(e:Ev)(w:dY)(hq0:0<=q)(hC:(Gj.cont s e.L (kL e.o)).length<=100000000000)(hl:e.L.length<=100000000)(h:Ok w0 E F s b q z e w):fI 14 #[fq z.W] w (LG w0 E F s b q z e):=by
 obtain⟨jm,je,iT,h,lv⟩:=h;by_cases hf:e.m.fin=0
 ·refine(yh9 w0 E F s b q z e e.o (nS e.L e.o) jm je iT w hq0 hC hl hf rfl rfl h lv).mono ?_;rintro r w' ⟨rfl,⟨mJ,lY,hla⟩|hla⟩;·exact⟨rfl,{e with asked:=true,o:=true},⟨mJ,je,lY,hla,⟨lv.cm,lv.hL,fun _=>rfl,fun _=>hf⟩⟩,Nat.le_add_right _ _⟩
  exact⟨rfl,{e with asked:=false},⟨jm,je,iT,hla,⟨lv.cm,lv.hL,(fun h=>by cases h),lv.of⟩⟩,Nat.le_add_right _ _⟩
 refine(yh5 w0 E F s b q z e (nS e.L e.o) jm je iT w hq0 hC hl hf h lv).mono ?_;rintro r w' ⟨rfl,mJ,hla⟩;exact⟨rfl,{e with asked:=false},⟨mJ,je,iT,hla,⟨lv.cm,lv.hL,(fun h=>by cases h),lv.of⟩⟩,Nat.le_add_right _ _⟩
abbrev Pv(q:Int):Obj:=.cells #[iE,eF q,eF 0,eF (-1),.bool false] 53
theorem yik(q:Int)(hq:0<=q)(w:dY):fI 6 #[eF q] w fun e w'=>e=fM (fq w.heap.size)/\w'.heap[w.heap.size]?=some (Pv q)/\gU w w':=by
 have hn:¬q<0:=by omega
 go_enter Tryz.func6,Tryz.ntmps6;go_wp2_with fail;all_goals (try go_region)
 all_goals (try go_wp2_with fail)
 all_goals
  go_ret;first
   |exact⟨rfl,uQ,(aF _ _).alloc (ay _) _⟩
   |exact⟨rfl,uQ,((aF _ _).alloc (ay _) _).drew⟩
structure Wn(w0:dY)(s:dX)(q:Int)(b kb W:Nat)(w:dY):Prop where
 be:gU w0 w
 lo:w0.heap.size<=b/\w0.heap.size<=kb/\w0.heap.size<=W
 hb:w.heap[b]?=some (Pv q)
 hk:w.heap[kb]?=some (.cells #[iE] 32)
 hW:w.heap[W]?=some (.cells #[.string s,iE,iE,eF q,fq b,.pointer none,.slice (some ⟨kb,0,none⟩) 1 1,iE,iE,.bool false,iE] 34)
theorem Wn.same{w0 w w':dY}{s:dX}{q:Int}{b kb W:Nat}(h:Wn w0 s q b kb W w)(k:gU w w'):Wn w0 s q b kb W w':=⟨h.be.trans (k.mono h.be.size),h.lo,(k.block _ (lt_of_block h.hb)).trans h.hb,(k.block _ (lt_of_block h.hk)).trans h.hk,(k.block _ (lt_of_block h.hW)).trans h.hW⟩
theorem Wn.f0{w0 w:dY}{s:dX}{q:Int}{b kb W:Nat}(h:Wn w0 s q b kb W w):F0 w w0.heap.size b q (iE):=⟨⟨0,h.hb⟩,aX _ _ _ _,h.lo.1⟩
theorem Wn.lh{w0 w w1:dY}{s:dX}{q:Int}{b kb W:Nat}(h:Wn w0 s q b kb W w){l:List Sm}{qs:List Nat}{uS sF:dZ}(hb:gU w w1)(hr:Px.read s=.ok l)(hc:gI s=(0,0))(h1:jc w1 uS qs (gD w w1))(h2:gF w1 l (gD w w1) qs)(h3:w1.ownsRow w.heap.size 101 2 sF (vars l).length (rY (vars l))):Lh w0.heap.size s b q ⟨W,l,uS,sF,qs,gD w w1⟩ (fun k=>k≠b) false (.pointer none) [] 0 (.slice (some ⟨kb,0,none⟩) 1 1) (iE) (iE) ((w1.setCell ⟨W,1,none⟩ uS).setCell ⟨W,2,none⟩ sF)/\gU w0 ((w1.setCell ⟨W,1,none⟩ uS).setCell ⟨W,2,none⟩ sF)/\F0 ((w1.setCell ⟨W,1,none⟩ uS).setCell ⟨W,2,none⟩ sF) w0.heap.size b q (iE):=by
 have g:=h.same hb;have hlW:=lt_of_block h.hW;have hlb:=lt_of_block h.hb;have hlk:=lt_of_block h.hk;have hbz:=h.be.size;have t:fE (·=W) w1 ((w1.setCell ⟨W,1,none⟩ uS).setCell ⟨W,2,none⟩ sF):=((fE.refl (·=W) w1).setCell (p:=⟨W,1,none⟩) (ak rfl) _).setCell (p:=⟨W,2,none⟩) (ak rfl) _;have nb:b≠W:=fun e=>by have h1:=h.hb;rw[e,h.hW]at h1;cases h1
 have nk:kb≠W:=fun e=>by have h1:=h.hk;rw[e,h.hW]at h1;cases h1
 have nkb:kb≠b:=fun e=>by have h1:=h.hk;rw[e,h.hb]at h1;cases h1
 have hk1:=(t.block kb (lt_of_block g.hk) nk).trans g.hk;have hin:∀k,gD w w1 k->((w1.setCell ⟨W,1,none⟩ uS).setCell ⟨W,2,none⟩ sF).heap[k]?=w1.heap[k]?:=fun k hk=>t.block k hk.2 fun e=>by have:=hk.1;omega
 have hsz:w1.heap.size<=((w1.setCell ⟨W,1,none⟩ uS).setCell ⟨W,2,none⟩ sF).heap.size:=t.size;have hz1:=hb.size;refine⟨⟨?_,hr,hc,h1.keep hin,h2.keep hin,JK (iM h3 t fun k hk e=>?_) (aQ _),?_,aX _ _ _ _,aX _ _ _ _,fun k hk=>?_,fun k hk=>?_⟩,?_,?_⟩;·rw[Ref.heap_set _ (Ref.heap_set _ g.hW)];simp
 ·have:=(h3.lt k hk).1;omega
 ·refine⟨rfl,aj ⟨kb,1,_,rfl,h.lo.2.1,hk1,ay _,by unfold maxLen;omega,rfl,rfl⟩⟩
 ·have hl:=h.lo;obtain e|e|e|e|e|e:=hk;·have e':k=W:=e;exact⟨by omega,by omega,by omega⟩
  ·have e1:=e.1;have e2:=e.2;exact⟨by omega,by omega,by omega⟩
  ·have:=h3.lt k e;exact⟨by omega,by omega,by omega⟩
  ·have e':kb=k:=Option.some.inj e;exact⟨by omega,by omega,by omega⟩
  ·cases e
  cases e
 ·have:=hk.1;have n1:k≠W:=by omega
  exact⟨n1,fun e=>by have e':kb=k:=Option.some.inj e;omega,fun e=>by cases e⟩
 ·exact Ac g.be t (ay _) fun k hk=>by have:=h.lo;omega
 exact⟨⟨0,(t.block b (lt_of_block g.hb) nb).trans g.hb⟩,aX _ _ _ _,h.lo.1⟩
theorem rB:madeCells #[iE] 1=#[Value.slice none 0 0]:=by kernel_rfl
abbrev kO:Obj:=.cells (madeCells #[iE] 1) 32
abbrev Pw(s:dX)(q:Int)(b kb:Nat):Obj:=.cells #[.string s,iE,iE,eF q,fq b,.pointer none,.slice (some ⟨kb,0,none⟩) 1 1,iE,iE,.bool false,iE] 34
theorem Vf{w0 w1:dY}{s:dX}{q:Int}(hf:w1.heap[w0.heap.size]?=some (Pv q))(hb:Below w0.heap.size w0.drew w1):Wn w0 s q w0.heap.size w1.heap.size (w1.heap.size+1) ((w1.alloc kO).alloc (Pw s q w0.heap.size w1.heap.size)):=by
 have b1:gU w0 w1:=⟨hb.os,hb.tape,hb.output,hb.size,hb.block⟩;have hz:=b1.size;have hlf:=lt_of_block hf;have b2:gU w1 ((w1.alloc kO).alloc (Pw s q w0.heap.size w1.heap.size)):=((aF _ _).alloc (ay _) _).alloc (by simp) _;refine⟨b1.trans (b2.mono hz),⟨ay _,hz,by omega⟩,(b2.block _ hlf).trans hf,?_,?_⟩;·show((w1.heap.push _).push _)[w1.heap.size]?=_;rw[aD,ah (by rw[dS];omega),aD,aA rfl,kO,rB]
 show((w1.heap.push _).push _)[w1.heap.size+1]?=_;rw[xJ]
theorem Vg{w0 w1:dY}{s:dX}{q:Int}(hf:w1.heap[w0.heap.size+1]?=some (Pv q))(hb:Below (w0.alloc kO).drew.heap.size (w0.alloc kO).drew w1):Wn w0 s q (w0.heap.size+1) w0.heap.size w1.heap.size (w1.alloc (Pw s q (w0.heap.size+1) w0.heap.size)):=by have b0:gU w0 (w0.alloc kO).drew:=((aF _ _).alloc (ay _) _).drew;have b1:gU w0 w1:=b0.trans (hb.mono b0.size);have hz:=b1.size;have hlf:=lt_of_block hf;have b2:gU w1 (w1.alloc (Pw s q (w0.heap.size+1) w0.heap.size)):=(aF _ _).alloc (ay _) _;refine⟨b1.trans (b2.mono hz),⟨by omega,ay _,hz⟩,(b2.block _ hlf).trans hf,?_,uQ⟩;rw[b2.block _ (by omega),hb.block _ (by show w0.heap.size<(w0.heap.push _).size;simp)];show(w0.heap.push _)[w0.heap.size]?=_;rw[aD,aA rfl,kO,rB]
theorem yjh(w0:dY)(E F:Nat->Addr)(hblk:∀l,jZ l->∀c m B,q9 c m B E l)(s:dX)(b:Nat)(q:Int)(w:dY)(hs:s.size<=maxLen)(hq0:0<=q)(g0:Gt w0 E F)(hb:gU w0 w)(hf:F0 w w0.heap.size b q (iE))(hc:¬(gI s).1=0):fI 8 #[fq b,.string s] w fun r w'=>r=fM (.tuple #[.pointer none,eF ((gI s).1:Int),eF ((gI s).2:Int)])/\gU w w':=by
 refine(pC hblk s b q _ w hs hq0 g0 hb hf).mono ?_;rintro r w1 hq;obtain⟨c,p,h1,h2,rfl,hb1⟩|⟨h1,_⟩|⟨_,h1,_⟩:=hq;·rw[h1];exact⟨rfl,hb1⟩
 ·rw[h1]at hc;exact absurd rfl hc
 rw[h1]at hc;exact absurd rfl hc
def WoQ(w0:dY)(E F:Nat->Addr)(s:dX)(r:Ending)(w':dY):Prop :=∃W,r=fM (.tuple #[fq W,.bool true])/\gU w0 w'/\W<w'.heap.size/\((∃b q z e,0<=q/\z.W=W/\Ok w0 E F s b q z e w'/\e.L=[])\/w'.cell? ⟨W,5,none⟩=some (.pointer none))
theorem yhj(w0:dY)(E F:Nat->Addr)(hblk:∀l,jZ l->∀c m B,q9 c m B E l)(s:dX)(Q:Int)(hs:s.size<=maxLen)(g0:Gt w0 E F):fI 4 #[.string s,eF Q] w0 (WoQ w0 E F s):=by
 have hmk:∀w:dY,(Instr.makeSlice 30 (eF 1) (eF 1)).run Tryz.prog w=.ok (.slice (some ⟨w.heap.size,0,none⟩) 1 1) (w.alloc (.cells (madeCells #[iE] 1) 32)):=run_make_row' (P:=Tryz.prog) 30 32 (iE) 24 Tryz.underlying30 Pt rfl .i64 .i64 1 (by omega) (by omega);have G:Hid (_/\Gt w0 E F):=⟨hblk,g0⟩;have HN:Hid (∀(q:Int),0<=q->∀w,_):=fun q hq w=>yik q hq w;by_cases hQ:Q<0;all_goals
  go_enter Tryz.func4,Tryz.ntmps4;go_wp2_with fail;go_cut [6] (fun p wc=>∃(b kb W:Nat)(q:Int),p=fq W/\Hid (0<=q/\Wn w0 s q b kb W wc))
  case first=>
   go_region_with (go_at_call 6;refine aB (HN.o _ (by omega) _) ?_;rintro r w1 ⟨rfl,hf1,hb1⟩)
   all_goals
    go_wp2_with fail;go_meet
    case rel=>
     first
      |exact⟨_,_,_,_,rfl,by omega,Vf hf1 hb1⟩
      |exact⟨_,_,_,_,rfl,by omega,Vg (by simpa using hf1) hb1⟩
  case rest=>
  obtain⟨b,kb,W,q,rfl,hcut⟩:=hcut;go_wp2_with fail;refine aB (qx6 s wc hs) ?_;rintro r w1 ⟨hb1,a,n,c,a',n',c',rfl,hld⟩;have Py:=hcut.o.2.same hb1;obtain⟨c0,c1,c2,c3,c4,c5,c6,c7,c8,c9,c10,cf,cl⟩:=jy Py.hW;by_cases h0:(gI s).1=0
  ·obtain⟨l,qs,hr,h1,h2,h3⟩:=hld h0;have hc:=(zt7 hr h0).2;obtain⟨L1,L2,L3⟩:=hcut.o.2.lh hb1 hr hc h1 h2 h3;have HS:Hid _:=ygv w0 E F G.o.1 s b q ⟨W,l,.slice a n c,.slice a' n' c',qs,gD wc w1⟩ false (.pointer none) 0 _ _ _ _ hs hcut.o.1 G.o.2 L2 L3 L1;have HQ:Hid (0<=q):=hcut.o.1;have t1:(((gI s).1:Int) != 0)=false:=by rw[h0]<;>rfl
   go_wp2_with fail;refine aB HS.o ?_;rintro r w2 ⟨rfl,hq⟩;have HR:Hid _:=hq;go_wp2_with fail;go_ret2;obtain⟨e,hla,hlv,hL,ho,ha⟩|⟨hb2,h5⟩:=HR.o;·refine⟨W,rfl,hla.er.be,lt_of_block hla.lh.at_,ak ⟨b,q,⟨W,l,.slice a n c,.slice a' n' c',qs,gD wc w1⟩,e,HQ.o,rfl,⟨.slice (some ⟨kb,0,none⟩) 1 1,iE,iE,?_,hlv⟩,hL⟩⟩;rw[hL,ho,ha];exact hla
   exact⟨W,rfl,hb2,lt_of_cell h5,aj h5⟩
  ·have HS:Hid _:=yjh w0 E F G.o.1 s b q w1 hs hcut.o.1 G.o.2 Py.be Py.f0 h0;have HW:Hid _:=Py;have t1:(((gI s).1:Int) != 0)=true:=by rw[bne_iff_ne];omega
   go_wp2_with fail;refine aB HS.o ?_;rintro r w2 ⟨rfl,hb2⟩;have H2:Hid _:=HW.o.same hb2;go_wp2_with fail;refine aB (yU _ _) ?_;rintro r w3 ⟨rfl,rfl⟩;go_wp2_with fail;go_ret2;exact⟨W,rfl,H2.o.be,lt_of_block H2.o.hW,aj (jy H2.o.hW).2.2.2.2.2.1⟩
