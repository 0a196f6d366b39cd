import Derived.Test.YtgkhgealpneodaaGreatDoorG24
import Derived.Laws.EntriesVeiled
set_option maxRecDepth 100000
set_option maxHeartbeats 2000000
namespace Go.Proofs.YtgkhgealpneodaaGreatDoor
open Go.RowKit
namespace Rn
open Mk Px Ref
def lD(l:List Int):List dZ:=l.map fun v=>eF v
def pY(l:List (Nat×Int)):List dZ:=l.flatMap fun u=>[eF (u.1:Int),eF u.2]
def oH(l:List (Nat×Nat×Nat)):List dZ:=l.flatMap fun b=>[eF (b.1:Int),eF (b.2.1:Int),eF (b.2.2:Int)]
theorem zkw(l:List (Nat×Int)):(pY l).length=l.length*2:=by induction l with| nil=>rfl| cons v l ih=>simp[pY]at ih |-;omega
theorem zo5(l:List (Nat×Nat×Nat)):(oH l).length=l.length*3:=by induction l with| nil=>rfl| cons v l ih=>simp[oH]at ih |-;omega
theorem zod(a b:List Int):lD (a++b)=lD a++lD b:=List.map_append
theorem ZO(a b:List (Nat×Int)):pY (a++b)=pY a++pY b:=List.flatMap_append
theorem ZP(a b:List (Nat×Nat×Nat)):oH (a++b)=oH a++oH b:=List.flatMap_append
variable{W w w' w3:dY}{v v' va va':dZ}
theorem ZQ{a:Addr}{u:dZ}(h:w.cell? a=some u):(w.setCell a v).cell? a=some v:=World.cell?_setCell_same' w a v (by rw[h];rfl)
theorem Co{a b:Addr}(h:a≠b):(w.setCell a v).cell? b=w.cell? b:=by apply World.cell?_setCell_other;exact h
structure zR(w:dY)(g n:Nat)(f:Nat->dZ):Prop where
 cell:∀o,o<n->w.cell? ⟨g,o,none⟩=some (f o)
 fr:∀o,w.frozen? ⟨g,o,none⟩=false
def upd(f:Nat->dZ)(o:Nat)(v:dZ):Nat->dZ:=fun k=>if k=o then v else f k
variable{B c g k n o:Nat}{f:Nat->dZ}
theorem zR.set(h:zR w g n f)(ho:o<n)(v:dZ):zR (w.setCell ⟨g,o,none⟩ v) g n (upd f o v):=by
 refine⟨fun k hk=>?_,fun k=>?_⟩
 ·unfold upd;by_cases e:k=o;·subst e;rw[aA rfl];exact ZQ (h.cell k hk)
  rw[ah e,Co (by intro h;cases h;exact e rfl)];exact h.cell k hk
 rw[World.frozen?_setCell];exact h.fr k
theorem zR.lt(h:zR w g n f)(hn:0<n):g<w.heap.size:=lt_of_cell (h.cell 0 hn)
variable{T:Nat->Prop}
theorem zR.oL(h:zR w g n f)(hn:0<n)(hT:fE T w w')(hg:¬T g):zR w' g n f:=⟨fun o ho=>(aH (w:=w) (a:=⟨g,o,none⟩) (hT.block g (h.lt hn) hg)).trans (h.cell o ho),fun o=>(cO (w:=w) (a:=⟨g,o,none⟩) (hT.block g (h.lt hn) hg)).trans (h.fr o)⟩
variable{e t:TypeId}{a:Option Addr}{xs:List dZ}
theorem OG{size:Nat}(h:w.ownsRow B e size (.slice a n c) n xs)(hk:k<=n):w.ownsRow B e size (.slice a k c) k (xs.take (k*size)):=by
 obtain⟨h1,h2⟩:=h;have hm:k*size<=n*size:=Nat.mul_le_mul_right _ hk;refine⟨by rw[bZ];omega,?_⟩;obtain⟨h2,h3⟩|⟨g,cap,cur,hv,hg,hh,h4,h5,h6,h7⟩:=h2
 ·cases h2;obtain rfl:k=0:=by omega
  exact ak ⟨rfl,rfl⟩
 cases hv;refine aj ⟨g,_,cur,rfl,hg,hh,by omega,h5,h6,?_⟩;rw[<- h7,List.take_take];congr 1;omega
structure Cx where
 B:Nat
 g:Nat
 pp:Nat
 jl:Nat
 vj:dZ
 J:Nat->Nat
 P:Pg
 E:Nat->Addr
 K:List Int->List iL->dZ->dY->Prop
def ru(k:Nat):Bool:=k=4||k=5||k=6||k=8||k=9||k=10
def pq(k:Nat):Nat:=match k with
 |0=>97|1=>99|2=>100|3=>102|7=>107
 |11=>113|12=>114|13=>115|14=>117|15=>119
 |16=>122|17=>124|18=>125|19=>127|_=>162
def xZ(k:Nat):Nat:=match k with
 |4=>104|5=>105|6=>106|8=>109|9=>111|_=>112
def tK(J:Nat->Nat)(k:Nat):Array dZ:=if ru k then #[.pointer (some ⟨J k,0,none⟩)]else #[]
def fZ(f:Nat->dZ)(va:dZ):List dZ:=[f 0,f 1,f 2,f 85,va]
structure Cq(x:Cx)(m:Ms)(w:dY)(f:Nat->dZ)(va:dZ):Prop where
 hB:x.B<=x.g
 hj:x.jl<x.B
 blk:zR w x.g 90 f
 f3:f 3=x.vj
 f4:f 4=fq x.pp
 tab:∀k,k<20->f (8+4*k)=.func (.func (pq k)) #[] (tK x.J k)
 f86:f 86=eF (m.eD:Int)
 f87:f 87=eF (m.fD:Int)
 f88:f 88=.bool m.jK
 f89:f 89=eF (m.fin:Int)
 st:w.ownsRow x.B 2 1 (f 0) m.st.length (lD m.st.reverse)
 un:w.ownsRow x.B 279 2 (f 1) m.fV.length (pY m.fV.reverse)
 be:w.ownsRow x.B 228 3 (f 2) m.fK.length (oH m.fK.reverse)
 zT:w.ownsRow x.B 2 1 (f 85) m.vars.length (lD m.vars)
 sep:Sep x.B x.g w (fZ f va)
 jn:∀k,ru k=true->w.cell? ⟨x.J k,0,none⟩=some (.func (.func (xZ k)) #[] #[])/\x.J k≠x.g/\x.J k≠x.jl/\∀r∈fZ f va,r.ownBlock≠some (x.J k)
structure yO(x:Cx)(w:dY):Prop where
 ex:∃vl vw vn lo,w.heap[x.pp]?=some (.cells #[vw,eF (x.P.nv:Int),vn,vl] 145)/\x.pp<x.B/\x.pp≠x.jl /\
  w.ownsRow lo 219 3 vl x.P.ins.length (vQ x.P.ins)/\(∀k,vl.ownBlock=some k->k<x.B/\k≠x.jl) /\
  w.ownsRow lo 9 1 vw x.P.gT.length (iG x.P.gT)/\(∀k,vw.ownBlock=some k->k<x.B/\k≠x.jl)
structure Ge(x:Cx)(w:dY):Prop where
 v1:w.cell? ⟨11,0,none⟩=some (.iface 393 (.pointer (some (x.E 1))))
 v2:w.cell? ⟨13,0,none⟩=some (.iface 393 (.pointer (some (x.E 2))))
 v3:w.cell? ⟨14,0,none⟩=some (.iface 393 (.pointer (some (x.E 3))))
 v4:w.cell? ⟨12,0,none⟩=some (.iface 393 (.pointer (some (x.E 4))))
 b:∀i,1<=i->i<=4->(x.E i).block<x.B/\(x.E i).block≠x.jl/\∃c t,w.heap[(x.E i).block]?=some (.cells c t (0,0))
 ne:∀i j,1<=i->i<=4->1<=j->j<=4->i≠j->x.E i≠x.E j
 lo:21<=x.B
 lj:21<=x.jl
def iW(x:Cx)(e:Nat):dZ:=if e=0 then .nilIface else .iface 393 (.pointer (some (x.E e)))
structure MK(x:Cx)(m:Ms)(w:dY)(f:Nat->dZ)(va:dZ):Prop where
 a:Cq x m w f va
 k:x.K m.left m.eY va w
 p:yO x w
 e:Ge x w
def kG(x:Cx)(f:Nat->dZ)(va:dZ)(k:Nat):Prop:=k=x.g\/k=x.jl\/∃r∈fZ f va,r.ownBlock=some k
structure Fr(x:Cx)(w:dY)(f:Nat->dZ)(va:dZ)(w':dY)(f':Nat->dZ)(va':dZ):Prop where
 t:fE (kG x f va) w w'
 o:∀k,k<w.heap.size->kG x f' va' k->kG x f va k
theorem Fr.refl(x:Cx)(w:dY)(f:Nat->dZ)(va:dZ):Fr x w f va w f va:=⟨fE.refl _ _,fun _ _ h=>h⟩
theorem Fr.trans{x:Cx}{w w1 w2:dY}{f f1 f2:Nat->dZ}{va jD jO:dZ}(h:Fr x w f va w1 f1 jD)(k:Fr x w1 f1 jD w2 f2 jO):Fr x w f va w2 f2 jO:=⟨⟨k.t.os.trans h.t.os,k.t.tape.trans h.t.tape,k.t.output.trans h.t.output,aK h.t.size k.t.size,fun i hi hn=>(k.t.block i (aJ hi h.t.size) fun ho=>hn (h.o i hi ho)).trans (h.t.block i hi hn)⟩,fun i hi ho=>h.o i hi (k.o i (aJ hi h.t.size) ho)⟩
structure jV(x:Cx):Prop where
 keep:∀(l:List Int)(a:List iL)(va:dZ)(w w':dY)(T:Nat->Prop),x.K l a va w->fE T w w'->(∀k,T k->x.B<=k)->(∀k,va.ownBlock=some k->¬T k)->x.K l a va w'
theorem Cq.lt{x:Cx}{m:Ms}{w:dY}{f:Nat->dZ}{va:dZ}(h:Cq x m w f va):x.g<w.heap.size:=h.blk.lt (by decide)
variable{x:Cx}
theorem yO.oL(h:yO x w)(hT:fE T w w')(ht:∀k,T k->x.B<=k\/k=x.jl):yO x w':=by
 obtain⟨vl,vw,vn,lo,h1,h2,h3,h4,h5,h6,h7⟩:=h.ex;have hn:∀k,k<x.B/\k≠x.jl->¬T k:=fun k hk hk'=>by obtain h|h:=ht k hk';omega;exact hk.2 h
 exact⟨vl,vw,vn,lo,by rw[hT.block _ (aN.1 h1).1 (hn _ ⟨h2,h3⟩)];exact h1,h2,h3,iM h4 hT (fun k hk=>hn k (h5 k hk)),h5,iM h6 hT (fun k hk=>hn k (h7 k hk)),h7⟩
theorem Ge.oL(h:Ge x w)(hT:fE T w w')(ht:∀k,T k->x.B<=k\/k=x.jl):Ge x w':=by
 have hn:∀k,k<x.B/\k≠x.jl->¬T k:=fun k hk hk'=>by obtain h|h:=ht k hk';omega;exact hk.2 h
 have lo:=h.lo;have lj:=h.lj;have hv:∀{k:Nat}{v:dZ},k<21->w.cell? ⟨k,0,none⟩=some v->w'.cell? ⟨k,0,none⟩=some v:=fun{k v}hk hc=>(aH (w:=w) (a:=⟨k,0,none⟩) (hT.block k (lt_of_cell hc) (hn k ⟨by omega,by omega⟩))).trans hc;refine⟨hv (by decide) h.v1,hv (by decide) h.v2,hv (by decide) h.v3,hv (by decide) h.v4,fun i h1 h2=>?_,h.ne,lo,lj⟩;obtain⟨b1,b2,c,t,b3⟩:=h.b i h1 h2;exact⟨b1,b2,c,t,by rw[hT.block _ (aN.1 b3).1 (hn _ ⟨b1,b2⟩)];exact b3⟩
variable{m:Ms}
theorem Cq.same(h:Cq x m w f va)(hT:fE (fun _=>False) w w'):Cq x m w' f va:=⟨h.hB,h.hj,h.blk.oL (by decide) hT (fun h=>h),h.f3,h.f4,h.tab,h.f86,h.f87,h.f88,h.f89,iM h.st hT (fun _ _ h=>h),iM h.un hT (fun _ _ h=>h),iM h.be hT (fun _ _ h=>h),iM h.zT hT (fun _ _ h=>h),h.sep.world hT.size,fun k hk=>by obtain⟨a,b⟩:=h.jn k hk;exact⟨(aH (w:=w) (a:=⟨x.J k,0,none⟩) (hT.block _ (lt_of_cell a) (fun h=>h))).trans a,b⟩⟩
theorem MK.same{x:Cx}(hj:jV x){m:Ms}{w w':dY}{f:Nat->dZ}{va:dZ}(h:MK x m w f va)(hT:fE (fun _=>False) w w'):MK x m w' f va/\Fr x w f va w' f va:=⟨⟨h.a.same hT,hj.keep _ _ _ _ _ _ h.k hT (fun _ h=>h.elim) (fun _ _ h=>h),h.p.oL hT (fun _ h=>h.elim),h.e.oL hT (fun _ h=>h.elim)⟩,hT.mono (fun _ _ h=>h.elim),fun _ _ h=>h⟩
theorem zlt{r:Nat}(hor:(o=0/\r=0)\/(o=1/\r=1)\/(o=2/\r=2)\/(o=85/\r=3)):fZ (upd f o v) va=(fZ f va).set r v/\(fZ f va)[r]?=some (f o):=by obtain⟨rfl,rfl⟩|⟨rfl,rfl⟩|⟨rfl,rfl⟩|⟨rfl,rfl⟩:=hor<;>simp[fZ,upd]
structure Turned(x:Cx)(m:Ms)(w W:dY)(f:Nat->dZ)(va:dZ)(o r:Nat)(v':dZ):Prop where
 t:fE (fun k=>(f o).ownBlock=some k\/k=x.g) w W
 blk:zR W x.g 90 (upd f o v')
 sep:Sep x.B x.g W (fZ (upd f o v') va)
 jn:∀k,ru k=true->W.cell? ⟨x.J k,0,none⟩=some (.func (.func (xZ k)) #[] #[])/\x.J k≠x.g/\x.J k≠x.jl/\∀u∈fZ (upd f o v') va,u.ownBlock≠some (x.J k)
 k:x.K m.left m.eY va W
 p:yO x W
 e:Ge x W
 fr:Fr x w f va W (upd f o v') va
 vJ:∀j u,(fZ f va)[j]?=some u->j≠r->∀k,u.ownBlock=some k->¬((f o).ownBlock=some k\/k=x.g)
 tab:∀k,k<20->upd f o v' (8+4*k)=.func (.func (pq k)) #[] (tK x.J k)
 ne:v'.ownBlock≠some x.g
theorem MK.turn{x:Cx}(hj:jV x){m:Ms}{w w3:dY}{f:Nat->dZ}{va v':dZ}{o r:Nat}(h:MK x m w f va)(hor:(o=0/\r=0)\/(o=1/\r=1)\/(o=2/\r=2)\/(o=85/\r=3))(hT:fE (fun k=>(f o).ownBlock=some k) w w3)(hloc:v'.ownBlock=(f o).ownBlock\/∃n,v'.ownBlock=some n/\w.heap.size<=n/\n<w3.heap.size):Turned x m w (w3.setCell ⟨x.g,o,none⟩ v') f va o r v':=by
 obtain⟨rF,hro⟩:=zlt (f:=f) (va:=va) (v:=v') hor;have hmem:f o∈fZ f va:=bL hro;have lV:¬(f o).ownBlock=some x.g:=fun e=>(h.a.sep.own _ hmem _ e).2.1 rfl;have hlt:=h.a.lt;have hB:=h.a.hB;have hjl:=h.a.hj;have uN:fE (fun k=>(f o).ownBlock=some k\/k=x.g) w (w3.setCell ⟨x.g,o,none⟩ v'):=fE.setCell (T:=fun k=>(f o).ownBlock=some k\/k=x.g) (hT.mono fun k _ hk=>ak hk) (p:=⟨x.g,o,none⟩) (ak (aj rfl)) _;have wX:∀k,((f o).ownBlock=some k\/k=x.g)->x.B<=k:=fun k hk=>by
  obtain hk|rfl:=hk;·exact(h.a.sep.own _ hmem k hk).1
  exact hB
 have TN:o<90:=by omega
 have vJ:∀j u,(fZ f va)[j]?=some u->j≠r->∀k,u.ownBlock=some k->¬((f o).ownBlock=some k\/k=x.g):=by
  intro j u zm hjr k hk hh;obtain hh|rfl:=hh;·exact h.a.sep.mem zm hro hjr k hk hh
  exact(h.a.sep.own u (bL zm) _ hk).2.1 rfl
 have hloc':v'.ownBlock=(f o).ownBlock\/v'.ownBlock=none\/∃n,v'.ownBlock=some n/\w.heap.size<=n/\n<(w3.setCell ⟨x.g,o,none⟩ v').heap.size:=by
  obtain hl|⟨n,hl,h1,h2⟩:=hloc;·exact ak hl
  exact aj (aj ⟨n,hl,h1,by simpa[World.setCell]using h2⟩)
 have hva:∀k,va.ownBlock=some k->¬((f o).ownBlock=some k\/k=x.g):=vJ 4 va rfl (by omega);have hBw:x.B<=w.heap.size:=by omega
 have hsep:Sep x.B x.g (w3.setCell ⟨x.g,o,none⟩ v') (fZ (upd f o v') va):=by
  obtain⟨rfl,rfl⟩|⟨rfl,rfl⟩|⟨rfl,rfl⟩|⟨rfl,rfl⟩:=hor;·exact Sep.turn (A:=[]) (R:=[f 1,f 2,f 85,va]) h.a.sep uN.size hBw hlt hloc'
  ·exact Sep.turn (A:=[f 0]) (R:=[f 2,f 85,va]) h.a.sep uN.size hBw hlt hloc'
  ·exact Sep.turn (A:=[f 0,f 1]) (R:=[f 85,va]) h.a.sep uN.size hBw hlt hloc'
  exact Sep.turn (A:=[f 0,f 1,f 2]) (R:=[va]) h.a.sep uN.size hBw hlt hloc'
 have hmem':∀u∈fZ (upd f o v') va,u∈fZ f va\/u=v':=fun u hu=>by rw[rF]at hu;exact List.mem_or_eq_of_mem_set hu
 refine⟨uN,(h.a.blk.oL (by decide) hT lV).set TN v',hsep,fun k hk=>?_,hj.keep _ _ _ _ _ _ h.k uN wX hva,h.p.oL uN fun k hk=>ak (wX k hk),h.e.oL uN fun k hk=>ak (wX k hk),⟨uN.mono fun k _ hk=>?_,fun k hk hk'=>?_⟩,vJ,fun k hk=>?_,?_⟩
 ·obtain⟨a,b,c,d⟩:=h.a.jn k hk;have hjz:=lt_of_cell a;refine⟨(aH (w:=w) (a:=⟨x.J k,0,none⟩) (uN.block _ hjz (fun hh=>?_))).trans a,b,c,fun u hu=>?_⟩
  ·obtain hh|hh:=hh;·exact d _ hmem hh
   exact b hh
  obtain hu|rfl:=hmem' u hu;·exact d u hu
  intro e;obtain hl|⟨n,hl,h1,_⟩:=hloc;·rw[hl]at e;exact d _ hmem e
  rw[hl]at e;cases e;omega
 ·obtain hk|hk:=hk;·exact aj (aj ⟨f o,hmem,hk⟩)
  exact ak hk
 ·obtain hk'|hk'|⟨u,hu,hk'⟩:=hk';·exact ak hk'
  ·exact aj (ak hk')
  obtain hu|rfl:=hmem' u hu;·exact aj (aj ⟨u,hu,hk'⟩)
  obtain hl|⟨n,hl,h1,_⟩:=hloc;·rw[hl]at hk';exact aj (aj ⟨_,hmem,hk'⟩)
  rw[hl]at hk';cases hk';omega
 ·have:¬8+4*k=o:=by omega
  unfold upd;rw[ah this];exact h.a.tab k hk
 intro e;obtain hl|⟨n,hl,h1,h2⟩:=hloc;·rw[hl]at e;exact lV e
 rw[hl]at e;cases e;omega
theorem MK.TP(hj:jV x)(h:MK x m w f va)(st:List Int)(hT:fE (fun k=>(f 0).ownBlock=some k) w w3)(hloc:v'.ownBlock=(f 0).ownBlock\/∃n,v'.ownBlock=some n/\w.heap.size<=n/\n<w3.heap.size)(hown:w3.ownsRow x.B 2 1 v' st.length (lD st.reverse)):MK x {m with st:=st} (w3.setCell ⟨x.g,0,none⟩ v') (upd f 0 v') va/\Fr x w f va (w3.setCell ⟨x.g,0,none⟩ v') (upd f 0 v') va:=by have t:=h.turn (o:=0) (r:=0) hj (ak ⟨rfl,rfl⟩) hT hloc;exact⟨⟨⟨h.a.hB,h.a.hj,t.blk,h.a.f3,h.a.f4,t.tab,h.a.f86,h.a.f87,h.a.f88,h.a.f89,ownsRow_setCell_other hown (a:=⟨x.g,0,none⟩) t.ne _,iM h.a.un t.t (t.vJ 1 _ rfl (by decide)),iM h.a.be t.t (t.vJ 2 _ rfl (by decide)),iM h.a.zT t.t (t.vJ 3 _ rfl (by decide)),t.sep,t.jn⟩,t.k,t.p,t.e⟩,t.fr⟩
theorem MK.ZR(hj:jV x)(h:MK x m w f va)(un:List (Nat×Int))(hT:fE (fun k=>(f 1).ownBlock=some k) w w3)(hloc:v'.ownBlock=(f 1).ownBlock\/∃n,v'.ownBlock=some n/\w.heap.size<=n/\n<w3.heap.size)(hown:w3.ownsRow x.B 279 2 v' un.length (pY un.reverse)):MK x {m with fV:=un} (w3.setCell ⟨x.g,1,none⟩ v') (upd f 1 v') va/\Fr x w f va (w3.setCell ⟨x.g,1,none⟩ v') (upd f 1 v') va:=by have t:=h.turn (o:=1) (r:=1) hj (aj (ak ⟨rfl,rfl⟩)) hT hloc;exact⟨⟨⟨h.a.hB,h.a.hj,t.blk,h.a.f3,h.a.f4,t.tab,h.a.f86,h.a.f87,h.a.f88,h.a.f89,iM h.a.st t.t (t.vJ 0 _ rfl (by decide)),ownsRow_setCell_other hown (a:=⟨x.g,1,none⟩) t.ne _,iM h.a.be t.t (t.vJ 2 _ rfl (by decide)),iM h.a.zT t.t (t.vJ 3 _ rfl (by decide)),t.sep,t.jn⟩,t.k,t.p,t.e⟩,t.fr⟩
theorem MK.ZT(hj:jV x)(h:MK x m w f va)(be:List (Nat×Nat×Nat))(hT:fE (fun k=>(f 2).ownBlock=some k) w w3)(hloc:v'.ownBlock=(f 2).ownBlock\/∃n,v'.ownBlock=some n/\w.heap.size<=n/\n<w3.heap.size)(hown:w3.ownsRow x.B 228 3 v' be.length (oH be.reverse)):MK x {m with fK:=be} (w3.setCell ⟨x.g,2,none⟩ v') (upd f 2 v') va/\Fr x w f va (w3.setCell ⟨x.g,2,none⟩ v') (upd f 2 v') va:=by have t:=h.turn (o:=2) (r:=2) hj (aj (aj (ak ⟨rfl,rfl⟩))) hT hloc;exact⟨⟨⟨h.a.hB,h.a.hj,t.blk,h.a.f3,h.a.f4,t.tab,h.a.f86,h.a.f87,h.a.f88,h.a.f89,iM h.a.st t.t (t.vJ 0 _ rfl (by decide)),iM h.a.un t.t (t.vJ 1 _ rfl (by decide)),ownsRow_setCell_other hown (a:=⟨x.g,2,none⟩) t.ne _,iM h.a.zT t.t (t.vJ 3 _ rfl (by decide)),t.sep,t.jn⟩,t.k,t.p,t.e⟩,t.fr⟩
theorem MK.put(hj:jV x)(h:MK x m w f va)(ho:85<o/\o<90)(v:dZ)(p t:Nat)(u:Bool)(n:Nat)(h1:upd f o v 86=eF (p:Int))(h2:upd f o v 87=eF (t:Int))(h3:upd f o v 88=.bool u)(h4:upd f o v 89=eF (n:Int)):MK x {m with eD:=p,fD:=t,jK:=u,fin:=n} (w.setCell ⟨x.g,o,none⟩ v) (upd f o v) va/\Fr x w f va (w.setCell ⟨x.g,o,none⟩ v) (upd f o v) va:=by
 have hlt:=h.a.lt;have hB:=h.a.hB;have hT:fE (fun k=>k=x.g) w (w.setCell ⟨x.g,o,none⟩ v):=fE.setCell (T:=fun k=>k=x.g) (fE.refl _ _) (p:=⟨x.g,o,none⟩) (ak rfl) _;have wX:∀k,k=x.g->x.B<=k:=fun k hk=>by omega
 have hne:∀u∈fZ f va,∀k,u.ownBlock=some k->¬k=x.g:=fun u hu k hk=>(h.a.sep.own u hu k hk).2.1;have e0:upd f o v 0=f 0:=ah (by omega);have e1:upd f o v 1=f 1:=ah (by omega);have e2:upd f o v 2=f 2:=ah (by omega);have e3:upd f o v 3=f 3:=ah (by omega);have e4:upd f o v 4=f 4:=ah (by omega);have e5:upd f o v 85=f 85:=ah (by omega);have er:fZ (upd f o v) va=fZ f va:=by unfold fZ;rw[e0,e1,e2,e5]
 refine⟨⟨⟨hB,h.a.hj,h.a.blk.set ho.2 v,e3.trans h.a.f3,e4.trans h.a.f4,fun k hk=>(ah (by omega)).trans (h.a.tab k hk),h1,h2,h3,h4,by rw[e0];exact iM h.a.st hT (hne _ (by simp[fZ])),by rw[e1];exact iM h.a.un hT (hne _ (by simp[fZ])),by rw[e2];exact iM h.a.be hT (hne _ (by simp[fZ])),by rw[e5];exact iM h.a.zT hT (hne _ (by simp[fZ])),by rw[er];exact h.a.sep.world hT.size,fun k hk=>?_⟩,hj.keep _ _ _ _ _ _ h.k hT wX (hne va (by simp[fZ])),h.p.oL hT fun k hk=>ak (wX k hk),h.e.oL hT fun k hk=>ak (wX k hk)⟩,hT.mono fun k _ hk=>ak hk,fun k _ hk=>?_⟩;·obtain⟨a,b,c,d⟩:=h.a.jn k hk;exact⟨(aH (w:=w) (a:=⟨x.J k,0,none⟩) (hT.block _ (lt_of_cell a) b)).trans a,b,c,by rw[er];exact d⟩
 unfold kG at hk;rw[er]at hk;exact hk
theorem MK.TQ(hj:jV x)(h:MK x m w f va)(p:Nat):MK x {m with eD:=p} (w.setCell ⟨x.g,86,none⟩ (eF (p:Int))) (upd f 86 (eF (p:Int))) va/\Fr x w f va (w.setCell ⟨x.g,86,none⟩ (eF (p:Int))) (upd f 86 (eF (p:Int))) va:=h.put hj (by decide) _ p m.fD m.jK m.fin rfl h.a.f87 h.a.f88 h.a.f89
theorem MK.zlx(hj:jV x)(h:MK x m w f va)(p:Nat):MK x {m with fD:=p} (w.setCell ⟨x.g,87,none⟩ (eF (p:Int))) (upd f 87 (eF (p:Int))) va/\Fr x w f va (w.setCell ⟨x.g,87,none⟩ (eF (p:Int))) (upd f 87 (eF (p:Int))) va:=h.put hj (by decide) _ m.eD p m.jK m.fin h.a.f86 rfl h.a.f88 h.a.f89
theorem MK.ZU(hj:jV x)(h:MK x m w f va)(u:Bool):MK x {m with jK:=u} (w.setCell ⟨x.g,88,none⟩ (.bool u)) (upd f 88 (.bool u)) va/\Fr x w f va (w.setCell ⟨x.g,88,none⟩ (.bool u)) (upd f 88 (.bool u)) va:=h.put hj (by decide) _ m.eD m.fD u m.fin h.a.f86 h.a.f87 rfl h.a.f89
theorem MK.TR(hj:jV x)(h:MK x m w f va)(n:Nat):MK x {m with fin:=n} (w.setCell ⟨x.g,89,none⟩ (eF (n:Int))) (upd f 89 (eF (n:Int))) va/\Fr x w f va (w.setCell ⟨x.g,89,none⟩ (eF (n:Int))) (upd f 89 (eF (n:Int))) va:=h.put hj (by decide) _ m.eD m.fD m.jK n h.a.f86 h.a.f87 h.a.f88 rfl
def gu(x:Cx)(m:Ms)(w:dY)(f:Nat->dZ)(va:dZ)(w':dY):Prop:=∃f' va',MK x m w' f' va'/\Fr x w f va w' f' va'
theorem kG.lt{x:Cx}{m:Ms}{w:dY}{f:Nat->dZ}{va:dZ}(h:Cq x m w f va){k:Nat}(hk:kG x f va k):k<w.heap.size:=by
 have:=h.lt;have:=h.hB;have:=h.hj;obtain rfl|rfl|⟨r,hr,hk⟩:=hk;·exact h.lt
 ·omega
 exact(h.sep.own r hr k hk).2.2
theorem MK.away(hj:jV x)(h:MK x m w f va)(hT:fE T w w')(h1:∀k,T k->x.B<=k)(h2:∀k,T k->¬kG x f va k)(h3:∀k j,T k->ru j=true->k≠x.J j):MK x m w' f va:=by have hr:∀r∈fZ f va,∀k,r.ownBlock=some k->¬T k:=fun r hr k hk ht=>h2 k ht (aj (aj ⟨r,hr,hk⟩));refine⟨⟨h.a.hB,h.a.hj,h.a.blk.oL (by decide) hT (fun ht=>h2 _ ht (ak rfl)),h.a.f3,h.a.f4,h.a.tab,h.a.f86,h.a.f87,h.a.f88,h.a.f89,iM h.a.st hT (hr _ (by simp[fZ])),iM h.a.un hT (hr _ (by simp[fZ])),iM h.a.be hT (hr _ (by simp[fZ])),iM h.a.zT hT (hr _ (by simp[fZ])),h.a.sep.world hT.size,fun k hk=>?_⟩,hj.keep _ _ _ _ _ _ h.k hT h1 (hr _ (by simp[fZ])),h.p.oL hT fun k hk=>ak (h1 k hk),h.e.oL hT fun k hk=>ak (h1 k hk)⟩;obtain⟨a,b⟩:=h.a.jn k hk;exact⟨(aH (w:=w) (a:=⟨x.J k,0,none⟩) (hT.block _ (lt_of_cell a) (fun ht=>h3 _ k ht hk rfl))).trans a,b⟩
theorem MK.local(hj:jV x){m1:Ms}{w0 w1 w2:dY}{f1:Nat->dZ}{jD:dZ}(h:MK x m w f va)(hT0:fE (fun _=>False) w w0)(h1:MK x m1 w1 f1 jD)(hF:Fr x w0 f va w1 f1 jD)(hT:fE T w1 w2)(ht:∀k,T k->w.heap.size<=k/\k<w0.heap.size):MK x m1 w2 f1 jD/\Fr x w f va w2 f1 jD:=by
 have hlt:=h.a.lt;have hB:=h.a.hB;refine⟨h1.away hj hT (fun k hk=>by have:=ht k hk;omega) (fun k hk ho=>?_) (fun k j hk hj'=>?_),⟨?_,?_,?_,?_,fun k hk hn=>?_⟩,fun k hk ho=>hF.o k (by have:=hT0.size;omega) ho⟩;·obtain⟨a,b⟩:=ht k hk;have:=kG.lt h.a (hF.o k b ho);omega
 ·obtain⟨a,b⟩:=ht k hk;have:=lt_of_cell (h.a.jn j hj').1;omega
 ·exact hT.os.trans (hF.t.os.trans hT0.os)
 ·exact hT.tape.trans (hF.t.tape.trans hT0.tape)
 ·exact hT.output.trans (hF.t.output.trans hT0.output)
 ·exact aK hT0.size (aK hF.t.size hT.size)
 have s0:=hT0.size;have s1:=hF.t.size;rw[hT.block k (by omega) (fun hk'=>by have:=ht k hk';omega),hF.t.block k (by omega) hn,hT0.block k hk (fun h=>h)]
theorem OH{r:dZ}(h:r∈fZ f va'):r∈fZ f va\/r=va':=by
 simp only[fZ,bn,List.not_mem_nil,or_false]at h |-;obtain h|h|h|h|h:=h;·exact ak (ak h)
 ·exact ak (aj (ak h))
 ·exact ak (aj (aj (ak h)))
 ·exact ak (aj (aj (aj (ak h))))
 exact aj h
theorem MK.TS(h:MK x m w f va){l:List Int}{a:List iL}(hk:x.K l a va' w')(hT:fE (fun k=>k=x.jl\/va.ownBlock=some k) w w')(hloc:va'.ownBlock=va.ownBlock\/va'.ownBlock=none\/∃n,va'.ownBlock=some n/\w.heap.size<=n/\n<w'.heap.size):MK x {m with left:=l,eY:=a} w' f va'/\Fr x w f va w' f va':=by
 have hlt:=h.a.lt;have hB:=h.a.hB;have hjl:=h.a.hj;have hown:∀k,va.ownBlock=some k->x.B<=k/\k≠x.g/\k<w.heap.size:=h.a.sep.own va (by simp[fZ]);have wX:∀k,(k=x.jl\/va.ownBlock=some k)->x.B<=k\/k=x.jl:=fun k hk=>by
  obtain hk|hk:=hk;·exact aj hk
  exact ak (hown k hk).1
 have hrow:∀(j:Nat)(u:dZ),[f 0,f 1,f 2,f 85][j]?=some u->∀k,u.ownBlock=some k->¬(k=x.jl\/va.ownBlock=some k):=by
  intro j u zm k hk hh;have TT:j<4:=(aT.1 zm).1;have zU:(fZ f va)[j]?=some u:=by rw[<- zm];match j,TT with| 0,_=>rfl| 1,_=>rfl| 2,_=>rfl| 3,_=>rfl
  have ho:=h.a.sep.own u (bL zU) k hk;obtain hh|hh:=hh;·omega
  exact h.a.sep.mem (i:=j) (j:=4) zU rfl (by omega) k hk hh
 have hsep:Sep x.B x.g w' (fZ f va'):=Sep.turn (A:=[f 0,f 1,f 2,f 85]) (R:=[]) h.a.sep hT.size (by omega) hlt hloc;refine⟨⟨⟨hB,hjl,h.a.blk.oL (by decide) hT (fun hh=>?_),h.a.f3,h.a.f4,h.a.tab,h.a.f86,h.a.f87,h.a.f88,h.a.f89,iM h.a.st hT (hrow 0 _ rfl),iM h.a.un hT (hrow 1 _ rfl),iM h.a.be hT (hrow 2 _ rfl),iM h.a.zT hT (hrow 3 _ rfl),hsep,fun k hk=>?_⟩,hk,h.p.oL hT wX,h.e.oL hT wX⟩,hT.mono fun k _ hk=>?_,fun k hk hk'=>?_⟩
 ·obtain hh|hh:=hh;·omega
  exact(hown _ hh).2.1 rfl
 ·obtain⟨a1,a2,a3,a4⟩:=h.a.jn k hk;have hz:=lt_of_cell a1;refine⟨(aH (w:=w) (a:=⟨x.J k,0,none⟩) (hT.block _ hz (fun hh=>?_))).trans a1,a2,a3,fun r hr=>?_⟩
  ·obtain hh|hh:=hh;·exact a3 hh
   exact a4 va (by simp[fZ]) hh
  have:=OH (va:=va) hr;obtain h'|rfl:=this;·exact a4 r h'
  intro e;obtain hl|hl|⟨n,hl,h1,_⟩:=hloc;·rw[hl]at e;exact a4 va (by simp[fZ]) e
  ·rw[hl]at e;cases e
  rw[hl]at e;cases e;omega
 ·obtain hk|hk:=hk;·exact aj (ak hk)
  exact aj (aj ⟨va,by simp[fZ],hk⟩)
 obtain hk'|hk'|⟨u,hu,hk'⟩:=hk';·exact ak hk'
 ·exact aj (ak hk')
 have:=OH (va:=va) hu;obtain h'|rfl:=this;·exact aj (aj ⟨u,h',hk'⟩)
 obtain hl|hl|⟨n,hl,h1,_⟩:=hloc;·rw[hl]at hk';exact aj (aj ⟨va,by simp[fZ],hk'⟩)
 ·rw[hl]at hk';cases hk'
 rw[hl]at hk';cases hk';omega
def PS(x:Cx)(m:Ms)(w:dY)(f:Nat->dZ)(va:dZ)(w':dY):Prop:=∃v',MK x m w' (upd f 0 v') va/\Fr x w f va w' (upd f 0 v') va
theorem gu.trans{x:Cx}{m1 m2:Ms}{w w1 w2:dY}{f f1:Nat->dZ}{va jD:dZ}(_h1:MK x m1 w1 f1 jD)(hF:Fr x w f va w1 f1 jD)(h2:gu x m2 w1 f1 jD w2):gu x m2 w f va w2:=by obtain⟨f2,jO,k1,k2⟩:=h2;exact⟨f2,jO,k1,hF.trans k2⟩
theorem ZV:(Tryz.prog.info? 2).map (fun i=>(i.zero,i.size,i.bytes))=some (some (eF 0),1,8):=by kernel_rfl
theorem zn5:(Tryz.prog.info? 279).map (fun i=>(i.zero,i.size,i.bytes))=some (some (.agg #[eF 0,eF 0]),2,16):=by kernel_rfl
theorem Nu:(Tryz.prog.info? 228).map (fun i=>(i.zero,i.size,i.bytes))=some (some (.agg #[eF 0,eF 0,eF 0]),3,24):=by kernel_rfl
theorem MK.grown{x:Cx}{m:Ms}{w W w3:dY}{f:Nat->dZ}{va v':dZ}{o:Nat}(h:MK x m w f va)(ho:f o∈fZ f va)(ho9:o<90)(hW:fE (fun _=>False) w W){e:TypeId}{s n:Nat}{xs:List dZ}(hown:w3.ownsRow x.B e s v' n xs)(hg:W.grownBy w3 (f o).ownBlock)(hloc:v'.ownBlock=(f o).ownBlock\/v'.ownBlock=some W.heap.size):fE (fun k=>(f o).ownBlock=some k) w w3/\(v'.ownBlock=(f o).ownBlock\/∃n,v'.ownBlock=some n/\w.heap.size<=n/\n<w3.heap.size)/\w3.cell? ⟨x.g,o,none⟩=some (f o)/\w3.frozen? ⟨x.g,o,none⟩=false:=by
 have hT:fE (fun k=>(f o).ownBlock=some k) w w3:=(hW.mono fun _ _ h=>h.elim).grown hg fun k hk=>ak hk;have lV:¬(f o).ownBlock=some x.g:=fun e=>(h.a.sep.own _ ho _ e).2.1 rfl;have hb:=h.a.blk.oL (by decide) hT lV;refine⟨hT,?_,hb.cell o ho9,hb.fr o⟩;obtain hl|hl:=hloc;·exact ak hl
 exact aj ⟨_,hl,hW.size,(hown.lt _ hl).2⟩
theorem MK.Q6(hj:jV x)(h:MK x m w f va)(v:Int)(hW:fE (fun _=>False) w W):∀v' w3,w3.ownsRow x.B 2 1 v' (m.st.length+1) (lD m.st.reverse++[eF v])->W.grownBy w3 (f 0).ownBlock->(v'.ownBlock=(f 0).ownBlock\/v'.ownBlock=some W.heap.size) ->
   ∃a1 n1 c1,v'=.slice a1 n1 c1/\w3.cell? ⟨x.g,0,none⟩=some (f 0)/\w3.frozen? ⟨x.g,0,none⟩=false/\Hid (PS x {m with st:=v::m.st} w f va (w3.setCell ⟨x.g,0,none⟩ v')):=by
 intro v' w3 hown hg hloc;obtain⟨a1,n1,c1,rfl⟩:=lu hown;obtain⟨hT,hl,hc,hf⟩:=h.grown (o:=0) (by simp[fZ]) (by decide) hW hown hg hloc;obtain⟨k1,k2⟩:=h.TP hj (v::m.st) hT hl (by rw[dO,zod];exact hown);exact⟨_,_,_,rfl,hc,hf,_,k1,k2⟩
theorem MK.Nt(hj:jV x)(h:MK x m w f va)(u:Nat×Int)(hW:fE (fun _=>False) w W):∀v' w3,w3.ownsRow x.B 279 2 v' (m.fV.length+1) (pY m.fV.reverse++[eF (u.1:Int),eF u.2])->W.grownBy w3 (f 1).ownBlock->(v'.ownBlock=(f 1).ownBlock\/v'.ownBlock=some W.heap.size) ->
   ∃a1 n1 c1,v'=.slice a1 n1 c1/\w3.cell? ⟨x.g,1,none⟩=some (f 1)/\w3.frozen? ⟨x.g,1,none⟩=false/\Hid (gu x {m with fV:=u::m.fV} w f va (w3.setCell ⟨x.g,1,none⟩ v')):=by
 intro v' w3 hown hg hloc;obtain⟨a1,n1,c1,rfl⟩:=lu hown;obtain⟨hT,hl,hc,hf⟩:=h.grown (o:=1) (by simp[fZ]) (by decide) hW hown hg hloc;obtain⟨k1,k2⟩:=h.ZR hj (u::m.fV) hT hl (by rw[dO,ZO];exact hown);exact⟨_,_,_,rfl,hc,hf,_,_,k1,k2⟩
theorem MK.zju(hj:jV x)(h:MK x m w f va)(b:Nat×Nat×Nat)(hW:fE (fun _=>False) w W):∀v' w3,w3.ownsRow x.B 228 3 v' (m.fK.length+1) (oH m.fK.reverse++[eF (b.1:Int),eF (b.2.1:Int),eF (b.2.2:Int)])->W.grownBy w3 (f 2).ownBlock->(v'.ownBlock=(f 2).ownBlock\/v'.ownBlock=some W.heap.size) ->
   ∃a1 n1 c1,v'=.slice a1 n1 c1/\w3.cell? ⟨x.g,2,none⟩=some (f 2)/\w3.frozen? ⟨x.g,2,none⟩=false/\Hid (gu x {m with fK:=b::m.fK} w f va (w3.setCell ⟨x.g,2,none⟩ v')):=by
 intro v' w3 hown hg hloc;obtain⟨a1,n1,c1,rfl⟩:=lu hown;obtain⟨hT,hl,hc,hf⟩:=h.grown (o:=2) (by simp[fZ]) (by decide) hW hown hg hloc;obtain⟨k1,k2⟩:=h.ZT hj (b::m.fK) hT hl (by rw[dO,ZP];exact hown);exact⟨_,_,_,rfl,hc,hf,_,_,k1,k2⟩
theorem Nz{b:Nat}{p q:dZ}(h:W.heap[b]?=some (.cells #[p,q] t)):∀j u,[p,q][j]?=some u->W.cell? ((⟨b,0,none⟩:Addr).add j)=some u:=by intro j u hj;match j,hj with| 0,hj=>simp at hj;subst hj;simp[Addr.add,World.cell?,h]| 1,hj=>simp at hj;subst hj;simp[Addr.add,World.cell?,h]
theorem FV(hj:jV x)(m:Ms)(w:dY)(f:Nat->dZ)(va:dZ)(h:MK x m w f va)(v:Int)(hl:m.st.length<=10000000):fI 98 #[fq x.g,eF v] w fun e w'=>e=fM (.tuple #[])/\PS x {m with st:=v::m.st} w f va w':=by
 have c0:=h.a.blk.cell 0 (by decide);obtain⟨a,n,cp,e0⟩:=lu h.a.st;obtain⟨i0,hi,hz0,hz1,hz2⟩:=info_parts ZV;have hW:fE (fun _=>False) w (w.alloc (.cells #[eF v] 2)):=(fE.refl _ _).alloc _;have hgz:=h.a.lt;have hB:=h.a.hB;have O1:Hid ((w.alloc (.cells #[eF v] 2)).ownsRow x.B 2 1 (f 0) m.st.length (lD m.st.reverse)):=iM h.a.st hW (fun _ _ h=>h);have O2:Hid (∀j u,[Value.int .i64 v][j]?=some u->(w.alloc (.cells #[eF v] 2)).cell? ((⟨w.heap.size,0,none⟩:Addr).add j)=some u):=Zz (t:=2) (by show(w.heap.push _)[w.heap.size]?=_;rw[aD,aA rfl]);have O3:Hid (∀u∈[Value.int .i64 v],u.oneCell'=true):=by intro u hu;simp at hu;subst hu;rfl
 have O4:Hid (m.st.length+1<=maxLen):=by unfold Hid maxLen;omega
 have O5:Hid ((m.st.length+1)*8<=140737488355328):=by unfold Hid;omega
 have O6:Hid (x.B<=(w.alloc (.cells #[eF v] 2)).heap.size):=by have:=hW.size;unfold Hid;omega
 have AQ:Hid _:=h.Q6 hj v hW;rw[e0]at O1 AQ c0;go_enter Tryz.func98,Tryz.ntmps98;go_wp2_with (first|(at_builtin;refine wpList_append_own_at _ rfl _ _ 141 rfl x.B 2 i0 (eF 0) 1 8 Tryz.underlying141 hi hz0 hz1 hz2 rfl (bX 0) _ _ _ rfl O1.o _ 1 1 _ rfl rfl O2.o O3.o O4.o O5.o O6.o ?_;intro v' w3 hown' hgrow _ hloc;obtain⟨a1,n1,k1,rfl,hc3,hf3,HN⟩:=AQ.o v' w3 hown' hgrow hloc;clear hown' hgrow hloc)|fail)
 go_end0
 exact⟨rfl,HN.o⟩
theorem KH{s:Nat}(h:w.ownsRow B e s v n xs)(hn:0<n):∃q c,v=.slice (some ⟨q,0,none⟩) n c:=by
 obtain⟨_,h1⟩|⟨g,cap,cur,h1,_⟩:=h.2;·omega
 exact⟨g,cap,h1⟩
variable{r:List Int}
theorem zk2{q:Nat}{v:Int}(h:w.ownsRow B 2 1 (.slice (some ⟨q,0,none⟩) n c) n (lD (v::r).reverse)):n=r.length+1/\w.cell? ⟨q,r.length,none⟩=some (eF v):=by have hl:=h.1;simp[lD]at hl;refine⟨by omega,?_⟩;rw[h.cellAt r.length (by omega)];simp[lD]
theorem MK.top(hj:jV x)(h:MK x m w f va){v:Int}(hst:m.st=v::r):∃q c,f 0=.slice (some ⟨q,0,none⟩) (r.length+1) c/\w.cell? ⟨q,r.length,none⟩=some (eF v)/\r.length+1<=c/\w.cell? ⟨x.g,0,none⟩=some (.slice (some ⟨q,0,none⟩) (r.length+1) c)/\w.frozen? ⟨x.g,0,none⟩=false /\
   ∀k,k<=m.st.length->Hid (PS x {m with st:=m.st.drop (m.st.length-k)} w f va (w.setCell ⟨x.g,0,none⟩ (.slice (some ⟨q,0,none⟩) k c))):=by
 have hs:=h.a.st;have hlen:m.st.length=r.length+1:=by rw[hst];rfl
 obtain⟨q,c,e⟩:=KH hs (by omega);have hs':=hs;rw[e,hst]at hs;obtain⟨e1,e2⟩:=zk2 hs;rw[e]at hs';have hc0:=h.a.blk.cell 0 (by decide);rw[e,hlen]at hc0;have hcap:r.length+1<=c:=by
  obtain⟨h1,_⟩|⟨g,cap,cur,h1,_,_,h2,_⟩:=hs.2;·cases h1
  ·cases h1;rw[hlen]at *;simpa using h2
 refine⟨q,c,by rw[e,hlen],e2,hcap,hc0,h.a.blk.fr 0,fun k hk=>?_⟩;have hT:fE (fun k=>(f 0).ownBlock=some k) w w:=fE.refl _ _;have hcut:=OG hs' hk;obtain⟨k1,k2⟩:=h.TP (v':=.slice (some ⟨q,0,none⟩) k c) hj (m.st.drop (m.st.length-k)) hT (ak (by rw[e];rfl)) (by
  have hl:(m.st.drop (m.st.length-k)).length=k:=by rw[List.length_drop];omega
  rw[hl];have:lD (m.st.drop (m.st.length-k)).reverse=(lD m.st.reverse).take (k*1):=by unfold lD;rw[<- List.map_take,Nat.mul_one,List.reverse_drop];congr 2;omega
  rw[this];exact hcut)
 exact⟨_,k1,k2⟩
theorem KI(hj:jV x)(m:Ms)(w:dY)(f:Nat->dZ)(va:dZ)(h:MK x m w f va)(v:Int)(r:List Int)(hst:m.st=v::r)(hl:r.length<=10000000):fI 129 #[fq x.g] w fun e w'=>e=fM (eF v)/\fE (fun _=>False) w w':=by
 obtain⟨q,c,_,c1,hcap,c0,cf,hP⟩:=h.top hj hst;generalize r.length=K at *;have hk0:(0:Int)<=(K:Int)+1-1:=by omega
 have hk1:(K:Int)+1-1<K+1:=by omega
 go_enter Tryz.func129,Tryz.ntmps129;go_wp2_with fail;go_region
 all_goals
  go_wp2_with fail;go_ret;exact⟨rfl,(fE.refl _ _).drew⟩
theorem yP(hj:jV x)(m:Ms)(w:dY)(f:Nat->dZ)(va:dZ)(h:MK x m w f va)(v:Int)(r:List Int)(hst:m.st=v::r)(hl:r.length<=10000000):fI 101 #[fq x.g] w fun e w'=>e=fM (eF v)/\PS x {m with st:=r} w f va w':=by
 have HH:Hid (MK x m w f va):=h;go_enter Tryz.func101,Tryz.ntmps101;go_wp2_with fail;refine(KI hj m w f va HH.o v r hst hl).mono ?_;rintro e w1 ⟨rfl,hT⟩;obtain⟨h1,hF⟩:=HH.o.same hj hT;obtain⟨q,c,_,c1,hcap,c0,cf,hP⟩:=h1.top hj hst;have HP:Hid (PS x {m with st:=r} w f va (w1.setCell ⟨x.g,0,none⟩ (.slice (some ⟨q,0,none⟩) r.length c))):=by
  obtain⟨v',k1,k2⟩:=(hP r.length (by rw[hst];simp)).o;refine⟨v',?_,hF.trans k2⟩;have e:m.st.drop (m.st.length-r.length)=r:=by rw[hst];simp
  rw[e]at k1;exact k1
 generalize r.length=K at *;go_wp2;go_end0
 go_wp2;go_ret;exact⟨rfl,HP.o⟩
theorem MK.TU(hj:jV x)(h:MK x m w f va){u:Nat×Int}{r:List (Nat×Int)}(hu:m.fV=u::r):∃q c,f 1=.slice (some ⟨q,0,none⟩) (r.length+1) c/\w.cell? ⟨q,r.length*2,none⟩=some (eF (u.1:Int))/\w.cell? ⟨q,r.length*2+1,none⟩=some (eF u.2)/\r.length+1<=c /\
   Hid (gu x {m with fV:=r} w f va (w.setCell ⟨x.g,1,none⟩ (.slice (some ⟨q,0,none⟩) r.length c))):=by
 have hs:=h.a.un;have hlen:m.fV.length=r.length+1:=by rw[hu];rfl
 obtain⟨q,c,e⟩:=KH hs (by omega);rw[e,hlen]at hs;have hcap:r.length+1<=c:=by
  obtain⟨h1,_⟩|⟨g,cap,cur,h1,_,_,h2,_⟩:=hs.2;·cases h1
  ·cases h1;exact h2
 have hx:pY m.fV.reverse=pY r.reverse++[eF (u.1:Int),eF u.2]:=by rw[hu,dO,ZO];rfl
 have hl:(pY r.reverse).length=r.length*2:=by rw[zkw,List.length_reverse]
 have h0:(pY m.fV.reverse)[r.length*2]?=some (eF (u.1:Int)):=by rw[hx,aY (by omega),hl,Nat.sub_self];rfl
 have h1:(pY m.fV.reverse)[r.length*2+1]?=some (eF u.2):=by rw[hx,aY (by omega),hl,show r.length*2+1-r.length*2=1 by omega];rfl
 refine⟨q,c,by rw[e,hlen],by rw[hs.cellAt _ (by omega)];exact h0,by rw[hs.cellAt _ (by omega)];exact h1,hcap,?_⟩;have hcut:=OG hs (k:=r.length) (by omega);rw[hx,List.take_left' hl]at hcut;obtain⟨k1,k2⟩:=h.ZR (v':=.slice (some ⟨q,0,none⟩) r.length c) hj r (fE.refl _ _) (ak (by rw[e];rfl)) hcut;exact⟨_,_,k1,k2⟩
theorem MK.ZW(_hj:jV x)(h:MK x m w f va){b:Nat×Nat×Nat}{r:List (Nat×Nat×Nat)}(hb:m.fK=b::r):∃q c,f 2=.slice (some ⟨q,0,none⟩) (r.length+1) c/\w.cell? ⟨q,r.length*3,none⟩=some (eF (b.1:Int))/\w.cell? ⟨q,r.length*3+1,none⟩=some (eF (b.2.1:Int))/\w.cell? ⟨q,r.length*3+2,none⟩=some (eF (b.2.2:Int))/\r.length+1<=c /\
   w.ownsRow x.B 228 3 (.slice (some ⟨q,0,none⟩) r.length c) r.length (oH r.reverse):=by
 have hs:=h.a.be;have hlen:m.fK.length=r.length+1:=by rw[hb];rfl
 obtain⟨q,c,e⟩:=KH hs (by omega);rw[e,hlen]at hs;have hcap:r.length+1<=c:=by
  obtain⟨h1,_⟩|⟨g,cap,cur,h1,_,_,h2,_⟩:=hs.2;·cases h1
  ·cases h1;exact h2
 have hx:oH m.fK.reverse=oH r.reverse++[eF (b.1:Int),eF (b.2.1:Int),eF (b.2.2:Int)]:=by rw[hb,dO,ZP];rfl
 have hl:(oH r.reverse).length=r.length*3:=by rw[zo5,List.length_reverse]
 have h0:(oH m.fK.reverse)[r.length*3]?=some (eF (b.1:Int)):=by rw[hx,aY (by omega),hl,Nat.sub_self];rfl
 have h1:(oH m.fK.reverse)[r.length*3+1]?=some (eF (b.2.1:Int)):=by rw[hx,aY (by omega),hl,show r.length*3+1-r.length*3=1 by omega];rfl
 have h2:(oH m.fK.reverse)[r.length*3+2]?=some (eF (b.2.2:Int)):=by rw[hx,aY (by omega),hl,show r.length*3+2-r.length*3=2 by omega];rfl
 refine⟨q,c,by rw[e,hlen],by rw[hs.cellAt _ (by omega)];exact h0,by rw[hs.cellAt _ (by omega)];exact h1,by rw[hs.cellAt _ (by omega)];exact h2,hcap,?_⟩;have hcut:=OG hs (k:=r.length) (by omega);rw[hx,List.take_left' hl]at hcut;exact hcut
theorem DT{e z m:Nat}{cs:List dZ}(h:w.ownsRow B e z (.slice a n k) m cs):n=m:=by
 obtain⟨h1,h2⟩|⟨g,cap,cur,h1,_⟩:=h.2;·cases h1;exact h2.symm
 cases h1;rfl
theorem ztq(hj:jV x)(m:Ms)(w:dY)(f:Nat->dZ)(va:dZ)(h:MK x m w f va)(i:Nat)(v:Int)(hl:m.fV.length<=10000000):fI 128 #[.pointer (some ⟨x.g,1,none⟩),eF (i:Int),eF v] w fun e w'=>e=fM (.tuple #[])/\gu x {m with fV:=(i,v)::m.fV} w f va w':=by
 have c0:=h.a.blk.cell 1 (by decide);obtain⟨a,n,cp,e0⟩:=lu h.a.un;obtain⟨i0,hi,hz0,hz1,hz2⟩:=info_parts zn5;have hW:fE (fun _=>False) w (w.alloc (.cells #[eF (i:Int),eF v] 279)):=(fE.refl _ _).alloc _;have hgz:=h.a.lt;have hB:=h.a.hB;have O1:Hid ((w.alloc (.cells #[eF (i:Int),eF v] 279)).ownsRow x.B 279 2 (f 1) m.fV.length (pY m.fV.reverse)):=iM h.a.un hW (fun _ _ h=>h);have O2:Hid (∀j u,[Value.int .i64 (i:Int),eF v][j]?=some u->(w.alloc (.cells #[eF (i:Int),eF v] 279)).cell? ((⟨w.heap.size,0,none⟩:Addr).add j)=some u):=Nz (t:=279) (by show(w.heap.push _)[w.heap.size]?=_;rw[aD,aA rfl]);have O3:Hid (∀u∈[Value.int .i64 (i:Int),eF v],u.oneCell'=true):=by intro u hu;simp at hu;obtain rfl|rfl:=hu<;>rfl
 have O4:Hid (m.fV.length+1<=maxLen):=by unfold Hid maxLen;omega
 have O5:Hid ((m.fV.length+1)*16<=140737488355328):=by unfold Hid;omega
 have O6:Hid (x.B<=(w.alloc (.cells #[eF (i:Int),eF v] 279)).heap.size):=by have:=hW.size;unfold Hid;omega
 have AQ:Hid _:=h.Nt hj (i,v) hW;rw[e0]at O1 AQ c0;go_enter Tryz.func128,Tryz.ntmps128;go_wp2_with (first|(at_builtin;refine wpList_append_own_at _ rfl _ _ 148 rfl x.B 279 i0 (.agg #[eF 0,eF 0]) 2 16 Tryz.underlying148 hi hz0 hz1 hz2 rfl (bX 1) _ _ _ rfl O1.o _ 1 1 _ rfl rfl O2.o O3.o O4.o O5.o O6.o ?_;intro v' w3 hown' hgrow _ hloc;obtain⟨a1,n1,k1,rfl,hc3,hf3,HN⟩:=AQ.o v' w3 hown' hgrow hloc;clear hown' hgrow hloc)|fail)
 go_end0
 exact⟨rfl,HN.o⟩
theorem zjt(hj:jV x)(m:Ms)(w:dY)(f:Nat->dZ)(va:dZ)(h:MK x m w f va)(a2 a3:Nat)(hl:m.fK.length<=10000000)(_hu:m.fV.length<=10000000):fI 120 #[.pointer (some ⟨x.g,1,none⟩),eF (a2:Int),eF (a3:Int)] w fun e w'=>e=fM (.tuple #[])/\gu x {m with fK:=(m.fV.length,a2,a3)::m.fK} w f va w':=by
 have c0:=h.a.blk.cell 2 (by decide);have c1:=h.a.blk.cell 1 (by decide);obtain⟨a,n,cp,e0⟩:=lu h.a.be;obtain⟨au,nu,cu,eu⟩:=lu h.a.un;obtain rfl:nu=m.fV.length:=by have:=h.a.un;rw[eu]at this;exact DT this
 obtain⟨i0,hi,hz0,hz1,hz2⟩:=info_parts Nu;have hW:fE (fun _=>False) w (w.alloc (.cells #[eF (m.fV.length:Int),eF (a2:Int),eF (a3:Int)] 228)).drew:=((fE.refl _ _).alloc _).drew;have hgz:=h.a.lt;have hB:=h.a.hB;have O1:Hid ((w.alloc (.cells #[eF (m.fV.length:Int),eF (a2:Int),eF (a3:Int)] 228)).drew.ownsRow x.B 228 3 (f 2) m.fK.length (oH m.fK.reverse)):=iM h.a.be hW (fun _ _ h=>h);have O2:Hid (∀j u,[Value.int .i64 (m.fV.length:Int),eF (a2:Int),eF (a3:Int)][j]?=some u->(w.alloc (.cells #[eF (m.fV.length:Int),eF (a2:Int),eF (a3:Int)] 228)).drew.cell? ((⟨w.heap.size,0,none⟩:Addr).add j)=some u):=ZB (t:=228) (by show(w.heap.push _)[w.heap.size]?=_;rw[aD,aA rfl]);have O3:Hid (∀u∈[Value.int .i64 (m.fV.length:Int),eF (a2:Int),eF (a3:Int)],u.oneCell'=true):=by intro u hu;simp at hu;obtain rfl|rfl|rfl:=hu<;>rfl
 have O4:Hid (m.fK.length+1<=maxLen):=by unfold Hid maxLen;omega
 have O5:Hid ((m.fK.length+1)*24<=140737488355328):=by unfold Hid;omega
 have O6:Hid (x.B<=(w.alloc (.cells #[eF (m.fV.length:Int),eF (a2:Int),eF (a3:Int)] 228)).drew.heap.size):=by have:=hW.size;unfold Hid;omega
 have AQ:Hid _:=h.zju hj (m.fV.length,a2,a3) hW;rw[e0]at O1 AQ c0;rw[eu]at c1;generalize m.fV.length=U at *;go_enter Tryz.func120,Tryz.ntmps120;go_wp2_with fail;go_region_law (refine zk rfl _ _ 149 rfl x.B 228 i0 (.agg #[eF 0,eF 0,eF 0]) 3 24 Tryz.underlying149 hi hz0 hz1 hz2 rfl (bX 2) _ _ _ rfl O1.o _ 1 1 _ rfl rfl O2.o O3.o O4.o O5.o O6.o ?_;intro v' w3 hown' hgrow hloc;obtain⟨a1,n1,k1,rfl,hc3,hf3,HN⟩:=AQ.o v' w3 hown' hgrow hloc;clear hown' hgrow hloc)
 all_goals
  go_wp2_with fail;go_end0
  exact⟨rfl,HN.o⟩
theorem qxa(hj:jV x)(m:Ms)(w:dY)(f:Nat->dZ)(va:dZ)(h:MK x m w f va)(u:Nat×Int)(r:List (Nat×Int))(hu:m.fV=u::r)(hl:r.length<=10000000):fI 208 #[.pointer (some ⟨x.g,1,none⟩)] w fun e w'=>e=fM (.tuple #[])/\gu x {m with fV:=r} w f va w':=by
 have hT:fE (fun _=>False) w w.drew:=(fE.refl _ _).drew;obtain⟨h1,hF⟩:=h.same hj hT;obtain⟨q,c,e1,_,_,hcap,HP⟩:=h1.TU hj hu;have HQ:Hid (gu x {m with fV:=r} w f va (w.drew.setCell ⟨x.g,1,none⟩ (.slice (some ⟨q,0,none⟩) r.length c))):=gu.trans h1 hF HP.o;have c1:=h.a.blk.cell 1 (by decide);have cf:=h.a.blk.fr 1;rw[e1]at c1;generalize r.length=K at *;go_enter Tryz.func208,Tryz.ntmps208;go_wp2_with fail;go_region
 all_goals
  go_wp2_with fail;go_end0
  exact⟨rfl,HQ.o⟩
def uI(m:Ms):dZ×Bool:=
 match m.fV with
 |[]=>(.agg #[eF 0,eF 0],false)
 |u::_=>if m.fV.length=nQ m then(.agg #[eF 0,eF 0],false)else(.agg #[eF (u.1:Int),eF u.2],true)
theorem zmt(hj:jV x)(m:Ms)(w:dY)(f:Nat->dZ)(va:dZ)(h:MK x m w f va)(hl:m.fK.length<=10000000)(hu:m.fV.length<=10000000)(hfl:nQ m<=m.fV.length):fI 206 #[.pointer (some ⟨x.g,1,none⟩)] w fun e w'=>e=fM (.tuple #[(uI m).1,.bool (uI m).2])/\fE (fun _=>False) w w':=by
 have c1:=h.a.blk.cell 1 (by decide);have c2:=h.a.blk.cell 2 (by decide);have hgz:=h.a.lt;have HT:Hid (∀A:Obj,fE (fun _=>False) w (w.alloc A)):=fun A=>(fE.refl _ _).alloc A;have HD:Hid (∀A:Obj,fE (fun _=>False) w (w.alloc A).drew):=fun A=>((fE.refl _ _).alloc A).drew;have KJ:Hid (∀A:Obj,fE (fun _=>False) w (w.alloc A).drew.drew):=fun A=>((fE.refl _ _).alloc A).drew.drew;obtain⟨au,nu,cu,eu⟩:=lu h.a.un;obtain rfl:nu=m.fV.length:=by have:=h.a.un;rw[eu]at this;exact DT this
 obtain⟨ab,nb,cb,eb⟩:=lu h.a.be;obtain rfl:nb=m.fK.length:=by have:=h.a.be;rw[eb]at this;exact DT this
 cases hb:m.fK with
 |nil=>
  have hf0:nQ m=0:=by unfold nQ;rw[hb]
  rw[eb,hb]at c2;cases hun:m.fV with
  |nil=>
   have EV:uI m=(.agg #[eF 0,eF 0],false):=by unfold uI;rw[hun]
   rw[eu,hun]at c1;simp only[aV]at c1 c2;rw[EV];go_enter Tryz.func206,Tryz.ntmps206;go_wp2_with fail;refine bodyPost_ret (v:=.tuple #[.agg #[eF 0,eF 0],.bool false]) (by simp[results,Tryz.results206,go_sem]) rfl ⟨rfl,?_⟩;first|exact HT.o _|exact HD.o _|exact KJ.o _
  |cons u r=>
  have EV:uI m=(.agg #[eF (u.1:Int),eF u.2],true):=by unfold uI;rw[hf0];simp only[hun];rw[ah (by simp)]
  obtain⟨q,c,e1,TV,cu1,hcap,_⟩:=h.TU hj hun;rw[e1]at c1;rw[hun,aG]at hu;simp only[aV]at c2;rw[EV];have hq:=lt_of_cell TV;generalize r.length=K at *;go_enter Tryz.func206,Tryz.ntmps206;go_wp2_with fail;go_region
  all_goals
   go_wp2_with fail;refine bodyPost_ret (v:=.tuple #[.agg #[eF (u.1:Int),eF u.2],.bool true]) (by simp[results,Tryz.results206,go_sem]) rfl ⟨rfl,?_⟩;first|exact HT.o _|exact HD.o _|exact KJ.o _
 |cons b s=>
 have hf0:nQ m=b.1:=by unfold nQ;rw[hb]
 obtain⟨qb,kb,e2,OI,_,_,hcb,_⟩:=h.ZW hj hb;rw[e2]at c2;rw[hb,aG]at hl;have QK:=lt_of_cell OI;rw[hf0]at hfl;generalize s.length=S at *;cases hun:m.fV with
 |nil=>
  have EV:uI m=(.agg #[eF 0,eF 0],false):=by unfold uI;rw[hun]
  rw[eu,hun]at c1;have hb0:b.1=0:=by rw[hun]at hfl;simpa using hfl
  rw[hb0]at OI;simp only[aV]at c1;rw[EV];go_enter Tryz.func206,Tryz.ntmps206;go_wp2_with fail;go_region
  all_goals
   go_wp2_with fail;refine bodyPost_ret (v:=.tuple #[.agg #[eF 0,eF 0],.bool false]) (by simp[results,Tryz.results206,go_sem]) rfl ⟨rfl,?_⟩;first|exact HT.o _|exact HD.o _|exact KJ.o _
 |cons u r=>
 obtain⟨q,c,e1,TV,cu1,hcap,_⟩:=h.TU hj hun;rw[e1]at c1;have hq:=lt_of_cell TV;have hlen:m.fV.length=r.length+1:=by rw[hun];rfl
 rw[hlen]at hfl hu;by_cases he:r.length+1=b.1
 ·have EV:uI m=(.agg #[eF 0,eF 0],false):=by unfold uI;rw[hf0];simp only[hun];rw[aA (by simpa using he)]
  rw[EV];generalize r.length=K at *;generalize b.1=F at *;subst he;have ht:((K:Int)+1==((K+1:Nat):Int))=true:=by simp
  go_enter Tryz.func206,Tryz.ntmps206;go_wp2_with fail;go_region
  all_goals
   go_wp2_with fail;refine bodyPost_ret (v:=.tuple #[.agg #[eF 0,eF 0],.bool false]) (by simp[results,Tryz.results206,go_sem]) rfl ⟨rfl,?_⟩;first|exact HT.o _|exact HD.o _|exact KJ.o _
 have EV:uI m=(.agg #[eF (u.1:Int),eF u.2],true):=by unfold uI;rw[hf0];simp only[hun];rw[ah (by simpa using he)]
 rw[EV];generalize r.length=K at *;generalize b.1=F at *;have ht:¬((K:Int)+1=(F:Int)):=by omega
 go_enter Tryz.func206,Tryz.ntmps206;go_wp2_with fail;go_region
 all_goals
  go_wp2_with fail;go_region
  all_goals
   go_wp2_with fail;refine bodyPost_ret (v:=.tuple #[.agg #[eF (u.1:Int),eF u.2],.bool true]) (by simp[results,Tryz.results206,go_sem]) rfl ⟨rfl,?_⟩;first|exact HT.o _|exact HD.o _|exact KJ.o _
theorem gu.same{x:Cx}(hj:jV x){m:Ms}{w w1 w2:dY}{f:Nat->dZ}{va:dZ}(h:gu x m w f va w1)(hT:fE (fun _=>False) w1 w2):gu x m w f va w2:=by obtain⟨f1,jD,k1,k2⟩:=h;obtain⟨j1,j2⟩:=k1.same hj hT;exact⟨_,_,j1,k2.trans j2⟩
def yQ(m:Ms):dZ×Bool:=
 match m.fK with
 |[]=>(.agg #[eF 0,eF 0,eF 0],false)
 |b::_=>(.agg #[eF (b.1:Int),eF (b.2.1:Int),eF (b.2.2:Int)],true)
theorem TY(hj:jV x)(m:Ms)(w:dY)(f:Nat->dZ)(va:dZ)(h:MK x m w f va)(hl:m.fK.length<=10000000):fI 123 #[.pointer (some ⟨x.g,1,none⟩)] w fun e w'=>e=fM (.tuple #[(yQ m).1,.bool (yQ m).2])/\gu x {m with fK:=m.fK.tail} w f va w':=by
 have c2:=h.a.blk.cell 2 (by decide);have cf:=h.a.blk.fr 2;have hgz:=h.a.lt;cases hb:m.fK with
 |nil=>
  obtain⟨ab,nb,cb,eb⟩:=lu h.a.be;obtain rfl:nb=m.fK.length:=by have:=h.a.be;rw[eb]at this;exact DT this
  rw[eb,hb]at c2;simp only[aV]at c2;have EV:yQ m=(.agg #[eF 0,eF 0,eF 0],false):=by unfold yQ;rw[hb]
  rw[EV];have HT:Hid (∀A:Obj,gu x {m with fK:=[]} w f va (w.alloc A)):=fun A=>by
   obtain⟨k1,k2⟩:=h.same hj ((fE.refl _ _).alloc A);refine⟨_,_,?_,k2⟩;have:({m with fK:=[]}:Ms)=m:=by cases m;simp at hb;subst hb;rfl
   rw[this];exact k1
  go_enter Tryz.func123,Tryz.ntmps123;go_wp2_with fail;refine bodyPost_ret (v:=.tuple #[.agg #[eF 0,eF 0,eF 0],.bool false]) (by simp[results,Tryz.results123,go_sem]) rfl ⟨rfl,?_⟩;exact HT.o _
 |cons b r=>
 have EV:yQ m=(.agg #[eF (b.1:Int),eF (b.2.1:Int),eF (b.2.2:Int)],true):=by unfold yQ;rw[hb]
 rw[EV];rw[hb,aG]at hl;obtain⟨q,c,e2,OI,ZX,ZY,hcap,hown⟩:=h.ZW hj hb;rw[e2]at c2;have hq:=lt_of_cell OI;have HQ:Hid (∀A A':Obj,gu x {m with fK:=r} w f va (((w.setCell ⟨x.g,2,none⟩ (.slice (some ⟨q,0,none⟩) r.length c)).alloc A).alloc A')):=fun A A'=>by obtain⟨k1,k2⟩:=h.ZT (v':=.slice (some ⟨q,0,none⟩) r.length c) hj r (fE.refl _ _) (ak (by rw[e2];rfl)) hown;exact gu.same hj ⟨_,_,k1,k2⟩ (((fE.refl _ _).alloc A).alloc A')
 generalize r.length=K at *;go_enter Tryz.func123,Tryz.ntmps123;go_wp2_with fail;refine bodyPost_ret (v:=.tuple #[.agg #[eF (b.1:Int),eF (b.2.1:Int),eF (b.2.2:Int)],.bool true]) (by simp[results,Tryz.results123,go_sem]) rfl ⟨rfl,?_⟩;exact HQ.o _ _
def zV(a:iL):dZ:=.agg #[.string a.eH,eF a.arg,eF (a.nth:Int),.bool a.undo]
def OJ(K:List Int->List iL->dZ->dY->Prop)(jl:Nat)(l:List Int)(a:List iL)(va:dZ)(ask:iL)(w:dY)(e:Ending)(w':dY):Prop:=e=fM (.tuple #[eF (l.headD 0),.bool (!l.isEmpty)])/\∃va',K l.tail (a++[ask]) va' w'/\fE (fun k=>k=jl\/va.ownBlock=some k) w w'/\(va'.ownBlock=va.ownBlock\/va'.ownBlock=none\/∃n,va'.ownBlock=some n/\w.heap.size<=n/\n<w'.heap.size)
structure JA(x:Cx)(fn:Nat):Prop where
 ok:jV x
 ans:∀(l:List Int)(a:List iL)(va:dZ)(w:dY)(ask:iL),x.K l a va w->x.B<=w.heap.size->a.length<=10000000->Calls Tryz.prog fn #[fq x.jl,zV ask] w (OJ x.K x.jl l a va ask w)
def vM(x:Cx)(m:Ms)(i:Nat)(arg:Int)(most:Nat)(und:Bool)(w:dY)(f:Nat->dZ)(va:dZ)(e:Ending)(w':dY):Prop:=e=fM (.tuple #[eF (iI x.P i arg most und m).2.1,iW x (iI x.P i arg most und m).1])/\gu x (iI x.P i arg most und m).2.2 w f va w'
def zyp(x:Cx)(m:Ms)(a:iL)(w:dY)(f:Nat->dZ)(va:dZ)(e:Ending)(w1:dY):Prop:=
 e=fM (.tuple #[eF (m.left.headD 0),.bool (!m.left.isEmpty)])/\(∀k o v,(k=x.g\/(k<x.B/\k≠x.jl))->w.cell? ⟨k,o,none⟩=some v->w1.cell? ⟨k,o,none⟩=some v)/\w1.frozen? ⟨x.g,87,none⟩=false /\
  w1.cell? ⟨11,0,none⟩=some (.iface 393 (.pointer (some (x.E 1))))/\w1.cell? ⟨13,0,none⟩=some (.iface 393 (.pointer (some (x.E 2))))/\w1.cell? ⟨14,0,none⟩=some (.iface 393 (.pointer (some (x.E 3))))/\21<=x.g /\
  Hid (∃va',MK x {m with left:=m.left.tail,eY:=m.eY++[a]} w1 f va'/\Fr x w f va w1 f va')
theorem zve{fn:Nat}(ja:JA x fn)(h:MK x m w f va)(a:iL)(ha:m.eY.length<=10000000):∀W,fE (fun _=>False) w W->Calls Tryz.prog fn #[fq x.jl,zV a] W (zyp x m a w f va):=by
 intro W hT;obtain⟨k1,k2⟩:=h.same ja.ok hT;refine aB (ja.ans _ _ _ _ a k1.k (by have:=k1.a.lt;have:=k1.a.hB;omega) ha) ?_;rintro e w1 ⟨rfl,va',h1,h2,h3⟩;obtain⟨j1,j2⟩:=k1.TS h1 h2 h3;have vo:fE (fun k=>k=x.jl\/va.ownBlock=some k) w w1:=(hT.mono fun _ _ h=>h.elim).trans h2;have hc:∀k o v,(k=x.g\/(k<x.B/\k≠x.jl))->w.cell? ⟨k,o,none⟩=some v->w1.cell? ⟨k,o,none⟩=some v:=by
  intro k o v hk hv;refine(aH (w:=w) (a:=⟨k,o,none⟩) (vo.block k (lt_of_cell hv) (fun hh=>?_))).trans hv;have hs:=h.a.sep.own va (by simp[fZ]);have h1:=h.a.hB;have h2:=h.a.hj;obtain hh|hh:=hh
  ·obtain hk|hk:=hk;·omega
   exact hk.2 hh
  obtain⟨q1,q2,_⟩:=hs k hh;obtain hk|hk:=hk;·exact q2 hk
  omega
 exact⟨rfl,hc,j1.a.blk.fr 87,j1.e.v1,j1.e.v2,j1.e.v3,aK j1.e.lo j1.a.hB,va',j1,k2.trans j2⟩
theorem gu.fD{x:Cx}(hj:jV x){m:Ms}{w w1:dY}{f:Nat->dZ}{va:dZ}(h:gu x m w f va w1)(p:Nat):gu x {m with fD:=p} w f va (w1.setCell ⟨x.g,87,none⟩ (eF (p:Int))):=by obtain⟨f1,jD,k1,k2⟩:=h;obtain⟨j1,j2⟩:=k1.zlx hj p;exact⟨_,_,j1,k2.trans j2⟩
def zX(x:Cx):Prop:=∀(m:Ms)(w:dY)(f:Nat->dZ)(va:dZ),MK x m w f va->∀(i:Nat)(arg:Int)(most:Nat)(und:Bool),i<x.P.gT.length->mZ arg->(∀v∈m.left,mZ v)->m.fD<65536->most<=65536->m.eY.length<=10000000->x.P.gT.length<=10000000 ->
  fI 163 #[fq x.g,eF (i:Int),eF arg,eF (most:Int),.bool und] w (vM x m i arg most und w f va)
theorem zma(N:Nat)(w:dY):fI 103 #[.func (.func N) #[] #[]] w fun e w'=>e=fM (.agg #[iE,eF 2,eF 1,.func (.func 162) #[] #[fq w.heap.size]])/\w'.heap.size=w.heap.size+2/\fE (fun _=>False) w w'/\w'.cell? ⟨w.heap.size,0,none⟩=some (.func (.func N) #[] #[]):=by
 have Dl:∀(fn:Fn)(first cap:Array dZ)(w:dY),(Instr.makeFunc fn first cap).run Tryz.prog w=.ok (.func fn first cap) w:=fun _ _ _ _=>rfl;have HT:Hid (∀A A':Obj,fE (fun _=>False) w ((w.alloc A).alloc A')):=fun A A'=>((fE.refl _ _).alloc A).alloc A';go_enter Tryz.func103,Tryz.ntmps103;go_wp2_with fail;refine bodyPost_ret (v:=.agg #[iE,eF 2,eF 1,.func (.func 162) #[] #[fq w.heap.size]]) (by simp[results,Tryz.results103,go_sem]) rfl ⟨rfl,?_,HT.o _ _,?_⟩;·show((w.heap.push _).push _).size=_;simp
 have h0:∀A A':Obj,((w.alloc A).alloc A').heap[w.heap.size]?=some A:=fun A A'=>by show((w.heap.push A).push A')[w.heap.size]?=_;rw[aD,ah (by simp),aD,aA rfl]
 simp[World.cell?,h0]
theorem Z0:Tryz.zeroCells139.size=80:=by kernel_rfl
theorem Z4:(Tryz.prog.info? 139).map (·.size)=some 80:=by kernel_rfl
theorem zl8(N:Nat)(w:dY):fI 103 #[.func (.func N) #[] #[]] w fun e w'=>e=fM (.agg #[iE,eF 2,eF 1,.func (.func 162) #[] #[fq w.heap.size]])/\w'.heap.size=w.heap.size+2/\Hid (fE (fun _=>False) w w'/\w'.cell? ⟨w.heap.size,0,none⟩=some (.func (.func N) #[] #[])):=by refine(zma N w).mono ?_;rintro e w1 ⟨rfl,hs,hT,hc⟩;exact⟨rfl,hs,hT,hc⟩
def pz(n:Nat):List dZ:=[.slice (some ⟨n+1,0,none⟩) 1 1,eF 0,eF 1,.func (.func 97) #[] #[],.slice (some ⟨n+2,0,none⟩) 1 1,eF 0,eF 1,.func (.func 99) #[] #[],.slice (some ⟨n+3,0,none⟩) 1 1,eF 1,eF 0,.func (.func 100) #[] #[],iE,eF 1,eF 0,.func (.func 102) #[] #[],iE,eF 2,eF 1,.func (.func 162) #[] #[.pointer (some ⟨n+4,0,none⟩)],iE,eF 2,eF 1,.func (.func 162) #[] #[.pointer (some ⟨n+6,0,none⟩)],iE,eF 2,eF 1,.func (.func 162) #[] #[.pointer (some ⟨n+8,0,none⟩)],iE,eF 2,eF 1,.func (.func 107) #[] #[],iE,eF 2,eF 1,.func (.func 162) #[] #[.pointer (some ⟨n+10,0,none⟩)],iE,eF 2,eF 1,.func (.func 162) #[] #[.pointer (some ⟨n+12,0,none⟩)],iE,eF 2,eF 1,.func (.func 162) #[] #[.pointer (some ⟨n+14,0,none⟩)],iE,eF 1,eF 1,.func (.func 113) #[] #[],.slice (some ⟨n+16,0,none⟩) 1 1,eF 0,eF 0,.func (.func 114) #[] #[],.slice (some ⟨n+17,0,none⟩) 1 1,eF 1,eF 0,.func (.func 115) #[] #[],.slice (some ⟨n+18,0,none⟩) 1 1,eF 1,eF 1,.func (.func 117) #[] #[],.slice (some ⟨n+19,0,none⟩) 1 1,eF 0,eF 0,.func (.func 119) #[] #[],.slice (some ⟨n+20,0,none⟩) 1 1,eF 0,eF 0,.func (.func 122) #[] #[],iE,eF 0,eF 0,.func (.func 124) #[] #[],.slice (some ⟨n+21,0,none⟩) 2 2,eF 1,eF 1,.func (.func 125) #[] #[],.slice (some ⟨n+22,0,none⟩) 1 1,eF 1,eF 1,.func (.func 127) #[] #[]]
def oI(n:Nat)(k:Nat):Nat:=if k=4 then n+4 else if k=5 then n+6 else if k=6 then n+8 else if k=8 then n+10 else if k=9 then n+12 else n+14
theorem zrn(n k:Nat)(hk:k<20):(pz n)[4*k+3]?=some (.func (.func (pq k)) #[] (tK (oI n) k)):=by match k,hk with| 0,_=>rfl| 1,_=>rfl| 2,_=>rfl| 3,_=>rfl| 4,_=>rfl| 5,_=>rfl| 6,_=>rfl| 7,_=>rfl| 8,_=>rfl| 9,_=>rfl| 10,_=>rfl| 11,_=>rfl| 12,_=>rfl| 13,_=>rfl| 14,_=>rfl| 15,_=>rfl| 16,_=>rfl| 17,_=>rfl| 18,_=>rfl| 19,_=>rfl| k+20,hk=>exact absurd hk (by omega)
theorem qxb(n:Nat):(pz n).toArray.all (·.oneCell')=true:=by kernel_rfl
theorem ze1{ops:Array Oper}{rest:List Oper}{op:Oper}{a:Act}{Q:Exit->Act->dY->Prop}(hgd:op.guard=none)(x y:Operand)(ho:op.op=.store 139 x y)(n:Nat)(cells:Array dZ)(hx:a.eval x=fq n)(hy:a.eval y=.agg cells)(he:cells=(pz n).toArray)(ht:w.there n 0 80)(h:wpList Tryz.prog ops Q rest (a.put op.dst undef) (w.setCells n 0 (pz n))):wpList Tryz.prog ops Q (op::rest) a w:=by subst he;exact wpList_store_mid hgd _ x y ho n 0 _ hx hy ht (by rw[Z4];rfl) (qxb n) h
theorem DU(hT:fE (fun _=>False) w w')(h:w.cell? ⟨n,0,none⟩=some v):w'.cell? ⟨n,0,none⟩=some v:=(aH (w:=w) (a:=⟨n,0,none⟩) (hT.block _ (lt_of_cell h) (fun h=>h))).trans h
theorem Z5{wa wb wc wd we wf:dY}{Z A1 A2 A3:Obj}(ha:wa.heap.size=((((w.alloc Z).alloc A1).alloc A2).alloc A3).heap.size+2)(hb:wb.heap.size=wa.heap.size+2)(hc:wc.heap.size=wb.heap.size+2)(hd:wd.heap.size=wc.heap.size+2)(he:we.heap.size=wd.heap.size+2)(Pa:fE (fun _=>False) ((((w.alloc Z).alloc A1).alloc A2).alloc A3) wa/\wa.cell? ⟨((((w.alloc Z).alloc A1).alloc A2).alloc A3).heap.size,0,none⟩=some (.func (.func 104) #[] #[]))(Pb:fE (fun _=>False) wa wb/\wb.cell? ⟨wa.heap.size,0,none⟩=some (.func (.func 105) #[] #[]))(Pc:fE (fun _=>False) wb wc/\wc.cell? ⟨wb.heap.size,0,none⟩=some (.func (.func 106) #[] #[]))(Pd:fE (fun _=>False) wc wd/\wd.cell? ⟨wc.heap.size,0,none⟩=some (.func (.func 109) #[] #[]))(Pe:fE (fun _=>False) wd we/\we.cell? ⟨wd.heap.size,0,none⟩=some (.func (.func 111) #[] #[]))(Pf:fE (fun _=>False) we wf/\wf.cell? ⟨we.heap.size,0,none⟩=some (.func (.func 112) #[] #[]))(hW:fE (fun _=>False) wf W):fE (fun _=>False) (w.alloc Z) W/\∀k,ru k=true->W.cell? ⟨oI w.heap.size k,0,none⟩=some (.func (.func (xZ k)) #[] #[]):=by
 have hs:((((w.alloc Z).alloc A1).alloc A2).alloc A3).heap.size=w.heap.size+4:=by show((((w.heap.push Z).push A1).push A2).push A3).size=_;simp
 rw[hs]at ha Pa;rw[ha]at hb Pb;rw[hb]at hc Pc;rw[hc]at hd Pd;rw[hd]at he Pe;rw[he]at Pf;have te:=Pf.1.trans hW;have td:=Pe.1.trans te;have tc:=Pd.1.trans td;have tb:=Pc.1.trans tc;have ta:=Pb.1.trans tb;refine⟨((((fE.refl _ _).alloc A1).alloc A2).alloc A3).trans (Pa.1.trans ta),fun k hk=>?_⟩;unfold ru at hk;simp at hk;obtain((((rfl|rfl)|rfl)|rfl)|rfl)|rfl:=hk;·exact DU ta Pa.2
 ·exact DU tb Pb.2
 ·exact DU tc Pc.2
 ·exact DU td Pd.2
 ·exact DU te Pe.2
 exact DU hW Pf.2
theorem Z6{C:Array dZ}(hC:C.size=80)(hT:fE (fun _=>False) (w.alloc (.cells C t)) W):W.there w.heap.size 0 80:=by
 have h0:W.heap[w.heap.size]?=some (.cells C t):=by rw[hT.block _ (by show w.heap.size<(w.heap.push _).size;simp) (fun h=>h)];show(w.heap.push _)[w.heap.size]?=_;rw[aD,aA rfl]
 intro j hj;rw[cZ];refine⟨?_,by simp[World.frozen?,h0]⟩;simp[World.cell?,h0];omega
theorem qu7(b:Nat)(hb:w.heap.size<=b):∀(vs:List dZ)(o:Nat)(w1:dY),fE T w w1->fE T w (w1.setCells b o vs):=by intro vs;induction vs with| nil=>intro o w1 h;exact h| cons v vs ih=>intro o w1 h;exact ih _ _ (h.setCell (aj hb) v)
theorem qty(b k:Nat)(hk:k≠b):∀(vs:List dZ)(o:Nat)(w1:dY),(w1.setCells b o vs).cell? ⟨k,0,none⟩=w1.cell? ⟨k,0,none⟩:=by intro vs;induction vs with| nil=>intro o w1;rfl| cons v vs ih=>intro o w1;exact(ih _ _).trans (Co (fun e=>hk (congrArg Addr.block e).symm))
theorem qxj(tmps:Array dZ)(W:dY)(n:Nat)(hp:tmps.getD 0 undef=fq n)(hr:W.rangeAt n 0 (pz n)):(results Tryz.f50 tmps).run Tryz.prog W=.ok (.agg (pz n).toArray) W:=by
 have hp':tmps[0]?.getD undef=fq n:=by simpa using hp
 have hl:=run_loadVar_mid (P:=Tryz.prog) W n 0 139 (pz n) (.array 20 138) hr (by kernel_rfl) rfl (by rw[Z4];rfl);simp[results,Tryz.results50,hp',asAddr,hl]
