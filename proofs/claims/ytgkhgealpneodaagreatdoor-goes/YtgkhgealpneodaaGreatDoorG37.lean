import Derived.Test.YtgkhgealpneodaaGreatDoorG27
import Derived.Test.YtgkhgealpneodaaGreatDoorG35
set_option maxRecDepth 100000
namespace Go.Proofs.YtgkhgealpneodaaGreatDoor
open Go.RowKit
namespace Rn
open Px
def rU(w:dY)(o0 B:Nat)(vs:dZ)(l:List Int)(va:dZ):Prop :=∃ad c,vs=.slice ad l.length c/\l.length<=c/\l.length<=140737488355328/\(ad=none->c=0)/\∀p,ad=some p->∃g o cur,p=⟨g,o,none⟩/\w.heap[g]?=some (.cells cur 3 (0,0))/\o+c<=cur.size/\(∀i(hi:i<l.length),cur[o+i]?=some (eF l[i]))/\((o0<=g/\g<B)\/va.ownBlock=some g)
variable{W w w':dY}{B b jl k:Nat}{vs:dZ}
theorem rU.keep{o0:Nat}{l:List Int}{va:dZ}(h:rU w o0 B vs l va)(hk:∀g cur,w.heap[g]?=some (.cells cur 3 (0,0))->((o0<=g/\g<B)\/va.ownBlock=some g)->w'.heap[g]?=w.heap[g]?):rU w' o0 B vs l va:=by obtain⟨ad,c,h1,h2,h3,h4,h5⟩:=h;refine⟨ad,c,h1,h2,h3,h4,fun p hp=>?_⟩;obtain⟨g,o,cur,e1,e2,e3,e4,e5⟩:=h5 p hp;exact⟨g,o,cur,e1,(hk g cur e2 e5).trans e2,e3,e4,e5⟩
variable{t:TypeId}
theorem AV{a b c d e f g:dZ}(hh:w.heap[k]?=some (.cells #[a,b,c,d,e,f,g] t)):w.cell? ⟨k,0,none⟩=some a/\w.cell? ⟨k,1,none⟩=some b/\w.cell? ⟨k,2,none⟩=some c/\w.cell? ⟨k,3,none⟩=some d/\w.cell? ⟨k,4,none⟩=some e/\w.cell? ⟨k,5,none⟩=some f/\w.cell? ⟨k,6,none⟩=some g/\(∀o,w.frozen? ⟨k,o,none⟩=false)/\k<w.heap.size:=by refine⟨?_,?_,?_,?_,?_,?_,?_,?_,lt_of_block hh⟩<;>simp[World.cell?,World.frozen?,hh]
variable{ar sz tr:Int}{wd:dX}{un:Bool}
theorem yf1(hb:w.heap[jl]?=some (Jn.jJ b sz vs wd ar tr un))(eH:dX)(arg nth:Int)(und:Bool):((((w.setCell ⟨jl,3,none⟩ (.string eH)).setCell ⟨jl,4,none⟩ (eF arg)).setCell ⟨jl,5,none⟩ (eF nth)).setCell ⟨jl,6,none⟩ (.bool und)).heap[jl]?=some (Jn.jJ b sz vs eH arg nth und) /\
  fE (·=jl) w ((((w.setCell ⟨jl,3,none⟩ (.string eH)).setCell ⟨jl,4,none⟩ (eF arg)).setCell ⟨jl,5,none⟩ (eF nth)).setCell ⟨jl,6,none⟩ (.bool und)):=by
 have h3:(w.setCell ⟨jl,3,none⟩ (.string eH)).heap[jl]?=some (Jn.jJ b sz vs eH ar tr un):=by rw[Ref.heap_set _ hb];rfl
 have h4:((w.setCell ⟨jl,3,none⟩ (.string eH)).setCell ⟨jl,4,none⟩ (eF arg)).heap[jl]?=some (Jn.jJ b sz vs eH arg tr un):=by rw[Ref.heap_set _ h3];rfl
 have h5:(((w.setCell ⟨jl,3,none⟩ (.string eH)).setCell ⟨jl,4,none⟩ (eF arg)).setCell ⟨jl,5,none⟩ (eF nth)).heap[jl]?=some (Jn.jJ b sz vs eH arg nth un):=by rw[Ref.heap_set _ h4];rfl
 have h6:((((w.setCell ⟨jl,3,none⟩ (.string eH)).setCell ⟨jl,4,none⟩ (eF arg)).setCell ⟨jl,5,none⟩ (eF nth)).setCell ⟨jl,6,none⟩ (.bool und)).heap[jl]?=some (Jn.jJ b sz vs eH arg nth und):=by rw[Ref.heap_set _ h5];rfl
 exact⟨h6,((((fE.refl (·=jl) w).setCell (p:=⟨jl,3,none⟩) (ak rfl) _).setCell (p:=⟨jl,4,none⟩) (ak rfl) _).setCell (p:=⟨jl,5,none⟩) (ak rfl) _).setCell (p:=⟨jl,6,none⟩) (ak rfl) _⟩
theorem mL(hb:W.heap[jl]?=some (Jn.jJ b sz vs wd ar tr un)/\fE (·=jl) w W)(A:Obj):(W.alloc A).heap[jl]?=some (Jn.jJ b sz vs wd ar tr un)/\fE (·=jl) w (W.alloc A):=⟨(((aF _ _).alloc (ay _) A).block jl (lt_of_block hb.1)).trans hb.1,hb.2.alloc _⟩
theorem yfn(hb:W.heap[jl]?=some (Jn.jJ b sz vs wd ar tr un)/\fE (·=jl) w W)(v':dZ):(W.setCell ⟨jl,2,none⟩ v').heap[jl]?=some (Jn.jJ b sz v' wd ar tr un)/\fE (·=jl) w (W.setCell ⟨jl,2,none⟩ v'):=⟨by rw[Ref.heap_set _ hb.1];rfl,hb.2.setCell (p:=⟨jl,2,none⟩) (ak rfl) _⟩
theorem F6{g:Nat}{cur:Array dZ}(hb:w.heap[jl]?=some (Jn.jJ b sz vs wd ar tr un))(hg:w.heap[g]?=some (.cells cur 3 (0,0))):jl≠g:=by rintro rfl;rw[hb]at hg;unfold Jn.jJ at hg;cases hg
def qQ(w:dY)(k:Nat):Prop:=∀c t fr,w.heap[k]?=some (.cells c t fr)->t≠145/\t≠219/\t≠9
theorem DW{e z n:Nat}{v:dZ}{cs:List dZ}(h:w.ownsRow B e z v n cs)(hk:v.ownBlock=some k):∃c,w.heap[k]?=some (.cells c e (0,0)):=by
 obtain⟨rfl,_⟩|⟨g,cap,cur,rfl,_,hh,_⟩:=h.2;·cases hk
 cases hk;exact⟨cur,hh⟩
variable{x:Cx}{T:Nat->Prop}
theorem yO.low(h:yO x w)(hT:fE T w w')(ht:∀k,T k->qQ w k):yO x w':=by
 obtain⟨vl,vw,vn,lo,h1,h2,h3,h4,h5,h6,h7⟩:=h.ex;refine⟨vl,vw,vn,lo,(hT.block _ (lt_of_block h1) fun hk=>(ht _ hk _ _ _ h1).1 rfl).trans h1,h2,h3,iM h4 hT (fun k hk hk'=>?_),h5,iM h6 hT (fun k hk hk'=>?_),h7⟩;·obtain⟨c,hc⟩:=DW h4 hk;exact(ht _ hk' _ _ _ hc).2.1 rfl
 obtain⟨c,hc⟩:=DW h6 hk;exact(ht _ hk' _ _ _ hc).2.2 rfl
theorem Ge.low{B0:Nat}(h:Ge x w)(hT:fE T w w')(ht:∀k,T k->B0<=k)(hG:21<=B0)(hE:∀i,1<=i->i<=4->(x.E i).block<B0):Ge x w':=by have hv:∀{k:Nat}{v:dZ},k<21->w.cell? ⟨k,0,none⟩=some v->w'.cell? ⟨k,0,none⟩=some v:=fun{k v}hk hc=>(aH (w:=w) (a:=⟨k,0,none⟩) (hT.block k (lt_of_cell hc) fun e=>by have:=ht _ e;omega)).trans hc;refine⟨hv (by decide) h.v1,hv (by decide) h.v2,hv (by decide) h.v3,hv (by decide) h.v4,fun i h1 h2=>?_,h.ne,h.lo,h.lj⟩;obtain⟨b1,b2,c,t,b3⟩:=h.b i h1 h2;exact⟨b1,b2,c,t,(hT.block _ (lt_of_block b3) fun e=>by have:=ht _ e;have:=hE i h1 h2;omega).trans b3⟩
theorem MK.low{x:Cx}{m:Ms}{w w':dY}{f:Nat->dZ}{va va':dZ}{T:Nat->Prop}{B0:Nat}(h:MK x m w f va){l:List Int}{a:List iL}(hk:x.K l a va' w')(hT:fE T w w')(h1:∀k,T k->k<x.B\/va.ownBlock=some k)(h2:∀k,T k->qQ w k)(h3:∀k,T k->B0<=k)(hG:21<=B0)(hE:∀i,1<=i->i<=4->(x.E i).block<B0)(hJ:∀k,ru k=true->x.B<=x.J k)(hloc:va'=va\/∃n,va'.ownBlock=some n/\w.heap.size<=n/\n<w'.heap.size):MK x {m with left:=l,eY:=a} w' f va':=by
 have hlt:=h.a.lt;have hB:=h.a.hB;have hown:∀k,va.ownBlock=some k->x.B<=k/\k≠x.g/\k<w.heap.size:=h.a.sep.own va (by simp[fZ]);have hrow:∀(j:Nat)(u:dZ),[f 0,f 1,f 2,f 85][j]?=some u->∀k,u.ownBlock=some k->¬T k:=by
  intro j u zm k hk hh;have TT:j<4:=(aT.1 zm).1;have zU:(fZ f va)[j]?=some u:=by rw[<- zm];match j,TT with| 0,_=>rfl| 1,_=>rfl| 2,_=>rfl| 3,_=>rfl
  have ho:=h.a.sep.own u (bL zU) k hk;obtain hh|hh:=h1 k hh;·omega
  exact h.a.sep.mem (i:=j) (j:=4) zU rfl (by omega) k hk hh
 have hloc':va'.ownBlock=va.ownBlock\/va'.ownBlock=none\/∃n,va'.ownBlock=some n/\w.heap.size<=n/\n<w'.heap.size:=by
  obtain rfl|hl:=hloc;·exact ak rfl
  exact aj (aj hl)
 have hsep:Sep x.B x.g w' (fZ f va'):=Sep.turn (A:=[f 0,f 1,f 2,f 85]) (R:=[]) h.a.sep hT.size (by omega) hlt hloc';refine⟨⟨hB,h.a.hj,h.a.blk.oL (by decide) hT (fun hh=>?_),h.a.f3,h.a.f4,h.a.tab,h.a.f86,h.a.f87,h.a.f88,h.a.f89,iM h.a.st hT (hrow 0 _ rfl),iM h.a.un hT (hrow 1 _ rfl),iM h.a.be hT (hrow 2 _ rfl),iM h.a.zT hT (hrow 3 _ rfl),hsep,fun k hk=>?_⟩,hk,h.p.low hT h2,h.e.low hT h3 hG hE⟩
 ·obtain hh|hh:=h1 _ hh;·omega
  exact(hown _ hh).2.1 rfl
 obtain⟨a1,a2,a3,a4⟩:=h.a.jn k hk;have hz:=lt_of_cell a1;have hJk:=hJ k hk;refine⟨(aH (w:=w) (a:=⟨x.J k,0,none⟩) (hT.block _ hz (fun hh=>?_))).trans a1,a2,a3,fun r hr=>?_⟩
 ·obtain hh|hh:=h1 _ hh;·have:x.J k<x.B:=hh;omega
  exact a4 va (by simp[fZ]) hh
 have:=OH (va:=va) hr;obtain h'|rfl:=this;·exact a4 r h'
 intro e;obtain hl|hl|⟨n,hl,h1,_⟩:=hloc';·rw[hl]at e;exact a4 va (by simp[fZ]) e
 ·rw[hl]at e;cases e
 rw[hl]at e;cases e;omega
theorem qQ.of{c:Array dZ}{fr:Nat×Nat}(h:w.heap[k]?=some (.cells c t fr))(h1:t≠145)(h2:t≠219)(h3:t≠9):qQ w k:=by intro c' t' fr' h';rw[h]at h';cases h';exact⟨h1,h2,h3⟩
