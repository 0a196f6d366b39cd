import Derived.Test.YtokkhhekekeokaaGreatDoorC29
import Derived.Test.YtokkhhekekeokaaGreatDoorC22
import Derived.Laws.EntriesVeiled
import Derived.Deep.OwnRows
import Derived.Deep.RegionHeld
set_option maxRecDepth 100000
set_option maxHeartbeats 4000000
namespace Go.Proofs.YtokkhhekekeokaaGreatDoor
open Go.RowKit Tryz
namespace Rn
open Mk Px Ref
def kH (l:List Int):List fC:=l.map fun v=>.int .i64 v
def oF (l:List (Nat×Int)):List fC:=l.flatMap fun u=>[.int .i64 (u.1:Int),.int .i64 u.2]
def nK (l:List (Nat×Nat×Nat)):List fC:=l.flatMap fun b=>[.int .i64 (b.1:Int),.int .i64 (b.2.1:Int),.int .i64 (b.2.2:Int)]
theorem zkw (l:List (Nat×Int)):(oF l).length=l.length * 2:=by
 induction l with
 | nil=>rfl
 | cons v l ih=>simp[oF] at ih |-;omega
theorem zo5 (l:List (Nat×Nat×Nat)):(nK l).length=l.length * 3:=by
 induction l with
 | nil=>rfl
 | cons v l ih=>simp[nK] at ih |-;omega
theorem zod (a b:List Int):kH (a++b)=kH a++kH b:=List.map_append
theorem Y1 (a b:List (Nat×Int)):oF (a++b)=oF a++oF b:=dZ
theorem Y2 (a b:List (Nat×Nat×Nat)):nK (a++b)=nK a++nK b:=dZ
variable {W w w' w1 w3:fu}{v v' va va' vj:fC}
theorem ND {a:Addr}{u:fC}(h:w.cell? a=some u):(w.setCell a v).cell? a=some v:=World.cell?_setCell_same' w a v (by rw[h];rfl)
theorem uy {a b:Addr}(h:a≠b):(w.setCell a v).cell? b=w.cell? b:=by
 apply World.cell?_setCell_other
 exact h
structure yL (w:fu)(g n:Nat)(f:Nat->fC):Prop where
 cell:∀ o,o < n->w.cell? ⟨g,o,none⟩=some (f o)
 fr:∀ o,w.frozen? ⟨g,o,none⟩=false
def upd (f:Nat->fC)(o:Nat)(v:fC):Nat->fC:=fun k=>if k=o then v else f k
variable {B c g k n nv o pp:Nat}{f:Nat->fC}
theorem yL.set (h:yL w g n f)(ho:o < n)(v:fC):yL (w.setCell ⟨g,o,none⟩ v) g n (upd f o v):=by
 refine ⟨fun k hk=>?_,fun k=>?_⟩
 ·unfold upd;by_cases e:k=o
  ·subst e;rw[if_pos rfl];exact ND (h.cell k hk)
  ·rw[if_neg e,uy (by intro h;cases h;exact e rfl)]
   exact h.cell k hk
 ·rw[World.frozen?_setCell];exact h.fr k
theorem yL.lt (h:yL w g n f)(hn:0 < n):g < w.heap.size:=lt_of_cell (h.cell 0 hn)
variable {T:Nat->Prop}
theorem yL.jG (h:yL w g n f)(hn:0 < n)(hT:fO T w w')(hg:¬ T g):yL w' g n f :=
 ⟨fun o ho=>(aF (w:=w) (a:=⟨g,o,none⟩) (hT.block g (h.lt hn) hg)).trans (h.cell o ho),fun o=>(bQ (w:=w) (a:=⟨g,o,none⟩) (hT.block g (h.lt hn) hg)).trans (h.fr o)⟩
variable {e t:TypeId}{a:Option Addr}{xs:List fC}
theorem NG {size:Nat}(h:w.ownsRow B e size (.slice a n c) n xs)(hk:k<=n):w.ownsRow B e size (.slice a k c) k (xs.take (k * size)):=by
 obtain ⟨h1,h2⟩:=h;have hm:k * size<=n * size:=Nat.mul_le_mul_right _ hk;refine ⟨by rw[bU];omega,?_⟩
 rcases h2 with ⟨h2,h3⟩ | ⟨g,cap,cur,hv,hg,hh,h4,h5,h6,h7⟩
 ·cases h2;obtain rfl:k=0:=by omega
  exact ak ⟨rfl,rfl⟩
 ·cases hv;refine ah ⟨g,_,cur,rfl,hg,hh,by omega,h5,h6,?_⟩
  rw[<- h7,List.take_take];congr 1;omega
structure Cx where
 B:Nat
 g:Nat
 pp:Nat
 jl:Nat
 vj:fC
 J:Nat->Nat
 P:Pg
 E:Nat->Addr
 K:List Int->List Px.Ask->fC->fu->Prop
def sS (k:Nat):Bool:=k=4 || k=5 || k=6 || k=8 || k=9 || k=10
def nT (k:Nat):Nat:=match k with
 | 0=>49 | 1=>51 | 2=>52 | 3=>54 | 7=>59
 | 11=>65 | 12=>66 | 13=>67 | 14=>69 | 15=>71
 | 16=>74 | 17=>76 | 18=>77 | 19=>79 | _=>101
def Cg (k:Nat):Nat:=match k with
 | 4=>56 | 5=>57 | 6=>58 | 8=>61 | 9=>63 | _=>64
def rJ (J:Nat->Nat)(k:Nat):Array fC:=if sS k then #[.pointer (some ⟨J k,0,none⟩)] else #[]
def rows (f:Nat->fC)(va:fC):List fC:=[f 0,f 1,f 2,f 85,va]
structure AX (x:Cx)(m:Ms)(w:fu)(f:Nat->fC)(va:fC):Prop where
 hB:x.B<=x.g
 hj:x.jl < x.B
 blk:yL w x.g 90 f
 f3:f 3=x.vj
 f4:f 4=.pointer (some ⟨x.pp,0,none⟩)
 tab:∀ k,k < 20->f (8+4 * k)=.func (.func (nT k)) #[] (rJ x.J k)
 f86:f 86=.int .i64 (m.fE:Int)
 f87:f 87=.int .i64 (m.fJ:Int)
 f88:f 88=.bool m.iZ
 f89:f 89=.int .i64 (m.fin:Int)
 st:w.ownsRow x.B 2 1 (f 0) m.st.length (kH m.st.reverse)
 un:w.ownsRow x.B 225 2 (f 1) m.fU.length (oF m.fU.reverse)
 be:w.ownsRow x.B 170 3 (f 2) m.fP.length (nK m.fP.reverse)
 Ch:w.ownsRow x.B 2 1 (f 85) m.vars.length (kH m.vars)
 sep:Sep x.B x.g w (rows f va)
 jn:∀ k,sS k=true->w.cell? ⟨x.J k,0,none⟩=some (.func (.func (Cg k)) #[] #[])/\x.J k≠x.g/\x.J k≠x.jl/\∀ r∈rows f va,r.ownBlock≠some (x.J k)
structure AY (x:Cx)(w:fu):Prop where
 ex:∃ vl vw vn lo,w.heap[x.pp]?=some (.cells #[vw,.int .i64 (x.P.nv:Int),vn,vl] 80)/\x.pp < x.B/\x.pp≠x.jl /\
  w.ownsRow lo 90 3 vl x.P.ins.length (qO x.P.ins)/\(∀ k,vl.ownBlock=some k->k < x.B/\k≠x.jl) /\
  w.ownsRow lo 9 1 vw x.P.fT.length (Mk.strCells x.P.fT)/\(∀ k,vw.ownBlock=some k->k < x.B/\k≠x.jl)
structure Ge (x:Cx)(w:fu):Prop where
 v1:w.cell? ⟨10,0,none⟩=some (.iface 337 (.pointer (some (x.E 1))))
 v2:w.cell? ⟨11,0,none⟩=some (.iface 337 (.pointer (some (x.E 2))))
 v3:w.cell? ⟨12,0,none⟩=some (.iface 337 (.pointer (some (x.E 3))))
 v4:w.cell? ⟨14,0,none⟩=some (.iface 337 (.pointer (some (x.E 4))))
 b:∀ i,1<=i->i<=4->(x.E i).block < x.B/\(x.E i).block≠x.jl/\∃ c t,w.heap[(x.E i).block]?=some (.cells c t (0,0))
 ne:∀ i j,1<=i->i<=4->1<=j->j<=4->i≠j->x.E i≠x.E j
 lo:17<=x.B
 lj:17<=x.jl
def gU (x:Cx)(e:Nat):fC:=if e=0 then .nilIface else .iface 337 (.pointer (some (x.E e)))
structure MK (x:Cx)(m:Ms)(w:fu)(f:Nat->fC)(va:fC):Prop where
 a:AX x m w f va
 k:x.K m.left m.fI va w
 p:AY x w
 e:Ge x w
def Own (x:Cx)(f:Nat->fC)(va:fC)(k:Nat):Prop:=k=x.g\/k=x.jl\/∃ r∈rows f va,r.ownBlock=some k
structure Fr (x:Cx)(w:fu)(f:Nat->fC)(va:fC)(w':fu)(f':Nat->fC)(va':fC):Prop where
 t:fO (Own x f va) w w'
 o:∀ k,k < w.heap.size->Own x f' va' k->Own x f va k
theorem Fr.refl (x:Cx)(w:fu)(f:Nat->fC)(va:fC):Fr x w f va w f va:=⟨fO.refl _ _,fun _ _ h=>h⟩
theorem Fr.trans {x:Cx}{w w1 w2:fu}{f f1 f2:Nat->fC}{va iI iR:fC}(h:Fr x w f va w1 f1 iI)(k:Fr x w1 f1 iI w2 f2 iR):Fr x w f va w2 f2 iR :=
 ⟨⟨k.t.os.trans h.t.os,k.t.tape.trans h.t.tape,k.t.output.trans h.t.output,aP h.t.size k.t.size,fun i hi hn=>(k.t.block i (aV hi h.t.size) fun ho=>hn (h.o i hi ho)).trans (h.t.block i hi hn)⟩,fun i hi ho=>h.o i hi (k.o i (aV hi h.t.size) ho)⟩
structure iT (x:Cx):Prop where
 keep:∀ (l:List Int) (a:List Px.Ask) (va:fC) (w w':fu) (T:Nat->Prop),x.K l a va w->fO T w w'->(∀ k,T k->x.B<=k)->(∀ k,va.ownBlock=some k->¬ T k)->x.K l a va w'
theorem AX.lt {x:Cx}{m:Ms}{w:fu}{f:Nat->fC}{va:fC}(h:AX x m w f va):x.g < w.heap.size:=h.blk.lt (by decide)
variable {x:Cx}
theorem AY.jG (h:AY x w)(hT:fO T w w')(ht:∀ k,T k->x.B<=k\/k=x.jl):AY x w':=by
 obtain ⟨vl,vw,vn,lo,h1,h2,h3,h4,h5,h6,h7⟩:=h.ex;have hn:∀ k,k < x.B/\k≠x.jl->¬ T k:=fun k hk hk'=>by rcases ht k hk' with h | h;omega;exact hk.2 h
 exact ⟨vl,vw,vn,lo,by rw[hT.block _ (aG.1 h1).1 (hn _ ⟨h2,h3⟩)];exact h1,h2,h3,gZ h4 hT (fun k hk=>hn k (h5 k hk)),h5,gZ h6 hT (fun k hk=>hn k (h7 k hk)),h7⟩
theorem Ge.jG (h:Ge x w)(hT:fO T w w')(ht:∀ k,T k->x.B<=k\/k=x.jl):Ge x w':=by
 have hn:∀ k,k < x.B/\k≠x.jl->¬ T k:=fun k hk hk'=>by rcases ht k hk' with h | h;omega;exact hk.2 h
 have lo:=h.lo;have lj:=h.lj;have hv:∀ {k:Nat} {v:fC},k < 17->w.cell? ⟨k,0,none⟩=some v->w'.cell? ⟨k,0,none⟩=some v:=fun {k v} hk hc=>(aF (w:=w) (a:=⟨k,0,none⟩) (hT.block k (lt_of_cell hc) (hn k ⟨by omega,by omega⟩))).trans hc
 refine ⟨hv (by decide) h.v1,hv (by decide) h.v2,hv (by decide) h.v3,hv (by decide) h.v4,fun i h1 h2=>?_,h.ne,lo,lj⟩
 obtain ⟨b1,b2,c,t,b3⟩:=h.b i h1 h2;exact ⟨b1,b2,c,t,by rw[hT.block _ (aG.1 b3).1 (hn _ ⟨b1,b2⟩)];exact b3⟩
variable {m:Ms}
theorem AX.same (h:AX x m w f va)(hT:fO (fun _=>False) w w'):AX x m w' f va :=
 ⟨h.hB,h.hj,h.blk.jG (by decide) hT (fun h=>h),h.f3,h.f4,h.tab,h.f86,h.f87,h.f88,h.f89,gZ h.st hT (fun _ _ h=>h),gZ h.un hT (fun _ _ h=>h),gZ h.be hT (fun _ _ h=>h),gZ h.Ch hT (fun _ _ h=>h),h.sep.world hT.size,fun k hk=>by
  obtain ⟨a,b⟩:=h.jn k hk;exact ⟨(aF (w:=w) (a:=⟨x.J k,0,none⟩) (hT.block _ (lt_of_cell a) (fun h=>h))).trans a,b⟩⟩
theorem MK.same {x:Cx}(hj:iT x){m:Ms}{w w':fu}{f:Nat->fC}{va:fC}(h:MK x m w f va)(hT:fO (fun _=>False) w w'):MK x m w' f va/\Fr x w f va w' f va :=
 ⟨⟨h.a.same hT,hj.keep _ _ _ _ _ _ h.k hT (fun _ h=>h.elim) (fun _ _ h=>h),h.p.jG hT (fun _ h=>h.elim),h.e.jG hT (fun _ h=>h.elim)⟩,hT.mono (fun _ _ h=>h.elim),fun _ _ h=>h⟩
theorem zlt {r:Nat}(hor:(o=0/\r=0)\/(o=1/\r=1)\/(o=2/\r=2)\/(o=85/\r=3)):rows (upd f o v) va=(rows f va).set r v/\(rows f va)[r]?=some (f o):=by
 rcases hor with ⟨rfl,rfl⟩ | ⟨rfl,rfl⟩ | ⟨rfl,rfl⟩ | ⟨rfl,rfl⟩<;>simp[rows,upd]
structure Turned (x:Cx)(m:Ms)(w W:fu)(f:Nat->fC)(va:fC)(o r:Nat)(v':fC):Prop where
 t:fO (fun k=>(f o).ownBlock=some k\/k=x.g) w W
 blk:yL W x.g 90 (upd f o v')
 sep:Sep x.B x.g W (rows (upd f o v') va)
 jn:∀ k,sS k=true->W.cell? ⟨x.J k,0,none⟩=some (.func (.func (Cg k)) #[] #[])/\x.J k≠x.g/\x.J k≠x.jl/\∀ u∈rows (upd f o v') va,u.ownBlock≠some (x.J k)
 k:x.K m.left m.fI va W
 p:AY x W
 e:Ge x W
 fr:Fr x w f va W (upd f o v') va
 tY:∀ j u,(rows f va)[j]?=some u->j≠r->∀ k,u.ownBlock=some k->¬ ((f o).ownBlock=some k\/k=x.g)
 tab:∀ k,k < 20->upd f o v' (8+4 * k)=.func (.func (nT k)) #[] (rJ x.J k)
 ne:v'.ownBlock≠some x.g
theorem MK.turn {x:Cx}(hj:iT x){m:Ms}{w w3:fu}{f:Nat->fC}{va v':fC}{o r:Nat}(h:MK x m w f va)(hor:(o=0/\r=0)\/(o=1/\r=1)\/(o=2/\r=2)\/(o=85/\r=3))(hT:fO (fun k=>(f o).ownBlock=some k) w w3)(hloc:v'.ownBlock=(f o).ownBlock\/∃ n,v'.ownBlock=some n/\w.heap.size<=n/\n < w3.heap.size) :
  Turned x m w (w3.setCell ⟨x.g,o,none⟩ v') f va o r v':=by
 obtain ⟨pV,hro⟩:=zlt (f:=f) (va:=va) (v:=v') hor;have hmem:f o∈rows f va:=bJ hro;have kN:¬ (f o).ownBlock=some x.g:=fun e=>(h.a.sep.own _ hmem _ e).2.1 rfl
 have hlt:=h.a.lt;have hB:=h.a.hB;have hjl:=h.a.hj;have oZ:fO (fun k=>(f o).ownBlock=some k\/k=x.g) w (w3.setCell ⟨x.g,o,none⟩ v'):=fO.setCell (T:=fun k=>(f o).ownBlock=some k\/k=x.g) (hT.mono fun k _ hk=>ak hk) (p:=⟨x.g,o,none⟩) (ak (ah rfl)) _
 have vN:∀ k,((f o).ownBlock=some k\/k=x.g)->x.B<=k:=fun k hk=>by
  rcases hk with hk | rfl
  ·exact (h.a.sep.own _ hmem k hk).1
  ·exact hB
 have Sy:o < 90:=by omega
 have tY:∀ j u,(rows f va)[j]?=some u->j≠r->∀ k,u.ownBlock=some k->¬ ((f o).ownBlock=some k\/k=x.g):=by
  intro j u Bg hjr k hk hh;rcases hh with hh | rfl
  ·exact h.a.sep.mem Bg hro hjr k hk hh
  ·exact (h.a.sep.own u (bJ Bg) _ hk).2.1 rfl
 have hloc':v'.ownBlock=(f o).ownBlock\/v'.ownBlock=none\/∃ n,v'.ownBlock=some n/\w.heap.size<=n/\n < (w3.setCell ⟨x.g,o,none⟩ v').heap.size:=by
  rcases hloc with hl | ⟨n,hl,h1,h2⟩
  ·exact ak hl
  ·exact ah (ah ⟨n,hl,h1,by simpa [World.setCell] using h2⟩)
 have hva:∀ k,va.ownBlock=some k->¬ ((f o).ownBlock=some k\/k=x.g):=tY 4 va rfl (by omega)
 have hBw:x.B<=w.heap.size:=by omega
 have hsep:Sep x.B x.g (w3.setCell ⟨x.g,o,none⟩ v') (rows (upd f o v') va):=by
  rcases hor with ⟨rfl,rfl⟩ | ⟨rfl,rfl⟩ | ⟨rfl,rfl⟩ | ⟨rfl,rfl⟩
  ·exact Sep.turn (A:=[]) (R:=[f 1,f 2,f 85,va]) h.a.sep oZ.size hBw hlt hloc'
  ·exact Sep.turn (A:=[f 0]) (R:=[f 2,f 85,va]) h.a.sep oZ.size hBw hlt hloc'
  ·exact Sep.turn (A:=[f 0,f 1]) (R:=[f 85,va]) h.a.sep oZ.size hBw hlt hloc'
  ·exact Sep.turn (A:=[f 0,f 1,f 2]) (R:=[va]) h.a.sep oZ.size hBw hlt hloc'
 have hmem':∀ u∈rows (upd f o v') va,u∈rows f va\/u=v':=fun u hu=>by
  rw[pV] at hu;exact List.mem_or_eq_of_mem_set hu
 refine ⟨oZ,(h.a.blk.jG (by decide) hT kN).set Sy v',hsep,fun k hk=>?_,hj.keep _ _ _ _ _ _ h.k oZ vN hva,h.p.jG oZ fun k hk=>ak (vN k hk),h.e.jG oZ fun k hk=>ak (vN k hk),⟨oZ.mono fun k _ hk=>?_,fun k hk hk'=>?_⟩,tY,fun k hk=>?_,?_⟩
 ·obtain ⟨a,b,c,d⟩:=h.a.jn k hk;have hjz:=lt_of_cell a;refine ⟨(aF (w:=w) (a:=⟨x.J k,0,none⟩) (oZ.block _ hjz (fun hh=>?_))).trans a,b,c,fun u hu=>?_⟩
  ·rcases hh with hh | hh
   ·exact d _ hmem hh
   ·exact b hh
  ·rcases hmem' u hu with hu | rfl
   ·exact d u hu
   ·intro e;rcases hloc with hl | ⟨n,hl,h1,_⟩
    ·rw[hl] at e;exact d _ hmem e
    ·rw[hl] at e;cases e;omega
 ·rcases hk with hk | hk
  ·exact ah (ah ⟨f o,hmem,hk⟩)
  ·exact ak hk
 ·rcases hk' with hk' | hk' | ⟨u,hu,hk'⟩
  ·exact ak hk'
  ·exact ah (ak hk')
  ·rcases hmem' u hu with hu | rfl
   ·exact ah (ah ⟨u,hu,hk'⟩)
   ·rcases hloc with hl | ⟨n,hl,h1,_⟩
    ·rw[hl] at hk';exact ah (ah ⟨_,hmem,hk'⟩)
    ·rw[hl] at hk';cases hk';omega
 ·have:¬ 8+4 * k=o:=by omega
  unfold upd;rw[if_neg this];exact h.a.tab k hk
 ·intro e;rcases hloc with hl | ⟨n,hl,h1,h2⟩
  ·rw[hl] at e;exact kN e
  ·rw[hl] at e;cases e;omega
theorem MK.SA (hj:iT x)(h:MK x m w f va)(st:List Int)(hT:fO (fun k=>(f 0).ownBlock=some k) w w3)(hloc:v'.ownBlock=(f 0).ownBlock\/∃ n,v'.ownBlock=some n/\w.heap.size<=n/\n < w3.heap.size)(hown:w3.ownsRow x.B 2 1 v' st.length (kH st.reverse)) :
  MK x { m with st:=st } (w3.setCell ⟨x.g,0,none⟩ v') (upd f 0 v') va/\Fr x w f va (w3.setCell ⟨x.g,0,none⟩ v') (upd f 0 v') va:=by
 have t:=h.turn (o:=0) (r:=0) hj (ak ⟨rfl,rfl⟩) hT hloc;exact ⟨⟨⟨h.a.hB,h.a.hj,t.blk,h.a.f3,h.a.f4,t.tab,h.a.f86,h.a.f87,h.a.f88,h.a.f89,ownsRow_setCell_other hown (a:=⟨x.g,0,none⟩) t.ne _,gZ h.a.un t.t (t.tY 1 _ rfl (by decide)),gZ h.a.be t.t (t.tY 2 _ rfl (by decide)),gZ h.a.Ch t.t (t.tY 3 _ rfl (by decide)),t.sep,t.jn⟩,t.k,t.p,t.e⟩,t.fr⟩
theorem MK.Y3 (hj:iT x)(h:MK x m w f va)(un:List (Nat×Int))(hT:fO (fun k=>(f 1).ownBlock=some k) w w3)(hloc:v'.ownBlock=(f 1).ownBlock\/∃ n,v'.ownBlock=some n/\w.heap.size<=n/\n < w3.heap.size)(hown:w3.ownsRow x.B 225 2 v' un.length (oF un.reverse)) :
  MK x { m with fU:=un } (w3.setCell ⟨x.g,1,none⟩ v') (upd f 1 v') va/\Fr x w f va (w3.setCell ⟨x.g,1,none⟩ v') (upd f 1 v') va:=by
 have t:=h.turn (o:=1) (r:=1) hj (ah (ak ⟨rfl,rfl⟩)) hT hloc;exact ⟨⟨⟨h.a.hB,h.a.hj,t.blk,h.a.f3,h.a.f4,t.tab,h.a.f86,h.a.f87,h.a.f88,h.a.f89,gZ h.a.st t.t (t.tY 0 _ rfl (by decide)),ownsRow_setCell_other hown (a:=⟨x.g,1,none⟩) t.ne _,gZ h.a.be t.t (t.tY 2 _ rfl (by decide)),gZ h.a.Ch t.t (t.tY 3 _ rfl (by decide)),t.sep,t.jn⟩,t.k,t.p,t.e⟩,t.fr⟩
theorem MK.Y4 (hj:iT x)(h:MK x m w f va)(be:List (Nat×Nat×Nat))(hT:fO (fun k=>(f 2).ownBlock=some k) w w3)(hloc:v'.ownBlock=(f 2).ownBlock\/∃ n,v'.ownBlock=some n/\w.heap.size<=n/\n < w3.heap.size)(hown:w3.ownsRow x.B 170 3 v' be.length (nK be.reverse)) :
  MK x { m with fP:=be } (w3.setCell ⟨x.g,2,none⟩ v') (upd f 2 v') va/\Fr x w f va (w3.setCell ⟨x.g,2,none⟩ v') (upd f 2 v') va:=by
 have t:=h.turn (o:=2) (r:=2) hj (ah (ah (ak ⟨rfl,rfl⟩))) hT hloc;exact ⟨⟨⟨h.a.hB,h.a.hj,t.blk,h.a.f3,h.a.f4,t.tab,h.a.f86,h.a.f87,h.a.f88,h.a.f89,gZ h.a.st t.t (t.tY 0 _ rfl (by decide)),gZ h.a.un t.t (t.tY 1 _ rfl (by decide)),ownsRow_setCell_other hown (a:=⟨x.g,2,none⟩) t.ne _,gZ h.a.Ch t.t (t.tY 3 _ rfl (by decide)),t.sep,t.jn⟩,t.k,t.p,t.e⟩,t.fr⟩
theorem MK.put (hj:iT x)(h:MK x m w f va)(ho:85 < o/\o < 90)(v:fC)(p t:Nat)(u:Bool)(n:Nat)(h1:upd f o v 86=.int .i64 (p:Int))(h2:upd f o v 87=.int .i64 (t:Int))(h3:upd f o v 88=.bool u)(h4:upd f o v 89=.int .i64 (n:Int)) :
  MK x { m with fE:=p,fJ:=t,iZ:=u,fin:=n } (w.setCell ⟨x.g,o,none⟩ v) (upd f o v) va/\Fr x w f va (w.setCell ⟨x.g,o,none⟩ v) (upd f o v) va:=by
 have hlt:=h.a.lt;have hB:=h.a.hB;have hT:fO (fun k=>k=x.g) w (w.setCell ⟨x.g,o,none⟩ v):=fO.setCell (T:=fun k=>k=x.g) (fO.refl _ _) (p:=⟨x.g,o,none⟩) (ak rfl) _
 have vN:∀ k,k=x.g->x.B<=k:=fun k hk=>by omega
 have hne:∀ u∈rows f va,∀ k,u.ownBlock=some k->¬ k=x.g:=fun u hu k hk=>(h.a.sep.own u hu k hk).2.1
 have e0:upd f o v 0=f 0:=if_neg (by omega)
 have e1:upd f o v 1=f 1:=if_neg (by omega)
 have e2:upd f o v 2=f 2:=if_neg (by omega)
 have e3:upd f o v 3=f 3:=if_neg (by omega)
 have e4:upd f o v 4=f 4:=if_neg (by omega)
 have e5:upd f o v 85=f 85:=if_neg (by omega)
 have er:rows (upd f o v) va=rows f va:=by unfold rows;rw[e0,e1,e2,e5]
 refine ⟨⟨⟨hB,h.a.hj,h.a.blk.set ho.2 v,e3.trans h.a.f3,e4.trans h.a.f4,fun k hk=>(if_neg (by omega)).trans (h.a.tab k hk),h1,h2,h3,h4,by rw[e0];exact gZ h.a.st hT (hne _ (by simp[rows])),by rw[e1];exact gZ h.a.un hT (hne _ (by simp[rows])),by rw[e2];exact gZ h.a.be hT (hne _ (by simp[rows])),by rw[e5];exact gZ h.a.Ch hT (hne _ (by simp[rows])),by rw[er];exact h.a.sep.world hT.size,fun k hk=>?_⟩,hj.keep _ _ _ _ _ _ h.k hT vN (hne va (by simp[rows])),h.p.jG hT fun k hk=>ak (vN k hk),h.e.jG hT fun k hk=>ak (vN k hk)⟩,hT.mono fun k _ hk=>ak hk,fun k _ hk=>?_⟩
 ·obtain ⟨a,b,c,d⟩:=h.a.jn k hk;exact ⟨(aF (w:=w) (a:=⟨x.J k,0,none⟩) (hT.block _ (lt_of_cell a) b)).trans a,b,c,by rw[er];exact d⟩
 ·unfold Own at hk;rw[er] at hk;exact hk
theorem MK.SB (hj:iT x)(h:MK x m w f va)(p:Nat):MK x { m with fE:=p } (w.setCell ⟨x.g,86,none⟩ (.int .i64 (p:Int))) (upd f 86 (.int .i64 (p:Int))) va/\Fr x w f va (w.setCell ⟨x.g,86,none⟩ (.int .i64 (p:Int))) (upd f 86 (.int .i64 (p:Int))) va :=
 h.put hj (by decide) _ p m.fJ m.iZ m.fin rfl h.a.f87 h.a.f88 h.a.f89
theorem MK.zlx (hj:iT x)(h:MK x m w f va)(p:Nat):MK x { m with fJ:=p } (w.setCell ⟨x.g,87,none⟩ (.int .i64 (p:Int))) (upd f 87 (.int .i64 (p:Int))) va/\Fr x w f va (w.setCell ⟨x.g,87,none⟩ (.int .i64 (p:Int))) (upd f 87 (.int .i64 (p:Int))) va :=
 h.put hj (by decide) _ m.fE p m.iZ m.fin h.a.f86 rfl h.a.f88 h.a.f89
theorem MK.Y5 (hj:iT x)(h:MK x m w f va)(u:Bool):MK x { m with iZ:=u } (w.setCell ⟨x.g,88,none⟩ (.bool u)) (upd f 88 (.bool u)) va/\Fr x w f va (w.setCell ⟨x.g,88,none⟩ (.bool u)) (upd f 88 (.bool u)) va :=
 h.put hj (by decide) _ m.fE m.fJ u m.fin h.a.f86 h.a.f87 rfl h.a.f89
theorem MK.SE (hj:iT x)(h:MK x m w f va)(n:Nat):MK x { m with fin:=n } (w.setCell ⟨x.g,89,none⟩ (.int .i64 (n:Int))) (upd f 89 (.int .i64 (n:Int))) va/\Fr x w f va (w.setCell ⟨x.g,89,none⟩ (.int .i64 (n:Int))) (upd f 89 (.int .i64 (n:Int))) va :=
 h.put hj (by decide) _ m.fE m.fJ m.iZ n h.a.f86 h.a.f87 h.a.f88 rfl
def PM (x:Cx)(m:Ms)(w:fu)(f:Nat->fC)(va:fC)(w':fu):Prop:=∃ f' va',MK x m w' f' va'/\Fr x w f va w' f' va'
theorem Own.lt {x:Cx}{m:Ms}{w:fu}{f:Nat->fC}{va:fC}(h:AX x m w f va){k:Nat}(hk:Own x f va k):k < w.heap.size:=by
 have:=h.lt
 have:=h.hB
 have:=h.hj
 rcases hk with rfl | rfl | ⟨r,hr,hk⟩
 ·exact h.lt
 ·omega
 ·exact (h.sep.own r hr k hk).2.2
theorem MK.away (hj:iT x)(h:MK x m w f va)(hT:fO T w w')(h1:∀ k,T k->x.B<=k)(h2:∀ k,T k->¬ Own x f va k)(h3:∀ k j,T k->sS j=true->k≠x.J j):MK x m w' f va:=by
 have hr:∀ r∈rows f va,∀ k,r.ownBlock=some k->¬ T k:=fun r hr k hk ht=>h2 k ht (ah (ah ⟨r,hr,hk⟩))
 refine ⟨⟨h.a.hB,h.a.hj,h.a.blk.jG (by decide) hT (fun ht=>h2 _ ht (ak rfl)),h.a.f3,h.a.f4,h.a.tab,h.a.f86,h.a.f87,h.a.f88,h.a.f89,gZ h.a.st hT (hr _ (by simp[rows])),gZ h.a.un hT (hr _ (by simp[rows])),gZ h.a.be hT (hr _ (by simp[rows])),gZ h.a.Ch hT (hr _ (by simp[rows])),h.a.sep.world hT.size,fun k hk=>?_⟩,hj.keep _ _ _ _ _ _ h.k hT h1 (hr _ (by simp[rows])),h.p.jG hT fun k hk=>ak (h1 k hk),h.e.jG hT fun k hk=>ak (h1 k hk)⟩
 obtain ⟨a,b⟩:=h.a.jn k hk;exact ⟨(aF (w:=w) (a:=⟨x.J k,0,none⟩) (hT.block _ (lt_of_cell a) (fun ht=>h3 _ k ht hk rfl))).trans a,b⟩
theorem MK.local (hj:iT x){m1:Ms}{w0 w2:fu}{f1:Nat->fC}{iI:fC}(h:MK x m w f va)(hT0:fO (fun _=>False) w w0)(h1:MK x m1 w1 f1 iI)(hF:Fr x w0 f va w1 f1 iI)(hT:fO T w1 w2)(ht:∀ k,T k->w.heap.size<=k/\k < w0.heap.size):MK x m1 w2 f1 iI/\Fr x w f va w2 f1 iI:=by
 have hlt:=h.a.lt;have hB:=h.a.hB;refine ⟨h1.away hj hT (fun k hk=>by have:=ht k hk;omega) (fun k hk ho=>?_) (fun k j hk hj'=>?_),⟨?_,?_,?_,?_,fun k hk hn=>?_⟩,fun k hk ho=>hF.o k (by have:=hT0.size;omega) ho⟩
 ·obtain ⟨a,b⟩:=ht k hk
  have:=Own.lt h.a (hF.o k b ho)
  omega
 ·obtain ⟨a,b⟩:=ht k hk
  have:=lt_of_cell (h.a.jn j hj').1
  omega
 ·exact hT.os.trans (hF.t.os.trans hT0.os)
 ·exact hT.tape.trans (hF.t.tape.trans hT0.tape)
 ·exact hT.output.trans (hF.t.output.trans hT0.output)
 ·exact aP hT0.size (aP hF.t.size hT.size)
 ·have s0:=hT0.size;have s1:=hF.t.size;rw[hT.block k (by omega) (fun hk'=>by have:=ht k hk';omega),hF.t.block k (by omega) hn,hT0.block k hk (fun h=>h)]
theorem Y6 {r:fC}(h:r∈rows f va'):r∈rows f va\/r=va':=by
 simp only[rows,bY,List.not_mem_nil,or_false] at h |-;rcases h with h | h | h | h | h
 ·exact ak (ak h)
 ·exact ak (ah (ak h))
 ·exact ak (ah (ah (ak h)))
 ·exact ak (ah (ah (ah (ak h))))
 ·exact ah h
theorem MK.SF (h:MK x m w f va){l:List Int}{a:List Px.Ask}(hk:x.K l a va' w')(hT:fO (fun k=>k=x.jl\/va.ownBlock=some k) w w')(hloc:va'.ownBlock=va.ownBlock\/va'.ownBlock=none\/∃ n,va'.ownBlock=some n/\w.heap.size<=n/\n < w'.heap.size) :
  MK x { m with left:=l,fI:=a } w' f va'/\Fr x w f va w' f va':=by
 have hlt:=h.a.lt;have hB:=h.a.hB;have hjl:=h.a.hj;have hown:∀ k,va.ownBlock=some k->x.B<=k/\k≠x.g/\k < w.heap.size:=h.a.sep.own va (by simp[rows])
 have vN:∀ k,(k=x.jl\/va.ownBlock=some k)->x.B<=k\/k=x.jl:=fun k hk=>by
  rcases hk with hk | hk
  ·exact ah hk
  ·exact ak (hown k hk).1
 have hrow:∀ (j:Nat) (u:fC),[f 0,f 1,f 2,f 85][j]?=some u->∀ k,u.ownBlock=some k->¬ (k=x.jl\/va.ownBlock=some k):=by
  intro j u Bg k hk hh;have hj4:j < 4:=(aU.1 Bg).1;have JR:(rows f va)[j]?=some u:=by
   rw[<- Bg];match j,hj4 with
   | 0,_=>rfl
   | 1,_=>rfl
   | 2,_=>rfl
   | 3,_=>rfl
  have ho:=h.a.sep.own u (bJ JR) k hk;rcases hh with hh | hh
  ·omega
  ·exact h.a.sep.mem (i:=j) (j:=4) JR rfl (by omega) k hk hh
 have hsep:Sep x.B x.g w' (rows f va'):=Sep.turn (A:=[f 0,f 1,f 2,f 85]) (R:=[]) h.a.sep hT.size (by omega) hlt hloc
 refine ⟨⟨⟨hB,hjl,h.a.blk.jG (by decide) hT (fun hh=>?_),h.a.f3,h.a.f4,h.a.tab,h.a.f86,h.a.f87,h.a.f88,h.a.f89,gZ h.a.st hT (hrow 0 _ rfl),gZ h.a.un hT (hrow 1 _ rfl),gZ h.a.be hT (hrow 2 _ rfl),gZ h.a.Ch hT (hrow 3 _ rfl),hsep,fun k hk=>?_⟩,hk,h.p.jG hT vN,h.e.jG hT vN⟩,hT.mono fun k _ hk=>?_,fun k hk hk'=>?_⟩
 ·rcases hh with hh | hh
  ·omega
  ·exact (hown _ hh).2.1 rfl
 ·obtain ⟨a1,a2,a3,a4⟩:=h.a.jn k hk;have hz:=lt_of_cell a1;refine ⟨(aF (w:=w) (a:=⟨x.J k,0,none⟩) (hT.block _ hz (fun hh=>?_))).trans a1,a2,a3,fun r hr=>?_⟩
  ·rcases hh with hh | hh
   ·exact a3 hh
   ·exact a4 va (by simp[rows]) hh
  ·have:=Y6 (va:=va) hr
   rcases this with h' | rfl
   ·exact a4 r h'
   ·intro e;rcases hloc with hl | hl | ⟨n,hl,h1,_⟩
    ·rw[hl] at e;exact a4 va (by simp[rows]) e
    ·rw[hl] at e;cases e
    ·rw[hl] at e;cases e;omega
 ·rcases hk with hk | hk
  ·exact ah (ak hk)
  ·exact ah (ah ⟨va,by simp[rows],hk⟩)
 ·rcases hk' with hk' | hk' | ⟨u,hu,hk'⟩
  ·exact ak hk'
  ·exact ah (ak hk')
  ·have:=Y6 (va:=va) hu
   rcases this with h' | rfl
   ·exact ah (ah ⟨u,h',hk'⟩)
   ·rcases hloc with hl | hl | ⟨n,hl,h1,_⟩
    ·rw[hl] at hk';exact ah (ah ⟨va,by simp[rows],hk'⟩)
    ·rw[hl] at hk';cases hk'
    ·rw[hl] at hk';cases hk';omega
def PS (x:Cx)(m:Ms)(w:fu)(f:Nat->fC)(va:fC)(w':fu):Prop:=∃ v',MK x m w' (upd f 0 v') va/\Fr x w f va w' (upd f 0 v') va
theorem PM.trans {x:Cx}{m1 m2:Ms}{w w1 w2:fu}{f f1:Nat->fC}{va iI:fC}(_h1:MK x m1 w1 f1 iI)(hF:Fr x w f va w1 f1 iI)(h2:PM x m2 w1 f1 iI w2):PM x m2 w f va w2:=by
 obtain ⟨f2,iR,k1,k2⟩:=h2;exact ⟨f2,iR,k1,hF.trans k2⟩
theorem zma (N:Nat)(w:fu) :
  Calls prog 55 #[.func (.func N) #[] #[]] w fun e w'=>e=.returned (.agg #[.slice none 0 0,.int .i64 2,.int .i64 1,.func (.func 101) #[] #[.pointer (some ⟨w.heap.size,0,none⟩)]])/\w'.heap.size=w.heap.size+2/\fO (fun _=>False) w w'/\w'.cell? ⟨w.heap.size,0,none⟩=some (.func (.func N) #[] #[]):=by
 have DI:∀ (fn:Fn) (first cap:Array fC) (w:fu),(Instr.makeFunc fn first cap).run prog w=.ok (.func fn first cap) w:=fun _ _ _ _=>rfl
 have HT:Hid (∀ A A':Obj,fO (fun _=>False) w ((w.alloc A).alloc A')):=fun A A'=>((fO.refl _ _).alloc A).alloc A'
 go_enter func55,ntmps55
 go_wp2_with fail;refine bodyPost_ret (v:=.agg #[.slice none 0 0,.int .i64 2,.int .i64 1,.func (.func 101) #[] #[.pointer (some ⟨w.heap.size,0,none⟩)]]) (by simp[results,results55,go_sem]) rfl ⟨rfl,?_,HT.o _ _,?_⟩
 ·show ((w.heap.push _).push _).size=_
  simp
 ·have h0:∀ A A':Obj,((w.alloc A).alloc A').heap[w.heap.size]?=some A:=fun A A'=>by
   show ((w.heap.push A).push A')[w.heap.size]?=_
   rw[aB,if_neg (by simp),aB,if_pos rfl]
  simp[World.cell?,h0]
theorem JU:zeroCells85.size=80:=by kernel_rfl
theorem SG:(prog.info? 85).map (·.size)=some 80:=by kernel_rfl
theorem Y7 (N:Nat)(w:fu) :
  Calls prog 55 #[.func (.func N) #[] #[]] w fun e w'=>e=.returned (.agg #[.slice none 0 0,.int .i64 2,.int .i64 1,.func (.func 101) #[] #[.pointer (some ⟨w.heap.size,0,none⟩)]])/\w'.heap.size=w.heap.size+2/\Hid (fO (fun _=>False) w w'/\w'.cell? ⟨w.heap.size,0,none⟩=some (.func (.func N) #[] #[])):=by
 refine (zma N w).mono ?_;rintro e w1 ⟨rfl,hs,hT,hc⟩;exact ⟨rfl,hs,hT,hc⟩
def iQ (n:Nat):List fC:=[.slice (some ⟨n+1,0,none⟩) 1 1,.int .i64 0,.int .i64 1,.func (.func 49) #[] #[],.slice (some ⟨n+2,0,none⟩) 1 1,.int .i64 0,.int .i64 1,.func (.func 51) #[] #[],.slice (some ⟨n+3,0,none⟩) 1 1,.int .i64 1,.int .i64 0,.func (.func 52) #[] #[],.slice none 0 0,.int .i64 1,.int .i64 0,.func (.func 54) #[] #[],.slice none 0 0,.int .i64 2,.int .i64 1,.func (.func 101) #[] #[.pointer (some ⟨n+4,0,none⟩)],.slice none 0 0,.int .i64 2,.int .i64 1,.func (.func 101) #[] #[.pointer (some ⟨n+6,0,none⟩)],.slice none 0 0,.int .i64 2,.int .i64 1,.func (.func 101) #[] #[.pointer (some ⟨n+8,0,none⟩)],.slice none 0 0,.int .i64 2,.int .i64 1,.func (.func 59) #[] #[],.slice none 0 0,.int .i64 2,.int .i64 1,.func (.func 101) #[] #[.pointer (some ⟨n+10,0,none⟩)],.slice none 0 0,.int .i64 2,.int .i64 1,.func (.func 101) #[] #[.pointer (some ⟨n+12,0,none⟩)],.slice none 0 0,.int .i64 2,.int .i64 1,.func (.func 101) #[] #[.pointer (some ⟨n+14,0,none⟩)],.slice none 0 0,.int .i64 1,.int .i64 1,.func (.func 65) #[] #[],.slice (some ⟨n+16,0,none⟩) 1 1,.int .i64 0,.int .i64 0,.func (.func 66) #[] #[],.slice (some ⟨n+17,0,none⟩) 1 1,.int .i64 1,.int .i64 0,.func (.func 67) #[] #[],.slice (some ⟨n+18,0,none⟩) 1 1,.int .i64 1,.int .i64 1,.func (.func 69) #[] #[],.slice (some ⟨n+19,0,none⟩) 1 1,.int .i64 0,.int .i64 0,.func (.func 71) #[] #[],.slice (some ⟨n+20,0,none⟩) 1 1,.int .i64 0,.int .i64 0,.func (.func 74) #[] #[],.slice none 0 0,.int .i64 0,.int .i64 0,.func (.func 76) #[] #[],.slice (some ⟨n+21,0,none⟩) 2 2,.int .i64 1,.int .i64 1,.func (.func 77) #[] #[],.slice (some ⟨n+22,0,none⟩) 1 1,.int .i64 1,.int .i64 1,.func (.func 79) #[] #[]]
def nL (n:Nat)(k:Nat):Nat:=if k=4 then n+4 else if k=5 then n+6 else if k=6 then n+8 else if k=8 then n+10 else if k=9 then n+12 else n+14
theorem zrn (n k:Nat)(hk:k < 20):(iQ n)[4 * k+3]?=some (.func (.func (nT k)) #[] (rJ (nL n) k)):=by
 match k,hk with
 | 0,_=>rfl
 | 1,_=>rfl
 | 2,_=>rfl
 | 3,_=>rfl
 | 4,_=>rfl
 | 5,_=>rfl
 | 6,_=>rfl
 | 7,_=>rfl
 | 8,_=>rfl
 | 9,_=>rfl
 | 10,_=>rfl
 | 11,_=>rfl
 | 12,_=>rfl
 | 13,_=>rfl
 | 14,_=>rfl
 | 15,_=>rfl
 | 16,_=>rfl
 | 17,_=>rfl
 | 18,_=>rfl
 | 19,_=>rfl
 | k+20,hk=>exact absurd hk (by omega)
theorem Y8 (n:Nat):(iQ n).toArray.all (·.oneCell')=true:=by kernel_rfl
theorem Y9 {ops:Array Oper}{rest:List Oper}{op:Oper}{a:Act}{Q:Exit->Act->fu->Prop}(hgd:op.guard=none)(x y:Operand)(ho:op.op=.store 85 x y)(n:Nat)(cells:Array fC)(hx:a.eval x=.pointer (some ⟨n,0,none⟩))(hy:a.eval y=.agg cells)(he:cells=(iQ n).toArray)(ht:w.there n 0 80)(h:wpList prog ops Q rest (a.put op.dst undef) (w.setCells n 0 (iQ n))):wpList prog ops Q (op::rest) a w:=by
 subst he;exact wpList_store_mid hgd _ x y ho n 0 _ hx hy ht (by rw[SG];rfl) (Y8 n) h
theorem Ci (hT:fO (fun _=>False) w w')(h:w.cell? ⟨n,0,none⟩=some v):w'.cell? ⟨n,0,none⟩=some v :=
 (aF (w:=w) (a:=⟨n,0,none⟩) (hT.block _ (lt_of_cell h) (fun h=>h))).trans h
theorem NH {wa wb wc wd we wf:fu}{Z A1 A2 A3:Obj}(ha:wa.heap.size=((((w.alloc Z).alloc A1).alloc A2).alloc A3).heap.size+2)(hb:wb.heap.size=wa.heap.size+2)(hc:wc.heap.size=wb.heap.size+2)(hd:wd.heap.size=wc.heap.size+2)(he:we.heap.size=wd.heap.size+2)(Pa:fO (fun _=>False) ((((w.alloc Z).alloc A1).alloc A2).alloc A3) wa/\wa.cell? ⟨((((w.alloc Z).alloc A1).alloc A2).alloc A3).heap.size,0,none⟩=some (.func (.func 56) #[] #[]))(Pb:fO (fun _=>False) wa wb/\wb.cell? ⟨wa.heap.size,0,none⟩=some (.func (.func 57) #[] #[]))(Pc:fO (fun _=>False) wb wc/\wc.cell? ⟨wb.heap.size,0,none⟩=some (.func (.func 58) #[] #[]))(Pd:fO (fun _=>False) wc wd/\wd.cell? ⟨wc.heap.size,0,none⟩=some (.func (.func 61) #[] #[]))(Pe:fO (fun _=>False) wd we/\we.cell? ⟨wd.heap.size,0,none⟩=some (.func (.func 63) #[] #[]))(Pf:fO (fun _=>False) we wf/\wf.cell? ⟨we.heap.size,0,none⟩=some (.func (.func 64) #[] #[]))(hW:fO (fun _=>False) wf W) :
  fO (fun _=>False) (w.alloc Z) W/\∀ k,sS k=true->W.cell? ⟨nL w.heap.size k,0,none⟩=some (.func (.func (Cg k)) #[] #[]):=by
 have hs:((((w.alloc Z).alloc A1).alloc A2).alloc A3).heap.size=w.heap.size+4:=by
  show ((((w.heap.push Z).push A1).push A2).push A3).size=_
  simp
 rw[hs] at ha Pa;rw[ha] at hb Pb;rw[hb] at hc Pc;rw[hc] at hd Pd;rw[hd] at he Pe;rw[he] at Pf;have te:=Pf.1.trans hW;have td:=Pe.1.trans te;have tc:=Pd.1.trans td;have tb:=Pc.1.trans tc;have ta:=Pb.1.trans tb;refine ⟨((((fO.refl _ _).alloc A1).alloc A2).alloc A3).trans (Pa.1.trans ta),fun k hk=>?_⟩
 unfold sS at hk;simp at hk;rcases hk with ((((rfl | rfl) | rfl) | rfl) | rfl) | rfl
 ·exact Ci ta Pa.2
 ·exact Ci tb Pb.2
 ·exact Ci tc Pc.2
 ·exact Ci td Pd.2
 ·exact Ci te Pe.2
 ·exact Ci hW Pf.2
theorem NI {C:Array fC}(hC:C.size=80)(hT:fO (fun _=>False) (w.alloc (.cells C t)) W):W.there w.heap.size 0 80:=by
 have h0:W.heap[w.heap.size]?=some (.cells C t):=by
  rw[hT.block _ (by show w.heap.size < (w.heap.push _).size;simp) (fun h=>h)]
  show (w.heap.push _)[w.heap.size]?=_
  rw[aB,if_pos rfl]
 intro j hj;rw[bX];refine ⟨?_,by simp[World.frozen?,h0]⟩
 simp[World.cell?,h0];omega
theorem Za (b:Nat)(hb:w.heap.size<=b):∀ (vs:List fC) (o:Nat) (w1:fu),fO T w w1->fO T w (w1.setCells b o vs):=by
 intro vs;induction vs with
 | nil=>intro o w1 h;exact h
 | cons v vs ih=>intro o w1 h;exact ih _ _ (h.setCell (ah hb) v)
theorem qty (b k:Nat)(hk:k≠b):∀ (vs:List fC) (o:Nat) (w1:fu),(w1.setCells b o vs).cell? ⟨k,0,none⟩=w1.cell? ⟨k,0,none⟩:=by
 intro vs;induction vs with
 | nil=>intro o w1;rfl
 | cons v vs ih=>intro o w1;exact (ih _ _).trans (uy (fun e=>hk (congrArg Addr.block e).symm))
theorem Zb (tmps:Array fC)(W:fu)(n:Nat)(hp:tmps.getD 0 undef=.pointer (some ⟨n,0,none⟩))(hr:W.rangeAt n 0 (iQ n)):(results Tryz.f26 tmps).run prog W=.ok (.agg (iQ n).toArray) W:=by
 have hp':tmps[0]?.getD undef=.pointer (some ⟨n,0,none⟩):=by simpa using hp
 have hl:=run_loadVar_mid (P:=prog) W n 0 85 (iQ n) (.array 20 84) hr (by kernel_rfl) rfl (by rw[SG];rfl)
 simp[results,results26,hp',asAddr,hl]
theorem SH (n k:Nat):n < nL n k:=by
 unfold nL;by_cases h4:k=4
 ·rw[if_pos h4];omega
 rw[if_neg h4];by_cases h5:k=5
 ·rw[if_pos h5];omega
 rw[if_neg h5];by_cases h6:k=6
 ·rw[if_pos h6];omega
 rw[if_neg h6];by_cases h8:k=8
 ·rw[if_pos h8];omega
 rw[if_neg h8];by_cases h9:k=9
 ·rw[if_pos h9];omega
 rw[if_neg h9];omega
theorem JV (w:fu)(a b c d e f g:Obj):fO (fun _=>False) w (((((((w.alloc a).alloc b).alloc c).alloc d).alloc e).alloc f).alloc g):=((((((((fO.refl _ _).alloc a).alloc b).alloc c).alloc d).alloc e).alloc f).alloc g)
theorem SI (w:fu) :
  Calls prog 26 #[] w fun e w'=>e=.returned (.agg (iQ w.heap.size).toArray)/\fO (fun _=>False) w w'/\∀ k,sS k=true->w'.cell? ⟨nL w.heap.size k,0,none⟩=some (.func (.func (Cg k)) #[] #[]):=by
 go_enter func26,ntmps26
 go_wp2_with (first
  | (go_at_call 55;refine (Y7 _ _).mono ?_;rintro e w1 ⟨rfl,hs,HP⟩)
  | (refine Y9 rfl _ _ rfl w.heap.size _ rfl rfl (by kernel_rfl) ?ht ?hh))
 case ht =>
  rename_i wa ha Ha wb hb Hb wc hc Hc wd hd Hd we he He;exact NI JU (NH ha hb hc hd he Ha.o Hb.o Hc.o Hd.o He.o HP.o (JV _ _ _ _ _ _ _ _)).1
 case hh =>
  rename_i wa ha Ha wb hb Hb wc hc Hc wd hd Hd we he He;have Q:=NH ha hb hc hd he Ha.o Hb.o Hc.o Hd.o He.o HP.o (JV w1 (.cells #[.int .i64 3] 150) (.cells #[.int .i64 3] 150) (.cells #[.int .i64 3] 150) (.cells #[.int .i64 3] 150) (.cells #[.int .i64 3] 150) (.cells #[.int .i64 2,.int .i64 0] 150) (.cells #[.int .i64 2] 150));have hth:=NI JU Q.1;refine bodyPost_ret (Zb _ _ w.heap.size rfl (World.rangeAt_setCells_same _ _ _ _ hth)) rfl ⟨rfl,?_,fun k hk=>?_⟩
  ·exact Za _ (aj _) _ _ _ (((fO.refl _ _).alloc _).trans Q.1)
  ·exact (qty w.heap.size (nL w.heap.size k) (Nat.ne_of_gt (SH _ _)) _ _ _).trans (Q.2 k hk)
theorem Zc:(prog.info? 2).map (fun i=>(i.zero,i.size,i.bytes))=some (some (.int .i64 0),1,8):=by kernel_rfl
theorem zn5:(prog.info? 225).map (fun i=>(i.zero,i.size,i.bytes))=some (some (.agg #[.int .i64 0,.int .i64 0]),2,16):=by kernel_rfl
theorem Mq:(prog.info? 170).map (fun i=>(i.zero,i.size,i.bytes))=some (some (.agg #[.int .i64 0,.int .i64 0,.int .i64 0]),3,24):=by kernel_rfl
theorem MK.grown {x:Cx}{m:Ms}{w W w3:fu}{f:Nat->fC}{va v':fC}{o:Nat}(h:MK x m w f va)(ho:f o∈rows f va)(ho9:o < 90)(hW:fO (fun _=>False) w W){e:TypeId}{s n:Nat}{xs:List fC}(hown:w3.ownsRow x.B e s v' n xs)(hg:W.grownBy w3 (f o).ownBlock)(hloc:v'.ownBlock=(f o).ownBlock\/v'.ownBlock=some W.heap.size) :
  fO (fun k=>(f o).ownBlock=some k) w w3/\(v'.ownBlock=(f o).ownBlock\/∃ n,v'.ownBlock=some n/\w.heap.size<=n/\n < w3.heap.size)/\w3.cell? ⟨x.g,o,none⟩=some (f o)/\w3.frozen? ⟨x.g,o,none⟩=false:=by
 have hT:fO (fun k=>(f o).ownBlock=some k) w w3:=(hW.mono fun _ _ h=>h.elim).grown hg fun k hk=>ak hk
 have kN:¬ (f o).ownBlock=some x.g:=fun e=>(h.a.sep.own _ ho _ e).2.1 rfl
 have hb:=h.a.blk.jG (by decide) hT kN
 refine ⟨hT,?_,hb.cell o ho9,hb.fr o⟩;rcases hloc with hl | hl
 ·exact ak hl
 ·exact ah ⟨_,hl,hW.size,(hown.lt _ hl).2⟩
theorem MK.PL (hj:iT x)(h:MK x m w f va)(v:Int)(hW:fO (fun _=>False) w W) :
  ∀ v' w3,w3.ownsRow x.B 2 1 v' (m.st.length+1) (kH m.st.reverse++[.int .i64 v])->W.grownBy w3 (f 0).ownBlock->(v'.ownBlock=(f 0).ownBlock\/v'.ownBlock=some W.heap.size) ->
   ∃ a1 n1 c1,v'=.slice a1 n1 c1/\w3.cell? ⟨x.g,0,none⟩=some (f 0)/\w3.frozen? ⟨x.g,0,none⟩=false/\Hid (PS x { m with st:=v::m.st } w f va (w3.setCell ⟨x.g,0,none⟩ v')):=by
 intro v' w3 hown hg hloc;obtain ⟨a1,n1,c1,rfl⟩:=jm hown;obtain ⟨hT,hl,hc,hf⟩:=h.grown (o:=0) (by simp[rows]) (by decide) hW hown hg hloc
 obtain ⟨k1,k2⟩:=h.SA hj (v::m.st) hT hl (by rw[dP,zod];exact hown)
 exact ⟨_,_,_,rfl,hc,hf,_,k1,k2⟩
theorem MK.Ml (hj:iT x)(h:MK x m w f va)(u:Nat×Int)(hW:fO (fun _=>False) w W) :
  ∀ v' w3,w3.ownsRow x.B 225 2 v' (m.fU.length+1) (oF m.fU.reverse++[.int .i64 (u.1:Int),.int .i64 u.2])->W.grownBy w3 (f 1).ownBlock->(v'.ownBlock=(f 1).ownBlock\/v'.ownBlock=some W.heap.size) ->
   ∃ a1 n1 c1,v'=.slice a1 n1 c1/\w3.cell? ⟨x.g,1,none⟩=some (f 1)/\w3.frozen? ⟨x.g,1,none⟩=false/\Hid (PM x { m with fU:=u::m.fU } w f va (w3.setCell ⟨x.g,1,none⟩ v')):=by
 intro v' w3 hown hg hloc;obtain ⟨a1,n1,c1,rfl⟩:=jm hown;obtain ⟨hT,hl,hc,hf⟩:=h.grown (o:=1) (by simp[rows]) (by decide) hW hown hg hloc
 obtain ⟨k1,k2⟩:=h.Y3 hj (u::m.fU) hT hl (by rw[dP,Y1];exact hown)
 exact ⟨_,_,_,rfl,hc,hf,_,_,k1,k2⟩
theorem MK.zju (hj:iT x)(h:MK x m w f va)(b:Nat×Nat×Nat)(hW:fO (fun _=>False) w W) :
  ∀ v' w3,w3.ownsRow x.B 170 3 v' (m.fP.length+1) (nK m.fP.reverse++[.int .i64 (b.1:Int),.int .i64 (b.2.1:Int),.int .i64 (b.2.2:Int)])->W.grownBy w3 (f 2).ownBlock->(v'.ownBlock=(f 2).ownBlock\/v'.ownBlock=some W.heap.size) ->
   ∃ a1 n1 c1,v'=.slice a1 n1 c1/\w3.cell? ⟨x.g,2,none⟩=some (f 2)/\w3.frozen? ⟨x.g,2,none⟩=false/\Hid (PM x { m with fP:=b::m.fP } w f va (w3.setCell ⟨x.g,2,none⟩ v')):=by
 intro v' w3 hown hg hloc;obtain ⟨a1,n1,c1,rfl⟩:=jm hown;obtain ⟨hT,hl,hc,hf⟩:=h.grown (o:=2) (by simp[rows]) (by decide) hW hown hg hloc
 obtain ⟨k1,k2⟩:=h.Y4 hj (b::m.fP) hT hl (by rw[dP,Y2];exact hown)
 exact ⟨_,_,_,rfl,hc,hf,_,_,k1,k2⟩
theorem Mv {b:Nat}{p q:fC}(h:W.heap[b]?=some (.cells #[p,q] t)):∀ j u,[p,q][j]?=some u->W.cell? ((⟨b,0,none⟩:Addr).add j)=some u:=by
 intro j u hj;match j,hj with
 | 0,hj=>simp at hj;subst hj;simp[Addr.add,World.cell?,h]
 | 1,hj=>simp at hj;subst hj;simp[Addr.add,World.cell?,h]
theorem xI (hj:iT x)(m:Ms)(w:fu)(f:Nat->fC)(va:fC)(h:MK x m w f va)(v:Int)(hl:m.st.length<=10000000) :
  Calls prog 50 #[.pointer (some ⟨x.g,0,none⟩),.int .i64 v] w fun e w'=>e=.returned (.tuple #[])/\PS x { m with st:=v::m.st } w f va w':=by
 have c0:=h.a.blk.cell 0 (by decide)
 obtain ⟨a,n,cp,e0⟩:=jm h.a.st;obtain ⟨i0,hi,hz0,hz1,hz2⟩:=info_parts Zc;have hW:fO (fun _=>False) w (w.alloc (.cells #[.int .i64 v] 2)):=(fO.refl _ _).alloc _
 have hgz:=h.a.lt;have hB:=h.a.hB;have O1:Hid ((w.alloc (.cells #[.int .i64 v] 2)).ownsRow x.B 2 1 (f 0) m.st.length (kH m.st.reverse)):=gZ h.a.st hW (fun _ _ h=>h)
 have O2:Hid (∀ j u,[Value.int .i64 v][j]?=some u->(w.alloc (.cells #[.int .i64 v] 2)).cell? ((⟨w.heap.size,0,none⟩:Addr).add j)=some u):=YJ (t:=2) (by
  show (w.heap.push _)[w.heap.size]?=_
  rw[aB,if_pos rfl])
 have O3:Hid (∀ u∈[Value.int .i64 v],u.oneCell'=true):=by intro u hu;simp at hu;subst hu;rfl
 have O4:Hid (m.st.length+1<=maxLen):=by unfold Hid maxLen;omega
 have O5:Hid ((m.st.length+1) * 8<=140737488355328):=by unfold Hid;omega
 have O6:Hid (x.B<=(w.alloc (.cells #[.int .i64 v] 2)).heap.size):=by have:=hW.size;unfold Hid;omega
 have AQ:Hid (_):=h.PL hj v hW;rw[e0] at O1 AQ c0;clear hW h hj;go_enter func50,ntmps50
 go_wp2_with (first | (at_builtin;refine wpList_append_own_at _ rfl _ _ 152 rfl x.B 2 i0 (.int .i64 0) 1 8 underlying152 hi hz0 hz1 hz2 rfl (bZ 0) _ _ _ rfl O1.o _ 1 1 _ rfl rfl O2.o O3.o O4.o O5.o O6.o ?_;intro v' w3 hown' hgrow _ hloc;obtain ⟨a1,n1,k1,rfl,hc3,hf3,HN⟩:=AQ.o v' w3 hown' hgrow hloc;clear hown' hgrow hloc) | fail)
 go_end0
 exact ⟨rfl,HN.o⟩
def newL (n:Nat)(vj:fC)(pp:Nat)(vv:fC):List fC:=[.slice none 0 0,.slice none 0 0,.slice none 0 0,vj,.pointer (some ⟨pp,0,none⟩)]++iQ n++[vv,.int .i64 0,.int .i64 0,.bool false,.int .i64 0]
theorem fold_size {T:Array fC}(hT:T.size=80)(cs:Array fC):(Array.foldl (fun (cs:Array fC) (x:fC×Nat)=>cs.setIfInBounds (5+x.2) x.1) cs T.zipIdx 0 80).size=cs.size:=by
 have hz:T.zipIdx.size=80:=by simp[hT]
 have h:(Array.foldl (fun (cs:Array fC) (x:fC×Nat)=>cs.setIfInBounds (5+x.2) x.1) cs T.zipIdx 0 T.zipIdx.size).size=cs.size:=by
  refine Array.foldl_induction (motive:=fun _ (b:Array fC)=>b.size=cs.size) rfl ?_
  intro i b hb
  simpa using hb
 rw[hz] at h;exact h
theorem Zd (n:Nat)(vj:fC)(pp:Nat)(vv:fC):(Array.foldl (fun (cs:Array fC) (x:fC×Nat)=>cs.setIfInBounds (5+x.2) x.1) ((zeroCells162.setIfInBounds 3 vj).setIfInBounds 4 (.pointer (some ⟨pp,0,none⟩))) (iQ n).toArray.zipIdx 0 80).setIfInBounds 85 vv=(newL n vj pp vv).toArray:=by kernel_rfl
structure NewAt (pp nv:Nat)(vj:fC)(w w':fu)(g n gv:Nat):Prop where
 t:fO (fun _=>False) w w'
 g1:w.heap.size<=g
 at_:w'.heap[g]?=some (.cells (newL n vj pp (.slice (some ⟨gv,0,none⟩) nv nv)).toArray 162)
 v1:w.heap.size<=gv
 v2:gv≠g
 Ze:w'.heap[gv]?=some (.cells (madeCells #[.int .i64 0] nv) 2)
 jn:∀ k,sS k=true->w'.cell? ⟨nL n k,0,none⟩=some (.func (.func (Cg k)) #[] #[])/\nL n k≠g/\nL n k≠gv/\w.heap.size<=nL n k
theorem zs7 {T:Array fC}(h:T=(iQ w.drew.heap.size).toArray/\fO (fun _=>False) w.drew w1/\∀ k,sS k=true->w1.cell? ⟨nL w.drew.heap.size k,0,none⟩=some (.func (.func (Cg k)) #[] #[])) :
  NewAt pp nv vj w ((w1.alloc (.cells (madeCells #[.int .i64 0] nv) 2)).alloc (.cells ((Array.foldl (fun (cs:Array fC) (x:fC×Nat)=>cs.setIfInBounds (5+x.2) x.1) ((zeroCells162.setIfInBounds 3 vj).setIfInBounds 4 (.pointer (some ⟨pp,0,none⟩))) T.zipIdx 0 80).setIfInBounds 85 (.slice (some ⟨w1.heap.size,0,none⟩) nv nv)) 162)) (w1.heap.size+1) w.drew.heap.size w1.heap.size:=by
 obtain ⟨rfl,hT,hj⟩:=h;have hs:w.heap.size<=w1.heap.size:=hT.size;have hT':fO (fun _=>False) w w1:=((fO.refl _ w).drew).trans hT
 rw[Zd];refine ⟨(hT'.alloc _).alloc _,by omega,?_,hs,by omega,?_,fun k hk=>?_⟩
 ·show ((w1.heap.push _).push _)[w1.heap.size+1]?=_
  rw[wV]
 ·show ((w1.heap.push _).push _)[w1.heap.size]?=_
  rw[aB,if_neg (by simp),aB,if_pos rfl]
 ·have hz:=lt_of_cell (hj k hk);have hg:=SH w.drew.heap.size k;refine ⟨?_,by omega,by omega,bN hg⟩
  exact Ci (((fO.refl _ w1).alloc _).alloc _) (hj k hk)
theorem zs5 {T:Array fC}(h:T=(iQ (w.alloc (.cells (madeCells #[.int .i64 0] nv) 2)).drew.heap.size).toArray/\fO (fun _=>False) (w.alloc (.cells (madeCells #[.int .i64 0] nv) 2)).drew w1/\∀ k,sS k=true->w1.cell? ⟨nL (w.alloc (.cells (madeCells #[.int .i64 0] nv) 2)).drew.heap.size k,0,none⟩=some (.func (.func (Cg k)) #[] #[])) :
  NewAt pp nv vj w (w1.alloc (.cells ((Array.foldl (fun (cs:Array fC) (x:fC×Nat)=>cs.setIfInBounds (5+x.2) x.1) ((zeroCells162.setIfInBounds 3 vj).setIfInBounds 4 (.pointer (some ⟨pp,0,none⟩))) T.zipIdx 0 80).setIfInBounds 85 (.slice (some ⟨w.heap.size,0,none⟩) nv nv)) 162)) w1.heap.size (w.alloc (.cells (madeCells #[.int .i64 0] nv) 2)).drew.heap.size w.heap.size:=by
 obtain ⟨rfl,hT,hj⟩:=h;have e:(w.alloc (.cells (madeCells #[.int .i64 0] nv) 2)).drew.heap.size=w.heap.size+1:=by
  show (w.heap.push _).size=_
  simp
 have hs:=hT.size;rw[e] at hs hj |-;have hT':fO (fun _=>False) w w1:=(((fO.refl _ w).alloc _).drew).trans hT
 rw[Zd];refine ⟨hT'.alloc _,by omega,?_,aj _,by omega,?_,fun k hk=>?_⟩
 ·show (w1.heap.push _)[w1.heap.size]?=_
  rw[aB,if_pos rfl]
 ·have h0:(w.alloc (.cells (madeCells #[.int .i64 0] nv) 2)).drew.heap[w.heap.size]?=some (.cells (madeCells #[.int .i64 0] nv) 2):=by
   show (w.heap.push _)[w.heap.size]?=_
   rw[aB,if_pos rfl]
  have h1:w1.heap[w.heap.size]?=some (.cells (madeCells #[.int .i64 0] nv) 2):=by rw[hT.block _ (by rw[e];omega) (fun h=>h)];exact h0
  show (w1.heap.push _)[w.heap.size]?=_
  rw[aB,if_neg (by omega)]
  exact h1
 ·have hz:=lt_of_cell (hj k hk);have hg:=SH (w.heap.size+1) k;refine ⟨Ci ((fO.refl _ w1).alloc _) (hj k hk),by omega,by omega,by omega⟩
theorem zs8 (pp nv:Nat)(vj:fC)(t:TypeId)(p:Addr)(pY:vj=.iface t (.pointer (some p)))(w:fu)(hp:w.cell? ⟨pp,1,none⟩=some (.int .i64 (nv:Int)))(hn:nv<=10000000) :
  Calls prog 37 #[.pointer (some ⟨pp,0,none⟩),vj] w fun e w'=>∃ g n gv,e=.returned (.pointer (some ⟨g,0,none⟩))/\NewAt pp nv vj w w' g n gv:=by
 subst pY;have hmk:=run_make_row' (P:=prog) 152 2 (.int .i64 0) 8 underlying152 Zc rfl .i64 .i64 nv (by omega) (by omega)
 have hpz:=lt_of_cell hp;have HM:Hid (∀ W:fu,w.heap.size<=W.heap.size->W.cell? ⟨pp,1,none⟩=some (.int .i64 (nv:Int))->Calls prog 26 #[] W fun e w1=>∃ T:Array fC,e=.returned (.agg T)/\T.size=80/\(∀ cs:Array fC,(Array.foldl (fun (cs:Array fC) (x:fC×Nat)=>cs.setIfInBounds (5+x.2) x.1) cs T.zipIdx 0 80).size=cs.size)/\w1.cell? ⟨pp,1,none⟩=some (.int .i64 (nv:Int))/\Hid (T=(iQ W.heap.size).toArray/\fO (fun _=>False) W w1/\∀ k,sS k=true->w1.cell? ⟨nL W.heap.size k,0,none⟩=some (.func (.func (Cg k)) #[] #[]))):=fun W _ hW=>by
  refine (SI W).mono ?_;rintro e w1 ⟨rfl,hT,hc⟩;exact ⟨_,rfl,rfl,fold_size rfl,(aF (w:=W) (a:=⟨pp,1,none⟩) (hT.block _ (lt_of_cell hW) (fun h=>h))).trans hW,rfl,hT,hc⟩
 go_enter func37,ntmps37
 go_wp2_with fail;go_region_held (fun w'=>w'.cell? ⟨pp,1,none⟩=some (.int .i64 (nv:Int))) (go_keep)
  (first | (go_at_call 26;refine aA (HM.o _ (by simp) (by simp[*])) ?_;rintro e w1 ⟨T,rfl,hTs,SK,d1,H1⟩))
 all_goals
  go_wp2_with fail;go_ret
  first
   | exact ⟨_,_,_,rfl,zs7 H1.o⟩
   | exact ⟨_,_,_,rfl,zs5 H1.o⟩
theorem JW {s:Nat}(h:w.ownsRow B e s v n xs)(hn:0 < n):∃ q c,v=.slice (some ⟨q,0,none⟩) n c:=by
 rcases h.2 with ⟨_,h1⟩ | ⟨g,cap,cur,h1,_⟩
 ·omega
 ·exact ⟨g,cap,h1⟩
variable {r:List Int}
theorem zk2 {q:Nat}{v:Int}(h:w.ownsRow B 2 1 (.slice (some ⟨q,0,none⟩) n c) n (kH (v::r).reverse)):n=r.length+1/\w.cell? ⟨q,r.length,none⟩=some (.int .i64 v):=by
 have hl:=h.1;simp[kH] at hl;refine ⟨by omega,?_⟩
 rw[h.cellAt r.length (by omega)]
 simp[kH]
theorem MK.top (hj:iT x)(h:MK x m w f va){v:Int}(hst:m.st=v::r) :
  ∃ q c,f 0=.slice (some ⟨q,0,none⟩) (r.length+1) c/\w.cell? ⟨q,r.length,none⟩=some (.int .i64 v)/\r.length+1<=c/\w.cell? ⟨x.g,0,none⟩=some (.slice (some ⟨q,0,none⟩) (r.length+1) c)/\w.frozen? ⟨x.g,0,none⟩=false /\
   ∀ k,k<=m.st.length->Hid (PS x { m with st:=m.st.drop (m.st.length - k) } w f va (w.setCell ⟨x.g,0,none⟩ (.slice (some ⟨q,0,none⟩) k c))):=by
 have hs:=h.a.st;have hlen:m.st.length=r.length+1:=by rw[hst];rfl
 obtain ⟨q,c,e⟩:=JW hs (by omega)
 have hs':=hs;rw[e,hst] at hs;obtain ⟨e1,e2⟩:=zk2 hs;rw[e] at hs';have hc0:=h.a.blk.cell 0 (by decide)
 rw[e,hlen] at hc0;have hcap:r.length+1<=c:=by
  rcases hs.2 with ⟨h1,_⟩ | ⟨g,cap,cur,h1,_,_,h2,_⟩
  ·cases h1
  ·cases h1;rw[hlen] at *;simpa using h2
 refine ⟨q,c,by rw[e,hlen],e2,hcap,hc0,h.a.blk.fr 0,fun k hk=>?_⟩
 have hT:fO (fun k=>(f 0).ownBlock=some k) w w:=fO.refl _ _
 have hcut:=NG hs' hk;obtain ⟨k1,k2⟩:=h.SA (v':=.slice (some ⟨q,0,none⟩) k c) hj (m.st.drop (m.st.length - k)) hT (ak (by rw[e];rfl)) (by
  have hl:(m.st.drop (m.st.length - k)).length=k:=by rw[List.length_drop];omega
  rw[hl]
  have:kH (m.st.drop (m.st.length - k)).reverse=(kH m.st.reverse).take (k * 1):=by
   unfold kH;rw[<- List.map_take,Nat.mul_one,List.reverse_drop];congr 2;omega
  rw[this];exact hcut)
 exact ⟨_,k1,k2⟩
theorem JX (hj:iT x)(m:Ms)(w:fu)(f:Nat->fC)(va:fC)(h:MK x m w f va)(v:Int)(r:List Int)(hst:m.st=v::r)(hl:r.length<=10000000) :
  Calls prog 81 #[.pointer (some ⟨x.g,0,none⟩)] w fun e w'=>e=.returned (.int .i64 v)/\fO (fun _=>False) w w':=by
 obtain ⟨q,c,_,c1,hcap,c0,cf,hP⟩:=h.top hj hst;clear hP h hj hst;generalize r.length=K at *;have hk0:(0:Int)<=(K:Int)+1 - 1:=by omega
 have hk1:(K:Int)+1 - 1 < K+1:=by omega
 go_enter func81,ntmps81
 go_wp2_with fail;go_region
 all_goals
  go_wp2_with fail;go_ret;exact ⟨rfl,(fO.refl _ _).drew⟩
theorem qP (hj:iT x)(m:Ms)(w:fu)(f:Nat->fC)(va:fC)(h:MK x m w f va)(v:Int)(r:List Int)(hst:m.st=v::r)(hl:r.length<=10000000) :
  Calls prog 53 #[.pointer (some ⟨x.g,0,none⟩)] w fun e w'=>e=.returned (.int .i64 v)/\PS x { m with st:=r } w f va w':=by
 have HH:Hid (MK x m w f va):=h;clear h;go_enter func53,ntmps53
 go_wp2_with fail;refine (JX hj m w f va HH.o v r hst hl).mono ?_;rintro e w1 ⟨rfl,hT⟩;obtain ⟨h1,hF⟩:=HH.o.same hj hT;obtain ⟨q,c,_,c1,hcap,c0,cf,hP⟩:=h1.top hj hst;have HP:Hid (PS x { m with st:=r } w f va (w1.setCell ⟨x.g,0,none⟩ (.slice (some ⟨q,0,none⟩) r.length c))):=by
  obtain ⟨v',k1,k2⟩:=(hP r.length (by rw[hst];simp)).o
  refine ⟨v',?_,hF.trans k2⟩;have e:m.st.drop (m.st.length - r.length)=r:=by rw[hst];simp
  rw[e] at k1;exact k1
 clear hP h1 hF hT HH hj hst;generalize r.length=K at *;go_wp2;go_end0
 go_wp2;go_ret;exact ⟨rfl,HP.o⟩
theorem MK.SL (hj:iT x)(h:MK x m w f va){u:Nat×Int}{r:List (Nat×Int)}(hu:m.fU=u::r) :
  ∃ q c,f 1=.slice (some ⟨q,0,none⟩) (r.length+1) c/\w.cell? ⟨q,r.length * 2,none⟩=some (.int .i64 (u.1:Int))/\w.cell? ⟨q,r.length * 2+1,none⟩=some (.int .i64 u.2)/\r.length+1<=c /\
   Hid (PM x { m with fU:=r } w f va (w.setCell ⟨x.g,1,none⟩ (.slice (some ⟨q,0,none⟩) r.length c))):=by
 have hs:=h.a.un;have hlen:m.fU.length=r.length+1:=by rw[hu];rfl
 obtain ⟨q,c,e⟩:=JW hs (by omega)
 rw[e,hlen] at hs;have hcap:r.length+1<=c:=by
  rcases hs.2 with ⟨h1,_⟩ | ⟨g,cap,cur,h1,_,_,h2,_⟩
  ·cases h1
  ·cases h1;exact h2
 have hx:oF m.fU.reverse=oF r.reverse++[.int .i64 (u.1:Int),.int .i64 u.2]:=by rw[hu,dP,Y1];rfl
 have hl:(oF r.reverse).length=r.length * 2:=by rw[zkw,List.length_reverse]
 have h0:(oF m.fU.reverse)[r.length * 2]?=some (.int .i64 (u.1:Int)):=by rw[hx,aJ (by omega),hl,eP];rfl
 have h1:(oF m.fU.reverse)[r.length * 2+1]?=some (.int .i64 u.2):=by rw[hx,aJ (by omega),hl,show r.length * 2+1 - r.length * 2=1 by omega];rfl
 refine ⟨q,c,by rw[e,hlen],by rw[hs.cellAt _ (by omega)];exact h0,by rw[hs.cellAt _ (by omega)];exact h1,hcap,?_⟩
 have hcut:=NG hs (k:=r.length) (by omega)
 rw[hx,List.take_left' hl] at hcut;obtain ⟨k1,k2⟩:=h.Y3 (v':=.slice (some ⟨q,0,none⟩) r.length c) hj r (fO.refl _ _) (ak (by rw[e];rfl)) hcut
 exact ⟨_,_,k1,k2⟩
theorem MK.Zf (_hj:iT x)(h:MK x m w f va){b:Nat×Nat×Nat}{r:List (Nat×Nat×Nat)}(hb:m.fP=b::r) :
  ∃ q c,f 2=.slice (some ⟨q,0,none⟩) (r.length+1) c/\w.cell? ⟨q,r.length * 3,none⟩=some (.int .i64 (b.1:Int))/\w.cell? ⟨q,r.length * 3+1,none⟩=some (.int .i64 (b.2.1:Int))/\w.cell? ⟨q,r.length * 3+2,none⟩=some (.int .i64 (b.2.2:Int))/\r.length+1<=c /\
   w.ownsRow x.B 170 3 (.slice (some ⟨q,0,none⟩) r.length c) r.length (nK r.reverse):=by
 have hs:=h.a.be;have hlen:m.fP.length=r.length+1:=by rw[hb];rfl
 obtain ⟨q,c,e⟩:=JW hs (by omega)
 rw[e,hlen] at hs;have hcap:r.length+1<=c:=by
  rcases hs.2 with ⟨h1,_⟩ | ⟨g,cap,cur,h1,_,_,h2,_⟩
  ·cases h1
  ·cases h1;exact h2
 have hx:nK m.fP.reverse=nK r.reverse++[.int .i64 (b.1:Int),.int .i64 (b.2.1:Int),.int .i64 (b.2.2:Int)]:=by rw[hb,dP,Y2];rfl
 have hl:(nK r.reverse).length=r.length * 3:=by rw[zo5,List.length_reverse]
 have h0:(nK m.fP.reverse)[r.length * 3]?=some (.int .i64 (b.1:Int)):=by rw[hx,aJ (by omega),hl,eP];rfl
 have h1:(nK m.fP.reverse)[r.length * 3+1]?=some (.int .i64 (b.2.1:Int)):=by rw[hx,aJ (by omega),hl,show r.length * 3+1 - r.length * 3=1 by omega];rfl
 have h2:(nK m.fP.reverse)[r.length * 3+2]?=some (.int .i64 (b.2.2:Int)):=by rw[hx,aJ (by omega),hl,show r.length * 3+2 - r.length * 3=2 by omega];rfl
 refine ⟨q,c,by rw[e,hlen],by rw[hs.cellAt _ (by omega)];exact h0,by rw[hs.cellAt _ (by omega)];exact h1,by rw[hs.cellAt _ (by omega)];exact h2,hcap,?_⟩
 have hcut:=NG hs (k:=r.length) (by omega)
 rw[hx,List.take_left' hl] at hcut;exact hcut
theorem Ce {e z m:Nat}{cs:List fC}(h:w.ownsRow B e z (.slice a n k) m cs):n=m:=by
 rcases h.2 with ⟨h1,h2⟩ | ⟨g,cap,cur,h1,_⟩
 ·cases h1;exact h2.symm
 ·cases h1;rfl
theorem ztq (hj:iT x)(m:Ms)(w:fu)(f:Nat->fC)(va:fC)(h:MK x m w f va)(i:Nat)(v:Int)(hl:m.fU.length<=10000000) :
  Calls prog 80 #[.pointer (some ⟨x.g,1,none⟩),.int .i64 (i:Int),.int .i64 v] w fun e w'=>e=.returned (.tuple #[])/\PM x { m with fU:=(i,v)::m.fU } w f va w':=by
 have c0:=h.a.blk.cell 1 (by decide)
 obtain ⟨a,n,cp,e0⟩:=jm h.a.un;obtain ⟨i0,hi,hz0,hz1,hz2⟩:=info_parts zn5;have hW:fO (fun _=>False) w (w.alloc (.cells #[.int .i64 (i:Int),.int .i64 v] 225)):=(fO.refl _ _).alloc _
 have hgz:=h.a.lt;have hB:=h.a.hB;have O1:Hid ((w.alloc (.cells #[.int .i64 (i:Int),.int .i64 v] 225)).ownsRow x.B 225 2 (f 1) m.fU.length (oF m.fU.reverse)):=gZ h.a.un hW (fun _ _ h=>h)
 have O2:Hid (∀ j u,[Value.int .i64 (i:Int),.int .i64 v][j]?=some u->(w.alloc (.cells #[.int .i64 (i:Int),.int .i64 v] 225)).cell? ((⟨w.heap.size,0,none⟩:Addr).add j)=some u):=Mv (t:=225) (by
  show (w.heap.push _)[w.heap.size]?=_
  rw[aB,if_pos rfl])
 have O3:Hid (∀ u∈[Value.int .i64 (i:Int),.int .i64 v],u.oneCell'=true):=by intro u hu;simp at hu;rcases hu with rfl | rfl<;>rfl
 have O4:Hid (m.fU.length+1<=maxLen):=by unfold Hid maxLen;omega
 have O5:Hid ((m.fU.length+1) * 16<=140737488355328):=by unfold Hid;omega
 have O6:Hid (x.B<=(w.alloc (.cells #[.int .i64 (i:Int),.int .i64 v] 225)).heap.size):=by have:=hW.size;unfold Hid;omega
 have AQ:Hid (_):=h.Ml hj (i,v) hW;rw[e0] at O1 AQ c0;clear hW h hj;go_enter func80,ntmps80
 go_wp2_with (first | (at_builtin;refine wpList_append_own_at _ rfl _ _ 155 rfl x.B 225 i0 (.agg #[.int .i64 0,.int .i64 0]) 2 16 underlying155 hi hz0 hz1 hz2 rfl (bZ 1) _ _ _ rfl O1.o _ 1 1 _ rfl rfl O2.o O3.o O4.o O5.o O6.o ?_;intro v' w3 hown' hgrow _ hloc;obtain ⟨a1,n1,k1,rfl,hc3,hf3,HN⟩:=AQ.o v' w3 hown' hgrow hloc;clear hown' hgrow hloc) | fail)
 go_end0
 exact ⟨rfl,HN.o⟩
theorem zjt (hj:iT x)(m:Ms)(w:fu)(f:Nat->fC)(va:fC)(h:MK x m w f va)(a2 a3:Nat)(hl:m.fP.length<=10000000)(_hu:m.fU.length<=10000000) :
  Calls prog 72 #[.pointer (some ⟨x.g,1,none⟩),.int .i64 (a2:Int),.int .i64 (a3:Int)] w fun e w'=>e=.returned (.tuple #[])/\PM x { m with fP:=(m.fU.length,a2,a3)::m.fP } w f va w':=by
 have c0:=h.a.blk.cell 2 (by decide)
 have c1:=h.a.blk.cell 1 (by decide)
 obtain ⟨a,n,cp,e0⟩:=jm h.a.be;obtain ⟨au,nu,cu,eu⟩:=jm h.a.un;obtain rfl:nu=m.fU.length:=by have:=h.a.un;rw[eu] at this;exact Ce this
 obtain ⟨i0,hi,hz0,hz1,hz2⟩:=info_parts Mq;have hW:fO (fun _=>False) w (w.alloc (.cells #[.int .i64 (m.fU.length:Int),.int .i64 (a2:Int),.int .i64 (a3:Int)] 170)).drew:=((fO.refl _ _).alloc _).drew
 have hgz:=h.a.lt;have hB:=h.a.hB;have O1:Hid ((w.alloc (.cells #[.int .i64 (m.fU.length:Int),.int .i64 (a2:Int),.int .i64 (a3:Int)] 170)).drew.ownsRow x.B 170 3 (f 2) m.fP.length (nK m.fP.reverse)):=gZ h.a.be hW (fun _ _ h=>h)
 have O2:Hid (∀ j u,[Value.int .i64 (m.fU.length:Int),.int .i64 (a2:Int),.int .i64 (a3:Int)][j]?=some u->(w.alloc (.cells #[.int .i64 (m.fU.length:Int),.int .i64 (a2:Int),.int .i64 (a3:Int)] 170)).drew.cell? ((⟨w.heap.size,0,none⟩:Addr).add j)=some u):=Sg (t:=170) (by
  show (w.heap.push _)[w.heap.size]?=_
  rw[aB,if_pos rfl])
 have O3:Hid (∀ u∈[Value.int .i64 (m.fU.length:Int),.int .i64 (a2:Int),.int .i64 (a3:Int)],u.oneCell'=true):=by intro u hu;simp at hu;rcases hu with rfl | rfl | rfl<;>rfl
 have O4:Hid (m.fP.length+1<=maxLen):=by unfold Hid maxLen;omega
 have O5:Hid ((m.fP.length+1) * 24<=140737488355328):=by unfold Hid;omega
 have O6:Hid (x.B<=(w.alloc (.cells #[.int .i64 (m.fU.length:Int),.int .i64 (a2:Int),.int .i64 (a3:Int)] 170)).drew.heap.size):=by have:=hW.size;unfold Hid;omega
 have AQ:Hid (_):=h.zju hj (m.fU.length,a2,a3) hW;rw[e0] at O1 AQ c0;rw[eu] at c1;clear hW h hj;generalize m.fU.length=U at *;go_enter func72,ntmps72
 go_wp2_with fail;go_region_law (refine wR rfl _ _ 156 rfl x.B 170 i0 (.agg #[.int .i64 0,.int .i64 0,.int .i64 0]) 3 24 underlying156 hi hz0 hz1 hz2 rfl (bZ 2) _ _ _ rfl O1.o _ 1 1 _ rfl rfl O2.o O3.o O4.o O5.o O6.o ?_;intro v' w3 hown' hgrow hloc;obtain ⟨a1,n1,k1,rfl,hc3,hf3,HN⟩:=AQ.o v' w3 hown' hgrow hloc;clear hown' hgrow hloc)
 all_goals
  go_wp2_with fail;go_end0
  exact ⟨rfl,HN.o⟩
theorem qxa (hj:iT x)(m:Ms)(w:fu)(f:Nat->fC)(va:fC)(h:MK x m w f va)(u:Nat×Int)(r:List (Nat×Int))(hu:m.fU=u::r)(hl:r.length<=10000000) :
  Calls prog 185 #[.pointer (some ⟨x.g,1,none⟩)] w fun e w'=>e=.returned (.tuple #[])/\PM x { m with fU:=r } w f va w':=by
 have hT:fO (fun _=>False) w w.drew:=(fO.refl _ _).drew
 obtain ⟨h1,hF⟩:=h.same hj hT;obtain ⟨q,c,e1,_,_,hcap,HP⟩:=h1.SL hj hu;have HQ:Hid (PM x { m with fU:=r } w f va (w.drew.setCell ⟨x.g,1,none⟩ (.slice (some ⟨q,0,none⟩) r.length c))):=PM.trans h1 hF HP.o
 have c1:=h.a.blk.cell 1 (by decide)
 have cf:=h.a.blk.fr 1;rw[e1] at c1;clear h1 hF HP h hj hu hT;generalize r.length=K at *;go_enter func185,ntmps185
 go_wp2_with fail;go_region
 all_goals
  go_wp2_with fail;go_end0
  exact ⟨rfl,HQ.o⟩
