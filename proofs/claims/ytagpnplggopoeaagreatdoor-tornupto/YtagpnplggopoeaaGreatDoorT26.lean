import Derived.Test.YtagpnplggopoeaaGreatDoorT23
import Derived.Test.YtagpnplggopoeaaGreatDoorT16
import Derived.Laws.OwnMore
import Derived.Deep.MidRow
import Derived.Laws.EntriesVeiled
set_option maxRecDepth 100000
set_option maxHeartbeats 2000000
namespace Go.Proofs.YtagpnplggopoeaaGreatDoor
open Go.RowKit
namespace Rn
def i64C (l:List Int):List Value:=l.map fun v=>.int .i64 v
def undC (l:List (Nat×Int)):List Value:=l.flatMap fun u=>[.int .i64 (u.1:Int),.int .i64 u.2]
def begC (l:List (Nat×Nat×Nat)):List Value:=l.flatMap fun b=>[.int .i64 (b.1:Int),.int .i64 (b.2.1:Int),.int .i64 (b.2.2:Int)]
theorem zkw (l:List (Nat×Int)):(undC l).length=l.length * 2:=by
 induction l with
 | nil=>rfl
 | cons v l ih=>simp[undC] at ih ⊢;omega
theorem zo5 (l:List (Nat×Nat×Nat)):(begC l).length=l.length * 3:=by
 induction l with
 | nil=>rfl
 | cons v l ih=>simp[begC] at ih ⊢;omega
theorem zod (a b:List Int):i64C (a++b)=i64C a++i64C b:=List.map_append
theorem qy9 (a b:List (Nat×Int)):undC (a++b)=undC a++undC b:=List.flatMap_append
theorem zbg (a b:List (Nat×Nat×Nat)):begC (a++b)=begC a++begC b:=List.flatMap_append
theorem ql3 {w:World} {a:Addr} {u v:Value} (h:w.cell? a=some u):(w.setCell a v).cell? a=some v:=World.cell?_setCell_same' w a v (by rw[h];rfl)
theorem qb4 {w:World} {a b:Addr} {v:Value} (h:a≠b):(w.setCell a v).cell? b=w.cell? b:=by
 apply World.cell?_setCell_other
 exact h
structure Blk (w:World) (g n:Nat) (f:Nat→Value):Prop where
 cell:∀ o,o < n→w.cell? ⟨g,o,none⟩=some (f o)
 fr:∀ o,w.frozen? ⟨g,o,none⟩=false
def upd (f:Nat→Value) (o:Nat) (v:Value):Nat→Value:=fun k=>if k=o then v else f k
theorem Blk.set {w:World} {g n o:Nat} {f:Nat→Value} (h:Blk w g n f) (ho:o < n) (v:Value):Blk (w.setCell ⟨g,o,none⟩ v) g n (upd f o v):=by
 refine ⟨fun k hk=>?_,fun k=>?_⟩
 ·unfold upd;by_cases e:k=o
  ·subst e;rw[if_pos rfl];exact ql3 (h.cell k hk)
  ·rw[if_neg e,qb4 (by intro h;cases h;exact e rfl)]
   exact h.cell k hk
 ·rw[World.frozen?_setCell];exact h.fr k
theorem Blk.lt {w:World} {g n:Nat} {f:Nat→Value} (h:Blk w g n f) (hn:0 < n):g < w.heap.size:=lt_of_cell (h.cell 0 hn)
theorem Blk.tch {w w':World} {T:Nat→Prop} {g n:Nat} {f:Nat→Value} (h:Blk w g n f) (hn:0 < n) (hT:Tch T w w') (hg:¬ T g):Blk w' g n f :=
 ⟨fun o ho=>(World.cell?_of_block (w:=w) (a:=⟨g,o,none⟩) (hT.block g (h.lt hn) hg)).trans (h.cell o ho),fun o=>(World.frozen?_of_block (w:=w) (a:=⟨g,o,none⟩) (hT.block g (h.lt hn) hg)).trans (h.fr o)⟩
theorem qs4 {w:World} {B:Nat} {e:TypeId} {size n c k:Nat} {a:Option Addr} {xs:List Value} (h:w.ownsRow B e size (.slice a n c) n xs) (hk:k≤n):w.ownsRow B e size (.slice a k c) k (xs.take (k * size)):=by
 obtain ⟨h1,h2⟩:=h;have hm:k * size≤n * size:=Nat.mul_le_mul_right _ hk;refine ⟨by rw[List.length_take];omega,?_⟩
 rcases h2 with ⟨h2,h3⟩ | ⟨g,cap,cur,hv,hg,hh,h4,h5,h6,h7⟩
 ·cases h2;obtain rfl:k=0:=by omega
  exact Or.inl ⟨rfl,rfl⟩
 ·cases hv;refine Or.inr ⟨g,_,cur,rfl,hg,hh,by omega,h5,h6,?_⟩
  rw[← h7,List.take_take];congr 1;omega
structure Cx where
 B:Nat
 g:Nat
 pp:Nat
 jl:Nat
 vj:Value
 J:Nat→Nat
 P:Px.Pg
 E:Nat→Addr
 K:List Int→List Px.Ask→Value→World→Prop
def qit (k:Nat):Bool:=k=4 || k=5 || k=6 || k=8 || k=9 || k=10
def funK (k:Nat):Nat:=match k with
 | 0=>88 | 1=>90 | 2=>91 | 3=>93 | 7=>98
 | 11=>104 | 12=>105 | 13=>106 | 14=>108 | 15=>110
 | 16=>113 | 17=>115 | 18=>116 | 19=>118 | _=>144
def qv7 (k:Nat):Nat:=match k with
 | 4=>95 | 5=>96 | 6=>97 | 8=>100 | 9=>102 | _=>103
def capK (J:Nat→Nat) (k:Nat):Array Value:=if qit k then #[.pointer (some ⟨J k,0,none⟩)] else #[]
def rows (f:Nat→Value) (va:Value):List Value:=[f 0,f 1,f 2,f 85,va]
structure MAt (x:Cx) (m:Px.Ms) (w:World) (f:Nat→Value) (va:Value):Prop where
 hB:x.B≤x.g
 hj:x.jl < x.B
 blk:Blk w x.g 90 f
 f3:f 3=x.vj
 f4:f 4=.pointer (some ⟨x.pp,0,none⟩)
 tab:∀ k,k < 20→f (8+4 * k)=.func (.func (funK k)) #[] (capK x.J k)
 f86:f 86=.int .i64 (m.place:Int)
 f87:f 87=.int .i64 (m.tried:Int)
 f88:f 88=.bool m.qak
 f89:f 89=.int .i64 (m.fin:Int)
 st:w.ownsRow x.B 2 1 (f 0) m.st.length (i64C m.st.reverse)
 un:w.ownsRow x.B 246 2 (f 1) m.undos.length (undC m.undos.reverse)
 be:w.ownsRow x.B 198 3 (f 2) m.begun.length (begC m.begun.reverse)
 va_:w.ownsRow x.B 2 1 (f 85) m.vars.length (i64C m.vars)
 sep:Sep x.B x.g w (rows f va)
 jn:∀ k,qit k=true→w.cell? ⟨x.J k,0,none⟩=some (.func (.func (qv7 k)) #[] #[])∧x.J k≠x.g∧x.J k≠x.jl∧∀ r∈rows f va,r.ownBlock≠some (x.J k)
structure PgS (x:Cx) (w:World):Prop where
 ex:∃ vl vw vn lo,w.heap[x.pp]?=some (.cells #[vw,.int .i64 (x.P.nv:Int),vn,vl] 122)∧x.pp < x.B∧x.pp≠x.jl ∧
  w.ownsRow lo 190 3 vl x.P.ins.length (Mk.qby x.P.ins)∧(∀ k,vl.ownBlock=some k→k < x.B∧k≠x.jl) ∧
  w.ownsRow lo 9 1 vw x.P.words.length (Mk.strCells x.P.words)∧(∀ k,vw.ownBlock=some k→k < x.B∧k≠x.jl)
structure Ge (x:Cx) (w:World):Prop where
 v1:w.cell? ⟨11,0,none⟩=some (.iface 359 (.pointer (some (x.E 1))))
 v2:w.cell? ⟨13,0,none⟩=some (.iface 359 (.pointer (some (x.E 2))))
 v3:w.cell? ⟨14,0,none⟩=some (.iface 359 (.pointer (some (x.E 3))))
 v4:w.cell? ⟨12,0,none⟩=some (.iface 359 (.pointer (some (x.E 4))))
 b:∀ i,1≤i→i≤4→(x.E i).block < x.B∧(x.E i).block≠x.jl∧∃ c t,w.heap[(x.E i).block]?=some (.cells c t (0,0))
 ne:∀ i j,1≤i→i≤4→1≤j→j≤4→i≠j→x.E i≠x.E j
 lo:21≤x.B
 lj:21≤x.jl
def errV (x:Cx) (e:Nat):Value:=if e=0 then .nilIface else .iface 359 (.pointer (some (x.E e)))
structure MK (x:Cx) (m:Px.Ms) (w:World) (f:Nat→Value) (va:Value):Prop where
 a:MAt x m w f va
 k:x.K m.left m.asks va w
 p:PgS x w
 e:Ge x w
def Own (x:Cx) (f:Nat→Value) (va:Value) (k:Nat):Prop:=k=x.g∨k=x.jl∨∃ r∈rows f va,r.ownBlock=some k
structure Fr (x:Cx) (w:World) (f:Nat→Value) (va:Value) (w':World) (f':Nat→Value) (va':Value):Prop where
 t:Tch (Own x f va) w w'
 o:∀ k,k < w.heap.size→Own x f' va' k→Own x f va k
theorem Fr.refl (x:Cx) (w:World) (f:Nat→Value) (va:Value):Fr x w f va w f va:=⟨Tch.refl _ _,fun _ _ h=>h⟩
theorem Fr.trans {x:Cx} {w w1 w2:World} {f f1 f2:Nat→Value} {va va1 va2:Value} (h:Fr x w f va w1 f1 va1) (k:Fr x w1 f1 va1 w2 f2 va2):Fr x w f va w2 f2 va2 :=
 ⟨⟨k.t.os.trans h.t.os,k.t.tape.trans h.t.tape,k.t.output.trans h.t.output,Nat.le_trans h.t.size k.t.size,fun i hi hn=>(k.t.block i (Nat.lt_of_lt_of_le hi h.t.size) fun ho=>hn (h.o i hi ho)).trans (h.t.block i hi hn)⟩,fun i hi ho=>h.o i hi (k.o i (Nat.lt_of_lt_of_le hi h.t.size) ho)⟩
structure JOK (x:Cx):Prop where
 keep:∀ (l:List Int) (a:List Px.Ask) (va:Value) (w w':World) (T:Nat→Prop),x.K l a va w→Tch T w w'→(∀ k,T k→x.B≤k)→(∀ k,va.ownBlock=some k→¬ T k)→x.K l a va w'
theorem MAt.lt {x:Cx} {m:Px.Ms} {w:World} {f:Nat→Value} {va:Value} (h:MAt x m w f va):x.g < w.heap.size:=h.blk.lt (by decide)
theorem PgS.tch {x:Cx} {w w':World} {T:Nat→Prop} (h:PgS x w) (hT:Tch T w w') (ht:∀ k,T k→x.B≤k∨k=x.jl):PgS x w':=by
 obtain ⟨vl,vw,vn,lo,h1,h2,h3,h4,h5,h6,h7⟩:=h.ex;have hn:∀ k,k < x.B∧k≠x.jl→¬ T k:=fun k hk hk'=>by rcases ht k hk' with h | h;omega;exact hk.2 h
 exact ⟨vl,vw,vn,lo,by rw[hT.block _ (Array.getElem?_eq_some_iff.1 h1).1 (hn _ ⟨h2,h3⟩)];exact h1,h2,h3,qah h4 hT (fun k hk=>hn k (h5 k hk)),h5,qah h6 hT (fun k hk=>hn k (h7 k hk)),h7⟩
theorem Ge.tch {x:Cx} {w w':World} {T:Nat→Prop} (h:Ge x w) (hT:Tch T w w') (ht:∀ k,T k→x.B≤k∨k=x.jl):Ge x w':=by
 have hn:∀ k,k < x.B∧k≠x.jl→¬ T k:=fun k hk hk'=>by rcases ht k hk' with h | h;omega;exact hk.2 h
 have lo:=h.lo;have lj:=h.lj;have hv:∀ {k:Nat} {v:Value},k < 21→w.cell? ⟨k,0,none⟩=some v→w'.cell? ⟨k,0,none⟩=some v:=fun {k v} hk hc=>(World.cell?_of_block (w:=w) (a:=⟨k,0,none⟩) (hT.block k (lt_of_cell hc) (hn k ⟨by omega,by omega⟩))).trans hc
 refine ⟨hv (by decide) h.v1,hv (by decide) h.v2,hv (by decide) h.v3,hv (by decide) h.v4,fun i h1 h2=>?_,h.ne,lo,lj⟩
 obtain ⟨b1,b2,c,t,b3⟩:=h.b i h1 h2;exact ⟨b1,b2,c,t,by rw[hT.block _ (Array.getElem?_eq_some_iff.1 b3).1 (hn _ ⟨b1,b2⟩)];exact b3⟩
theorem MAt.same {x:Cx} {m:Px.Ms} {w w':World} {f:Nat→Value} {va:Value} (h:MAt x m w f va) (hT:Tch (fun _=>False) w w'):MAt x m w' f va :=
 ⟨h.hB,h.hj,h.blk.tch (by decide) hT (fun h=>h),h.f3,h.f4,h.tab,h.f86,h.f87,h.f88,h.f89,qah h.st hT (fun _ _ h=>h),qah h.un hT (fun _ _ h=>h),qah h.be hT (fun _ _ h=>h),qah h.va_ hT (fun _ _ h=>h),h.sep.world hT.size,fun k hk=>by
  obtain ⟨a,b⟩:=h.jn k hk;exact ⟨(World.cell?_of_block (w:=w) (a:=⟨x.J k,0,none⟩) (hT.block _ (lt_of_cell a) (fun h=>h))).trans a,b⟩⟩
theorem MK.same {x:Cx} (hj:JOK x) {m:Px.Ms} {w w':World} {f:Nat→Value} {va:Value} (h:MK x m w f va) (hT:Tch (fun _=>False) w w'):MK x m w' f va∧Fr x w f va w' f va :=
 ⟨⟨h.a.same hT,hj.keep _ _ _ _ _ _ h.k hT (fun _ h=>h.elim) (fun _ _ h=>h),h.p.tch hT (fun _ h=>h.elim),h.e.tch hT (fun _ h=>h.elim)⟩,hT.mono (fun _ _ h=>h.elim),fun _ _ h=>h⟩
theorem zlt {f:Nat→Value} {va v:Value} {o r:Nat} (hor:(o=0∧r=0)∨(o=1∧r=1)∨(o=2∧r=2)∨(o=85∧r=3)):rows (upd f o v) va=(rows f va).set r v∧(rows f va)[r]?=some (f o):=by
 rcases hor with ⟨rfl,rfl⟩ | ⟨rfl,rfl⟩ | ⟨rfl,rfl⟩ | ⟨rfl,rfl⟩<;>simp[rows,upd]
structure Turned (x:Cx) (m:Px.Ms) (w W:World) (f:Nat→Value) (va:Value) (o r:Nat) (v':Value):Prop where
 t:Tch (fun k=>(f o).ownBlock=some k∨k=x.g) w W
 blk:Blk W x.g 90 (upd f o v')
 sep:Sep x.B x.g W (rows (upd f o v') va)
 jn:∀ k,qit k=true→W.cell? ⟨x.J k,0,none⟩=some (.func (.func (qv7 k)) #[] #[])∧x.J k≠x.g∧x.J k≠x.jl∧∀ u∈rows (upd f o v') va,u.ownBlock≠some (x.J k)
 k:x.K m.left m.asks va W
 p:PgS x W
 e:Ge x W
 fr:Fr x w f va W (upd f o v') va
 oth:∀ j u,(rows f va)[j]?=some u→j≠r→∀ k,u.ownBlock=some k→¬ ((f o).ownBlock=some k∨k=x.g)
 tab:∀ k,k < 20→upd f o v' (8+4 * k)=.func (.func (funK k)) #[] (capK x.J k)
 ne:v'.ownBlock≠some x.g
theorem MK.turn {x:Cx} (hj:JOK x) {m:Px.Ms} {w w3:World} {f:Nat→Value} {va v':Value} {o r:Nat} (h:MK x m w f va) (hor:(o=0∧r=0)∨(o=1∧r=1)∨(o=2∧r=2)∨(o=85∧r=3)) (hT:Tch (fun k=>(f o).ownBlock=some k) w w3) (hloc:v'.ownBlock=(f o).ownBlock∨∃ n,v'.ownBlock=some n∧w.heap.size≤n∧n < w3.heap.size) :
  Turned x m w (w3.setCell ⟨x.g,o,none⟩ v') f va o r v':=by
 obtain ⟨hru,hro⟩:=zlt (f:=f) (va:=va) (v:=v') hor;have hmem:f o∈rows f va:=List.mem_of_getElem? hro;have hcne:¬ (f o).ownBlock=some x.g:=fun e=>(h.a.sep.own _ hmem _ e).2.1 rfl
 have hlt:=h.a.lt;have hB:=h.a.hB;have hjl:=h.a.hj;have hT2:Tch (fun k=>(f o).ownBlock=some k∨k=x.g) w (w3.setCell ⟨x.g,o,none⟩ v'):=Tch.setCell (T:=fun k=>(f o).ownBlock=some k∨k=x.g) (hT.mono fun k _ hk=>Or.inl hk) (p:=⟨x.g,o,none⟩) (Or.inl (Or.inr rfl)) _
 have hTB:∀ k,((f o).ownBlock=some k∨k=x.g)→x.B≤k:=fun k hk=>by
  rcases hk with hk | rfl
  ·exact (h.a.sep.own _ hmem k hk).1
  ·exact hB
 have ho90:o < 90:=by omega
 have oth:∀ j u,(rows f va)[j]?=some u→j≠r→∀ k,u.ownBlock=some k→¬ ((f o).ownBlock=some k∨k=x.g):=by
  intro j u hju hjr k hk hh;rcases hh with hh | rfl
  ·exact h.a.sep.mem hju hro hjr k hk hh
  ·exact (h.a.sep.own u (List.mem_of_getElem? hju) _ hk).2.1 rfl
 have hloc':v'.ownBlock=(f o).ownBlock∨v'.ownBlock=none∨∃ n,v'.ownBlock=some n∧w.heap.size≤n∧n < (w3.setCell ⟨x.g,o,none⟩ v').heap.size:=by
  rcases hloc with hl | ⟨n,hl,h1,h2⟩
  ·exact Or.inl hl
  ·exact Or.inr (Or.inr ⟨n,hl,h1,by simpa [World.setCell] using h2⟩)
 have hva:∀ k,va.ownBlock=some k→¬ ((f o).ownBlock=some k∨k=x.g):=oth 4 va rfl (by omega)
 have hBw:x.B≤w.heap.size:=by omega
 have hsep:Sep x.B x.g (w3.setCell ⟨x.g,o,none⟩ v') (rows (upd f o v') va):=by
  rcases hor with ⟨rfl,rfl⟩ | ⟨rfl,rfl⟩ | ⟨rfl,rfl⟩ | ⟨rfl,rfl⟩
  ·exact Sep.turn (A:=[]) (R:=[f 1,f 2,f 85,va]) h.a.sep hT2.size hBw hlt hloc'
  ·exact Sep.turn (A:=[f 0]) (R:=[f 2,f 85,va]) h.a.sep hT2.size hBw hlt hloc'
  ·exact Sep.turn (A:=[f 0,f 1]) (R:=[f 85,va]) h.a.sep hT2.size hBw hlt hloc'
  ·exact Sep.turn (A:=[f 0,f 1,f 2]) (R:=[va]) h.a.sep hT2.size hBw hlt hloc'
 have hmem':∀ u∈rows (upd f o v') va,u∈rows f va∨u=v':=fun u hu=>by
  rw[hru] at hu;exact List.mem_or_eq_of_mem_set hu
 refine ⟨hT2,(h.a.blk.tch (by decide) hT hcne).set ho90 v',hsep,fun k hk=>?_,hj.keep _ _ _ _ _ _ h.k hT2 hTB hva,h.p.tch hT2 fun k hk=>Or.inl (hTB k hk),h.e.tch hT2 fun k hk=>Or.inl (hTB k hk),⟨hT2.mono fun k _ hk=>?_,fun k hk hk'=>?_⟩,oth,fun k hk=>?_,?_⟩
 ·obtain ⟨a,b,c,d⟩:=h.a.jn k hk;have hjz:=lt_of_cell a;refine ⟨(World.cell?_of_block (w:=w) (a:=⟨x.J k,0,none⟩) (hT2.block _ hjz (fun hh=>?_))).trans a,b,c,fun u hu=>?_⟩
  ·rcases hh with hh | hh
   ·exact d _ hmem hh
   ·exact b hh
  ·rcases hmem' u hu with hu | rfl
   ·exact d u hu
   ·intro e;rcases hloc with hl | ⟨n,hl,h1,_⟩
    ·rw[hl] at e;exact d _ hmem e
    ·rw[hl] at e;cases e;omega
 ·rcases hk with hk | hk
  ·exact Or.inr (Or.inr ⟨f o,hmem,hk⟩)
  ·exact Or.inl hk
 ·rcases hk' with hk' | hk' | ⟨u,hu,hk'⟩
  ·exact Or.inl hk'
  ·exact Or.inr (Or.inl hk')
  ·rcases hmem' u hu with hu | rfl
   ·exact Or.inr (Or.inr ⟨u,hu,hk'⟩)
   ·rcases hloc with hl | ⟨n,hl,h1,_⟩
    ·rw[hl] at hk';exact Or.inr (Or.inr ⟨_,hmem,hk'⟩)
    ·rw[hl] at hk';cases hk';omega
 ·have:¬ 8+4 * k=o:=by omega
  unfold upd;rw[if_neg this];exact h.a.tab k hk
 ·intro e;rcases hloc with hl | ⟨n,hl,h1,h2⟩
  ·rw[hl] at e;exact hcne e
  ·rw[hl] at e;cases e;omega
theorem MK.zeo {x:Cx} (hj:JOK x) {m:Px.Ms} {w w3:World} {f:Nat→Value} {va v':Value} (h:MK x m w f va) (st:List Int) (hT:Tch (fun k=>(f 0).ownBlock=some k) w w3) (hloc:v'.ownBlock=(f 0).ownBlock∨∃ n,v'.ownBlock=some n∧w.heap.size≤n∧n < w3.heap.size) (hown:w3.ownsRow x.B 2 1 v' st.length (i64C st.reverse)) :
  MK x { m with st:=st } (w3.setCell ⟨x.g,0,none⟩ v') (upd f 0 v') va∧Fr x w f va (w3.setCell ⟨x.g,0,none⟩ v') (upd f 0 v') va:=by
 have t:=h.turn (o:=0) (r:=0) hj (Or.inl ⟨rfl,rfl⟩) hT hloc;exact ⟨⟨⟨h.a.hB,h.a.hj,t.blk,h.a.f3,h.a.f4,t.tab,h.a.f86,h.a.f87,h.a.f88,h.a.f89,ownsRow_setCell_other hown (a:=⟨x.g,0,none⟩) t.ne _,qah h.a.un t.t (t.oth 1 _ rfl (by decide)),qah h.a.be t.t (t.oth 2 _ rfl (by decide)),qah h.a.va_ t.t (t.oth 3 _ rfl (by decide)),t.sep,t.jn⟩,t.k,t.p,t.e⟩,t.fr⟩
theorem MK.zpv {x:Cx} (hj:JOK x) {m:Px.Ms} {w w3:World} {f:Nat→Value} {va v':Value} (h:MK x m w f va) (un:List (Nat×Int)) (hT:Tch (fun k=>(f 1).ownBlock=some k) w w3) (hloc:v'.ownBlock=(f 1).ownBlock∨∃ n,v'.ownBlock=some n∧w.heap.size≤n∧n < w3.heap.size) (hown:w3.ownsRow x.B 246 2 v' un.length (undC un.reverse)) :
  MK x { m with undos:=un } (w3.setCell ⟨x.g,1,none⟩ v') (upd f 1 v') va∧Fr x w f va (w3.setCell ⟨x.g,1,none⟩ v') (upd f 1 v') va:=by
 have t:=h.turn (o:=1) (r:=1) hj (Or.inr (Or.inl ⟨rfl,rfl⟩)) hT hloc;exact ⟨⟨⟨h.a.hB,h.a.hj,t.blk,h.a.f3,h.a.f4,t.tab,h.a.f86,h.a.f87,h.a.f88,h.a.f89,qah h.a.st t.t (t.oth 0 _ rfl (by decide)),ownsRow_setCell_other hown (a:=⟨x.g,1,none⟩) t.ne _,qah h.a.be t.t (t.oth 2 _ rfl (by decide)),qah h.a.va_ t.t (t.oth 3 _ rfl (by decide)),t.sep,t.jn⟩,t.k,t.p,t.e⟩,t.fr⟩
theorem MK.zpw {x:Cx} (hj:JOK x) {m:Px.Ms} {w w3:World} {f:Nat→Value} {va v':Value} (h:MK x m w f va) (be:List (Nat×Nat×Nat)) (hT:Tch (fun k=>(f 2).ownBlock=some k) w w3) (hloc:v'.ownBlock=(f 2).ownBlock∨∃ n,v'.ownBlock=some n∧w.heap.size≤n∧n < w3.heap.size) (hown:w3.ownsRow x.B 198 3 v' be.length (begC be.reverse)) :
  MK x { m with begun:=be } (w3.setCell ⟨x.g,2,none⟩ v') (upd f 2 v') va∧Fr x w f va (w3.setCell ⟨x.g,2,none⟩ v') (upd f 2 v') va:=by
 have t:=h.turn (o:=2) (r:=2) hj (Or.inr (Or.inr (Or.inl ⟨rfl,rfl⟩))) hT hloc;exact ⟨⟨⟨h.a.hB,h.a.hj,t.blk,h.a.f3,h.a.f4,t.tab,h.a.f86,h.a.f87,h.a.f88,h.a.f89,qah h.a.st t.t (t.oth 0 _ rfl (by decide)),qah h.a.un t.t (t.oth 1 _ rfl (by decide)),ownsRow_setCell_other hown (a:=⟨x.g,2,none⟩) t.ne _,qah h.a.va_ t.t (t.oth 3 _ rfl (by decide)),t.sep,t.jn⟩,t.k,t.p,t.e⟩,t.fr⟩
theorem MK.put {x:Cx} (hj:JOK x) {m:Px.Ms} {w:World} {f:Nat→Value} {va:Value} (h:MK x m w f va) {o:Nat} (ho:85 < o∧o < 90) (v:Value) (p t:Nat) (u:Bool) (n:Nat) (h1:upd f o v 86=.int .i64 (p:Int)) (h2:upd f o v 87=.int .i64 (t:Int)) (h3:upd f o v 88=.bool u) (h4:upd f o v 89=.int .i64 (n:Int)) :
  MK x { m with place:=p,tried:=t,qak:=u,fin:=n } (w.setCell ⟨x.g,o,none⟩ v) (upd f o v) va∧Fr x w f va (w.setCell ⟨x.g,o,none⟩ v) (upd f o v) va:=by
 have hlt:=h.a.lt;have hB:=h.a.hB;have hT:Tch (fun k=>k=x.g) w (w.setCell ⟨x.g,o,none⟩ v):=Tch.setCell (T:=fun k=>k=x.g) (Tch.refl _ _) (p:=⟨x.g,o,none⟩) (Or.inl rfl) _
 have hTB:∀ k,k=x.g→x.B≤k:=fun k hk=>by omega
 have hne:∀ u∈rows f va,∀ k,u.ownBlock=some k→¬ k=x.g:=fun u hu k hk=>(h.a.sep.own u hu k hk).2.1
 have e0:upd f o v 0=f 0:=if_neg (by omega)
 have e1:upd f o v 1=f 1:=if_neg (by omega)
 have e2:upd f o v 2=f 2:=if_neg (by omega)
 have e3:upd f o v 3=f 3:=if_neg (by omega)
 have e4:upd f o v 4=f 4:=if_neg (by omega)
 have e5:upd f o v 85=f 85:=if_neg (by omega)
 have er:rows (upd f o v) va=rows f va:=by unfold rows;rw[e0,e1,e2,e5]
 refine ⟨⟨⟨hB,h.a.hj,h.a.blk.set ho.2 v,e3.trans h.a.f3,e4.trans h.a.f4,fun k hk=>(if_neg (by omega)).trans (h.a.tab k hk),h1,h2,h3,h4,by rw[e0];exact qah h.a.st hT (hne _ (by simp[rows])),by rw[e1];exact qah h.a.un hT (hne _ (by simp[rows])),by rw[e2];exact qah h.a.be hT (hne _ (by simp[rows])),by rw[e5];exact qah h.a.va_ hT (hne _ (by simp[rows])),by rw[er];exact h.a.sep.world hT.size,fun k hk=>?_⟩,hj.keep _ _ _ _ _ _ h.k hT hTB (hne va (by simp[rows])),h.p.tch hT fun k hk=>Or.inl (hTB k hk),h.e.tch hT fun k hk=>Or.inl (hTB k hk)⟩,hT.mono fun k _ hk=>Or.inl hk,fun k _ hk=>?_⟩
 ·obtain ⟨a,b,c,d⟩:=h.a.jn k hk;exact ⟨(World.cell?_of_block (w:=w) (a:=⟨x.J k,0,none⟩) (hT.block _ (lt_of_cell a) b)).trans a,b,c,by rw[er];exact d⟩
 ·unfold Own at hk;rw[er] at hk;exact hk
theorem MK.qsy {x:Cx} (hj:JOK x) {m:Px.Ms} {w:World} {f:Nat→Value} {va:Value} (h:MK x m w f va) (p:Nat):MK x { m with place:=p } (w.setCell ⟨x.g,86,none⟩ (.int .i64 (p:Int))) (upd f 86 (.int .i64 (p:Int))) va∧Fr x w f va (w.setCell ⟨x.g,86,none⟩ (.int .i64 (p:Int))) (upd f 86 (.int .i64 (p:Int))) va :=
 h.put hj (by decide) _ p m.tried m.qak m.fin rfl h.a.f87 h.a.f88 h.a.f89
theorem MK.zlx {x:Cx} (hj:JOK x) {m:Px.Ms} {w:World} {f:Nat→Value} {va:Value} (h:MK x m w f va) (p:Nat):MK x { m with tried:=p } (w.setCell ⟨x.g,87,none⟩ (.int .i64 (p:Int))) (upd f 87 (.int .i64 (p:Int))) va∧Fr x w f va (w.setCell ⟨x.g,87,none⟩ (.int .i64 (p:Int))) (upd f 87 (.int .i64 (p:Int))) va :=
 h.put hj (by decide) _ m.place p m.qak m.fin h.a.f86 rfl h.a.f88 h.a.f89
theorem MK.qml {x:Cx} (hj:JOK x) {m:Px.Ms} {w:World} {f:Nat→Value} {va:Value} (h:MK x m w f va) (u:Bool):MK x { m with qak:=u } (w.setCell ⟨x.g,88,none⟩ (.bool u)) (upd f 88 (.bool u)) va∧Fr x w f va (w.setCell ⟨x.g,88,none⟩ (.bool u)) (upd f 88 (.bool u)) va :=
 h.put hj (by decide) _ m.place m.tried u m.fin h.a.f86 h.a.f87 rfl h.a.f89
theorem MK.zf1 {x:Cx} (hj:JOK x) {m:Px.Ms} {w:World} {f:Nat→Value} {va:Value} (h:MK x m w f va) (n:Nat):MK x { m with fin:=n } (w.setCell ⟨x.g,89,none⟩ (.int .i64 (n:Int))) (upd f 89 (.int .i64 (n:Int))) va∧Fr x w f va (w.setCell ⟨x.g,89,none⟩ (.int .i64 (n:Int))) (upd f 89 (.int .i64 (n:Int))) va :=
 h.put hj (by decide) _ m.place m.tried m.qak n h.a.f86 h.a.f87 h.a.f88 rfl
def PM (x:Cx) (m:Px.Ms) (w:World) (f:Nat→Value) (va:Value) (w':World):Prop:=∃ f' va',MK x m w' f' va'∧Fr x w f va w' f' va'
theorem Own.lt {x:Cx} {m:Px.Ms} {w:World} {f:Nat→Value} {va:Value} (h:MAt x m w f va) {k:Nat} (hk:Own x f va k):k < w.heap.size:=by
 have:=h.lt
 have:=h.hB
 have:=h.hj
 rcases hk with rfl | rfl | ⟨r,hr,hk⟩
 ·exact h.lt
 ·omega
 ·exact (h.sep.own r hr k hk).2.2
theorem MK.away {x:Cx} (hj:JOK x) {m:Px.Ms} {w w':World} {f:Nat→Value} {va:Value} {T:Nat→Prop} (h:MK x m w f va) (hT:Tch T w w') (h1:∀ k,T k→x.B≤k) (h2:∀ k,T k→¬ Own x f va k) (h3:∀ k j,T k→qit j=true→k≠x.J j):MK x m w' f va:=by
 have hr:∀ r∈rows f va,∀ k,r.ownBlock=some k→¬ T k:=fun r hr k hk ht=>h2 k ht (Or.inr (Or.inr ⟨r,hr,hk⟩))
 refine ⟨⟨h.a.hB,h.a.hj,h.a.blk.tch (by decide) hT (fun ht=>h2 _ ht (Or.inl rfl)),h.a.f3,h.a.f4,h.a.tab,h.a.f86,h.a.f87,h.a.f88,h.a.f89,qah h.a.st hT (hr _ (by simp[rows])),qah h.a.un hT (hr _ (by simp[rows])),qah h.a.be hT (hr _ (by simp[rows])),qah h.a.va_ hT (hr _ (by simp[rows])),h.a.sep.world hT.size,fun k hk=>?_⟩,hj.keep _ _ _ _ _ _ h.k hT h1 (hr _ (by simp[rows])),h.p.tch hT fun k hk=>Or.inl (h1 k hk),h.e.tch hT fun k hk=>Or.inl (h1 k hk)⟩
 obtain ⟨a,b⟩:=h.a.jn k hk;exact ⟨(World.cell?_of_block (w:=w) (a:=⟨x.J k,0,none⟩) (hT.block _ (lt_of_cell a) (fun ht=>h3 _ k ht hk rfl))).trans a,b⟩
theorem MK.local {x:Cx} (hj:JOK x) {m m1:Px.Ms} {w w0 w1 w2:World} {f f1:Nat→Value} {va va1:Value} {T:Nat→Prop} (h:MK x m w f va) (hT0:Tch (fun _=>False) w w0) (h1:MK x m1 w1 f1 va1) (hF:Fr x w0 f va w1 f1 va1) (hT:Tch T w1 w2) (ht:∀ k,T k→w.heap.size≤k∧k < w0.heap.size):MK x m1 w2 f1 va1∧Fr x w f va w2 f1 va1:=by
 have hlt:=h.a.lt;have hB:=h.a.hB;refine ⟨h1.away hj hT (fun k hk=>by have:=ht k hk;omega) (fun k hk ho=>?_) (fun k j hk hj'=>?_),⟨?_,?_,?_,?_,fun k hk hn=>?_⟩,fun k hk ho=>hF.o k (by have:=hT0.size;omega) ho⟩
 ·obtain ⟨a,b⟩:=ht k hk
  have:=Own.lt h.a (hF.o k b ho)
  omega
 ·obtain ⟨a,b⟩:=ht k hk
  have:=lt_of_cell (h.a.jn j hj').1
  omega
 ·exact hT.os.trans (hF.t.os.trans hT0.os)
 ·exact hT.tape.trans (hF.t.tape.trans hT0.tape)
 ·exact hT.output.trans (hF.t.output.trans hT0.output)
 ·exact Nat.le_trans hT0.size (Nat.le_trans hF.t.size hT.size)
 ·have s0:=hT0.size;have s1:=hF.t.size;rw[hT.block k (by omega) (fun hk'=>by have:=ht k hk';omega),hF.t.block k (by omega) hn,hT0.block k hk (fun h=>h)]
theorem zfm {f:Nat→Value} {va va' r:Value} (h:r∈rows f va'):r∈rows f va∨r=va':=by
 simp only[rows,List.mem_cons,List.not_mem_nil,or_false] at h ⊢;rcases h with h | h | h | h | h
 ·exact Or.inl (Or.inl h)
 ·exact Or.inl (Or.inr (Or.inl h))
 ·exact Or.inl (Or.inr (Or.inr (Or.inl h)))
 ·exact Or.inl (Or.inr (Or.inr (Or.inr (Or.inl h))))
 ·exact Or.inr h
theorem MK.jour {x:Cx} {m:Px.Ms} {w w':World} {f:Nat→Value} {va va':Value} (h:MK x m w f va) {l:List Int} {a:List Px.Ask} (hk:x.K l a va' w') (hT:Tch (fun k=>k=x.jl∨va.ownBlock=some k) w w') (hloc:va'.ownBlock=va.ownBlock∨va'.ownBlock=none∨∃ n,va'.ownBlock=some n∧w.heap.size≤n∧n < w'.heap.size) :
  MK x { m with left:=l,asks:=a } w' f va'∧Fr x w f va w' f va':=by
 have hlt:=h.a.lt;have hB:=h.a.hB;have hjl:=h.a.hj;have hown:∀ k,va.ownBlock=some k→x.B≤k∧k≠x.g∧k < w.heap.size:=h.a.sep.own va (by simp[rows])
 have hTB:∀ k,(k=x.jl∨va.ownBlock=some k)→x.B≤k∨k=x.jl:=fun k hk=>by
  rcases hk with hk | hk
  ·exact Or.inr hk
  ·exact Or.inl (hown k hk).1
 have hrow:∀ (j:Nat) (u:Value),[f 0,f 1,f 2,f 85][j]?=some u→∀ k,u.ownBlock=some k→¬ (k=x.jl∨va.ownBlock=some k):=by
  intro j u hju k hk hh;have hj4:j < 4:=(List.getElem?_eq_some_iff.1 hju).1;have hju':(rows f va)[j]?=some u:=by
   rw[← hju];match j,hj4 with
   | 0,_=>rfl
   | 1,_=>rfl
   | 2,_=>rfl
   | 3,_=>rfl
  have ho:=h.a.sep.own u (List.mem_of_getElem? hju') k hk;rcases hh with hh | hh
  ·omega
  ·exact h.a.sep.mem (i:=j) (j:=4) hju' rfl (by omega) k hk hh
 have hsep:Sep x.B x.g w' (rows f va'):=Sep.turn (A:=[f 0,f 1,f 2,f 85]) (R:=[]) h.a.sep hT.size (by omega) hlt hloc
 refine ⟨⟨⟨hB,hjl,h.a.blk.tch (by decide) hT (fun hh=>?_),h.a.f3,h.a.f4,h.a.tab,h.a.f86,h.a.f87,h.a.f88,h.a.f89,qah h.a.st hT (hrow 0 _ rfl),qah h.a.un hT (hrow 1 _ rfl),qah h.a.be hT (hrow 2 _ rfl),qah h.a.va_ hT (hrow 3 _ rfl),hsep,fun k hk=>?_⟩,hk,h.p.tch hT hTB,h.e.tch hT hTB⟩,hT.mono fun k _ hk=>?_,fun k hk hk'=>?_⟩
 ·rcases hh with hh | hh
  ·omega
  ·exact (hown _ hh).2.1 rfl
 ·obtain ⟨a1,a2,a3,a4⟩:=h.a.jn k hk;have hz:=lt_of_cell a1;refine ⟨(World.cell?_of_block (w:=w) (a:=⟨x.J k,0,none⟩) (hT.block _ hz (fun hh=>?_))).trans a1,a2,a3,fun r hr=>?_⟩
  ·rcases hh with hh | hh
   ·exact a3 hh
   ·exact a4 va (by simp[rows]) hh
  ·have:=zfm (va:=va) hr
   rcases this with h' | rfl
   ·exact a4 r h'
   ·intro e;rcases hloc with hl | hl | ⟨n,hl,h1,_⟩
    ·rw[hl] at e;exact a4 va (by simp[rows]) e
    ·rw[hl] at e;cases e
    ·rw[hl] at e;cases e;omega
 ·rcases hk with hk | hk
  ·exact Or.inr (Or.inl hk)
  ·exact Or.inr (Or.inr ⟨va,by simp[rows],hk⟩)
 ·rcases hk' with hk' | hk' | ⟨u,hu,hk'⟩
  ·exact Or.inl hk'
  ·exact Or.inr (Or.inl hk')
  ·have:=zfm (va:=va) hu
   rcases this with h' | rfl
   ·exact Or.inr (Or.inr ⟨u,h',hk'⟩)
   ·rcases hloc with hl | hl | ⟨n,hl,h1,_⟩
    ·rw[hl] at hk';exact Or.inr (Or.inr ⟨va,by simp[rows],hk'⟩)
    ·rw[hl] at hk';cases hk'
    ·rw[hl] at hk';cases hk';omega
def PS (x:Cx) (m:Px.Ms) (w:World) (f:Nat→Value) (va:Value) (w':World):Prop:=∃ v',MK x m w' (upd f 0 v') va∧Fr x w f va w' (upd f 0 v') va
theorem PM.trans {x:Cx} {m1 m2:Px.Ms} {w w1 w2:World} {f f1:Nat→Value} {va va1:Value} (_h1:MK x m1 w1 f1 va1) (hF:Fr x w f va w1 f1 va1) (h2:PM x m2 w1 f1 va1 w2):PM x m2 w f va w2:=by
 obtain ⟨f2,va2,k1,k2⟩:=h2;exact ⟨f2,va2,k1,hF.trans k2⟩
open Go.RowKit
theorem zh7:(Tryz.prog.info? 2).map (fun i=>(i.zero,i.size,i.bytes))=some (some (.int .i64 0),1,8):=by kernel_rfl
theorem zn5:(Tryz.prog.info? 246).map (fun i=>(i.zero,i.size,i.bytes))=some (some (.agg #[.int .i64 0,.int .i64 0]),2,16):=by kernel_rfl
theorem qoa:(Tryz.prog.info? 198).map (fun i=>(i.zero,i.size,i.bytes))=some (some (.agg #[.int .i64 0,.int .i64 0,.int .i64 0]),3,24):=by kernel_rfl
theorem MK.grown {x:Cx} {m:Px.Ms} {w W w3:World} {f:Nat→Value} {va v':Value} {o:Nat} (h:MK x m w f va) (ho:f o∈rows f va) (ho9:o < 90) (hW:Tch (fun _=>False) w W) {e:TypeId} {s n:Nat} {xs:List Value} (hown:w3.ownsRow x.B e s v' n xs) (hg:W.grownBy w3 (f o).ownBlock) (hloc:v'.ownBlock=(f o).ownBlock∨v'.ownBlock=some W.heap.size) :
  Tch (fun k=>(f o).ownBlock=some k) w w3∧(v'.ownBlock=(f o).ownBlock∨∃ n,v'.ownBlock=some n∧w.heap.size≤n∧n < w3.heap.size)∧w3.cell? ⟨x.g,o,none⟩=some (f o)∧w3.frozen? ⟨x.g,o,none⟩=false:=by
 have hT:Tch (fun k=>(f o).ownBlock=some k) w w3:=(hW.mono fun _ _ h=>h.elim).grown hg fun k hk=>Or.inl hk
 have hcne:¬ (f o).ownBlock=some x.g:=fun e=>(h.a.sep.own _ ho _ e).2.1 rfl
 have hb:=h.a.blk.tch (by decide) hT hcne
 refine ⟨hT,?_,hb.cell o ho9,hb.fr o⟩;rcases hloc with hl | hl
 ·exact Or.inl hl
 ·exact Or.inr ⟨_,hl,hW.size,(hown.lt _ hl).2⟩
theorem MK.qsz {x:Cx} (hj:JOK x) {m:Px.Ms} {w W:World} {f:Nat→Value} {va:Value} (h:MK x m w f va) (v:Int) (hW:Tch (fun _=>False) w W) :
  ∀ v' w3,w3.ownsRow x.B 2 1 v' (m.st.length+1) (i64C m.st.reverse++[.int .i64 v])→W.grownBy w3 (f 0).ownBlock→(v'.ownBlock=(f 0).ownBlock∨v'.ownBlock=some W.heap.size) →
   ∃ a1 n1 c1,v'=.slice a1 n1 c1∧w3.cell? ⟨x.g,0,none⟩=some (f 0)∧w3.frozen? ⟨x.g,0,none⟩=false∧Hid (PS x { m with st:=v::m.st } w f va (w3.setCell ⟨x.g,0,none⟩ v')):=by
 intro v' w3 hown hg hloc;obtain ⟨a1,n1,c1,rfl⟩:=Ref.qad hown;obtain ⟨hT,hl,hc,hf⟩:=h.grown (o:=0) (by simp[rows]) (by decide) hW hown hg hloc
 obtain ⟨k1,k2⟩:=h.zeo hj (v::m.st) hT hl (by rw[List.reverse_cons,zod];exact hown)
 exact ⟨_,_,_,rfl,hc,hf,_,k1,k2⟩
theorem MK.qti {x:Cx} (hj:JOK x) {m:Px.Ms} {w W:World} {f:Nat→Value} {va:Value} (h:MK x m w f va) (u:Nat×Int) (hW:Tch (fun _=>False) w W) :
  ∀ v' w3,w3.ownsRow x.B 246 2 v' (m.undos.length+1) (undC m.undos.reverse++[.int .i64 (u.1:Int),.int .i64 u.2])→W.grownBy w3 (f 1).ownBlock→(v'.ownBlock=(f 1).ownBlock∨v'.ownBlock=some W.heap.size) →
   ∃ a1 n1 c1,v'=.slice a1 n1 c1∧w3.cell? ⟨x.g,1,none⟩=some (f 1)∧w3.frozen? ⟨x.g,1,none⟩=false∧Hid (PM x { m with undos:=u::m.undos } w f va (w3.setCell ⟨x.g,1,none⟩ v')):=by
 intro v' w3 hown hg hloc;obtain ⟨a1,n1,c1,rfl⟩:=Ref.qad hown;obtain ⟨hT,hl,hc,hf⟩:=h.grown (o:=1) (by simp[rows]) (by decide) hW hown hg hloc
 obtain ⟨k1,k2⟩:=h.zpv hj (u::m.undos) hT hl (by rw[List.reverse_cons,qy9];exact hown)
 exact ⟨_,_,_,rfl,hc,hf,_,_,k1,k2⟩
theorem MK.zju {x:Cx} (hj:JOK x) {m:Px.Ms} {w W:World} {f:Nat→Value} {va:Value} (h:MK x m w f va) (b:Nat×Nat×Nat) (hW:Tch (fun _=>False) w W) :
  ∀ v' w3,w3.ownsRow x.B 198 3 v' (m.begun.length+1) (begC m.begun.reverse++[.int .i64 (b.1:Int),.int .i64 (b.2.1:Int),.int .i64 (b.2.2:Int)])→W.grownBy w3 (f 2).ownBlock→(v'.ownBlock=(f 2).ownBlock∨v'.ownBlock=some W.heap.size) →
   ∃ a1 n1 c1,v'=.slice a1 n1 c1∧w3.cell? ⟨x.g,2,none⟩=some (f 2)∧w3.frozen? ⟨x.g,2,none⟩=false∧Hid (PM x { m with begun:=b::m.begun } w f va (w3.setCell ⟨x.g,2,none⟩ v')):=by
 intro v' w3 hown hg hloc;obtain ⟨a1,n1,c1,rfl⟩:=Ref.qad hown;obtain ⟨hT,hl,hc,hf⟩:=h.grown (o:=2) (by simp[rows]) (by decide) hW hown hg hloc
 obtain ⟨k1,k2⟩:=h.zpw hj (b::m.begun) hT hl (by rw[List.reverse_cons,zbg];exact hown)
 exact ⟨_,_,_,rfl,hc,hf,_,_,k1,k2⟩
theorem zmv {W:World} {b:Nat} {p q:Value} {t:TypeId} (h:W.heap[b]?=some (.cells #[p,q] t)):∀ j u,[p,q][j]?=some u→W.cell? ((⟨b,0,none⟩:Addr).add j)=some u:=by
 intro j u hj;match j,hj with
 | 0,hj=>simp at hj;subst hj;simp[Addr.add,World.cell?,h]
 | 1,hj=>simp at hj;subst hj;simp[Addr.add,World.cell?,h]
theorem qem {x:Cx} (hj:JOK x) (m:Px.Ms) (w:World) (f:Nat→Value) (va:Value) (h:MK x m w f va) (v:Int) (hl:m.st.length≤10000000) :
  Calls Tryz.prog 89 #[.pointer (some ⟨x.g,0,none⟩),.int .i64 v] w fun e w'=>e=.returned (.tuple #[])∧PS x { m with st:=v::m.st } w f va w':=by
 have c0:=h.a.blk.cell 0 (by decide)
 obtain ⟨a,n,cp,e0⟩:=Ref.qad h.a.st;obtain ⟨i0,hi,hz0,hz1,hz2⟩:=info_parts zh7;have hW:Tch (fun _=>False) w (w.alloc (.cells #[.int .i64 v] 2)):=(Tch.refl _ _).alloc _
 have hgz:=h.a.lt;have hB:=h.a.hB;have O1:Hid ((w.alloc (.cells #[.int .i64 v] 2)).ownsRow x.B 2 1 (f 0) m.st.length (i64C m.st.reverse)):=qah h.a.st hW (fun _ _ h=>h)
 have O2:Hid (∀ j u,[Value.int .i64 v][j]?=some u→(w.alloc (.cells #[.int .i64 v] 2)).cell? ((⟨w.heap.size,0,none⟩:Addr).add j)=some u):=Mk.zww (t:=2) (by
  show (w.heap.push _)[w.heap.size]?=_
  rw[Array.getElem?_push,if_pos rfl])
 have O3:Hid (∀ u∈[Value.int .i64 v],u.oneCell'=true):=by intro u hu;simp at hu;subst hu;rfl
 have O4:Hid (m.st.length+1≤maxLen):=by unfold Hid maxLen;omega
 have O5:Hid ((m.st.length+1) * 8≤140737488355328):=by unfold Hid;omega
 have O6:Hid (x.B≤(w.alloc (.cells #[.int .i64 v] 2)).heap.size):=by have:=hW.size;unfold Hid;omega
 have AQ:Hid (_):=h.qsz hj v hW;rw[e0] at O1 AQ c0;clear hW h hj;go_enter Tryz.func89,Tryz.ntmps89
 go_wp2_with (first | (at_builtin;refine wpList_append_own_at _ rfl _ _ 118 rfl x.B 2 i0 (.int .i64 0) 1 8 Tryz.underlying118 hi hz0 hz1 hz2 rfl (Nat.succ_pos 0) _ _ _ rfl O1.out _ 1 1 _ rfl rfl O2.out O3.out O4.out O5.out O6.out ?_;intro v' w3 hown' hgrow _ hloc;obtain ⟨a1,n1,k1,rfl,hc3,hf3,HN⟩:=AQ.out v' w3 hown' hgrow hloc;clear hown' hgrow hloc) | fail)
 go_end0
 exact ⟨rfl,HN.out⟩
open Go.RowKit
theorem qlf {w:World} {B:Nat} {e:TypeId} {s n:Nat} {v:Value} {xs:List Value} (h:w.ownsRow B e s v n xs) (hn:0 < n):∃ q c,v=.slice (some ⟨q,0,none⟩) n c:=by
 rcases h.2 with ⟨_,h1⟩ | ⟨g,cap,cur,h1,_⟩
 ·omega
 ·exact ⟨g,cap,h1⟩
theorem zk2 {w:World} {B q n c:Nat} {v:Int} {r:List Int} (h:w.ownsRow B 2 1 (.slice (some ⟨q,0,none⟩) n c) n (i64C (v::r).reverse)):n=r.length+1∧w.cell? ⟨q,r.length,none⟩=some (.int .i64 v):=by
 have hl:=h.1;simp[i64C] at hl;refine ⟨by omega,?_⟩
 rw[h.cellAt r.length (by omega)]
 simp[i64C]
theorem MK.top {x:Cx} (hj:JOK x) {m:Px.Ms} {w:World} {f:Nat→Value} {va:Value} (h:MK x m w f va) {v:Int} {r:List Int} (hst:m.st=v::r) :
  ∃ q c,f 0=.slice (some ⟨q,0,none⟩) (r.length+1) c∧w.cell? ⟨q,r.length,none⟩=some (.int .i64 v)∧r.length+1≤c∧w.cell? ⟨x.g,0,none⟩=some (.slice (some ⟨q,0,none⟩) (r.length+1) c)∧w.frozen? ⟨x.g,0,none⟩=false ∧
   ∀ k,k≤m.st.length→Hid (PS x { m with st:=m.st.drop (m.st.length - k) } w f va (w.setCell ⟨x.g,0,none⟩ (.slice (some ⟨q,0,none⟩) k c))):=by
 have hs:=h.a.st;have hlen:m.st.length=r.length+1:=by rw[hst];rfl
 obtain ⟨q,c,e⟩:=qlf hs (by omega)
 have hs':=hs;rw[e,hst] at hs;obtain ⟨e1,e2⟩:=zk2 hs;rw[e] at hs';have hc0:=h.a.blk.cell 0 (by decide)
 rw[e,hlen] at hc0;have hcap:r.length+1≤c:=by
  rcases hs.2 with ⟨h1,_⟩ | ⟨g,cap,cur,h1,_,_,h2,_⟩
  ·cases h1
  ·cases h1;rw[hlen] at *;simpa using h2
 refine ⟨q,c,by rw[e,hlen],e2,hcap,hc0,h.a.blk.fr 0,fun k hk=>?_⟩
 have hT:Tch (fun k=>(f 0).ownBlock=some k) w w:=Tch.refl _ _
 have hcut:=qs4 hs' hk;obtain ⟨k1,k2⟩:=h.zeo (v':=.slice (some ⟨q,0,none⟩) k c) hj (m.st.drop (m.st.length - k)) hT (Or.inl (by rw[e];rfl)) (by
  have hl:(m.st.drop (m.st.length - k)).length=k:=by rw[List.length_drop];omega
  rw[hl]
  have:i64C (m.st.drop (m.st.length - k)).reverse=(i64C m.st.reverse).take (k * 1):=by
   unfold i64C;rw[← List.map_take,Nat.mul_one,List.reverse_drop];congr 2;omega
  rw[this];exact hcut)
 exact ⟨_,k1,k2⟩
theorem qoz {x:Cx} (hj:JOK x) (m:Px.Ms) (w:World) (f:Nat→Value) (va:Value) (h:MK x m w f va) (v:Int) (r:List Int) (hst:m.st=v::r) (hl:r.length≤10000000) :
  Calls Tryz.prog 120 #[.pointer (some ⟨x.g,0,none⟩)] w fun e w'=>e=.returned (.int .i64 v)∧Tch (fun _=>False) w w':=by
 obtain ⟨q,c,_,c1,hcap,c0,cf,hP⟩:=h.top hj hst;clear hP h hj hst;generalize r.length=K at *;have hk0:(0:Int)≤(K:Int)+1 - 1:=by omega
 have hk1:(K:Int)+1 - 1 < K+1:=by omega
 go_enter Tryz.func120,Tryz.ntmps120
 go_wp2_with fail;go_region
 all_goals
  go_wp2_with fail;go_ret;exact ⟨rfl,(Tch.refl _ _).drew⟩
theorem qcq {x:Cx} (hj:JOK x) (m:Px.Ms) (w:World) (f:Nat→Value) (va:Value) (h:MK x m w f va) (v:Int) (r:List Int) (hst:m.st=v::r) (hl:r.length≤10000000) :
  Calls Tryz.prog 92 #[.pointer (some ⟨x.g,0,none⟩)] w fun e w'=>e=.returned (.int .i64 v)∧PS x { m with st:=r } w f va w':=by
 have HH:Hid (MK x m w f va):=h;clear h;go_enter Tryz.func92,Tryz.ntmps92
 go_wp2_with fail;refine (qoz hj m w f va HH.out v r hst hl).mono ?_;rintro e w1 ⟨rfl,hT⟩;obtain ⟨h1,hF⟩:=HH.out.same hj hT;obtain ⟨q,c,_,c1,hcap,c0,cf,hP⟩:=h1.top hj hst;have HP:Hid (PS x { m with st:=r } w f va (w1.setCell ⟨x.g,0,none⟩ (.slice (some ⟨q,0,none⟩) r.length c))):=by
  obtain ⟨v',k1,k2⟩:=(hP r.length (by rw[hst];simp)).out
  refine ⟨v',?_,hF.trans k2⟩;have e:m.st.drop (m.st.length - r.length)=r:=by rw[hst];simp
  rw[e] at k1;exact k1
 clear hP h1 hF hT HH hj hst;generalize r.length=K at *;go_wp2;go_end0
 go_wp2;go_ret;exact ⟨rfl,HP.out⟩
open Go.RowKit
theorem MK.zrj {x:Cx} (hj:JOK x) {m:Px.Ms} {w:World} {f:Nat→Value} {va:Value} (h:MK x m w f va) {u:Nat×Int} {r:List (Nat×Int)} (hu:m.undos=u::r) :
  ∃ q c,f 1=.slice (some ⟨q,0,none⟩) (r.length+1) c∧w.cell? ⟨q,r.length * 2,none⟩=some (.int .i64 (u.1:Int))∧w.cell? ⟨q,r.length * 2+1,none⟩=some (.int .i64 u.2)∧r.length+1≤c ∧
   Hid (PM x { m with undos:=r } w f va (w.setCell ⟨x.g,1,none⟩ (.slice (some ⟨q,0,none⟩) r.length c))):=by
 have hs:=h.a.un;have hlen:m.undos.length=r.length+1:=by rw[hu];rfl
 obtain ⟨q,c,e⟩:=qlf hs (by omega)
 rw[e,hlen] at hs;have hcap:r.length+1≤c:=by
  rcases hs.2 with ⟨h1,_⟩ | ⟨g,cap,cur,h1,_,_,h2,_⟩
  ·cases h1
  ·cases h1;exact h2
 have hx:undC m.undos.reverse=undC r.reverse++[.int .i64 (u.1:Int),.int .i64 u.2]:=by rw[hu,List.reverse_cons,qy9];rfl
 have hl:(undC r.reverse).length=r.length * 2:=by rw[zkw,List.length_reverse]
 have h0:(undC m.undos.reverse)[r.length * 2]?=some (.int .i64 (u.1:Int)):=by rw[hx,List.getElem?_append_right (by omega),hl,Nat.sub_self];rfl
 have h1:(undC m.undos.reverse)[r.length * 2+1]?=some (.int .i64 u.2):=by rw[hx,List.getElem?_append_right (by omega),hl,show r.length * 2+1 - r.length * 2=1 by omega];rfl
 refine ⟨q,c,by rw[e,hlen],by rw[hs.cellAt _ (by omega)];exact h0,by rw[hs.cellAt _ (by omega)];exact h1,hcap,?_⟩
 have hcut:=qs4 hs (k:=r.length) (by omega)
 rw[hx,List.take_left' hl] at hcut;obtain ⟨k1,k2⟩:=h.zpv (v':=.slice (some ⟨q,0,none⟩) r.length c) hj r (Tch.refl _ _) (Or.inl (by rw[e];rfl)) hcut
 exact ⟨_,_,k1,k2⟩
theorem MK.zv5 {x:Cx} (_hj:JOK x) {m:Px.Ms} {w:World} {f:Nat→Value} {va:Value} (h:MK x m w f va) {b:Nat×Nat×Nat} {r:List (Nat×Nat×Nat)} (hb:m.begun=b::r) :
  ∃ q c,f 2=.slice (some ⟨q,0,none⟩) (r.length+1) c∧w.cell? ⟨q,r.length * 3,none⟩=some (.int .i64 (b.1:Int))∧w.cell? ⟨q,r.length * 3+1,none⟩=some (.int .i64 (b.2.1:Int))∧w.cell? ⟨q,r.length * 3+2,none⟩=some (.int .i64 (b.2.2:Int))∧r.length+1≤c ∧
   w.ownsRow x.B 198 3 (.slice (some ⟨q,0,none⟩) r.length c) r.length (begC r.reverse):=by
 have hs:=h.a.be;have hlen:m.begun.length=r.length+1:=by rw[hb];rfl
 obtain ⟨q,c,e⟩:=qlf hs (by omega)
 rw[e,hlen] at hs;have hcap:r.length+1≤c:=by
  rcases hs.2 with ⟨h1,_⟩ | ⟨g,cap,cur,h1,_,_,h2,_⟩
  ·cases h1
  ·cases h1;exact h2
 have hx:begC m.begun.reverse=begC r.reverse++[.int .i64 (b.1:Int),.int .i64 (b.2.1:Int),.int .i64 (b.2.2:Int)]:=by rw[hb,List.reverse_cons,zbg];rfl
 have hl:(begC r.reverse).length=r.length * 3:=by rw[zo5,List.length_reverse]
 have h0:(begC m.begun.reverse)[r.length * 3]?=some (.int .i64 (b.1:Int)):=by rw[hx,List.getElem?_append_right (by omega),hl,Nat.sub_self];rfl
 have h1:(begC m.begun.reverse)[r.length * 3+1]?=some (.int .i64 (b.2.1:Int)):=by rw[hx,List.getElem?_append_right (by omega),hl,show r.length * 3+1 - r.length * 3=1 by omega];rfl
 have h2:(begC m.begun.reverse)[r.length * 3+2]?=some (.int .i64 (b.2.2:Int)):=by rw[hx,List.getElem?_append_right (by omega),hl,show r.length * 3+2 - r.length * 3=2 by omega];rfl
 refine ⟨q,c,by rw[e,hlen],by rw[hs.cellAt _ (by omega)];exact h0,by rw[hs.cellAt _ (by omega)];exact h1,by rw[hs.cellAt _ (by omega)];exact h2,hcap,?_⟩
 have hcut:=qs4 hs (k:=r.length) (by omega)
 rw[hx,List.take_left' hl] at hcut;exact hcut
open Go.RowKit
theorem qi4 {w:World} {B e z n m k:Nat} {a:Option Addr} {cs:List Value} (h:w.ownsRow B e z (.slice a n k) m cs):n=m:=by
 rcases h.2 with ⟨h1,h2⟩ | ⟨g,cap,cur,h1,_⟩
 ·cases h1;exact h2.symm
 ·cases h1;rfl
theorem ztq {x:Cx} (hj:JOK x) (m:Px.Ms) (w:World) (f:Nat→Value) (va:Value) (h:MK x m w f va) (i:Nat) (v:Int) (hl:m.undos.length≤10000000) :
  Calls Tryz.prog 119 #[.pointer (some ⟨x.g,1,none⟩),.int .i64 (i:Int),.int .i64 v] w fun e w'=>e=.returned (.tuple #[])∧PM x { m with undos:=(i,v)::m.undos } w f va w':=by
 have c0:=h.a.blk.cell 1 (by decide)
 obtain ⟨a,n,cp,e0⟩:=Ref.qad h.a.un;obtain ⟨i0,hi,hz0,hz1,hz2⟩:=info_parts zn5;have hW:Tch (fun _=>False) w (w.alloc (.cells #[.int .i64 (i:Int),.int .i64 v] 246)):=(Tch.refl _ _).alloc _
 have hgz:=h.a.lt;have hB:=h.a.hB;have O1:Hid ((w.alloc (.cells #[.int .i64 (i:Int),.int .i64 v] 246)).ownsRow x.B 246 2 (f 1) m.undos.length (undC m.undos.reverse)):=qah h.a.un hW (fun _ _ h=>h)
 have O2:Hid (∀ j u,[Value.int .i64 (i:Int),.int .i64 v][j]?=some u→(w.alloc (.cells #[.int .i64 (i:Int),.int .i64 v] 246)).cell? ((⟨w.heap.size,0,none⟩:Addr).add j)=some u):=zmv (t:=246) (by
  show (w.heap.push _)[w.heap.size]?=_
  rw[Array.getElem?_push,if_pos rfl])
 have O3:Hid (∀ u∈[Value.int .i64 (i:Int),.int .i64 v],u.oneCell'=true):=by intro u hu;simp at hu;rcases hu with rfl | rfl<;>rfl
 have O4:Hid (m.undos.length+1≤maxLen):=by unfold Hid maxLen;omega
 have O5:Hid ((m.undos.length+1) * 16≤140737488355328):=by unfold Hid;omega
 have O6:Hid (x.B≤(w.alloc (.cells #[.int .i64 (i:Int),.int .i64 v] 246)).heap.size):=by have:=hW.size;unfold Hid;omega
 have AQ:Hid (_):=h.qti hj (i,v) hW;rw[e0] at O1 AQ c0;clear hW h hj;go_enter Tryz.func119,Tryz.ntmps119
 go_wp2_with (first | (at_builtin;refine wpList_append_own_at _ rfl _ _ 125 rfl x.B 246 i0 (.agg #[.int .i64 0,.int .i64 0]) 2 16 Tryz.underlying125 hi hz0 hz1 hz2 rfl (Nat.succ_pos 1) _ _ _ rfl O1.out _ 1 1 _ rfl rfl O2.out O3.out O4.out O5.out O6.out ?_;intro v' w3 hown' hgrow _ hloc;obtain ⟨a1,n1,k1,rfl,hc3,hf3,HN⟩:=AQ.out v' w3 hown' hgrow hloc;clear hown' hgrow hloc) | fail)
 go_end0
 exact ⟨rfl,HN.out⟩
theorem zjt {x:Cx} (hj:JOK x) (m:Px.Ms) (w:World) (f:Nat→Value) (va:Value) (h:MK x m w f va) (a2 a3:Nat) (hl:m.begun.length≤10000000) (_hu:m.undos.length≤10000000) :
  Calls Tryz.prog 111 #[.pointer (some ⟨x.g,1,none⟩),.int .i64 (a2:Int),.int .i64 (a3:Int)] w fun e w'=>e=.returned (.tuple #[])∧PM x { m with begun:=(m.undos.length,a2,a3)::m.begun } w f va w':=by
 have c0:=h.a.blk.cell 2 (by decide)
 have c1:=h.a.blk.cell 1 (by decide)
 obtain ⟨a,n,cp,e0⟩:=Ref.qad h.a.be;obtain ⟨au,nu,cu,eu⟩:=Ref.qad h.a.un;obtain rfl:nu=m.undos.length:=by have:=h.a.un;rw[eu] at this;exact qi4 this
 obtain ⟨i0,hi,hz0,hz1,hz2⟩:=info_parts qoa;have hW:Tch (fun _=>False) w (w.alloc (.cells #[.int .i64 (m.undos.length:Int),.int .i64 (a2:Int),.int .i64 (a3:Int)] 198)).drew:=((Tch.refl _ _).alloc _).drew
 have hgz:=h.a.lt;have hB:=h.a.hB;have O1:Hid ((w.alloc (.cells #[.int .i64 (m.undos.length:Int),.int .i64 (a2:Int),.int .i64 (a3:Int)] 198)).drew.ownsRow x.B 198 3 (f 2) m.begun.length (begC m.begun.reverse)):=qah h.a.be hW (fun _ _ h=>h)
 have O2:Hid (∀ j u,[Value.int .i64 (m.undos.length:Int),.int .i64 (a2:Int),.int .i64 (a3:Int)][j]?=some u→(w.alloc (.cells #[.int .i64 (m.undos.length:Int),.int .i64 (a2:Int),.int .i64 (a3:Int)] 198)).drew.cell? ((⟨w.heap.size,0,none⟩:Addr).add j)=some u):=Mk.zwx (t:=198) (by
  show (w.heap.push _)[w.heap.size]?=_
  rw[Array.getElem?_push,if_pos rfl])
 have O3:Hid (∀ u∈[Value.int .i64 (m.undos.length:Int),.int .i64 (a2:Int),.int .i64 (a3:Int)],u.oneCell'=true):=by intro u hu;simp at hu;rcases hu with rfl | rfl | rfl<;>rfl
 have O4:Hid (m.begun.length+1≤maxLen):=by unfold Hid maxLen;omega
 have O5:Hid ((m.begun.length+1) * 24≤140737488355328):=by unfold Hid;omega
 have O6:Hid (x.B≤(w.alloc (.cells #[.int .i64 (m.undos.length:Int),.int .i64 (a2:Int),.int .i64 (a3:Int)] 198)).drew.heap.size):=by have:=hW.size;unfold Hid;omega
 have AQ:Hid (_):=h.zju hj (m.undos.length,a2,a3) hW;rw[e0] at O1 AQ c0;rw[eu] at c1;clear hW h hj;generalize m.undos.length=U at *;go_enter Tryz.func111,Tryz.ntmps111
 go_wp2_with fail;go_region_law (refine qbh rfl _ _ 126 rfl x.B 198 i0 (.agg #[.int .i64 0,.int .i64 0,.int .i64 0]) 3 24 Tryz.underlying126 hi hz0 hz1 hz2 rfl (Nat.succ_pos 2) _ _ _ rfl O1.out _ 1 1 _ rfl rfl O2.out O3.out O4.out O5.out O6.out ?_;intro v' w3 hown' hgrow hloc;obtain ⟨a1,n1,k1,rfl,hc3,hf3,HN⟩:=AQ.out v' w3 hown' hgrow hloc;clear hown' hgrow hloc)
 all_goals
  go_wp2_with fail;go_end0
  exact ⟨rfl,HN.out⟩
theorem qxa {x:Cx} (hj:JOK x) (m:Px.Ms) (w:World) (f:Nat→Value) (va:Value) (h:MK x m w f va) (u:Nat×Int) (r:List (Nat×Int)) (hu:m.undos=u::r) (hl:r.length≤10000000) :
  Calls Tryz.prog 197 #[.pointer (some ⟨x.g,1,none⟩)] w fun e w'=>e=.returned (.tuple #[])∧PM x { m with undos:=r } w f va w':=by
 have hT:Tch (fun _=>False) w w.drew:=(Tch.refl _ _).drew
 obtain ⟨h1,hF⟩:=h.same hj hT;obtain ⟨q,c,e1,_,_,hcap,HP⟩:=h1.zrj hj hu;have HQ:Hid (PM x { m with undos:=r } w f va (w.drew.setCell ⟨x.g,1,none⟩ (.slice (some ⟨q,0,none⟩) r.length c))):=PM.trans h1 hF HP.out
 have c1:=h.a.blk.cell 1 (by decide)
 have cf:=h.a.blk.fr 1;rw[e1] at c1;clear h1 hF HP h hj hu hT;generalize r.length=K at *;go_enter Tryz.func197,Tryz.ntmps197
 go_wp2_with fail;go_region
 all_goals
  go_wp2_with fail;go_end0
  exact ⟨rfl,HQ.out⟩
open Go.RowKit
def qh6 (m:Px.Ms):Value×Bool :=
 match m.undos with
 | []=>(.agg #[.int .i64 0,.int .i64 0],false)
 | u::_=>if m.undos.length=Px.qbw m then (.agg #[.int .i64 0,.int .i64 0],false) else (.agg #[.int .i64 (u.1:Int),.int .i64 u.2],true)
theorem zmt {x:Cx} (hj:JOK x) (m:Px.Ms) (w:World) (f:Nat→Value) (va:Value) (h:MK x m w f va) (hl:m.begun.length≤10000000) (hu:m.undos.length≤10000000) (hfl:Px.qbw m≤m.undos.length) :
  Calls Tryz.prog 195 #[.pointer (some ⟨x.g,1,none⟩)] w fun e w'=>e=.returned (.tuple #[(qh6 m).1,.bool (qh6 m).2])∧Tch (fun _=>False) w w':=by
 have c1:=h.a.blk.cell 1 (by decide)
 have c2:=h.a.blk.cell 2 (by decide)
 have hgz:=h.a.lt;have HT:Hid (∀ A:Obj,Tch (fun _=>False) w (w.alloc A)):=fun A=>(Tch.refl _ _).alloc A
 have HD:Hid (∀ A:Obj,Tch (fun _=>False) w (w.alloc A).drew):=fun A=>((Tch.refl _ _).alloc A).drew
 have HDD:Hid (∀ A:Obj,Tch (fun _=>False) w (w.alloc A).drew.drew):=fun A=>((Tch.refl _ _).alloc A).drew.drew
 obtain ⟨au,nu,cu,eu⟩:=Ref.qad h.a.un;obtain rfl:nu=m.undos.length:=by have:=h.a.un;rw[eu] at this;exact qi4 this
 obtain ⟨ab,nb,cb,eb⟩:=Ref.qad h.a.be;obtain rfl:nb=m.begun.length:=by have:=h.a.be;rw[eb] at this;exact qi4 this
 cases hb:m.begun with
 | nil =>
  have hf0:Px.qbw m=0:=by unfold Px.qbw;rw[hb]
  rw[eb,hb] at c2;cases hun:m.undos with
  | nil =>
   have EV:qh6 m=(.agg #[.int .i64 0,.int .i64 0],false):=by unfold qh6;rw[hun]
   rw[eu,hun] at c1;simp only[List.length_nil] at c1 c2;rw[EV];clear h hj hb hun EV hf0;go_enter Tryz.func195,Tryz.ntmps195
   go_wp2_with fail;refine bodyPost_ret (v:=.tuple #[.agg #[.int .i64 0,.int .i64 0],.bool false]) (by simp[results,Tryz.results195,go_sem]) rfl ⟨rfl,?_⟩
   first | exact HT.out _ | exact HD.out _ | exact HDD.out _
  | cons u r =>
   have EV:qh6 m=(.agg #[.int .i64 (u.1:Int),.int .i64 u.2],true):=by unfold qh6;rw[hf0];simp only[hun];rw[if_neg (by simp)]
   obtain ⟨q,c,e1,cu0,cu1,hcap,_⟩:=h.zrj hj hun;rw[e1] at c1;rw[hun,List.length_cons] at hu;simp only[List.length_nil] at c2;rw[EV];clear h hj hb hun EV hf0;have hq:=lt_of_cell cu0;generalize r.length=K at *;go_enter Tryz.func195,Tryz.ntmps195
   go_wp2_with fail;go_region
   all_goals
    go_wp2_with fail;refine bodyPost_ret (v:=.tuple #[.agg #[.int .i64 (u.1:Int),.int .i64 u.2],.bool true]) (by simp[results,Tryz.results195,go_sem]) rfl ⟨rfl,?_⟩
    first | exact HT.out _ | exact HD.out _ | exact HDD.out _
 | cons b s =>
  have hf0:Px.qbw m=b.1:=by unfold Px.qbw;rw[hb]
  obtain ⟨qb,kb,e2,cb0,_,_,hcb,_⟩:=h.zv5 hj hb;rw[e2] at c2;rw[hb,List.length_cons] at hl;have hqb:=lt_of_cell cb0;rw[hf0] at hfl;generalize s.length=S at *;cases hun:m.undos with
  | nil =>
   have EV:qh6 m=(.agg #[.int .i64 0,.int .i64 0],false):=by unfold qh6;rw[hun]
   rw[eu,hun] at c1;have hb0:b.1=0:=by rw[hun] at hfl;simpa using hfl
   rw[hb0] at cb0;simp only[List.length_nil] at c1;rw[EV];clear h hj hb hun EV hf0 hfl;go_enter Tryz.func195,Tryz.ntmps195
   go_wp2_with fail;go_region
   all_goals
    go_wp2_with fail;refine bodyPost_ret (v:=.tuple #[.agg #[.int .i64 0,.int .i64 0],.bool false]) (by simp[results,Tryz.results195,go_sem]) rfl ⟨rfl,?_⟩
    first | exact HT.out _ | exact HD.out _ | exact HDD.out _
  | cons u r =>
   obtain ⟨q,c,e1,cu0,cu1,hcap,_⟩:=h.zrj hj hun;rw[e1] at c1;have hq:=lt_of_cell cu0;have hlen:m.undos.length=r.length+1:=by rw[hun];rfl
   rw[hlen] at hfl hu;by_cases he:r.length+1=b.1
   ·have EV:qh6 m=(.agg #[.int .i64 0,.int .i64 0],false):=by unfold qh6;rw[hf0];simp only[hun];rw[if_pos (by simpa using he)]
    rw[EV];clear h hj hb hun EV hf0 hlen;generalize r.length=K at *;generalize b.1=F at *;subst he;have ht:((K:Int)+1 == ((K+1:Nat):Int))=true:=by simp
    go_enter Tryz.func195,Tryz.ntmps195
    go_wp2_with fail;go_region
    all_goals
     go_wp2_with fail;refine bodyPost_ret (v:=.tuple #[.agg #[.int .i64 0,.int .i64 0],.bool false]) (by simp[results,Tryz.results195,go_sem]) rfl ⟨rfl,?_⟩
     first | exact HT.out _ | exact HD.out _ | exact HDD.out _
   ·have EV:qh6 m=(.agg #[.int .i64 (u.1:Int),.int .i64 u.2],true):=by unfold qh6;rw[hf0];simp only[hun];rw[if_neg (by simpa using he)]
    rw[EV];clear h hj hb hun EV hf0 hlen;generalize r.length=K at *;generalize b.1=F at *;have ht:¬ ((K:Int)+1=(F:Int)):=by omega
    go_enter Tryz.func195,Tryz.ntmps195
    go_wp2_with fail;go_region
    all_goals
     go_wp2_with fail;go_region
     all_goals
      go_wp2_with fail;refine bodyPost_ret (v:=.tuple #[.agg #[.int .i64 (u.1:Int),.int .i64 u.2],.bool true]) (by simp[results,Tryz.results195,go_sem]) rfl ⟨rfl,?_⟩
      first | exact HT.out _ | exact HD.out _ | exact HDD.out _
open Go.RowKit
theorem PM.same {x:Cx} (hj:JOK x) {m:Px.Ms} {w w1 w2:World} {f:Nat→Value} {va:Value} (h:PM x m w f va w1) (hT:Tch (fun _=>False) w1 w2):PM x m w f va w2:=by
 obtain ⟨f1,va1,k1,k2⟩:=h;obtain ⟨j1,j2⟩:=k1.same hj hT;exact ⟨_,_,j1,k2.trans j2⟩
def qis (m:Px.Ms):Value×Bool :=
 match m.begun with
 | []=>(.agg #[.int .i64 0,.int .i64 0,.int .i64 0],false)
 | b::_=>(.agg #[.int .i64 (b.1:Int),.int .i64 (b.2.1:Int),.int .i64 (b.2.2:Int)],true)
theorem qpo {x:Cx} (hj:JOK x) (m:Px.Ms) (w:World) (f:Nat→Value) (va:Value) (h:MK x m w f va) (hl:m.begun.length≤10000000) :
  Calls Tryz.prog 114 #[.pointer (some ⟨x.g,1,none⟩)] w fun e w'=>e=.returned (.tuple #[(qis m).1,.bool (qis m).2])∧PM x { m with begun:=m.begun.tail } w f va w':=by
 have c2:=h.a.blk.cell 2 (by decide)
 have cf:=h.a.blk.fr 2;have hgz:=h.a.lt;cases hb:m.begun with
 | nil =>
  obtain ⟨ab,nb,cb,eb⟩:=Ref.qad h.a.be;obtain rfl:nb=m.begun.length:=by have:=h.a.be;rw[eb] at this;exact qi4 this
  rw[eb,hb] at c2;simp only[List.length_nil] at c2;have EV:qis m=(.agg #[.int .i64 0,.int .i64 0,.int .i64 0],false):=by unfold qis;rw[hb]
  rw[EV];have HT:Hid (∀ A:Obj,PM x { m with begun:=[] } w f va (w.alloc A)):=fun A=>by
   obtain ⟨k1,k2⟩:=h.same hj ((Tch.refl _ _).alloc A);refine ⟨_,_,?_,k2⟩
   have:({ m with begun:=[] }:Px.Ms)=m:=by cases m;simp at hb;subst hb;rfl
   rw[this];exact k1
  clear h hj hb EV;go_enter Tryz.func114,Tryz.ntmps114
  go_wp2_with fail;refine bodyPost_ret (v:=.tuple #[.agg #[.int .i64 0,.int .i64 0,.int .i64 0],.bool false]) (by simp[results,Tryz.results114,go_sem]) rfl ⟨rfl,?_⟩
  exact HT.out _
 | cons b r =>
  have EV:qis m=(.agg #[.int .i64 (b.1:Int),.int .i64 (b.2.1:Int),.int .i64 (b.2.2:Int)],true):=by unfold qis;rw[hb]
  rw[EV];rw[hb,List.length_cons] at hl;obtain ⟨q,c,e2,cb0,cb1,cb2,hcap,hown⟩:=h.zv5 hj hb;rw[e2] at c2;have hq:=lt_of_cell cb0;have HQ:Hid (∀ A A':Obj,PM x { m with begun:=r } w f va (((w.setCell ⟨x.g,2,none⟩ (.slice (some ⟨q,0,none⟩) r.length c)).alloc A).alloc A')):=fun A A'=>by
   obtain ⟨k1,k2⟩:=h.zpw (v':=.slice (some ⟨q,0,none⟩) r.length c) hj r (Tch.refl _ _) (Or.inl (by rw[e2];rfl)) hown
   exact PM.same hj ⟨_,_,k1,k2⟩ (((Tch.refl _ _).alloc A).alloc A')
  clear h hj hb EV hown;generalize r.length=K at *;go_enter Tryz.func114,Tryz.ntmps114
  go_wp2_with fail;refine bodyPost_ret (v:=.tuple #[.agg #[.int .i64 (b.1:Int),.int .i64 (b.2.1:Int),.int .i64 (b.2.2:Int)],.bool true]) (by simp[results,Tryz.results114,go_sem]) rfl ⟨rfl,?_⟩
  exact HQ.out _ _
open Go.RowKit
def askV (a:Px.Ask):Value:=.agg #[.string a.word,.int .i64 a.arg,.int .i64 (a.nth:Int),.bool a.undo]
def qqo (K:List Int→List Px.Ask→Value→World→Prop) (jl:Nat) (l:List Int) (a:List Px.Ask) (va:Value) (ask:Px.Ask) (w:World) (e:Ending) (w':World):Prop :=
 e=.returned (.tuple #[.int .i64 (l.headD 0),.bool (!l.isEmpty)])∧∃ va',K l.tail (a++[ask]) va' w'∧Tch (fun k=>k=jl∨va.ownBlock=some k) w w'∧(va'.ownBlock=va.ownBlock∨va'.ownBlock=none∨∃ n,va'.ownBlock=some n∧w.heap.size≤n∧n < w'.heap.size)
open Go.RowKit
structure JA (x:Cx) (fn:Nat):Prop where
 ok:JOK x
 ans:∀ (l:List Int) (a:List Px.Ask) (va:Value) (w:World) (ask:Px.Ask),x.K l a va w→x.B≤w.heap.size→a.length≤10000000→Calls Tryz.prog fn #[.pointer (some ⟨x.jl,0,none⟩),askV ask] w (qqo x.K x.jl l a va ask w)
def qed (x:Cx) (m:Px.Ms) (i:Nat) (arg:Int) (most:Nat) (und:Bool) (w:World) (f:Nat→Value) (va:Value) (e:Ending) (w':World):Prop :=
 e=.returned (.tuple #[.int .i64 (Px.askM x.P i arg most und m).2.1,errV x (Px.askM x.P i arg most und m).1])∧PM x (Px.askM x.P i arg most und m).2.2 w f va w'
def zyp (x:Cx) (m:Px.Ms) (a:Px.Ask) (w:World) (f:Nat→Value) (va:Value) (e:Ending) (w1:World):Prop :=
 e=.returned (.tuple #[.int .i64 (m.left.headD 0),.bool (!m.left.isEmpty)])∧(∀ k o v,(k=x.g∨(k < x.B∧k≠x.jl))→w.cell? ⟨k,o,none⟩=some v→w1.cell? ⟨k,o,none⟩=some v)∧w1.frozen? ⟨x.g,87,none⟩=false ∧
  w1.cell? ⟨11,0,none⟩=some (.iface 359 (.pointer (some (x.E 1))))∧w1.cell? ⟨13,0,none⟩=some (.iface 359 (.pointer (some (x.E 2))))∧w1.cell? ⟨14,0,none⟩=some (.iface 359 (.pointer (some (x.E 3))))∧21≤x.g ∧
  Hid (∃ va',MK x { m with left:=m.left.tail,asks:=m.asks++[a] } w1 f va'∧Fr x w f va w1 f va')
theorem zve {x:Cx} {fn:Nat} (ja:JA x fn) {m:Px.Ms} {w:World} {f:Nat→Value} {va:Value} (h:MK x m w f va) (a:Px.Ask) (ha:m.asks.length≤10000000):∀ W,Tch (fun _=>False) w W→Calls Tryz.prog fn #[.pointer (some ⟨x.jl,0,none⟩),askV a] W (zyp x m a w f va):=by
 intro W hT;obtain ⟨k1,k2⟩:=h.same ja.ok hT;refine Calls.mono (ja.ans _ _ _ _ a k1.k (by have:=k1.a.lt;have:=k1.a.hB;omega) ha) ?_
 rintro e w1 ⟨rfl,va',h1,h2,h3⟩;obtain ⟨j1,j2⟩:=k1.jour h1 h2 h3;have hT3:Tch (fun k=>k=x.jl∨va.ownBlock=some k) w w1:=(hT.mono fun _ _ h=>h.elim).trans h2
 have hc:∀ k o v,(k=x.g∨(k < x.B∧k≠x.jl))→w.cell? ⟨k,o,none⟩=some v→w1.cell? ⟨k,o,none⟩=some v:=by
  intro k o v hk hv;refine (World.cell?_of_block (w:=w) (a:=⟨k,o,none⟩) (hT3.block k (lt_of_cell hv) (fun hh=>?_))).trans hv
  have hs:=h.a.sep.own va (by simp[rows])
  have h1:=h.a.hB;have h2:=h.a.hj;rcases hh with hh | hh
  ·rcases hk with hk | hk
   ·omega
   ·exact hk.2 hh
  ·obtain ⟨q1,q2,_⟩:=hs k hh;rcases hk with hk | hk
   ·exact q2 hk
   ·omega
 exact ⟨rfl,hc,j1.a.blk.fr 87,j1.e.v1,j1.e.v2,j1.e.v3,Nat.le_trans j1.e.lo j1.a.hB,va',j1,k2.trans j2⟩
theorem PM.tried {x:Cx} (hj:JOK x) {m:Px.Ms} {w w1:World} {f:Nat→Value} {va:Value} (h:PM x m w f va w1) (p:Nat):PM x { m with tried:=p } w f va (w1.setCell ⟨x.g,87,none⟩ (.int .i64 (p:Int))):=by
 obtain ⟨f1,va1,k1,k2⟩:=h;obtain ⟨j1,j2⟩:=k1.zlx hj p;exact ⟨_,_,j1,k2.trans j2⟩
def qnr (x:Cx):Prop:=∀ (m:Px.Ms) (w:World) (f:Nat→Value) (va:Value),MK x m w f va→∀ (i:Nat) (arg:Int) (most:Nat) (und:Bool),i < x.P.words.length→Px.R64 arg→(∀ v∈m.left,Px.R64 v)→m.tried < 65536→most≤65536→m.asks.length≤10000000→x.P.words.length≤10000000 →
  Calls Tryz.prog 145 #[.pointer (some ⟨x.g,0,none⟩),.int .i64 (i:Int),.int .i64 arg,.int .i64 (most:Int),.bool und] w (qed x m i arg most und w f va)
open Go.RowKit
theorem zma (N:Nat) (w:World) :
  Calls Tryz.prog 94 #[.func (.func N) #[] #[]] w fun e w'=>e=.returned (.agg #[.slice none 0 0,.int .i64 2,.int .i64 1,.func (.func 144) #[] #[.pointer (some ⟨w.heap.size,0,none⟩)]])∧w'.heap.size=w.heap.size+2∧Tch (fun _=>False) w w'∧w'.cell? ⟨w.heap.size,0,none⟩=some (.func (.func N) #[] #[]):=by
 have hmf:∀ (fn:Fn) (first cap:Array Value) (w:World),(Instr.makeFunc fn first cap).run Tryz.prog w=.ok (.func fn first cap) w:=fun _ _ _ _=>rfl
 have HT:Hid (∀ A A':Obj,Tch (fun _=>False) w ((w.alloc A).alloc A')):=fun A A'=>((Tch.refl _ _).alloc A).alloc A'
 go_enter Tryz.func94,Tryz.ntmps94
 go_wp2_with fail;refine bodyPost_ret (v:=.agg #[.slice none 0 0,.int .i64 2,.int .i64 1,.func (.func 144) #[] #[.pointer (some ⟨w.heap.size,0,none⟩)]]) (by simp[results,Tryz.results94,go_sem]) rfl ⟨rfl,?_,HT.out _ _,?_⟩
 ·show ((w.heap.push _).push _).size=_
  simp
 ·have h0:∀ A A':Obj,((w.alloc A).alloc A').heap[w.heap.size]?=some A:=fun A A'=>by
   show ((w.heap.push A).push A')[w.heap.size]?=_
   rw[Array.getElem?_push,if_neg (by simp),Array.getElem?_push,if_pos rfl]
  simp[World.cell?,h0]
theorem qw4:Tryz.zeroCells116.size=80:=by kernel_rfl
theorem qto:(Tryz.prog.info? 116).map (·.size)=some 80:=by kernel_rfl
theorem zl8 (N:Nat) (w:World) :
  Calls Tryz.prog 94 #[.func (.func N) #[] #[]] w fun e w'=>e=.returned (.agg #[.slice none 0 0,.int .i64 2,.int .i64 1,.func (.func 144) #[] #[.pointer (some ⟨w.heap.size,0,none⟩)]])∧w'.heap.size=w.heap.size+2∧Hid (Tch (fun _=>False) w w'∧w'.cell? ⟨w.heap.size,0,none⟩=some (.func (.func N) #[] #[])):=by
 refine (zma N w).mono ?_;rintro e w1 ⟨rfl,hs,hT,hc⟩;exact ⟨rfl,hs,hT,hc⟩
def tabL (n:Nat):List Value:=[.slice (some ⟨n+1,0,none⟩) 1 1,.int .i64 0,.int .i64 1,.func (.func 88) #[] #[],.slice (some ⟨n+2,0,none⟩) 1 1,.int .i64 0,.int .i64 1,.func (.func 90) #[] #[],.slice (some ⟨n+3,0,none⟩) 1 1,.int .i64 1,.int .i64 0,.func (.func 91) #[] #[],.slice none 0 0,.int .i64 1,.int .i64 0,.func (.func 93) #[] #[],.slice none 0 0,.int .i64 2,.int .i64 1,.func (.func 144) #[] #[.pointer (some ⟨n+4,0,none⟩)],.slice none 0 0,.int .i64 2,.int .i64 1,.func (.func 144) #[] #[.pointer (some ⟨n+6,0,none⟩)],.slice none 0 0,.int .i64 2,.int .i64 1,.func (.func 144) #[] #[.pointer (some ⟨n+8,0,none⟩)],.slice none 0 0,.int .i64 2,.int .i64 1,.func (.func 98) #[] #[],.slice none 0 0,.int .i64 2,.int .i64 1,.func (.func 144) #[] #[.pointer (some ⟨n+10,0,none⟩)],.slice none 0 0,.int .i64 2,.int .i64 1,.func (.func 144) #[] #[.pointer (some ⟨n+12,0,none⟩)],.slice none 0 0,.int .i64 2,.int .i64 1,.func (.func 144) #[] #[.pointer (some ⟨n+14,0,none⟩)],.slice none 0 0,.int .i64 1,.int .i64 1,.func (.func 104) #[] #[],.slice (some ⟨n+16,0,none⟩) 1 1,.int .i64 0,.int .i64 0,.func (.func 105) #[] #[],.slice (some ⟨n+17,0,none⟩) 1 1,.int .i64 1,.int .i64 0,.func (.func 106) #[] #[],.slice (some ⟨n+18,0,none⟩) 1 1,.int .i64 1,.int .i64 1,.func (.func 108) #[] #[],.slice (some ⟨n+19,0,none⟩) 1 1,.int .i64 0,.int .i64 0,.func (.func 110) #[] #[],.slice (some ⟨n+20,0,none⟩) 1 1,.int .i64 0,.int .i64 0,.func (.func 113) #[] #[],.slice none 0 0,.int .i64 0,.int .i64 0,.func (.func 115) #[] #[],.slice (some ⟨n+21,0,none⟩) 2 2,.int .i64 1,.int .i64 1,.func (.func 116) #[] #[],.slice (some ⟨n+22,0,none⟩) 1 1,.int .i64 1,.int .i64 1,.func (.func 118) #[] #[]]
def tabJ (n:Nat) (k:Nat):Nat:=if k=4 then n+4 else if k=5 then n+6 else if k=6 then n+8 else if k=8 then n+10 else if k=9 then n+12 else n+14
theorem zrn (n k:Nat) (hk:k < 20):(tabL n)[4 * k+3]?=some (.func (.func (funK k)) #[] (capK (tabJ n) k)):=by
 match k,hk with
 | 0,_=>rfl
 | 1,_=>rfl
 | 2,_=>rfl
 | 3,_=>rfl
 | 4,_=>rfl
 | 5,_=>rfl
 | 6,_=>rfl
 | 7,_=>rfl
 | 8,_=>rfl
 | 9,_=>rfl
 | 10,_=>rfl
 | 11,_=>rfl
 | 12,_=>rfl
 | 13,_=>rfl
 | 14,_=>rfl
 | 15,_=>rfl
 | 16,_=>rfl
 | 17,_=>rfl
 | 18,_=>rfl
 | 19,_=>rfl
 | k+20,hk=>exact absurd hk (by omega)
theorem qxb (n:Nat):(tabL n).toArray.all (·.oneCell')=true:=by kernel_rfl
theorem ze1 {ops:Array Oper} {rest:List Oper} {op:Oper} {a:Act} {w:World} {Q:Exit→Act→World→Prop} (hgd:op.guard=none) (x y:Operand) (ho:op.op=.store 116 x y) (n:Nat) (cells:Array Value) (hx:a.eval x=.pointer (some ⟨n,0,none⟩)) (hy:a.eval y=.agg cells) (he:cells=(tabL n).toArray) (ht:w.there n 0 80)
  (h:wpList Tryz.prog ops Q rest (a.put op.dst undef) (w.setCells n 0 (tabL n))):wpList Tryz.prog ops Q (op::rest) a w:=by
 subst he;exact wpList_store_mid hgd _ x y ho n 0 _ hx hy ht (by rw[qto];rfl) (qxb n) h
theorem qv5 {w w':World} {n:Nat} {v:Value} (hT:Tch (fun _=>False) w w') (h:w.cell? ⟨n,0,none⟩=some v):w'.cell? ⟨n,0,none⟩=some v :=
 (World.cell?_of_block (w:=w) (a:=⟨n,0,none⟩) (hT.block _ (lt_of_cell h) (fun h=>h))).trans h
theorem qu9 {w wa wb wc wd we wf:World} {Z A1 A2 A3:Obj} (ha:wa.heap.size=((((w.alloc Z).alloc A1).alloc A2).alloc A3).heap.size+2) (hb:wb.heap.size=wa.heap.size+2) (hc:wc.heap.size=wb.heap.size+2) (hd:wd.heap.size=wc.heap.size+2) (he:we.heap.size=wd.heap.size+2)
  (Pa:Tch (fun _=>False) ((((w.alloc Z).alloc A1).alloc A2).alloc A3) wa∧wa.cell? ⟨((((w.alloc Z).alloc A1).alloc A2).alloc A3).heap.size,0,none⟩=some (.func (.func 95) #[] #[]))
  (Pb:Tch (fun _=>False) wa wb∧wb.cell? ⟨wa.heap.size,0,none⟩=some (.func (.func 96) #[] #[]))
  (Pc:Tch (fun _=>False) wb wc∧wc.cell? ⟨wb.heap.size,0,none⟩=some (.func (.func 97) #[] #[]))
  (Pd:Tch (fun _=>False) wc wd∧wd.cell? ⟨wc.heap.size,0,none⟩=some (.func (.func 100) #[] #[]))
  (Pe:Tch (fun _=>False) wd we∧we.cell? ⟨wd.heap.size,0,none⟩=some (.func (.func 102) #[] #[]))
  (Pf:Tch (fun _=>False) we wf∧wf.cell? ⟨we.heap.size,0,none⟩=some (.func (.func 103) #[] #[]))
  {W:World} (hW:Tch (fun _=>False) wf W) :
  Tch (fun _=>False) (w.alloc Z) W∧∀ k,qit k=true→W.cell? ⟨tabJ w.heap.size k,0,none⟩=some (.func (.func (qv7 k)) #[] #[]):=by
 have hs:((((w.alloc Z).alloc A1).alloc A2).alloc A3).heap.size=w.heap.size+4:=by
  show ((((w.heap.push Z).push A1).push A2).push A3).size=_
  simp
 rw[hs] at ha Pa;rw[ha] at hb Pb;rw[hb] at hc Pc;rw[hc] at hd Pd;rw[hd] at he Pe;rw[he] at Pf;have te:=Pf.1.trans hW;have td:=Pe.1.trans te;have tc:=Pd.1.trans td;have tb:=Pc.1.trans tc;have ta:=Pb.1.trans tb;refine ⟨((((Tch.refl _ _).alloc A1).alloc A2).alloc A3).trans (Pa.1.trans ta),fun k hk=>?_⟩
 unfold qit at hk;simp at hk;rcases hk with ((((rfl | rfl) | rfl) | rfl) | rfl) | rfl
 ·exact qv5 ta Pa.2
 ·exact qv5 tb Pb.2
 ·exact qv5 tc Pc.2
 ·exact qv5 td Pd.2
 ·exact qv5 te Pe.2
 ·exact qv5 hW Pf.2
theorem qqy {w W:World} {C:Array Value} {t:TypeId} (hC:C.size=80) (hT:Tch (fun _=>False) (w.alloc (.cells C t)) W):W.there w.heap.size 0 80:=by
 have h0:W.heap[w.heap.size]?=some (.cells C t):=by
  rw[hT.block _ (by show w.heap.size < (w.heap.push _).size;simp) (fun h=>h)]
  show (w.heap.push _)[w.heap.size]?=_
  rw[Array.getElem?_push,if_pos rfl]
 intro j hj;rw[Nat.zero_add];refine ⟨?_,by simp[World.frozen?,h0]⟩
 simp[World.cell?,h0];omega
theorem qu7 {T:Nat→Prop} {w:World} (b:Nat) (hb:w.heap.size≤b):∀ (vs:List Value) (o:Nat) (w1:World),Tch T w w1→Tch T w (w1.setCells b o vs):=by
 intro vs;induction vs with
 | nil=>intro o w1 h;exact h
 | cons v vs ih=>intro o w1 h;exact ih _ _ (h.setCell (Or.inr hb) v)
theorem qty (b k:Nat) (hk:k≠b):∀ (vs:List Value) (o:Nat) (w1:World),(w1.setCells b o vs).cell? ⟨k,0,none⟩=w1.cell? ⟨k,0,none⟩:=by
 intro vs;induction vs with
 | nil=>intro o w1;rfl
 | cons v vs ih=>intro o w1;exact (ih _ _).trans (qb4 (fun e=>hk (congrArg Addr.block e).symm))
theorem qxj (tmps:Array Value) (W:World) (n:Nat) (hp:tmps.getD 0 undef=.pointer (some ⟨n,0,none⟩)) (hr:W.rangeAt n 0 (tabL n)):(results Tryz.f43 tmps).run Tryz.prog W=.ok (.agg (tabL n).toArray) W:=by
 have hp':tmps[0]?.getD undef=.pointer (some ⟨n,0,none⟩):=by simpa using hp
 have hl:=run_loadVar_mid (P:=Tryz.prog) W n 0 116 (tabL n) (.array 20 115) hr (by kernel_rfl) rfl (by rw[qto];rfl)
 simp[results,Tryz.results43,hp',asAddr,hl]
end Rn
end Go.Proofs.YtagpnplggopoeaaGreatDoor
