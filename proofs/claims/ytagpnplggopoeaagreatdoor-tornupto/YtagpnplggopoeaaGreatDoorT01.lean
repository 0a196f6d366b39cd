import Derived.Test.YtagpnplggopoeaaGreatDoorT00
import Derived.Laws.Strings
import Derived.OneCell
import Derived.Deep.RegionLaw
import Derived.Maps.AppendAt
set_option maxRecDepth 100000
namespace Go.Proofs.YtagpnplggopoeaaGreatDoor
namespace Px
theorem V3.give {c:Lk} (h:V3 c) {w:ByteArray} {p k:Nat} (hk:K3 k):V3 (qc7 w p k c):=by
 unfold qc7;split
 ·intro v hv;rcases List.mem_append.1 hv with h1 | h1
  ·exact h v h1
  ·rw[List.mem_singleton] at h1;rw[h1];exact hk
 ·split
  ·exact h.say _ _
  ·exact h
theorem za6 {c:Lk} {n m:Nat} (w:ByteArray) (p k:Nat) (h:Inv c n) (hp:p < m) (hm:n≤m):qid w p k c=qc7 w p k c∧Inv (qc7 w p k c) m:=by
 unfold qid qc7;cases hf:qa3 c.vars w with
 | none =>
  refine ⟨rfl,?_⟩
  have:=h.mono hm
  exact ⟨this.e,this.p⟩
 | some i =>
  simp only;rw[qpz];cases hu:qft (qcn c.vars i) k
  ·exact ⟨rfl,h.mono hm⟩
  ·exact ⟨qhs _ h,h.say (by omega) hp hm⟩
theorem qzy {c:Lk} {x:Ex} {lo m k:Nat} (hw:WfE x) (hs:Sp x lo m) (hp:x.pl < m) (h:Inv c lo) (hv:V3 c) (hk:k≠63):qh4 x k c=qbq (some x) k c∧Inv (qbq (some x) k c) m∧V3 (qbq (some x) k c):=by
 obtain ⟨e1,e2,e3,e4⟩:=qlr x c lo m hw hs h hv;unfold qh4 qbq;simp only;rw[e1,qoe _ _ hk];split
 ·exact ⟨rfl,e2,e3⟩
 ·exact ⟨qhs _ e2,e2.say (by omega) hp (Nat.le_refl _),e3.say _ _⟩
theorem zyc {c:Lk} {n m:Nat} (w:ByteArray) (p:Nat) (h:Inv c n) (hp:w.size=0∨p < m) (hm:n≤m) (hv:V3 c):asP w p c=(if w.toList.isEmpty then c else qc7 w p 105 c)∧Inv (asP w p c) m∧V3 (asP w p c):=by
 unfold asP;have hz:w.toList.isEmpty=true↔w.size=0:=by
  rw[ByteArray.toList_eq,List.isEmpty_iff,← List.length_eq_zero_iff];exact Iff.rfl
 by_cases h0:w.size=0
 ·rw[if_pos h0,if_pos (hz.2 h0)];exact ⟨rfl,h.mono hm,hv⟩
 ·rw[if_neg h0,if_neg (fun h'=>h0 (hz.1 h'))]
  obtain ⟨g1,g2⟩:=za6 w p 105 h (by omega) hm
  rw[g1];exact ⟨rfl,g2,hv.give (Or.inl rfl)⟩
def qef (x:Sm) (c:Lk):Lk :=
 if x.op=108 then
  match x.ex with
  | none=>c
  | some e=>qid x.word x.pl (qaj e c).1 (qaj e c).2
 else if x.op=99 then countP x.n x.nPl 1 5 (asP x.asw x.asPl (argP x.ex c))
 else if x.op=105 then
  match x.ex with
  | none=>c
  | some e=>qbz x.two (qbz x.one (qh4 e 98 c))
 else if x.op=116 then qbz x.two (qbz x.one c)
 else if x.op=114 then qbz x.one (countP x.n x.nPl 0 9 c)
 else c
theorem qjh (c:Lk):qbz [] c=c:=by rw[qbz]
theorem qhv (x:Sm) (l:List Sm) (c:Lk):qbz (x::l) c=qbz l (qef x c):=by
 obtain ⟨op,word,pl,ex,asw,asPl,undo,n,nPl,one,two⟩:=x;rw[qbz.eq_def]
 all_goals rfl
theorem qh8 (l:List Sm):∀ (c:Lk) (lo hi:Nat),WfS l→Ss l lo hi→Inv c lo→V3 c→qbz l c=qap l c∧Inv (qap l c) hi∧V3 (qap l c):=by
 match l with
 | [] =>
  intro c lo hi _ hs h hv;rw[qjh,qhu];exact ⟨rfl,h.mono (zkc.1 hs),hv⟩
 | ⟨op,word,pl,ex,asw,asPl,undo,n,nPl,one,two⟩::rest =>
  intro c lo hi hw hs h hv;obtain ⟨w0,w1,w2,w3⟩:=qd7.1 hw;obtain ⟨md,s1,h0,s2⟩:=zkd.1 hs;rw[qhv,qdi];have H:qef ⟨op,word,pl,ex,asw,asPl,undo,n,nPl,one,two⟩ c=qcc ⟨op,word,pl,ex,asw,asPl,undo,n,nPl,one,two⟩ c∧Inv (qcc ⟨op,word,pl,ex,asw,asPl,undo,n,nPl,one,two⟩ c) md∧V3 (qcc ⟨op,word,pl,ex,asw,asPl,undo,n,nPl,one,two⟩ c):=by
   unfold qcc qef;simp only at w0 w1 w2 s2 ⊢;rcases s2 with ⟨o,e,h1,h2,h3⟩ | ⟨o,m1,m2,h1,h2,h3,h4,h5,h6⟩ | ⟨o,e,a,b,c',d,m1,h1,h2,h3,h4,h5,h6,h7,h8⟩ | ⟨o,a,b,c',d,h1,h2,h3,h4,h5⟩ | ⟨o,a,b,h1,h2,h3,h4⟩ | o
   ·subst o h1;have hwe:=w0.1 e rfl;obtain ⟨e1,e2,e3,e4⟩:=qlr e c lo md hwe h2 h hv;simp only[if_true];rw[e1];obtain ⟨g1,g2⟩:=za6 word pl (qao e c).1 e2 h3 (Nat.le_refl _);exact ⟨g1,g2,e3.give e4⟩
   ·subst o;simp only[if_true,if_neg (by decide:¬(99:Nat)=108)]
    have ha:argP ex c=qbq ex 105 c∧Inv (qbq ex 105 c) m1∧V3 (qbq ex 105 c):=by
     cases ex with
     | none=>exact ⟨rfl,h.mono h1,hv⟩
     | some e=>exact qzy (w0.1 e rfl) (h4 e rfl).1 (h4 e rfl).2 h hv (by decide)
    obtain ⟨a1,a2,a3⟩:=ha;rw[a1];obtain ⟨b1,b2,b3⟩:=zyc asw asPl a2 h5 h2 a3;rw[← b1];generalize asP asw asPl (qbq ex 105 c)=c2 at b1 b2 b3;unfold countP;by_cases hn:n < 1∨5 < n
    ·rw[if_pos hn,if_pos hn];have h7:m2≤nPl∧nPl < md:=by omega
     exact ⟨qs9 b2 h7.1,b2.say (by omega) h7.2 h3,b3.say _ _⟩
    ·rw[if_neg hn,if_neg hn];exact ⟨rfl,b2.mono h3,b3⟩
   ·subst o h1;simp only[if_true,if_neg (by decide:¬(105:Nat)=108),if_neg (by decide:¬(105:Nat)=99)]
    obtain ⟨a1,a2,a3⟩:=qzy (k:=98) (w0.1 e rfl) h2 h3 h hv (by decide)
    rw[a1];obtain ⟨b1,b2,b3⟩:=qh8 one _ a b w1 h5 (a2.mono h4) a3;rw[b1];obtain ⟨d1,d2,d3⟩:=qh8 two _ c' d w2 h7 (b2.mono h6) b3;exact ⟨d1,d2.mono h8,d3⟩
   ·subst o;simp only[if_true,if_neg (by decide:¬(116:Nat)=108),if_neg (by decide:¬(116:Nat)=99),if_neg (by decide:¬(116:Nat)=105)]
    obtain ⟨b1,b2,b3⟩:=qh8 one _ a b w1 h2 (h.mono h1) hv;rw[b1];obtain ⟨d1,d2,d3⟩:=qh8 two _ c' d w2 h4 (b2.mono h3) b3;exact ⟨d1,d2.mono h5,d3⟩
   ·subst o;simp only[if_true,if_neg (by decide:¬(114:Nat)=108),if_neg (by decide:¬(114:Nat)=99),if_neg (by decide:¬(114:Nat)=105),if_neg (by decide:¬(114:Nat)=116)]
    have ha:countP n nPl 0 9 c=(if 9 < n then say 4 nPl c else c)∧Inv (if 9 < n then say 4 nPl c else c) a∧V3 (if 9 < n then say 4 nPl c else c):=by
     unfold countP;by_cases hn:9 < n
     ·rw[if_pos (Or.inr hn),if_pos hn];exact ⟨qs9 h h1,h.say (by omega) h2 (by omega),hv.say _ _⟩
     ·rw[if_neg (by omega),if_neg hn]
      exact ⟨rfl,h.mono (by omega),hv⟩
    obtain ⟨a1,a2,a3⟩:=ha;rw[a1];obtain ⟨b1,b2,b3⟩:=qh8 one _ a b w1 h3 a2 a3;exact ⟨b1,b2.mono h4,b3⟩
   ·subst o;simp only[if_neg (by decide:¬(102:Nat)=108),if_neg (by decide:¬(102:Nat)=99),if_neg (by decide:¬(102:Nat)=105),if_neg (by decide:¬(102:Nat)=116),if_neg (by decide:¬(102:Nat)=114)]
    exact ⟨trivial,h.mono h0,hv⟩
  obtain ⟨H1,H2,H3⟩:=H;rw[H1];exact qh8 rest _ md hi w3 s1 H2 H3
theorem zft {s:ByteArray} {l:List Sm} (h:read s=.ok l):qbz l ⟨[],0,0⟩=qap l ⟨[],0,0⟩:=by
 obtain ⟨lo,hi,hs⟩:=zcr h;exact (qh8 l _ lo hi (qd0 h).1 hs ⟨by decide,Or.inl rfl⟩ (fun v hv=>by cases hv)).1
end Px
open Go.RowKit
structure Tch (T:Nat→Prop) (w w':World):Prop where
 os:w'.os=w.os
 tape:w'.tape=w.tape
 output:w'.output=w.output
 size:w.heap.size≤w'.heap.size
 block:∀ k,k < w.heap.size→¬ T k→w'.heap[k]?=w.heap[k]?
theorem Tch.refl (T:Nat→Prop) (w:World):Tch T w w:=⟨rfl,rfl,rfl,Nat.le_refl _,fun _ _ _=>rfl⟩
theorem Tch.trans {T:Nat→Prop} {w w1 w2:World} (h:Tch T w w1) (k:Tch T w1 w2):Tch T w w2 :=
 ⟨k.os.trans h.os,k.tape.trans h.tape,k.output.trans h.output,Nat.le_trans h.size k.size,fun i hi hn=>(k.block i (Nat.lt_of_lt_of_le hi h.size) hn).trans (h.block i hi hn)⟩
theorem Tch.mono {T T':Nat→Prop} {w w':World} (h:Tch T w w') (ht:∀ k,k < w.heap.size→T k→T' k):Tch T' w w':=⟨h.os,h.tape,h.output,h.size,fun k hk hn=>h.block k hk fun ht'=>hn (ht k hk ht')⟩
theorem Tch.drew {T:Nat→Prop} {w w1:World} (h:Tch T w w1):Tch T w w1.drew:=⟨h.os,h.tape,h.output,h.size,h.block⟩
theorem Tch.below {T:Nat→Prop} {w w1 w2:World} (h:Tch T w w1) (k:Below w1.heap.size w1 w2):Tch T w w2:=h.trans ⟨k.os,k.tape,k.output,k.size,fun i hi _=>k.block i hi⟩
theorem Tch.alloc {T:Nat→Prop} {w w1:World} (h:Tch T w w1) (o:Obj):Tch T w (w1.alloc o):=h.below ((Below.refl _ _).alloc (Nat.le_refl _) _)
theorem Tch.setCell {T:Nat→Prop} {w w1:World} (h:Tch T w w1) {p:Addr} (hp:T p.block∨w.heap.size≤p.block) (u:Value):Tch T w (w1.setCell p u) :=
 ⟨h.os,h.tape,h.output,by simpa [World.setCell] using h.size,fun i hi hn=>by
  rw[Below.heap_setCell _ _ _ _ (by rintro rfl;rcases hp with hp | hp;exact hn hp;omega)];exact h.block i hi hn⟩
theorem Tch.grown {T:Nat→Prop} {w w1 w2:World} {row:Option Nat} (h:Tch T w w1) (hg:w1.grownBy w2 row) (hr:∀ k,row=some k→T k∨w.heap.size≤k):Tch T w w2 :=
 ⟨hg.os.trans h.os,hg.tape.trans h.tape,hg.output.trans h.output,Nat.le_trans h.size hg.size,fun i hi hn=>by
  rw[hg.block i (Nat.lt_of_lt_of_le hi h.size) (fun e=>by rcases hr i e.symm with h | h;exact hn h;omega)];exact h.block i hi hn⟩
theorem Tch.qbg {T:Nat→Prop} {B:Nat} {w w':World} (h:Tch T w w') (hB:B≤w.heap.size) (ht:∀ k,T k→B≤k):Below B w w':=⟨h.os,h.tape,h.output,h.size,fun k hk=>h.block k (by omega) fun hk'=>by have:=ht k hk';omega⟩
theorem qah {T:Nat→Prop} {w w':World} {base:Nat} {e:TypeId} {size:Nat} {v:Value} {n:Nat} {xs:List Value} (h:w.ownsRow base e size v n xs) (ht:Tch T w w') (hn:∀ k,v.ownBlock=some k→¬ T k):w'.ownsRow base e size v n xs:=by
 obtain ⟨h1,h2⟩:=h;refine ⟨h1,?_⟩;rcases h2 with h2 | ⟨g,cap,cur,hv,hg,hh,r⟩
 ·exact Or.inl h2
 ·subst hv;exact Or.inr ⟨g,cap,cur,rfl,hg,by rw[ht.block g (Array.getElem?_eq_some_iff.1 hh).1 (hn g rfl)];exact hh,r⟩
structure Sep (B c:Nat) (w:World) (rows:List Value):Prop where
 own:∀ v∈rows,∀ k,v.ownBlock=some k→B≤k∧k≠c∧k < w.heap.size
 apart:rows.Pairwise fun a b=>∀ k,a.ownBlock=some k→b.ownBlock≠some k
theorem Sep.world {B c:Nat} {w w':World} {rows:List Value} (h:Sep B c w rows) (hs:w.heap.size≤w'.heap.size):Sep B c w' rows :=
 ⟨fun v hv k hk=>by obtain ⟨h1,h2,h3⟩:=h.own v hv k hk;exact ⟨h1,h2,by omega⟩,h.apart⟩
theorem Sep.turn {B c:Nat} {w w':World} {A R:List Value} {v v':Value} (h:Sep B c w (A++v::R)) (hs:w.heap.size≤w'.heap.size) (hB:B≤w.heap.size) (hc:c < w.heap.size)
  (hv:v'.ownBlock=v.ownBlock∨v'.ownBlock=none∨∃ n,v'.ownBlock=some n∧w.heap.size≤n∧n < w'.heap.size):Sep B c w' (A++v'::R):=by
 have own':∀ x∈A++v'::R,∀ k,x.ownBlock=some k→B≤k∧k≠c∧k < w'.heap.size:=by
  intro x hx k hk;rw[List.mem_append,List.mem_cons] at hx;rcases hx with hx | rfl | hx
  ·obtain ⟨h1,h2,h3⟩:=h.own x (by simp[hx]) k hk;exact ⟨h1,h2,by omega⟩
  ·rcases hv with hv | hv | ⟨n,hv,h1,h2⟩
   ·rw[hv] at hk;obtain ⟨h1,h2,h3⟩:=h.own v (by simp) k hk;exact ⟨h1,h2,by omega⟩
   ·rw[hv] at hk;cases hk
   ·rw[hv] at hk;cases hk;exact ⟨by omega,by omega,h2⟩
  ·obtain ⟨h1,h2,h3⟩:=h.own x (by simp[hx]) k hk;exact ⟨h1,h2,by omega⟩
 refine ⟨own',?_⟩;have ha:=h.apart;rw[List.pairwise_append,List.pairwise_cons] at ha ⊢;obtain ⟨p1,⟨p2,p3⟩,p4⟩:=ha;refine ⟨p1,⟨fun b hb k hk=>?_,p3⟩,fun a ha b hb=>?_⟩
 ·rcases hv with hv | hv | ⟨n,hv,h1,h2⟩
  ·rw[hv] at hk;exact p2 b hb k hk
  ·rw[hv] at hk;cases hk
  ·rw[hv] at hk;cases hk;intro hb';obtain ⟨_,_,h3⟩:=h.own b (by simp[hb]) _ hb'
   omega
 ·rw[List.mem_cons] at hb;rcases hb with rfl | hb
  ·intro k hk hb';rcases hv with hv | hv | ⟨n,hv,h1,h2⟩
   ·rw[hv] at hb';exact p4 a ha v (by simp) k hk hb'
   ·rw[hv] at hb';cases hb'
   ·rw[hv] at hb';cases hb';obtain ⟨_,_,h3⟩:=h.own a (by simp[ha]) _ hk
    omega
  ·exact p4 a ha b (by simp[hb])
theorem Sep.mem {B c:Nat} {w:World} {rows:List Value} (h:Sep B c w rows) {i j:Nat} {v u:Value} (hi:rows[i]?=some v) (hj:rows[j]?=some u) (hij:i≠j):∀ k,v.ownBlock=some k→u.ownBlock≠some k:=by
 obtain ⟨hi1,hi2⟩:=List.getElem?_eq_some_iff.1 hi;obtain ⟨hj1,hj2⟩:=List.getElem?_eq_some_iff.1 hj;intro k hk hk';rcases Nat.lt_or_gt_of_ne hij with h1 | h1
 ·have:=(List.pairwise_iff_getElem.1 h.apart) i j hi1 hj1 h1
  rw[hi2,hj2] at this;exact this k hk hk'
 ·have:=(List.pairwise_iff_getElem.1 h.apart) j i hj1 hi1 h1
  rw[hi2,hj2] at this;exact this k hk' hk
open Go.RowKit
theorem qbh {P:Program} {ops:Array Oper} {o:Oper} {a:Act} {w:World} {K:Act→World→Prop} {Q:Exit→Act→World→Prop} {E:Prop}
  (hg:o.guard=none) (s x:Operand) (t:TypeId) (ho:o.op=.call { callee:=.builtin .append,args:=#[s,x],argTypes:=#[t,t] })
  (base:Nat) (e:TypeId) (i:TypeInfo) (z:Value) (size bytes:Nat) (ht:P.underlying t=some (.slice e)) (hi:P.info? e=some i) (hz:i.zero=some z)
  (hsize:i.size=size) (hby:i.bytes=bytes) (hzs:z.cells.size=size) (hsz:0 < size)
  (v:Value) (n:Nat) (xs:List Value) (hs:a.eval s=v) (hown:w.ownsRow base e size v n xs)
  (ad:Addr) (m c:Nat) (news:List Value) (hx:a.eval x=.slice (some ad) m c) (hl:news.length=m * size) (hnews:∀ j u,news[j]?=some u→w.cell? (ad.add j)=some u) (h1:∀ u∈news,u.oneCell'=true)
  (h63:n+m≤maxLen) (hbytes:(n+m) * bytes≤140737488355328) (hbase:base≤w.heap.size)
  (h:∀ v' w',w'.ownsRow base e size v' (n+m) (xs++news)→w.grownBy w' v.ownBlock→(v'.ownBlock=v.ownBlock∨v'.ownBlock=some w.heap.size)→K (a.put o.dst v') w') :
  if Region.wanted o (yielded ops a.tmps)=true then Oper.wp P o a w K Q else E:=by
 have hw:Region.wanted o (yielded ops a.tmps)=true:=by simp[Region.wanted,hg]
 rw[if_pos hw];obtain ⟨v',w',hr,h2,h3,_,h5⟩:=run_append_own_at (P:=P) w base t o.type e i z size bytes ht hi hz hsize hby hzs hsz v n xs hown ad m c news hl hnews h1 h63 hbytes hbase;unfold Oper.wp;simp only[execOp,ho,resolve,invoke,builtin,Sem.run_bind,Sem.run_pure,Result.andThen_ok,List.map_toArray,List.map_cons,List.map_nil,hs,hx,hr];exact h v' w' h2 h3 h5
open Go.RowKit
namespace Px
structure Ask where
 word:ByteArray
 arg:Int
 nth:Nat
 undo:Bool
structure Rs where
 held:List Int
 left:List Int
 asks:List Ask
 piles:List (List (ByteArray×Int))
 over:Nat
 stop:Bool
 failed:Bool
def Rs.going (s:Rs):Bool:=s.over == 0 && !s.stop && !s.failed
def ask (a:Ask) (s:Rs):Option Int×Rs :=
 match s.left with
 | []=>(none,{ s with asks:=s.asks++[a],stop:=true })
 | v::r=>(some v,{ s with asks:=s.asks++[a],left:=r })
abbrev Vs:=List (ByteArray×Nat)
def qv9 (vars:Vs) (held:List Int) (w:ByteArray):Int :=
 match qa3 vars w with
 | none=>0
 | some i=>held.getD i 0
def setV (vars:Vs) (held:List Int) (w:ByteArray) (v:Int):List Int :=
 match qa3 vars w with
 | none=>held
 | some i=>held.set i v
def truth (b:Bool):Int:=if b then 1 else 0
def op2 (op:Nat) (a b:Int):Option Int :=
 if op=43 then some (wrap64 (a+b)) else if op=45 then some (wrap64 (a - b)) else if op=42 then some (wrap64 (a * b))
 else if op=60 then some (truth (decide (a < b))) else if op=61 then some (truth (decide (a=b))) else if op=35 then some (truth (decide (a≠b)))
 else if b=0 then none else some (wrap64 (a.tdiv b))
def evE (vars:Vs) (held:List Int):Ex→Option Int
 | ⟨op,n,word,_,_,none,_⟩=>if op=119 then some (qv9 vars held word) else some n
 | ⟨_,_,_,_,_,some l,none⟩=>(evE vars held l).map fun v=>wrap64 (1 - v)
 | ⟨op,_,_,_,_,some l,some r⟩ =>
  match evE vars held l with
  | none=>none
  | some a =>
   match evE vars held r with
   | none=>none
   | some b=>op2 op a b
def evO (vars:Vs) (held:List Int) (x:Option Ex):Option Int :=
 match x with
 | none=>some 0
 | some e=>evE vars held e
def tries (word:ByteArray) (arg:Int) (undo:Bool):Nat→Nat→Rs→Option (Option Int)×Rs
 | 0,_,s=>(some none,s)
 | k+1,t,s =>
  match ask ⟨word,arg,t,undo⟩ s with
  | (none,s1)=>(none,s1)
  | (some v,s1)=>if 0≤v then (some (some v),s1) else tries word arg undo k (t+1) s1
def qch:List (ByteArray×Int)→Rs→Rs
 | [],s=>s
 | (w,v)::r,s =>
  match tries w v true 3 1 s with
  | (none,s1)=>s1
  | (some none,s1)=>{ s1 with over:=3 }
  | (some (some _),s1)=>qch r s1
def qb5 (s:Rs):Rs:=qch (s.piles.getLastD []).reverse { s with piles:=s.piles.dropLast }
def layP (piles:List (List (ByteArray×Int))) (x:List (ByteArray×Int)):List (List (ByteArray×Int)):=piles.dropLast++[piles.getLastD []++x]
def qei (vars:Vs) (word:ByteArray) (ex:Option Ex) (asw undo:ByteArray) (n:Nat) (s:Rs):Rs :=
 match evO vars s.held ex with
 | none=>{ s with failed:=true }
 | some arg =>
  match tries word arg false n 1 s with
  | (none,s1)=>s1
  | (some none,s1)=>{ s1 with failed:=true }
  | (some (some v),s1)=>{ s1 with held:=if asw.size=0 then s1.held else setV vars s1.held asw v,piles:=if undo.size=0 then s1.piles else layP s1.piles [(undo,v)] }
def iter (f:Rs→Rs):Nat→Rs→Rs
 | 0,s=>s
 | n+1,s=>iter f n (f s)
def runS (vars:Vs):List Sm→Rs→Rs
 | [],s=>s
 | ⟨op,word,_,ex,asw,_,undo,n,_,one,two⟩::rest,s =>
  runS vars rest (
   if s.going then
    (if op=108 then (match evO vars s.held ex with
      | none=>{ s with failed:=true }
      | some v=>{ s with held:=setV vars s.held word v })
     else if op=99 then qei vars word ex asw undo n s
     else if op=105 then (match evO vars s.held ex with
      | none=>{ s with failed:=true }
      | some v=>if v=1 then runS vars one s else runS vars two s)
     else if op=116 then
      (let s1:=runS vars one { s with piles:=s.piles++[[]] }
      if s1.over≠0∨s1.stop=true then s1
      else if s1.failed then (let s2:=qb5 { s1 with failed:=false };if s2.going then runS vars two s2 else s2)
      else { s1 with piles:=layP s1.piles.dropLast (s1.piles.getLastD []) })
     else if op=114 then iter (runS vars one) n s
     else { s with failed:=true })
   else s)
def runX (vars:Vs) (x:Sm) (s:Rs):Rs :=
 if x.op=108 then (match evO vars s.held x.ex with
  | none=>{ s with failed:=true }
  | some v=>{ s with held:=setV vars s.held x.word v })
 else if x.op=99 then qei vars x.word x.ex x.asw x.undo x.n s
 else if x.op=105 then (match evO vars s.held x.ex with
  | none=>{ s with failed:=true }
  | some v=>if v=1 then runS vars x.one s else runS vars x.two s)
 else if x.op=116 then
  (let s1:=runS vars x.one { s with piles:=s.piles++[[]] }
   if s1.over≠0∨s1.stop=true then s1
   else if s1.failed then (let s2:=qb5 { s1 with failed:=false };if s2.going then runS vars x.two s2 else s2)
   else { s1 with piles:=layP s1.piles.dropLast (s1.piles.getLastD []) })
 else if x.op=114 then iter (runS vars x.one) x.n s
 else { s with failed:=true }
theorem qdy (vars:Vs) (s:Rs):runS vars [] s=s:=by rw[runS]
theorem qci (vars:Vs) (x:Sm) (l:List Sm) (s:Rs):runS vars (x::l) s=runS vars l (if s.going then runX vars x s else s):=by
 obtain ⟨op,word,pl,ex,asw,asPl,undo,n,nPl,one,two⟩:=x;rw[runS.eq_def]
 all_goals rfl
def ended (s:Rs):Rs :=
 if s.over≠0∨s.stop=true then s
 else if s.failed then (let s2:=qb5 s;if s2.over=0∧s2.stop=false then { s2 with over:=2 } else s2)
 else { s with over:=1 }
def play (vars:Vs) (l:List Sm) (answers:List Int):Rs:=ended (runS vars l ⟨List.replicate vars.length 0,answers,[],[[]],0,false,false⟩)
def run (s:ByteArray) (answers:List Int):List Ask×Nat×Nat×Nat :=
 match read s with
 | .error r=>([],0,r)
 | .ok l=>if check s=(0,0) then (let z:=play (qap l ⟨[],0,0⟩).vars l answers;(z.asks,z.over,0,0)) else ([],0,check s)
theorem qez (vars:Vs) (l:List Sm) {s:Rs} (h:s.going=false):runS vars l s=s:=by
 induction l with
 | nil=>exact qdy vars s
 | cons x l ih=>rw[qci,h];exact ih
theorem qjn {f:Rs→Rs} {s:Rs} (h:f s=s) (n:Nat):iter f n s=s:=by
 induction n with
 | zero=>rfl
 | succ n ih=>rw[iter,h,ih]
theorem qca {c:Lk} {e:Nat} (he:e≠0) (p:Nat):(say e p c).e≠0:=by
 unfold say;split
 ·exact he
 ·rename_i h;exact fun x=>h (Or.inl x)
theorem zho {c:Lk} (h:c.e≠0) (op:Nat) (w:ByteArray) (own:Nat):(qpq op w own c).2.e≠0:=by
 unfold qpq;split
 ·exact h
 ·split
  ·exact h
  ·split
   ·exact qca (by decide) _
   ·exact h
theorem qfz (x:Ex):∀ c:Lk,c.e≠0→(qao x c).2.e≠0:=by
 match x with
 | ⟨op,n,word,pl,own,none,_⟩=>intro c h;rw[qao];exact zho h _ _ _
 | ⟨op,n,word,pl,own,some l,none⟩ =>
  intro c h;rw[qao]
  have:=qfz l c h
  unfold notK;dsimp only;split
  ·exact this
  ·exact qca (by decide) _
 | ⟨op,n,word,pl,own,some l,some r⟩ =>
  intro c h;rw[qao]
  have:=qfz r _ (qfz l c h)
  unfold binK;split
  ·dsimp only;split
   ·exact qca (by decide) _
   ·exact this
  ·dsimp only;split
   ·exact this
   ·exact qca (by decide) _
theorem qf2 {c:Lk} (h:c.e≠0) (w:ByteArray) (p k:Nat):(qc7 w p k c).e≠0:=by
 unfold qc7;split
 ·exact h
 ·split
  ·exact qca (by decide) _
  ·exact h
theorem qlj {c:Lk} (h:c.e≠0) (x:Option Ex) (k:Nat):(qbq x k c).e≠0:=by
 unfold qbq;split
 ·exact h
 ·split
  ·exact qfz _ _ h
  ·exact qca (by decide) _
def qmw (x:Sm) (c:Lk):Lk :=
 if x.op=108 then
  match x.ex with
  | none=>c
  | some e=>qc7 x.word x.pl (qao e c).1 (qao e c).2
 else if x.op=99 then
  let c1:=qbq x.ex 105 c
  let c2:=if x.asw.toList.isEmpty then c1 else qc7 x.asw x.asPl 105 c1
  if x.n < 1∨5 < x.n then say 4 x.nPl c2 else c2
 else if x.op=105 then qap x.two (qap x.one (qbq x.ex 98 c))
 else if x.op=116 then qap x.two (qap x.one c)
 else if x.op=114 then qap x.one (if 9 < x.n then say 4 x.nPl c else c)
 else c
theorem qmv (x:Sm) (l:List Sm) (c:Lk):qap (x::l) c=qap l (qmw x c):=by
 obtain ⟨op,word,pl,ex,asw,asPl,undo,n,nPl,one,two⟩:=x;rw[qap.eq_def]
 all_goals rfl
theorem zhi (x:Sm) (h1:∀ c:Lk,c.e≠0→(qap x.one c).e≠0) (h2:∀ c:Lk,c.e≠0→(qap x.two c).e≠0) (c:Lk) (h:c.e≠0):(qmw x c).e≠0:=by
 unfold qmw;split
 ·split
  ·exact h
  ·exact qf2 (qfz _ _ h) _ _ _
 ·split
  ·dsimp only;split
   ·exact qca (by decide) _
   ·split
    ·exact qlj h _ _
    ·exact qf2 (qlj h _ _) _ _ _
  ·split
   ·exact h2 _ (h1 _ (qlj h _ _))
   ·split
    ·exact h2 _ (h1 _ h)
    ·split
     ·refine h1 _ ?_;split
      ·exact qca (by decide) _
      ·exact h
     ·exact h
theorem qb7 (l:List Sm):∀ c:Lk,c.e≠0→(qap l c).e≠0:=by
 match l with
 | []=>intro c h;rw[qap];exact h
 | ⟨op,word,pl,ex,asw,asPl,undo,n,nPl,one,two⟩::rest =>
  intro c h;rw[qmv];exact qb7 rest _ (zhi ⟨op,word,pl,ex,asw,asPl,undo,n,nPl,one,two⟩ (qb7 one) (qb7 two) c h)
def okE (V:Vs):Ex→Nat→Prop
 | ⟨op,n,word,_,_,none,_⟩,k=>if op=110 then k=105 else if op=116 then k=98∧n≤1 else op=119∧∃ i,qa3 V word=some i∧qcn V i=k
 | ⟨op,_,_,_,_,some l,none⟩,k=>op=33∧k=98∧okE V l 98
 | ⟨op,_,_,_,_,some l,some r⟩,k =>
  if op=61∨op=35 then k=98∧∃ j,okE V l j∧okE V r j
  else (op=42∨op=47∨op=43∨op=45∨op=60)∧k=(if op=60 then 98 else 105)∧okE V l 105∧okE V r 105
def okO (V:Vs) (x:Option Ex) (k:Nat):Prop:=∀ e,x=some e→okE V e k
def okV (V:Vs) (w:ByteArray) (k:Nat):Prop:=∃ i,qa3 V w=some i∧qcn V i=k
def okH (V:Vs) (op:Nat) (word:ByteArray) (ex:Option Ex) (asw:ByteArray) (n:Nat):Prop :=
 (op=108∧∃ e k,ex=some e∧okE V e k∧okV V word k∧(k=105∨k=98)) ∨
 (op=99∧okO V ex 105∧(asw.size=0∨okV V asw 105)∧1≤n∧n≤5) ∨
 (op=105∧∃ e,ex=some e∧okE V e 98)∨op=116∨(op=114∧n≤9)∨op=102
def okS (V:Vs):List Sm→Prop
 | []=>True
 | ⟨op,word,_,ex,asw,_,_,n,_,one,two⟩::rest=>okH V op word ex asw n∧(op=105∨op=116∨op=114→okS V one)∧(op=105∨op=116→okS V two)∧okS V rest
theorem zgx (V:Vs):okS V []:=by rw[okS];trivial
theorem qgd {V:Vs} {x:Sm} {l:List Sm}:okS V (x::l)↔okH V x.op x.word x.ex x.asw x.n∧(x.op=105∨x.op=116∨x.op=114→okS V x.one)∧(x.op=105∨x.op=116→okS V x.two)∧okS V l:=by
 obtain ⟨op,word,pl,ex,asw,asPl,undo,n,nPl,one,two⟩:=x;rw[okS]
def TrE:Ex→Prop
 | ⟨op,n,_,_,_,none,_⟩=>op=116→n≤1
 | ⟨_,_,_,_,_,some l,none⟩=>TrE l
 | ⟨_,_,_,_,_,some l,some r⟩=>TrE l∧TrE r
def TrS:List Sm→Prop
 | []=>True
 | ⟨_,_,_,ex,_,_,_,_,_,one,two⟩::rest=>(∀ e,ex=some e→TrE e)∧TrS one∧TrS two∧TrS rest
theorem qim:TrS []:=by rw[TrS];trivial
theorem zbp {x:Sm} {l:List Sm}:TrS (x::l)↔(∀ e,x.ex=some e→TrE e)∧TrS x.one∧TrS x.two∧TrS l:=by
 obtain ⟨op,word,pl,ex,asw,asPl,undo,n,nPl,one,two⟩:=x;rw[TrS]
theorem qp0 {l m:Vs} {w:ByteArray} {i:Nat} (h:qa3 l w=some i):qa3 (l++m) w=some i:=by
 induction l generalizing i with
 | nil=>cases h
 | cons v l ih =>
  obtain ⟨v,k⟩:=v;rw[qa3] at h;rw[List.cons_append,qa3];split at h
  ·rename_i hc;rw[if_pos hc];exact h
  ·rename_i hc;rw[if_neg hc];cases hf:qa3 l w with
   | none=>rw[hf] at h;cases h
   | some j=>rw[hf] at h;rw[ih hf];exact h
theorem zil {l:Vs} {w:ByteArray} {k:Nat} (h:qa3 l w=none):qa3 (l++[(w,k)]) w=some l.length:=by
 induction l with
 | nil=>simp[qa3]
 | cons v l ih =>
  obtain ⟨v,k'⟩:=v;rw[qa3] at h;split at h
  ·cases h
  ·rename_i hc;rw[List.cons_append,qa3,if_neg hc];have h2:qa3 l w=none:=by
    cases hf:qa3 l w with
    | none=>rfl
    | some j=>rw[hf] at h;cases h
   rw[ih h2];simp
theorem qmz {l m:Vs} {i:Nat} (h:i < l.length):qcn (l++m) i=qcn l i:=by
 unfold qcn;rw[List.getD_eq_getElem?_getD,List.getD_eq_getElem?_getD,List.getElem?_append_left h]
def K2 (V:Vs):Prop:=∀ v∈V,v.2=105∨v.2=98
theorem K2.at {V:Vs} (h:K2 V) {i:Nat} (hi:i < V.length):qcn V i=105∨qcn V i=98:=by
 obtain ⟨v,hv,e⟩:=qj9 hi;rw[e];exact h v hv
theorem qkf {c:Lk} {e p:Nat} (he:e≠0):¬ (say e p c).e=0:=qca he p
theorem zn2 {k want:Nat} (hk:k=105∨k=98):isK k want=true↔k=want:=by
 unfold isK;rw[Bool.or_eq_true,beq_iff_eq,beq_iff_eq];omega
theorem qj8 (x:Ex):∀ (c:Lk) (W:Vs),WfE x→TrE x→K2 c.vars→(qao x c).2.e=0→(qao x c).2=c∧((qao x c).1=105∨(qao x c).1=98)∧okE (c.vars++W) x (qao x c).1:=by
 match x with
 | ⟨op,n,word,pl,own,none,none⟩ =>
  intro c W hw ht hk h;rw[qao] at h ⊢;unfold qpq at h ⊢;have hw':op=110∨op=116∨op=119:=hw;by_cases h1:op=110
  ·rw[if_pos h1];refine ⟨rfl,Or.inl rfl,?_⟩;rw[okE,if_pos h1]
  ·rw[if_neg h1] at h ⊢;by_cases h2:op=116
   ·rw[if_pos h2];refine ⟨rfl,Or.inr rfl,?_⟩;rw[okE,if_neg h1,if_pos h2];exact ⟨rfl,ht h2⟩
   ·rw[if_neg h2] at h ⊢;cases hf:qa3 c.vars word with
    | none=>rw[hf] at h;exact absurd h (qkf (by decide))
    | some i =>
     dsimp only;have hi:=qds hf;refine ⟨rfl,hk.at hi,?_⟩;rw[okE,if_neg h1,if_neg h2];exact ⟨by omega,i,qp0 hf,qmz hi⟩
 | ⟨op,n,word,pl,own,none,some r⟩=>intro c W hw;exact hw.elim
 | ⟨op,n,word,pl,own,some l,none⟩ =>
  intro c W hw ht hk h;rw[qao] at h ⊢;unfold notK at h ⊢;dsimp only at h ⊢;have hl:(qao l c).2.e=0∧isK (qao l c).1 98=true:=by
   split at h
   ·rename_i hi;exact ⟨h,hi⟩
   ·exact absurd h (qkf (by decide))
  obtain ⟨i1,i2,i3⟩:=qj8 l c W hw.2 ht hk hl.1;rw[if_pos hl.2];refine ⟨i1,Or.inr rfl,?_⟩;rw[okE];rw[(zn2 i2).1 hl.2] at i3;exact ⟨hw.1,rfl,i3⟩
 | ⟨op,n,word,pl,own,some l,some r⟩ =>
  intro c W hw ht hk h;rw[qao] at h ⊢;obtain ⟨hop,hwl,hwr⟩:=hw;have hr0:(qao r (qao l c).2).2.e=0:=by
   unfold binK at h;split at h
   ·dsimp only at h;split at h
    ·exact absurd h (qkf (by decide))
    ·exact h
   ·dsimp only at h;split at h
    ·exact h
    ·exact absurd h (qkf (by decide))
  have hl0:(qao l c).2.e=0:=Decidable.byContradiction fun hn=>qfz r _ hn hr0
  obtain ⟨i1,i2,i3⟩:=qj8 l c W hwl ht.1 hk hl0;rw[i1] at hr0 h ⊢;obtain ⟨j1,j2,j3⟩:=qj8 r c W hwr ht.2 hk hr0;unfold binK at h ⊢;by_cases ho:op=61∨op=35
  ·rw[if_pos ho] at h ⊢;dsimp only at h ⊢;split at h
   ·exact absurd h (qkf (by decide))
   ·rename_i hu;rw[if_neg hu,j1];refine ⟨rfl,Or.inr rfl,?_⟩;rw[okE,if_pos ho]
    have:(qao l c).1=(qao r c).1:=by
     unfold qft at hu;simp only[Bool.and_eq_true,bne_iff_ne,ne_eq,not_and,Decidable.not_not] at hu;omega
    exact ⟨rfl,_,i3,by rw[this];exact j3⟩
  ·rw[if_neg ho] at h ⊢;dsimp only at h ⊢;split at h
   ·rename_i hi;rw[if_pos hi,j1];rw[Bool.and_eq_true,zn2 i2,zn2 j2] at hi;refine ⟨rfl,by split<;>omega,?_⟩
    rw[okE,if_neg ho];rw[hi.1] at i3;rw[hi.2] at j3;exact ⟨by omega,rfl,i3,j3⟩
   ·exact absurd h (qkf (by decide))
theorem za3 {c:Lk} {w:ByteArray} {p k:Nat} (hk:K2 c.vars) (hk':k=105∨k=98) (h:(qc7 w p k c).e=0):c.e=0∧K2 (qc7 w p k c).vars∧(∃ m,(qc7 w p k c).vars=c.vars++m)∧∀ W,okV ((qc7 w p k c).vars++W) w k:=by
 have hc0:c.e=0:=Decidable.byContradiction fun hn=>qf2 hn w p k h
 unfold qc7 at h ⊢;cases hf:qa3 c.vars w with
 | none =>
  simp only;refine ⟨hc0,?_,⟨[(w,k)],rfl⟩,?_⟩
  ·intro v hv;rw[List.mem_append,List.mem_singleton] at hv;rcases hv with hv | rfl
   ·exact hk v hv
   ·exact hk'
  ·intro W;refine ⟨c.vars.length,qp0 (zil hf),?_⟩;rw[qmz (by simp)]
   unfold qcn;simp[List.getD_eq_getElem?_getD]
 | some i =>
  rw[hf] at h;simp only at h ⊢;have hi:=qds hf;split at h
  ·exact absurd h (qkf (by decide))
  ·rename_i hu;rw[if_neg hu];refine ⟨hc0,hk,⟨[],by simp⟩,fun W=>⟨i,qp0 hf,?_⟩⟩
   rw[qmz hi]
   have:=hk.at hi
   unfold qft at hu;simp only[Bool.and_eq_true,bne_iff_ne,ne_eq,not_and,Decidable.not_not] at hu;omega
theorem qtd {c:Lk} {x:Option Ex} {k:Nat} (hw:WfO x) (ht:∀ e,x=some e→TrE e) (hk:K2 c.vars) (h:(qbq x k c).e=0):c.e=0∧qbq x k c=c∧∀ W,okO (c.vars++W) x k:=by
 have hc0:c.e=0:=Decidable.byContradiction fun hn=>qlj hn x k h
 unfold qbq at h ⊢;cases x with
 | none=>exact ⟨hc0,rfl,fun W e he=>by cases he⟩
 | some e =>
  simp only at h ⊢;split at h
  ·rename_i hi;rw[if_pos hi];have hh:=fun W=>qj8 e c W (hw e rfl) (ht e rfl) hk h
   refine ⟨hc0,(hh []).1,fun W e' he=>?_⟩
   cases he;obtain ⟨_,i2,i3⟩:=hh W;rw[(zn2 i2).1 hi] at i3;exact i3
  ·exact absurd h (qkf (by decide))
theorem qg9 (l:List Sm):∀ (c:Lk),WfS l→TrS l→K2 c.vars→(qap l c).e=0→c.e=0∧K2 (qap l c).vars∧(∃ m,(qap l c).vars=c.vars++m)∧∀ W,okS ((qap l c).vars++W) l:=by
 match l with
 | []=>intro c _ _ hk h;rw[qap] at h ⊢;exact ⟨h,hk,⟨[],by simp⟩,fun W=>zgx _⟩
 | ⟨op,word,pl,ex,asw,asPl,undo,n,nPl,one,two⟩::rest =>
  intro c hw ht hk h;rw[qmv] at h ⊢;obtain ⟨⟨hw1,hw2⟩,hwo,hwt,hwr⟩:=qd7.1 hw;obtain ⟨ht1,hto,htt,htr⟩:=zbp.1 ht;dsimp only at hw1 hw2 hwo hwt ht1 hto htt;have hx:(qmw ⟨op,word,pl,ex,asw,asPl,undo,n,nPl,one,two⟩ c).e=0:=Decidable.byContradiction fun hn=>qb7 rest _ hn h
  have key:c.e=0∧K2 (qmw ⟨op,word,pl,ex,asw,asPl,undo,n,nPl,one,two⟩ c).vars∧(∃ m,(qmw ⟨op,word,pl,ex,asw,asPl,undo,n,nPl,one,two⟩ c).vars=c.vars++m) ∧
    ∀ W,okH ((qmw ⟨op,word,pl,ex,asw,asPl,undo,n,nPl,one,two⟩ c).vars++W) op word ex asw n∧(op=105∨op=116∨op=114→okS ((qmw ⟨op,word,pl,ex,asw,asPl,undo,n,nPl,one,two⟩ c).vars++W) one)∧(op=105∨op=116→okS ((qmw ⟨op,word,pl,ex,asw,asPl,undo,n,nPl,one,two⟩ c).vars++W) two):=by
   unfold qmw at hx ⊢;dsimp only at hx ⊢;by_cases o1:op=108
   ·rw[if_pos o1] at hx ⊢;obtain ⟨e,rfl⟩:∃ e,ex=some e:=by
     cases ex with
     | none=>rcases hw2 with h | h | h | h | h | h<;>first | exact absurd rfl h.2 | omega
     | some e=>exact ⟨e,rfl⟩
    dsimp only at hx ⊢;have he0:(qao e c).2.e=0:=Decidable.byContradiction fun hn=>qf2 hn _ _ _ hx
    obtain ⟨i1,i2,_⟩:=qj8 e c [] (hw1 e rfl) (ht1 e rfl) hk he0;have i3:=fun W=>(qj8 e c W (hw1 e rfl) (ht1 e rfl) hk he0).2.2
    rw[i1] at hx ⊢;obtain ⟨g1,g2,⟨m,g3⟩,g4⟩:=za3 hk i2 hx;refine ⟨g1,g2,⟨m,g3⟩,fun W=>⟨Or.inl ⟨o1,e,_,rfl,?_,g4 W,i2⟩,fun h=>by omega,fun h=>by omega⟩⟩
    rw[g3,List.append_assoc];exact i3 _
   ·rw[if_neg o1] at hx ⊢;by_cases o2:op=99
    ·rw[if_pos o2] at hx ⊢;have hn:1≤n∧n≤5:=by
      by_cases hn:n < 1∨5 < n
      ·rw[if_pos hn] at hx;exact absurd hx (qkf (by decide))
      ·omega
     have hnn:¬ (n < 1∨5 < n):=by omega
     rw[if_neg hnn] at hx ⊢;by_cases ha:asw.toList.isEmpty
     ·rw[if_pos ha] at hx ⊢;obtain ⟨m1,m2,m3⟩:=qtd hw1 ht1 hk hx;rw[m2];refine ⟨m1,hk,⟨[],by simp⟩,fun W=>⟨Or.inr (Or.inl ⟨o2,m3 W,Or.inl ?_,hn.1,hn.2⟩),fun h=>by omega,fun h=>by omega⟩⟩
      rw[List.isEmpty_iff,ByteArray.toList_eq] at ha;exact List.length_eq_zero_iff.2 ha
     ·rw[if_neg ha] at hx ⊢;have hm0:(qbq ex 105 c).e=0:=Decidable.byContradiction fun hn=>qf2 hn _ _ _ hx
      obtain ⟨m1,m2,m3⟩:=qtd hw1 ht1 hk hm0;rw[m2] at hx ⊢;obtain ⟨g1,g2,⟨m,g3⟩,g4⟩:=za3 hk (Or.inl rfl) hx;refine ⟨g1,g2,⟨m,g3⟩,fun W=>⟨Or.inr (Or.inl ⟨o2,?_,Or.inr (g4 W),hn.1,hn.2⟩),fun h=>by omega,fun h=>by omega⟩⟩
      rw[g3,List.append_assoc];exact m3 _
    ·rw[if_neg o2] at hx ⊢;by_cases o3:op=105
     ·rw[if_pos o3] at hx ⊢;have h1:(qap one (qbq ex 98 c)).e=0:=Decidable.byContradiction fun hn=>qb7 two _ hn hx
      have h0:(qbq ex 98 c).e=0:=Decidable.byContradiction fun hn=>qb7 one _ hn h1
      obtain ⟨m1,m2,m3⟩:=qtd hw1 ht1 hk h0;rw[m2] at hx h1 ⊢;obtain ⟨a1,a2,⟨ma,a3⟩,a4⟩:=qg9 one c hwo hto hk h1;obtain ⟨b1,b2,⟨mb,b3⟩,b4⟩:=qg9 two (qap one c) hwt htt a2 hx;obtain ⟨e,rfl⟩:∃ e,ex=some e:=by
       cases ex with
       | none=>rcases hw2 with h | h | h | h | h | h<;>first | exact absurd rfl h.2 | omega
       | some e=>exact ⟨e,rfl⟩
      refine ⟨m1,b2,⟨ma++mb,by rw[b3,a3,List.append_assoc]⟩,fun W=>⟨Or.inr (Or.inr (Or.inl ⟨o3,e,rfl,?_⟩)),fun _=>?_,fun _=>b4 W⟩⟩
      ·rw[b3,a3,List.append_assoc,List.append_assoc];exact m3 _ e rfl
      ·rw[b3,List.append_assoc];exact a4 _
     ·rw[if_neg o3] at hx ⊢;by_cases o4:op=116
      ·rw[if_pos o4] at hx ⊢;have h1:(qap one c).e=0:=Decidable.byContradiction fun hn=>qb7 two _ hn hx
       obtain ⟨a1,a2,⟨ma,a3⟩,a4⟩:=qg9 one c hwo hto hk h1;obtain ⟨b1,b2,⟨mb,b3⟩,b4⟩:=qg9 two (qap one c) hwt htt a2 hx;refine ⟨a1,b2,⟨ma++mb,by rw[b3,a3,List.append_assoc]⟩,fun W=>⟨Or.inr (Or.inr (Or.inr (Or.inl o4))),fun _=>?_,fun _=>b4 W⟩⟩
       rw[b3,List.append_assoc];exact a4 _
      ·rw[if_neg o4] at hx ⊢;by_cases o5:op=114
       ·rw[if_pos o5] at hx ⊢;have hn:n≤9:=by
         by_cases hn:9 < n
         ·rw[if_pos hn] at hx;exact absurd hx (qb7 one _ (qca (by decide) _))
         ·omega
        rw[if_neg (by omega)] at hx ⊢
        obtain ⟨a1,a2,⟨ma,a3⟩,a4⟩:=qg9 one c hwo hto hk hx;exact ⟨a1,a2,⟨ma,a3⟩,fun W=>⟨Or.inr (Or.inr (Or.inr (Or.inr (Or.inl ⟨o5,hn⟩)))),fun _=>a4 W,fun h=>by omega⟩⟩
       ·rw[if_neg o5] at hx ⊢;refine ⟨hx,hk,⟨[],by simp⟩,fun W=>⟨Or.inr (Or.inr (Or.inr (Or.inr (Or.inr ?_)))),fun h=>by omega,fun h=>by omega⟩⟩
        rcases hw2 with h | h | h | h | h | h<;>omega
  obtain ⟨k1,k2,⟨m,k3⟩,k4⟩:=key;obtain ⟨r1,r2,⟨m',r3⟩,r4⟩:=qg9 rest _ hwr htr k2 h;refine ⟨k1,r2,⟨m++m',by rw[r3,k3,List.append_assoc]⟩,fun W=>?_⟩
  rw[qgd];dsimp only;rw[r3,List.append_assoc];obtain ⟨q1,q2,q3⟩:=k4 (m'++W);refine ⟨q1,q2,q3,?_⟩;rw[← List.append_assoc,← r3];exact r4 W
open Go.RowKit
structure Ins where
 k:Nat
 a:Nat
 b:Nat
structure Pg where
 words:List ByteArray
 nv:Nat
 ins:List Ins
structure Ms where
 st:List Int
 vars:List Int
 undos:List (Nat×Int)
 begun:List (Nat×Nat×Nat)
 asks:List Ask
 left:List Int
 place:Nat
 tried:Nat
 qak:Bool
 fin:Nat
def askM (P:Pg) (i:Nat) (arg:Int) (most:Nat) (und:Bool) (m:Ms):Nat×Int×Ms :=
 match m.left with
 | []=>(2,0,{ m with asks:=m.asks++[⟨P.words.getD i nowt,arg,m.tried+1,und⟩] })
 | v::r =>
  if v < 0∧m.tried+1 < most then (3,0,{ m with asks:=m.asks++[⟨P.words.getD i nowt,arg,m.tried+1,und⟩],left:=r,tried:=m.tried+1 })
  else if v < 0 then (1,0,{ m with asks:=m.asks++[⟨P.words.getD i nowt,arg,m.tried+1,und⟩],left:=r,tried:=0 })
  else (0,v,{ m with asks:=m.asks++[⟨P.words.getD i nowt,arg,m.tried+1,und⟩],left:=r,tried:=0 })
def op2M (k:Nat) (a b:Int):Int :=
 if k=4 then wrap64 (a+b) else if k=5 then wrap64 (a - b) else if k=6 then wrap64 (a * b)
 else if k=8 then truth (decide (a < b)) else if k=9 then truth (decide (a=b)) else truth (decide (a≠b))
def doM (P:Pg) (i:Ins) (m:Ms):Nat×Ms :=
 if i.k=0 then (0,{ m with st:=(i.a:Int)::m.st })
 else if i.k=1 then (0,{ m with st:=m.vars.getD i.a 0::m.st })
 else if i.k=2 then (0,{ m with vars:=m.vars.set i.a (m.st.headD 0),st:=m.st.tail })
 else if i.k=3 then (0,{ m with st:=m.st.tail })
 else if i.k=7 then
  if m.st.headD 0=0 then (1,m) else (0,{ m with st:=wrap64 ((m.st.tail.headD 0).tdiv (m.st.headD 0))::m.st.tail.tail })
 else if i.k≤10 then (0,{ m with st:=op2M i.k (m.st.tail.headD 0) (m.st.headD 0)::m.st.tail.tail })
 else if i.k=11 then (0,{ m with st:=truth (decide (m.st.headD 0=0))::m.st.tail })
 else if i.k=12 then (0,{ m with place:=i.a })
 else if i.k=13 then (0,{ m with st:=m.st.tail,place:=if m.st.headD 0=0 then i.a else m.place })
 else if i.k=14 then
  if 0 < m.st.headD 0 then (0,{ m with st:=wrap64 (m.st.headD 0 - 1)::m.st.tail }) else (0,{ m with st:=m.st.tail,place:=i.a })
 else if i.k=15 then (0,{ m with begun:=(m.undos.length,m.st.length,i.a)::m.begun })
 else if i.k=16 then (0,{ m with begun:=m.begun.tail,place:=i.a })
 else if i.k=17 then (1,m)
 else if i.k=18 then
  match askM P i.a (m.st.headD 0) i.b false m with
  | (0,v,m')=>(0,{ m' with st:=v::m'.st.tail })
  | (e,_,m')=>(e,m')
 else (0,{ m with undos:=(i.a,m.st.headD 0)::m.undos })
def qbw (m:Ms):Nat :=
 match m.begun with
 | []=>0
 | b::_=>b.1
def qa2 (P:Pg) (m:Ms):Nat×Ms :=
 match m.undos with
 | []=>behind
 | u::r =>
  if m.undos.length=qbw m then behind
  else
   match askM P u.1 u.2 3 true m with
   | (0,_,m')=>(0,{ m' with undos:=r })
   | (1,_,m')=>(4,m')
   | (e,_,m')=>(e,m')
where
 behind:Nat×Ms :=
  match m.begun with
  | []=>(0,{ m with qak:=false,fin:=2 })
  | b::r=>(0,{ m with qak:=false,begun:=r,st:=m.st.drop (m.st.length - b.2.1),place:=b.2.2 })
def qa1 (P:Pg) (m:Ms):Nat×Ms :=
 if m.qak then qa2 P m
 else
  match P.ins[m.place]? with
  | none=>(0,{ m with fin:=1 })
  | some i =>
   match doM P i { m with place:=m.place+1 } with
   | (0,m')=>(0,m')
   | (e,m')=>(e,{ m' with place:=m.place })
def qbo (P:Pg) (m:Ms):Bool×Ms :=
 match qa1 P m with
 | (0,m')=>(decide (m'.fin≠0),m')
 | (1,m')=>(decide (m'.fin≠0),{ m' with qak:=true })
 | (2,m')=>(true,m')
 | (3,m')=>(decide (m'.fin≠0),m')
 | (_,m')=>(true,{ m' with fin:=3 })
def runM (P:Pg):Nat→Ms→Nat×Ms
 | 0,m=>(4,m)
 | n+1,m=>if (qbo P m).1 then ((qbo P m).2.fin,(qbo P m).2) else runM P n (qbo P m).2
def qa7 (P:Pg):Nat→Ms→Option Ms
 | 0,m=>some m
 | n+1,m=>if (qbo P m).1 then none else qa7 P n (qbo P m).2
theorem qaz {P:Pg} {a b:Nat} {m m1 m2:Ms} (h:qa7 P a m=some m1) (k:qa7 P b m1=some m2):qa7 P (a+b) m=some m2:=by
 induction a generalizing m with
 | zero=>cases h;simpa using k
 | succ a ih =>
  rw[qa7] at h;rw[show a+1+b=(a+b)+1 by omega,qa7]
  split at h
  ·cases h
  ·rename_i hs;rw[if_neg hs];exact ih h
theorem qes {P:Pg} {m m1:Ms} (h:qbo P m=(false,m1)):qa7 P 1 m=some m1:=by
 rw[qa7,h]<;>rfl
theorem qq9 {P:Pg} {a n:Nat} {m m1:Ms} (h:qa7 P a m=some m1) (hn:a≤n):runM P n m=runM P (n - a) m1:=by
 induction a generalizing m n with
 | zero=>cases h;rfl
 | succ a ih =>
  obtain ⟨n,rfl⟩:∃ k,n=k+1:=⟨n - 1,by omega⟩
  rw[qa7] at h;split at h
  ·cases h
  ·rename_i hs;rw[runM,if_neg hs,ih h (by omega)]
   congr 1;omega
theorem zfl {P:Pg} {n:Nat} {m m1:Ms} (h:qbo P m=(true,m1)) (hn:0 < n):runM P n m=(m1.fin,m1):=by
 obtain ⟨n,rfl⟩:∃ k,n=k+1:=⟨n - 1,by omega⟩
 rw[runM,h]<;>rfl
def idxW:List ByteArray→ByteArray→Nat
 | [],_=>0
 | v::r,w=>if v.toList == w.toList then 0 else idxW r w+1
def qdb (op:Nat):Nat:=if op=43 then 4 else if op=45 then 5 else if op=42 then 6 else if op=47 then 7 else if op=60 then 8 else if op=61 then 9 else 10
def mkE (iv:ByteArray→Nat):Ex→List Ins
 | ⟨op,n,word,_,_,none,_⟩=>if op=119 then [⟨1,iv word,0⟩] else [⟨0,n,0⟩]
 | ⟨_,_,_,_,_,some l,none⟩=>mkE iv l++[⟨11,0,0⟩]
 | ⟨op,_,_,_,_,some l,some r⟩=>mkE iv l++mkE iv r++[⟨qdb op,0,0⟩]
def mkO (iv:ByteArray→Nat) (x:Option Ex):List Ins :=
 match x with
 | none=>[⟨0,0,0⟩]
 | some e=>mkE iv e
def mkC (iw iv:ByteArray→Nat) (word:ByteArray) (ex:Option Ex) (asw undo:ByteArray) (n:Nat):List Ins :=
 mkO iv ex++([⟨18,iw word,n⟩]++((if undo.size=0 then [] else [⟨19,iw undo,0⟩])++[if asw.size=0 then ⟨3,0,0⟩ else ⟨2,iv asw,0⟩]))
def mkS (iw iv:ByteArray→Nat):List Sm→Nat→List Ins
 | [],_=>[]
 | ⟨op,word,_,ex,asw,_,undo,n,_,one,two⟩::rest,p =>
  let c :=
   if op=108 then mkO iv ex++[⟨2,iv word,0⟩]
   else if op=99 then mkC iw iv word ex asw undo n
   else if op=105 then
    let x:=mkO iv ex
    let a:=mkS iw iv one (p+x.length+1)
    if two.isEmpty then x++([⟨13,p+x.length+1+a.length,0⟩]++a)
    else
     let b:=mkS iw iv two (p+x.length+1+a.length+1)
     x++([⟨13,p+x.length+1+a.length+1,0⟩]++(a++([⟨12,p+x.length+1+a.length+1+b.length,0⟩]++b)))
   else if op=116 then
    let a:=mkS iw iv one (p+1)
    let b:=mkS iw iv two (p+1+a.length+1)
    [⟨15,p+1+a.length+1,0⟩]++(a++([⟨16,p+1+a.length+1+b.length,0⟩]++b))
   else if op=114 then
    let a:=mkS iw iv one (p+2)
    [⟨0,n,0⟩]++([⟨14,p+2+a.length+1,0⟩]++(a++[⟨12,p+1,0⟩]))
   else [⟨17,0,0⟩]
  c++mkS iw iv rest (p+c.length)
def mkX (iw iv:ByteArray→Nat) (x:Sm) (p:Nat):List Ins :=
 if x.op=108 then mkO iv x.ex++[⟨2,iv x.word,0⟩]
 else if x.op=99 then mkC iw iv x.word x.ex x.asw x.undo x.n
 else if x.op=105 then
  let c:=mkO iv x.ex
  let a:=mkS iw iv x.one (p+c.length+1)
  if x.two.isEmpty then c++([⟨13,p+c.length+1+a.length,0⟩]++a)
  else
   let b:=mkS iw iv x.two (p+c.length+1+a.length+1)
   c++([⟨13,p+c.length+1+a.length+1,0⟩]++(a++([⟨12,p+c.length+1+a.length+1+b.length,0⟩]++b)))
 else if x.op=116 then
  let a:=mkS iw iv x.one (p+1)
  let b:=mkS iw iv x.two (p+1+a.length+1)
  [⟨15,p+1+a.length+1,0⟩]++(a++([⟨16,p+1+a.length+1+b.length,0⟩]++b))
 else if x.op=114 then
  let a:=mkS iw iv x.one (p+2)
  [⟨0,x.n,0⟩]++([⟨14,p+2+a.length+1,0⟩]++(a++[⟨12,p+1,0⟩]))
 else [⟨17,0,0⟩]
theorem qms (iw iv:ByteArray→Nat) (p:Nat):mkS iw iv [] p=[]:=by rw[mkS]
theorem qh7 (iw iv:ByteArray→Nat) (x:Sm) (l:List Sm) (p:Nat):mkS iw iv (x::l) p=mkX iw iv x p++mkS iw iv l (p+(mkX iw iv x p).length):=by
 obtain ⟨op,word,pl,ex,asw,asPl,undo,n,nPl,one,two⟩:=x;rw[mkS.eq_def]
 all_goals rfl
def coE:Ex→Nat
 | ⟨_,_,_,_,_,none,_⟩=>1
 | ⟨_,_,_,_,_,some l,none⟩=>coE l+1
 | ⟨_,_,_,_,_,some l,some r⟩=>coE l+coE r+1
def coO (x:Option Ex):Nat :=
 match x with
 | none=>1
 | some e=>coE e
def coS:List Sm→Nat
 | []=>0
 | ⟨op,_,_,ex,_,_,undo,n,_,one,two⟩::rest =>
  (if op=108 then coO ex+1
   else if op=99 then coO ex+n+(if undo.size=0 then 0 else 4)+1
   else if op=105 then coO ex+2+coS one+coS two
   else if op=116 then 3+coS one+coS two
   else if op=114 then 2+n * (coS one+2)
   else 1)+coS rest
def coX (x:Sm):Nat :=
 if x.op=108 then coO x.ex+1
 else if x.op=99 then coO x.ex+x.n+(if x.undo.size=0 then 0 else 4)+1
 else if x.op=105 then coO x.ex+2+coS x.one+coS x.two
 else if x.op=116 then 3+coS x.one+coS x.two
 else if x.op=114 then 2+x.n * (coS x.one+2)
 else 1
theorem qyi:coS []=0:=by rw[coS]
theorem zbe (x:Sm) (l:List Sm):coS (x::l)=coX x+coS l:=by
 obtain ⟨op,word,pl,ex,asw,asPl,undo,n,nPl,one,two⟩:=x;rw[coS]
 all_goals rfl
open Go.RowKit
def CodeAt (P:Pg) (p:Nat) (c:List Ins):Prop:=∀ j,j < c.length→P.ins[p+j]?=c[j]?
theorem CodeAt.left {P:Pg} {p:Nat} {a b:List Ins} (h:CodeAt P p (a++b)):CodeAt P p a:=fun j hj=>by
 rw[h j (by simp;omega),List.getElem?_append_left hj]
theorem CodeAt.right {P:Pg} {p:Nat} {a b:List Ins} (h:CodeAt P p (a++b)):CodeAt P (p+a.length) b:=fun j hj=>by
 rw[Nat.add_assoc,h (a.length+j) (by simp;omega),List.getElem?_append_right (by omega),Nat.add_sub_cancel_left]
theorem CodeAt.head {P:Pg} {p:Nat} {i:Ins} {b:List Ins} (h:CodeAt P p (i::b)):P.ins[p]?=some i:=by
 have:=h 0 (by simp)
 simpa using this
theorem CodeAt.one {P:Pg} {p:Nat} {i:Ins} (h:CodeAt P p [i]):P.ins[p]?=some i:=h.head
theorem qtc {P:Pg} {m:Ms} {i:Ins} (hi:P.ins[m.place]?=some i) (hu:m.qak=false):qa1 P m=match doM P i { m with place:=m.place+1 } with
  | (0,m')=>(0,m')
  | (e,m')=>(e,{ m' with place:=m.place }):=by
 unfold qa1;rw[if_neg (by simp[hu]),hi]
 all_goals rfl
theorem step_ok {P:Pg} {m m':Ms} {i:Ins} (hi:P.ins[m.place]?=some i) (hu:m.qak=false) (hd:doM P i { m with place:=m.place+1 }=(0,m')) (hf:m'.fin=0):qa7 P 1 m=some m':=by
 refine qes ?_;unfold qbo;rw[qtc hi hu,hd];simp only[hf];rfl
theorem qvd {P:Pg} {m m':Ms} {i:Ins} (hi:P.ins[m.place]?=some i) (hu:m.qak=false) (hd:doM P i { m with place:=m.place+1 }=(1,m')) (hf:m'.fin=0):qa7 P 1 m=some { m' with place:=m.place,qak:=true }:=by
 refine qes ?_;unfold qbo;rw[qtc hi hu,hd];simp only[hf];rfl
theorem qeo (iv:ByteArray→Nat) (x:Ex):(mkE iv x).length=coE x:=by
 match x with
 | ⟨op,n,word,pl,own,none,_⟩=>rw[mkE,coE];split<;>rfl
 | ⟨op,n,word,pl,own,some l,none⟩=>rw[mkE,coE,List.length_append,qeo iv l];rfl
 | ⟨op,n,word,pl,own,some l,some r⟩=>rw[mkE,coE,List.length_append,List.length_append,qeo iv l,qeo iv r];rfl
structure TyH (V:Vs) (held:List Int):Prop where
 len:held.length=V.length
 tr:∀ i,i < V.length→qcn V i=98→held.getD i 0=0∨held.getD i 0=1
theorem qzc (b:Bool):truth b=0∨truth b=1:=by cases b<;>simp[truth]
theorem op2_M {op:Nat} (h:op=42∨op=43∨op=45∨op=60∨op=61∨op=35) (a b:Int):op2 op a b=some (op2M (qdb op) a b)∧qdb op≤10∧qdb op≠7∧4≤qdb op:=by
 rcases h with rfl | rfl | rfl | rfl | rfl | rfl<;>simp[op2,op2M,qdb]
theorem zul {P:Pg} {k x y:Nat} (h1:4≤k) (h2:k≤10) (h3:k≠7) {m:Ms} {a b:Int} {r:List Int} (hs:m.st=b::a::r):doM P ⟨k,x,y⟩ m=(0,{ m with st:=op2M k a b::r }):=by
 unfold doM;rw[if_neg (by dsimp only;omega),if_neg (by dsimp only;omega),if_neg (by dsimp only;omega),if_neg (by dsimp only;omega),if_neg (by dsimp only;omega),if_pos (by dsimp only;omega),hs]
 rfl
theorem qof (P:Pg) (V:Vs) (iv:ByteArray→Nat) (hiv:∀ w i,qa3 V w=some i→iv w=i) (x:Ex):∀ (k:Nat) (m:Ms),okE V x k→TyH V m.vars→m.qak=false→m.fin=0→CodeAt P m.place (mkE iv x) →
  (∀ v,evE V m.vars x=some v→qa7 P (coE x) m=some { m with st:=v::m.st,place:=m.place+coE x }∧(k=98→v=0∨v=1)) ∧
  (evE V m.vars x=none→∃ n t q,n≤coE x∧qa7 P n m=some { m with st:=t++m.st,place:=q,qak:=true }):=by
 match x with
 | ⟨op,n,word,pl,own,none,r⟩ =>
  intro k m hk hty hu hf hc;rw[mkE] at hc;rw[evE,coE];rw[okE] at hk;by_cases h1:op=110
  ·rw[if_pos h1] at hk;rw[if_neg (by omega)] at hc ⊢
   refine ⟨fun v hv=>?_,fun h=>(by cases h)⟩
   cases hv;refine ⟨step_ok hc.one hu rfl hf,fun h=>by omega⟩
  ·rw[if_neg h1] at hk;by_cases h2:op=116
   ·rw[if_pos h2] at hk;rw[if_neg (by omega)] at hc ⊢
    refine ⟨fun v hv=>?_,fun h=>(by cases h)⟩
    cases hv;exact ⟨step_ok hc.one hu rfl hf,fun h=>by have:=hk.2;omega⟩
   ·rw[if_neg h2] at hk;obtain ⟨h3,i,hi,hki⟩:=hk;rw[if_pos h3] at hc ⊢;refine ⟨fun v hv=>?_,fun h=>(by cases h)⟩
    cases hv;have hlt:=qds hi;refine ⟨?_,fun h=>?_⟩
    ·have e:qv9 V m.vars word=m.vars.getD (iv word) 0:=by unfold qv9;rw[hi,hiv _ _ hi]
     rw[e];exact step_ok hc.one hu rfl hf
    ·unfold qv9;rw[hi];exact hty.tr i hlt (by omega)
 | ⟨op,n,word,pl,own,some l,none⟩ =>
  intro k m hk hty hu hf hc;rw[mkE] at hc;rw[evE,coE];rw[okE] at hk;obtain ⟨i1,i2⟩:=qof P V iv hiv l 98 m hk.2.2 hty hu hf hc.left;constructor
  ·intro v hv;cases he:evE V m.vars l with
   | none=>rw[he] at hv;cases hv
   | some a =>
    rw[he] at hv;cases hv;dsimp only;obtain ⟨j1,j2⟩:=i1 a he;have hr:=hc.right;rw[qeo] at hr;have e1:truth (decide (a=0))=wrap64 (1 - a):=by
     rcases j2 rfl with rfl | rfl<;>simp[truth,wrap64]
    refine ⟨qaz j1 (step_ok (m':={ m with st:=wrap64 (1 - a)::m.st,place:=m.place+(coE l+1) }) hr.one hu ?_ hf),fun _=>?_⟩
    ·rw[← e1]<;>rfl
    ·rw[← e1];exact qzc _
  ·intro hv;cases he:evE V m.vars l with
   | some a=>rw[he] at hv;cases hv
   | none =>
    obtain ⟨n',t,q,h1,h2⟩:=i2 he;exact ⟨n',t,q,by omega,h2⟩
 | ⟨op,n,word,pl,own,some l,some r⟩ =>
  intro k m hk hty hu hf hc;rw[mkE] at hc;rw[evE,coE];rw[okE] at hk;obtain ⟨kl,kr,hkl,hkr⟩:∃ kl kr,okE V l kl∧okE V r kr:=by
   split at hk
   ·obtain ⟨_,j,h1,h2⟩:=hk;exact ⟨j,j,h1,h2⟩
   ·exact ⟨105,105,hk.2.2.1,hk.2.2.2⟩
  obtain ⟨i1,i2⟩:=qof P V iv hiv l kl m hkl hty hu hf hc.left.left;cases hl:evE V m.vars l with
  | none =>
   refine ⟨fun v hv=>(by cases hv),fun _=>?_⟩
   obtain ⟨n',t,q,h1,h2⟩:=i2 hl;exact ⟨n',t,q,by omega,h2⟩
  | some a =>
   obtain ⟨a1,_⟩:=i1 a hl;have hcr:=hc.left.right;rw[qeo] at hcr;obtain ⟨j1,j2⟩:=qof P V iv hiv r kr { m with st:=a::m.st,place:=m.place+coE l } hkr hty hu hf hcr
   cases hr:evE V m.vars r with
   | none =>
    refine ⟨fun v hv=>(by cases hv),fun _=>?_⟩
    obtain ⟨n',t,q,h1,h2⟩:=j2 hr;refine ⟨coE l+n',t++[a],q,by omega,?_⟩
    have:=qaz a1 h2
    simpa using this
   | some b =>
    obtain ⟨b1,_⟩:=j1 b hr;have hco:=hc.right;rw[List.length_append,qeo,qeo] at hco;have ab:=qaz a1 b1;dsimp only at ab ⊢;by_cases hdv:op=47
    ·have hko:qdb op=7:=by rw[hdv]<;>rfl
     rw[hko] at hco;have hop2:op2 op a b=if b=0 then none else some (wrap64 (a.tdiv b)):=by rw[hdv]<;>rfl
     rw[hop2];by_cases hb:b=0
     ·rw[if_pos hb];refine ⟨fun v hv=>(by cases hv),fun _=>?_⟩
      refine ⟨coE l+coE r+1,[b,a],m.place+coE l+coE r,by omega,qaz ab ?_⟩
      have hd:doM P ⟨7,0,0⟩ { m with st:=b::a::m.st,place:=m.place+coE l+coE r+1 }=(1,{ m with st:=b::a::m.st,place:=m.place+coE l+coE r+1 }):=by
       unfold doM;simp[hb]
      exact qvd (m:={ m with st:=b::a::m.st,place:=m.place+coE l+coE r }) (by rw[← Nat.add_assoc] at hco;exact hco.one) hu hd hf
     ·rw[if_neg hb];refine ⟨fun v hv=>?_,fun h=>(by cases h)⟩
      cases hv;refine ⟨qaz ab ?_,fun h98=>?_⟩
      ·refine step_ok (m:={ m with st:=b::a::m.st,place:=m.place+coE l+coE r }) (by rw[← Nat.add_assoc] at hco;exact hco.one) hu ?_ hf
       unfold doM;simp[hb];omega
      ·rw[if_neg (by omega)] at hk
       have:=hk.2.1
       rw[if_neg (by omega)] at this
       omega
    ·have hops:op=42∨op=43∨op=45∨op=60∨op=61∨op=35:=by
      split at hk
      ·omega
      ·have:=hk.1;omega
     obtain ⟨o1,o2,o3,o4⟩:=op2_M hops a b;rw[o1];refine ⟨fun v hv=>?_,fun h=>(by cases h)⟩
     cases hv;refine ⟨qaz ab ?_,fun h98=>?_⟩
     ·refine step_ok (m:={ m with st:=b::a::m.st,place:=m.place+coE l+coE r }) (by rw[← Nat.add_assoc] at hco;exact hco.one) hu ?_ hf
      rw[zul o4 o2 o3 rfl];simp;omega
     ·have h3:op=60∨op=61∨op=35:=by
       split at hk
       ·omega
       ·have h4:=hk.2.1;split at h4<;>omega
      rcases h3 with rfl | rfl | rfl<;>simp only[qdb,op2M]<;>exact qzc _
open Go.RowKit
theorem qoy (w:ByteArray) (v:Int) (u:Bool) (k:Nat):∀ t s,∃ a l q,(tries w v u k t s).2={ s with asks:=a,left:=l,stop:=q }∧((tries w v u k t s).1≠none→q=s.stop)∧((tries w v u k t s).1=none→q=true):=by
 induction k with
 | zero=>intro t s;exact ⟨s.asks,s.left,s.stop,rfl,fun _=>rfl,fun h=>by cases h⟩
 | succ k ih =>
  intro t s;unfold tries ask;cases hl:s.left with
  | nil=>exact ⟨s.asks++[⟨w,v,t,u⟩],[],true,rfl,fun h=>absurd rfl h,fun _=>rfl⟩
  | cons x r =>
   simp only;split
   ·exact ⟨_,r,s.stop,rfl,fun _=>rfl,fun h=>by cases h⟩
   ·obtain ⟨a,l,q,h1,h2,h3⟩:=ih (t+1) { s with asks:=s.asks++[⟨w,v,t,u⟩],left:=r }
    exact ⟨a,l,q,h1,h2,h3⟩
def EndsM (P:Pg) (m:Ms) (n f:Nat) (asks:List Ask) (vars:List Int):Prop:=∃ k m1 m2,qa7 P k m=some m1∧qbo P m1=(true,m2)∧m2.fin=f∧m2.asks=asks∧m2.vars=vars∧k+1≤n
theorem EndsM.after {P:Pg} {m m1:Ms} {k n N f:Nat} {asks:List Ask} {vars:List Int} (hk:qa7 P k m=some m1) (h:EndsM P m1 n f asks vars) (hn:k+n≤N):EndsM P m N f asks vars:=by
 obtain ⟨j,a,b,h1,h2,h3,h4,h6,h5⟩:=h;exact ⟨k+j,a,b,qaz hk h1,h2,h3,h4,h6,by omega⟩
theorem EndsM.mono {P:Pg} {m:Ms} {n N f:Nat} {asks:List Ask} {vars:List Int} (h:EndsM P m n f asks vars) (hn:n≤N):EndsM P m N f asks vars:=by
 obtain ⟨j,a,b,h1,h2,h3,h4,h6,h5⟩:=h;exact ⟨j,a,b,h1,h2,h3,h4,h6,by omega⟩
theorem quk {P:Pg} {i:Nat} {arg:Int} {most:Nat} {und:Bool} {m:Ms} (h:m.left=[]):askM P i arg most und m=(2,0,{ m with asks:=m.asks++[⟨P.words.getD i nowt,arg,m.tried+1,und⟩] }):=by
 unfold askM;rw[h]
theorem zbl {P:Pg} {i:Nat} {arg:Int} {most:Nat} {und:Bool} {m:Ms} {v:Int} {r:List Int} (h:m.left=v::r) (hv:0≤v):askM P i arg most und m=(0,v,{ m with asks:=m.asks++[⟨P.words.getD i nowt,arg,m.tried+1,und⟩],left:=r,tried:=0 }):=by
 unfold askM;rw[h];simp only;rw[if_neg (by omega),if_neg (by omega)]
theorem qr1 {P:Pg} {i:Nat} {arg:Int} {most:Nat} {und:Bool} {m:Ms} {v:Int} {r:List Int} (h:m.left=v::r) (hv:v < 0) (ht:m.tried+1 < most):askM P i arg most und m=(3,0,{ m with asks:=m.asks++[⟨P.words.getD i nowt,arg,m.tried+1,und⟩],left:=r,tried:=m.tried+1 }):=by
 unfold askM;rw[h];simp only;rw[if_pos ⟨hv,ht⟩]
theorem zj2 {P:Pg} {i:Nat} {arg:Int} {most:Nat} {und:Bool} {m:Ms} {v:Int} {r:List Int} (h:m.left=v::r) (hv:v < 0) (ht:¬ m.tried+1 < most):askM P i arg most und m=(1,0,{ m with asks:=m.asks++[⟨P.words.getD i nowt,arg,m.tried+1,und⟩],left:=r,tried:=0 }):=by
 unfold askM;rw[h];simp only;rw[if_neg (by omega),if_pos hv]
theorem qp8 (P:Pg) (i n:Nat) (m:Ms):doM P ⟨18,i,n⟩ m=match askM P i (m.st.headD 0) n false m with
  | (0,v,m')=>(0,{ m' with st:=v::m'.st.tail })
  | (e,_,m')=>(e,m'):=rfl
theorem zvd (P:Pg) (i N:Nat) (word:ByteArray) (arg:Int) (hw:P.words.getD i nowt=word) (k:Nat):∀ (m:Ms) (s:Rs),P.ins[m.place]?=some ⟨18,i,N⟩→m.qak=false→m.fin=0→m.st.headD 0=arg→m.left=s.left→m.asks=s.asks→N=m.tried+k→0 < k →
  ((tries word arg false k (m.tried+1) s).1=none→EndsM P m k 0 (tries word arg false k (m.tried+1) s).2.asks m.vars) ∧
  ((tries word arg false k (m.tried+1) s).1=some none→∃ j,j≤k∧qa7 P j m=some { m with asks:=(tries word arg false k (m.tried+1) s).2.asks,left:=(tries word arg false k (m.tried+1) s).2.left,tried:=0,qak:=true }) ∧
  (∀ v,(tries word arg false k (m.tried+1) s).1=some (some v)→∃ j,j≤k∧qa7 P j m=some { m with asks:=(tries word arg false k (m.tried+1) s).2.asks,left:=(tries word arg false k (m.tried+1) s).2.left,tried:=0,st:=v::m.st.tail,place:=m.place+1 }):=by
 induction k with
 | zero=>intro m s _ _ _ _ _ _ _ h;omega
 | succ k ih =>
  intro m s hi hu hf hst hl ha hN _;have hs:=qtc hi hu;rw[qp8] at hs;unfold tries ask;cases hsl:s.left with
  | nil =>
   rw[hsl] at hl;rw[quk (m:={ m with place:=m.place+1 }) hl] at hs
   refine ⟨fun _=>⟨0,m,{ m with asks:=m.asks++[⟨word,arg,m.tried+1,false⟩] },rfl,?_,hf,?_,rfl,by omega⟩,fun h=>(by cases h),fun v h=>(by cases h)⟩
   ·unfold qbo;rw[hs,hw];simp only[hst]
   ·rw[ha]
  | cons x r =>
   rw[hsl] at hl;simp only;by_cases hx:0≤x
   ·rw[if_pos hx];rw[zbl (m:={ m with place:=m.place+1 }) hl hx] at hs
    refine ⟨fun h=>(by cases h),fun h=>(by cases h),fun v h=>?_⟩
    cases h;refine ⟨1,by omega,qes ?_⟩
    unfold qbo;rw[hs,hw];simp only[hst,hf,ha];rfl
   ·rw[if_neg hx];by_cases hk:k=0
    ·subst hk;rw[zj2 (m:={ m with place:=m.place+1 }) hl (by omega) (by dsimp only;omega)] at hs
     unfold tries;refine ⟨fun h=>(by cases h),fun _=>⟨1,by omega,qes ?_⟩,fun v h=>(by cases h)⟩
     unfold qbo;rw[hs,hw];simp only[hst,hf,ha];rfl
    ·rw[qr1 (m:={ m with place:=m.place+1 }) hl (by omega) (by dsimp only;omega)] at hs
     have h1:qa7 P 1 m=some { m with asks:=s.asks++[⟨word,arg,m.tried+1,false⟩],left:=r,tried:=m.tried+1 }:=by
      refine qes ?_;unfold qbo;rw[hs,hw];simp only[hst,hf,ha];rfl
     obtain ⟨g1,g2,g3⟩:=ih { m with asks:=s.asks++[⟨word,arg,m.tried+1,false⟩],left:=r,tried:=m.tried+1 } { s with asks:=s.asks++[⟨word,arg,m.tried+1,false⟩],left:=r } hi hu hf hst rfl rfl (by dsimp only;omega) (by omega)
     dsimp only at g1 g2 g3;refine ⟨fun h=>(g1 h).after h1 (by omega),fun h=>?_,fun v h=>?_⟩
     ·obtain ⟨j,hj,hh⟩:=g2 h;exact ⟨1+j,by omega,qaz h1 hh⟩
     ·obtain ⟨j,hj,hh⟩:=g3 v h;exact ⟨1+j,by omega,qaz h1 hh⟩
theorem qo8 {P:Pg} {m:Ms} {u:Nat×Int} {r:List (Nat×Int)} (hu:m.qak=true) (hm:m.undos=u::r) (hfl:qbw m < m.undos.length):qa1 P m=match askM P u.1 u.2 3 true m with
   | (0,_,m')=>(0,{ m' with undos:=r })
   | (1,_,m')=>(4,m')
   | (e,_,m')=>(e,m'):=by
 unfold qa1 qa2;rw[if_pos hu];split
 ·rename_i h;rw[hm] at h;cases h
 ·rename_i u' r' h;rw[hm] at h;cases h;rw[if_neg (by omega)]
  all_goals rfl
theorem zks (P:Pg) (word:ByteArray) (u:Nat×Int) (r:List (Nat×Int)) (hw:P.words.getD u.1 nowt=word) (k:Nat):∀ (m:Ms) (s:Rs),m.qak=true→m.undos=u::r→qbw m < m.undos.length→m.fin=0→m.left=s.left→m.asks=s.asks→3=m.tried+k→0 < k →
  ((tries word u.2 true k (m.tried+1) s).1=none→EndsM P m k 0 (tries word u.2 true k (m.tried+1) s).2.asks m.vars) ∧
  ((tries word u.2 true k (m.tried+1) s).1=some none→EndsM P m k 3 (tries word u.2 true k (m.tried+1) s).2.asks m.vars) ∧
  (∀ v,(tries word u.2 true k (m.tried+1) s).1=some (some v)→∃ j,j≤k∧qa7 P j m=some { m with asks:=(tries word u.2 true k (m.tried+1) s).2.asks,left:=(tries word u.2 true k (m.tried+1) s).2.left,tried:=0,undos:=r }):=by
 induction k with
 | zero=>intro m s _ _ _ _ _ _ _ h;omega
 | succ k ih =>
  intro m s hu hm hfl hf hl ha hN _;have hs:=qo8 (P:=P) hu hm hfl;unfold tries ask;cases hsl:s.left with
  | nil =>
   rw[hsl] at hl;rw[quk hl] at hs;refine ⟨fun _=>⟨0,m,{ m with asks:=m.asks++[⟨word,u.2,m.tried+1,true⟩] },rfl,?_,hf,?_,rfl,by omega⟩,fun h=>(by cases h),fun v h=>(by cases h)⟩
   ·unfold qbo;rw[hs,hw]
    all_goals rfl
   ·rw[ha]
  | cons x q =>
   rw[hsl] at hl;simp only;by_cases hx:0≤x
   ·rw[if_pos hx];rw[zbl hl hx] at hs;refine ⟨fun h=>(by cases h),fun h=>(by cases h),fun v h=>⟨1,by omega,qes ?_⟩⟩
    unfold qbo;rw[hs,hw];simp only[hf,ha];rfl
   ·rw[if_neg hx];by_cases hk:k=0
    ·subst hk;rw[zj2 hl (by omega) (by omega)] at hs
     unfold tries;refine ⟨fun h=>(by cases h),fun _=>⟨0,m,{ m with asks:=m.asks++[⟨word,u.2,m.tried+1,true⟩],left:=q,tried:=0,fin:=3 },rfl,?_,rfl,?_,rfl,by omega⟩,fun v h=>(by cases h)⟩
     ·unfold qbo;rw[hs,hw]
      all_goals rfl
     ·rw[ha]
    ·rw[qr1 hl (by omega) (by omega)] at hs
     have h1:qa7 P 1 m=some { m with asks:=s.asks++[⟨word,u.2,m.tried+1,true⟩],left:=q,tried:=m.tried+1 }:=by
      refine qes ?_;unfold qbo;rw[hs,hw];simp only[hf,ha];rfl
     obtain ⟨g1,g2,g3⟩:=ih { m with asks:=s.asks++[⟨word,u.2,m.tried+1,true⟩],left:=q,tried:=m.tried+1 } { s with asks:=s.asks++[⟨word,u.2,m.tried+1,true⟩],left:=q } hu hm hfl hf rfl rfl (by dsimp only;omega) (by omega)
     dsimp only at g1 g2 g3;refine ⟨fun h=>(g1 h).after h1 (by omega),fun h=>(g2 h).after h1 (by omega),fun v h=>?_⟩
     obtain ⟨j,hj,hh⟩:=g3 v h;exact ⟨1+j,by omega,qaz h1 hh⟩
def undW (P:Pg) (u:Nat×Int):ByteArray×Int:=(P.words.getD u.1 nowt,u.2)
theorem qu1 (P:Pg) (L:List (Nat×Int)):∀ (r:List (Nat×Int)) (m:Ms) (s:Rs),m.qak=true→m.undos=L++r→qbw m=r.length→m.fin=0→m.left=s.left→m.asks=s.asks→m.tried=0→s.over=0→s.stop=false →
  ((qch (L.map (undW P)) s).over≠0∨(qch (L.map (undW P)) s).stop=true→EndsM P m (3 * L.length) (qch (L.map (undW P)) s).over (qch (L.map (undW P)) s).asks m.vars) ∧
  ((qch (L.map (undW P)) s).over=0→(qch (L.map (undW P)) s).stop=false→∃ j,j≤3 * L.length∧qa7 P j m=some { m with asks:=(qch (L.map (undW P)) s).asks,left:=(qch (L.map (undW P)) s).left,undos:=r }) ∧
  (∃ a l o q,qch (L.map (undW P)) s={ s with asks:=a,left:=l,over:=o,stop:=q }):=by
 induction L with
 | nil =>
  intro r m s hu hm hfl hf hl ha ht ho hs;rw[List.map_nil,qch];refine ⟨fun h=>?_,fun _ _=>⟨0,by simp,?_⟩,s.asks,s.left,s.over,s.stop,rfl⟩
  ·rw[ho,hs] at h;simp at h
  ·rw[qa7,← hl,← ha];simp only[List.nil_append] at hm;rw[← hm]
 | cons u L ih =>
  intro r m s hu hm hfl hf hl ha ht ho hs;rw[List.map_cons];have hm':m.undos=u::(L++r):=hm;have hlt:qbw m < m.undos.length:=by rw[hfl,hm'];simp;omega
  obtain ⟨g1,g2,g3⟩:=zks P (P.words.getD u.1 nowt) u (L++r) rfl 3 m s hu hm' hlt hf hl ha (by omega) (by omega)
  rw[ht] at g1 g2 g3;obtain ⟨a,l,q,f1,f2,f3⟩:=qoy (P.words.getD u.1 nowt) u.2 true 3 1 s;rw[undW,qch];cases htr:tries (P.words.getD u.1 nowt) u.2 true 3 1 s with
  | mk o s1 =>
   rw[htr] at f1 f2 f3 g1 g2 g3;dsimp only at f1 f2 f3 g1 g2 g3;subst f1;match o with
   | none =>
    simp only;rw[f3 rfl] at g1 ⊢;refine ⟨fun _=>?_,fun _ h=>(by cases h),a,l,s.over,true,rfl⟩
    have:=(g1 rfl).mono (N:=3 * (u::L).length) (by simp;omega)
    rw[ho];exact this
   | some none =>
    simp only;rw[f2 (by simp)] at g2 ⊢
    refine ⟨fun _=>(g2 rfl).mono (by simp;omega),fun h=>(by cases h),a,l,3,s.stop,rfl⟩
   | some (some v) =>
    simp only;rw[f2 (by simp)] at g3 ⊢
    obtain ⟨j,hj,hh⟩:=g3 v rfl;dsimp only at hh;obtain ⟨e1,e2,a',l',o',q',e3⟩:=ih r { m with asks:=a,left:=l,tried:=0,undos:=L++r } { s with asks:=a,left:=l } hu rfl hfl hf rfl rfl rfl ho hs
    refine ⟨fun h=>(e1 h).after hh (by simp;omega),fun h h'=>?_,a',l',o',q',e3⟩
    obtain ⟨j',hj',hh'⟩:=e2 h h';refine ⟨j+j',by simp;omega,?_⟩
    have:=qaz hh hh'
    rw[this];dsimp only;rw[ht]
theorem qdt {P:Pg} {m:Ms} (h:m.undos.length=qbw m):qa2 P m=qa2.behind m:=by
 unfold qa2;split
 ·rfl
 ·rw[if_pos h]
theorem qxd {P:Pg} {m:Ms} {f h s:Nat} {r:List (Nat×Nat×Nat)} (hu:m.qak=true) (hb:m.begun=(f,h,s)::r) (hfl:m.undos.length=f) (hf:m.fin=0):qa7 P 1 m=some { m with qak:=false,begun:=r,st:=m.st.drop (m.st.length - h),place:=s }:=by
 refine qes ?_;have hfm:qbw m=f:=by unfold qbw;rw[hb]
 have hb':qa2.behind m=(0,{ m with qak:=false,begun:=r,st:=m.st.drop (m.st.length - h),place:=s }):=by
  unfold qa2.behind;rw[hb]
 unfold qbo qa1;rw[if_pos hu,qdt (by omega),hb']
 simp only[hf];rfl
theorem qyb {P:Pg} {m:Ms} (hu:m.qak=true) (hb:m.begun=[]) (hfl:m.undos=[]):qbo P m=(true,{ m with qak:=false,fin:=2 }):=by
 have hfm:qbw m=0:=by unfold qbw;rw[hb]
 have hb':qa2.behind m=(0,{ m with qak:=false,fin:=2 }):=by
  unfold qa2.behind;rw[hb]
 unfold qbo qa1;rw[if_pos hu,qdt (by rw[hfl,hfm]<;>rfl),hb']
 rfl
open Go.RowKit
def frames:List (List (ByteArray×Int))→List (Nat×Nat)→List (Nat×Nat×Nat)
 | _,[]=>[]
 | ps,g::G=>(ps.dropLast.flatten.length,g.1,g.2)::frames ps.dropLast G
theorem qpv {ps qs:List (List (ByteArray×Int))} (h:ps.dropLast=qs.dropLast) (G:List (Nat×Nat)):frames ps G=frames qs G:=by
 cases G with
 | nil=>rfl
 | cons g G=>rw[frames,frames,h]
theorem qv4 (ps:List (List (ByteArray×Int))) (x:List (ByteArray×Int)):(layP ps x).dropLast=ps.dropLast:=by
 unfold layP;rw[List.dropLast_concat]
theorem qhw {ps:List (List (ByteArray×Int))} (h:ps≠[]):ps.flatten=ps.dropLast.flatten++ps.getLastD []:=by
 obtain ⟨qs,q,e⟩:∃ qs q,ps=qs++[q]:=⟨_,_,(List.dropLast_concat_getLast h).symm⟩;subst e;simp[List.getLastD_eq_getLast?]
theorem qlo {ps:List (List (ByteArray×Int))} (h:ps≠[]) (x:List (ByteArray×Int)):(layP ps x).flatten=ps.flatten++x:=by
 unfold layP;rw[qhw h];simp
theorem zai {ps:List (List (ByteArray×Int))} (h:ps≠[]) (x:List (ByteArray×Int)):(layP ps x).length=ps.length:=by
 unfold layP
 have:=List.length_pos_iff.2 h
 simp;omega
structure Rel (P:Pg) (V:Vs) (s:Rs) (m:Ms) (S:List Int) (G:List (Nat×Nat)):Prop where
 held:m.vars=s.held
 left:m.left=s.left
 asks:m.asks=s.asks
 st:m.st=S
 und:(m.undos.map (undW P)).reverse=s.piles.flatten
 begun:m.begun=frames s.piles G
 len:s.piles.length=G.length+1
 tried:m.tried=0
 fin:m.fin=0
 ty:TyH V s.held
theorem Rel.ne {P:Pg} {V:Vs} {s:Rs} {m:Ms} {S:List Int} {G:List (Nat×Nat)} (h:Rel P V s m S G):s.piles≠[]:=fun e=>by
 have:=h.len;rw[e] at this;simp at this
theorem Rel.nund {P:Pg} {V:Vs} {s:Rs} {m:Ms} {S:List Int} {G:List (Nat×Nat)} (h:Rel P V s m S G):m.undos.length=s.piles.flatten.length:=by
 rw[← h.und];simp
def Uq (s:Rs):Nat:=3 * s.piles.flatten.length
def Post (P:Pg) (V:Vs) (S:List Int) (G:List (Nat×Nat)) (p n:Nat) (m:Ms) (s:Rs):Prop :=
 (s.over=0∧s.stop=false∧s.failed=false∧∃ k m',qa7 P k m=some m'∧Rel P V s m' S G∧m'.place=p∧m'.qak=false∧k+Uq s≤n) ∨
 (s.over=0∧s.stop=false∧s.failed=true∧∃ k m' t,qa7 P k m=some m'∧Rel P V s m' (t++S) G∧m'.qak=true∧k+Uq s≤n) ∨
 ((s.over≠0∨s.stop=true)∧EndsM P m n s.over s.asks s.held)
theorem qeg {s:Rs}:s.going=true↔s.over=0∧s.stop=false∧s.failed=false:=by
 unfold Rs.going;rw[Bool.and_eq_true,Bool.and_eq_true,beq_iff_eq,Bool.not_eq_true',Bool.not_eq_true'];exact and_assoc
theorem Post.mono {P:Pg} {V:Vs} {S:List Int} {G:List (Nat×Nat)} {p n N:Nat} {m:Ms} {s:Rs} (h:Post P V S G p n m s) (hn:n≤N):Post P V S G p N m s:=by
 rcases h with ⟨h1,h2,h3,k,m',h4,h5,h6,h7,h8⟩ | ⟨h1,h2,h3,k,m',t,h4,h5,h6,h8⟩ | ⟨h1,h2⟩
 ·exact Or.inl ⟨h1,h2,h3,k,m',h4,h5,h6,h7,by omega⟩
 ·exact Or.inr (Or.inl ⟨h1,h2,h3,k,m',t,h4,h5,h6,by omega⟩)
 ·exact Or.inr (Or.inr ⟨h1,h2.mono hn⟩)
theorem Post.after {P:Pg} {V:Vs} {S:List Int} {G:List (Nat×Nat)} {p n N k:Nat} {m m1:Ms} {s:Rs} (hk:qa7 P k m=some m1) (h:Post P V S G p n m1 s) (hn:k+n≤N):Post P V S G p N m s:=by
 rcases h with ⟨h1,h2,h3,j,m',h4,h5,h6,h7,h8⟩ | ⟨h1,h2,h3,j,m',t,h4,h5,h6,h8⟩ | ⟨h1,h2⟩
 ·exact Or.inl ⟨h1,h2,h3,k+j,m',qaz hk h4,h5,h6,h7,by omega⟩
 ·exact Or.inr (Or.inl ⟨h1,h2,h3,k+j,m',t,qaz hk h4,h5,h6,by omega⟩)
 ·exact Or.inr (Or.inr ⟨h1,h2.after hk hn⟩)
theorem Post.seq {P:Pg} {V:Vs} {S S':List Int} {G:List (Nat×Nat)} {p q n N:Nat} {m:Ms} {s:Rs} {f:Rs→Rs} (h:Post P V (S'++S) G p n m s) (hi:s.going=false→f s=s) (hn:n≤N)
  (hf:∀ k m',qa7 P k m=some m'→Rel P V s m' (S'++S) G→m'.place=p→m'.qak=false→k+Uq s≤n→s.going=true→Post P V S G q (N - k) m' (f s)):Post P V S G q N m (f s):=by
 rcases h with ⟨h1,h2,h3,k,m',h4,h5,h6,h7,h8⟩ | ⟨h1,h2,h3,k,m',t,h4,h5,h6,h8⟩ | ⟨h1,h2⟩
 ·exact Post.after h4 (hf k m' h4 h5 h6 h7 h8 (qeg.2 ⟨h1,h2,h3⟩)) (by omega)
 ·rw[hi (by unfold Rs.going;rw[h3];simp)]
  refine Or.inr (Or.inl ⟨h1,h2,h3,k,m',t++S',h4,?_,h6,by omega⟩)
  rw[List.append_assoc];exact h5
 ·rw[hi (by
   unfold Rs.going;rcases h1 with h1 | h1
   ·rw[(beq_eq_false_iff_ne).2 h1];simp
   ·rw[h1];simp)]
  exact Or.inr (Or.inr ⟨h1,h2.mono hn⟩)
theorem qfl (iv:ByteArray→Nat) (x:Option Ex):(mkO iv x).length=coO x:=by
 cases x with
 | none=>rfl
 | some e=>exact qeo iv e
theorem qxz (P:Pg) (V:Vs) (iv:ByteArray→Nat) (hiv:∀ w i,qa3 V w=some i→iv w=i) (x:Option Ex) (k:Nat) (m:Ms) (hk:okO V x k) (hty:TyH V m.vars) (hu:m.qak=false) (hf:m.fin=0) (hc:CodeAt P m.place (mkO iv x)) :
  (∀ v,evO V m.vars x=some v→qa7 P (coO x) m=some { m with st:=v::m.st,place:=m.place+coO x }∧(k=98→v=0∨v=1)) ∧
  (evO V m.vars x=none→∃ n t q,n≤coO x∧qa7 P n m=some { m with st:=t++m.st,place:=q,qak:=true }):=by
 cases x with
 | none =>
  refine ⟨fun v hv=>?_,fun h=>(by cases h)⟩
  cases hv;exact ⟨step_ok hc.one hu rfl hf,fun _=>Or.inl rfl⟩
 | some e=>exact qof P V iv hiv e k m (hk e rfl) hty hu hf hc
def UsS (P:Pg) (iw:ByteArray→Nat):List Sm→Prop
 | []=>True
 | ⟨op,word,_,_,_,_,undo,_,_,one,two⟩::rest=>(op=99→P.words.getD (iw word) nowt=word∧(undo.size≠0→P.words.getD (iw undo) nowt=undo))∧(op=105∨op=116∨op=114→UsS P iw one)∧(op=105∨op=116→UsS P iw two)∧UsS P iw rest
theorem zbo {P:Pg} {iw:ByteArray→Nat} {x:Sm} {l:List Sm}:UsS P iw (x::l)↔(x.op=99→P.words.getD (iw x.word) nowt=x.word∧(x.undo.size≠0→P.words.getD (iw x.undo) nowt=x.undo))∧(x.op=105∨x.op=116∨x.op=114→UsS P iw x.one)∧(x.op=105∨x.op=116→UsS P iw x.two)∧UsS P iw l:=by
 obtain ⟨op,word,pl,ex,asw,asPl,undo,n,nPl,one,two⟩:=x;rw[UsS]
def SimS (P:Pg) (V:Vs) (iw iv:ByteArray→Nat) (l:List Sm):Prop:=∀ (s:Rs) (m:Ms) (S:List Int) (G:List (Nat×Nat)),okS V l→UsS P iw l→Rel P V s m S G→s.going=true→m.qak=false→CodeAt P m.place (mkS iw iv l m.place)→Post P V S G (m.place+(mkS iw iv l m.place).length) (coS l+Uq s) m (runS V l s)
def SimX (P:Pg) (V:Vs) (iw iv:ByteArray→Nat) (x:Sm):Prop:=∀ (s:Rs) (m:Ms) (S:List Int) (G:List (Nat×Nat)),Rel P V s m S G→s.going=true→m.qak=false→CodeAt P m.place (mkX iw iv x m.place)→Post P V S G (m.place+(mkX iw iv x m.place).length) (coX x+Uq s) m (runX V x s)
theorem qif {P:Pg} {V:Vs} {S t:List Int} {G:List (Nat×Nat)} {p n k q:Nat} {m:Ms} {s:Rs} (hr:Rel P V s m S G) (hg:s.going=true) (h:qa7 P k m=some { m with st:=t++m.st,place:=q,qak:=true }) (hk:k+Uq s≤n):Post P V S G p n m { s with failed:=true }:=by
 obtain ⟨g1,g2,g3⟩:=qeg.1 hg;refine Or.inr (Or.inl ⟨g1,g2,rfl,k,_,t,h,⟨hr.held,hr.left,hr.asks,?_,hr.und,hr.begun,hr.len,hr.tried,hr.fin,hr.ty⟩,rfl,hk⟩);dsimp only;rw[hr.st]
theorem TyH.set {V:Vs} {held:List Int} (h:TyH V held) {i k:Nat} {v:Int} (_hi:i < V.length) (hk:qcn V i=k) (hv:k=98→v=0∨v=1):TyH V (held.set i v):=by
 refine ⟨by rw[List.length_set];exact h.len,fun j hj hkj=>?_⟩
 rw[List.getD_eq_getElem?_getD,List.getElem?_set];split
 ·rename_i e;subst e;split
  ·simp only[Option.getD_some];exact hv (by omega)
  ·exact Or.inl rfl
 ·rw[← List.getD_eq_getElem?_getD];exact h.tr j hj hkj
theorem qk8 {V:Vs} {w:ByteArray} {i:Nat} (h:qa3 V w=some i) (held:List Int) (v:Int):setV V held w v=held.set i v:=by unfold setV;rw[h]
theorem zth (P:Pg) (V:Vs) (iw iv:ByteArray→Nat) (hiv:∀ w i,qa3 V w=some i→iv w=i) (x:Sm) (hop:x.op=108) (hk:okH V x.op x.word x.ex x.asw x.n):SimX P V iw iv x:=by
 intro s m S G hr hg hu hc;obtain ⟨e,k,he,hke,⟨i,hi,hki⟩,_⟩:∃ e k,x.ex=some e∧okE V e k∧okV V x.word k∧(k=105∨k=98):=by
  rcases hk with h | h | h | h | h | h
  ·exact h.2
  all_goals omega
 have hmk:mkX iw iv x m.place=mkO iv x.ex++[⟨2,iv x.word,0⟩]:=by unfold mkX;rw[if_pos hop]
 have hco:coX x=coO x.ex+1:=by unfold coX;rw[if_pos hop]
 have hrun:runX V x s=match evO V s.held x.ex with
  | none=>{ s with failed:=true }
  | some v=>{ s with held:=setV V s.held x.word v }:=by unfold runX;rw[if_pos hop]<;>rfl
 rw[hmk] at hc ⊢;rw[hco,hrun];obtain ⟨o1,o2⟩:=qxz P V iv hiv x.ex k m (fun e' h'=>by rw[he] at h';cases h';exact hke) (by rw[hr.held];exact hr.ty) hu hr.fin hc.left
 rw[hr.held] at o1 o2;obtain ⟨g1,g2,g3⟩:=qeg.1 hg;cases hev:evO V s.held x.ex with
 | none =>
  obtain ⟨n',t,q,h1,h2⟩:=o2 hev;rw[← hr.held] at h2;exact qif hr hg h2 (by omega)
 | some v =>
  obtain ⟨h1,h2⟩:=o1 v hev;have hcr:=hc.right;rw[qfl] at hcr;have hst:qa7 P 1 { m with st:=v::m.st,place:=m.place+coO x.ex }=some { m with vars:=m.vars.set (iv x.word) v,st:=m.st,place:=m.place+coO x.ex+1 }:=step_ok hcr.one hu rfl hr.fin
  have h1':qa7 P (coO x.ex) m=some { m with st:=v::m.st,place:=m.place+coO x.ex }:=by
   rw[hr.held];exact h1
  refine Or.inl ⟨g1,g2,g3,coO x.ex+1,_,qaz h1' hst,⟨?_,hr.left,hr.asks,hr.st,hr.und,hr.begun,hr.len,hr.tried,hr.fin,?_⟩,?_,hu,Nat.le_refl _⟩
  ·dsimp only;rw[qk8 hi,hiv _ _ hi,hr.held]
  ·dsimp only;rw[qk8 hi];exact hr.ty.set (qds hi) hki h2
  ·dsimp only;rw[List.length_append,qfl];simp;omega
theorem zow (P:Pg) (V:Vs) (iw iv:ByteArray→Nat) (hiv:∀ w i,qa3 V w=some i→iv w=i) (x:Sm) (hop:x.op=99) (hk:okH V x.op x.word x.ex x.asw x.n) (hw:P.words.getD (iw x.word) nowt=x.word∧(x.undo.size≠0→P.words.getD (iw x.undo) nowt=x.undo)):SimX P V iw iv x:=by
 intro s m S G hr hg hu hc;obtain ⟨hke,hka,hn1,hn5⟩:okO V x.ex 105∧(x.asw.size=0∨okV V x.asw 105)∧1≤x.n∧x.n≤5:=by
  rcases hk with h | h | h | h | h | h
  ·omega
  ·exact h.2
  all_goals omega
 have hmk:mkX iw iv x m.place=mkO iv x.ex++([⟨18,iw x.word,x.n⟩]++((if x.undo.size=0 then [] else [⟨19,iw x.undo,0⟩])++[if x.asw.size=0 then ⟨3,0,0⟩ else ⟨2,iv x.asw,0⟩])):=by unfold mkX;rw[if_neg (by omega),if_pos hop]<;>rfl
 have hco:coX x=coO x.ex+x.n+(if x.undo.size=0 then 0 else 4)+1:=by unfold coX;rw[if_neg (by omega),if_pos hop]
 have hrun:runX V x s=qei V x.word x.ex x.asw x.undo x.n s:=by unfold runX;rw[if_neg (by omega),if_pos hop]
 rw[hmk] at hc ⊢;rw[hco,hrun];obtain ⟨o1,o2⟩:=qxz P V iv hiv x.ex 105 m hke (by rw[hr.held];exact hr.ty) hu hr.fin hc.left
 rw[hr.held] at o1 o2;obtain ⟨g1,g2,g3⟩:=qeg.1 hg;unfold qei;cases hev:evO V s.held x.ex with
 | none =>
  obtain ⟨n',t,q,h1,h2⟩:=o2 hev;rw[← hr.held] at h2;exact qif hr hg h2 (by omega)
 | some arg =>
  obtain ⟨h1,_⟩:=o1 arg hev;rw[← hr.held] at h1;have hcr:=hc.right;rw[qfl] at hcr;obtain ⟨a1,a2,a3⟩:=zvd P (iw x.word) x.n x.word arg hw.1 x.n { m with st:=arg::m.st,place:=m.place+coO x.ex } s hcr.left.one hu hr.fin rfl hr.left hr.asks (by dsimp only;rw[hr.tried];omega) (by omega)
  dsimp only at a1 a2 a3;have ht1:m.tried+1=1:=by rw[hr.tried]
  rw[ht1] at a1 a2 a3;obtain ⟨A,L,Q,f1,f2,f3⟩:=qoy x.word arg false x.n 1 s;dsimp only;cases htr:tries x.word arg false x.n 1 s with
  | mk o s1 =>
   rw[htr] at f1 f2 f3 a1 a2 a3;dsimp only at f1 f2 f3 a1 a2 a3;subst f1;match o with
   | none =>
    simp only;refine Or.inr (Or.inr ⟨Or.inr (f3 rfl),?_⟩)
    have:=(a1 rfl).after h1 (N:=coO x.ex+x.n+(if x.undo.size=0 then 0 else 4)+1+Uq s) (by omega)
    dsimp only;rw[g1,← hr.held];exact this
   | some none =>
    simp only;obtain ⟨j,hj,hh⟩:=a2 rfl;rw[f2 (by simp)]
    refine Or.inr (Or.inl ⟨g1,g2,rfl,coO x.ex+j,_,[arg],qaz h1 hh,⟨hr.held,rfl,rfl,?_,hr.und,hr.begun,hr.len,rfl,hr.fin,hr.ty⟩,rfl,?_⟩)
    ·dsimp only;rw[hr.st]<;>rfl
    ·have:Uq { s with asks:=A,left:=L,failed:=true }=Uq s:=rfl
     show coO x.ex+j+Uq s≤_
     omega
   | some (some v) =>
    simp only;obtain ⟨j,hj,hh⟩:=a3 v rfl;rw[f2 (by simp)]
    have hA:=qaz h1 hh;dsimp only at hA;have hcu:=hcr.right;simp only[List.length_singleton] at hcu;obtain ⟨ju,mu,hju,hsu,hru,hpu,huu,hstu⟩:∃ ju mu,ju+3 * (if x.undo.size=0 then s.piles else layP s.piles [(x.undo,v)]).flatten.length≤(if x.undo.size=0 then 0 else 4)+Uq s∧qa7 P ju { m with asks:=A,left:=L,tried:=0,st:=v::m.st,place:=m.place+coO x.ex+1 }=some mu ∧
      Rel P V { s with asks:=A,left:=L,piles:=if x.undo.size=0 then s.piles else layP s.piles [(x.undo,v)] } mu (v::S) G∧mu.place=m.place+coO x.ex+1+(if x.undo.size=0 then [] else [(⟨19,iw x.undo,0⟩:Ins)]).length∧mu.qak=false∧mu.st=v::S:=by
     by_cases hz:x.undo.size=0
     ·rw[if_pos hz,if_pos hz,if_pos hz];refine ⟨0,_,?_,rfl,⟨hr.held,rfl,rfl,?_,hr.und,hr.begun,hr.len,rfl,hr.fin,hr.ty⟩,by simp,hu,?_⟩
      ·show 0+3 * s.piles.flatten.length≤0+Uq s;unfold Uq;omega
      ·dsimp only;rw[hr.st]
      ·dsimp only;rw[hr.st]
     ·rw[if_neg hz,if_neg hz,if_neg hz];rw[if_neg hz] at hcu;have hs1:qa7 P 1 { m with asks:=A,left:=L,tried:=0,st:=v::m.st,place:=m.place+coO x.ex+1 }=some { m with asks:=A,left:=L,tried:=0,st:=v::m.st,place:=m.place+coO x.ex+1+1,undos:=(iw x.undo,v)::m.undos }:=step_ok hcu.left.one hu rfl hr.fin
      refine ⟨1,_,?_,hs1,⟨hr.held,rfl,rfl,?_,?_,?_,?_,rfl,hr.fin,hr.ty⟩,by simp,hu,?_⟩
      ·rw[qlo hr.ne];unfold Uq;simp;omega
      ·dsimp only;rw[hr.st]
      ·dsimp only;rw[qlo hr.ne,List.map_cons,List.reverse_cons,hr.und];unfold undW;rw[hw.2 hz]
      ·dsimp only;rw[hr.begun];exact qpv (qv4 _ _).symm G
      ·dsimp only;rw[zai hr.ne];exact hr.len
      ·dsimp only;rw[hr.st]
    have hB:=qaz hA hsu;have hcl:=hcu.right;rw[← hpu] at hcl;by_cases hz:x.asw.size=0
    ·simp only[if_pos hz] at hcl ⊢;have hs2:qa7 P 1 mu=some { mu with st:=S,place:=mu.place+1 }:=by
      refine step_ok hcl.one huu ?_ hru.fin;show (0,{ mu with st:=mu.st.tail,place:=mu.place+1 })=_
      rw[hstu]<;>rfl
     refine Or.inl ⟨g1,g2,g3,_,_,qaz hB hs2,⟨hru.held,hru.left,hru.asks,rfl,hru.und,hru.begun,hru.len,hru.tried,hru.fin,hru.ty⟩,?_,huu,?_⟩
     ·dsimp only;rw[hpu];simp only[List.length_append,qfl,List.length_singleton];omega
     ·show coO x.ex+j+ju+1+3 * (if x.undo.size=0 then s.piles else layP s.piles [(x.undo,v)]).flatten.length≤_
      omega
    ·simp only[if_neg hz] at hcl ⊢;obtain ⟨i,hi,hki⟩:=hka.resolve_left hz;have hs2:qa7 P 1 mu=some { mu with vars:=mu.vars.set (iv x.asw) v,st:=S,place:=mu.place+1 }:=by
      refine step_ok hcl.one huu ?_ hru.fin;show (0,{ mu with vars:=mu.vars.set (iv x.asw) (mu.st.headD 0),st:=mu.st.tail,place:=mu.place+1 })=_
      rw[hstu]<;>rfl
     refine Or.inl ⟨g1,g2,g3,_,_,qaz hB hs2,⟨?_,hru.left,hru.asks,rfl,hru.und,hru.begun,hru.len,hru.tried,hru.fin,?_⟩,?_,huu,?_⟩
     ·dsimp only;rw[qk8 hi,hiv _ _ hi,hru.held]
     ·dsimp only;rw[qk8 hi];exact hr.ty.set (qds hi) hki (fun h=>by omega)
     ·dsimp only;rw[hpu];simp only[List.length_append,qfl,List.length_singleton];omega
     ·show coO x.ex+j+ju+1+3 * (if x.undo.size=0 then s.piles else layP s.piles [(x.undo,v)]).flatten.length≤_
      omega
end Px
end Go.Proofs.YtagpnplggopoeaaGreatDoor
