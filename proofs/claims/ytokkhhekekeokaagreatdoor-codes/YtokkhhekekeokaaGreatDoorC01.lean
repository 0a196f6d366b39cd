import Derived.Test.YtokkhhekekeokaaGreatDoorC00
import Derived.Deep.RegionLaw
set_option maxRecDepth 100000
namespace Go.Proofs.YtokkhhekekeokaaGreatDoor
namespace Px
variable {c:Lk}{k m n:Nat}
theorem V3.give (h:V3 c){w:fq}{p:Nat}(hk:K3 k):V3 (nP w p k c):=by
 unfold nP;split
 ·intro v hv;rcases bR.1 hv with h1 | h1
  ·exact h v h1
  ·rw[bq] at h1;rw[h1];exact hk
 ·split
  ·exact h.say _ _
  ·exact h
theorem UM (w:fq)(p k:Nat)(h:Inv c n)(hp:p < m)(hm:n<=m):rY w p k c=nP w p k c/\Inv (nP w p k c) m:=by
 unfold rY nP;cases hf:iK c.vars w with
 | none =>
  refine ⟨rfl,?_⟩
  have:=h.mono hm
  exact ⟨this.e,this.p⟩
 | some i =>
  simp only;rw[UE];cases hu:uD (og c.vars i) k
  ·exact ⟨rfl,h.mono hm⟩
  ·exact ⟨ED _ h,h.say (by omega) hp hm⟩
theorem UN {x:Ex}{lo:Nat}(hw:mO x)(hs:Sp x lo m)(hp:x.pl < m)(h:Inv c lo)(hv:V3 c)(hk:k≠63):rZ x k c=lQ (some x) k c/\Inv (lQ (some x) k c) m/\V3 (lQ (some x) k c):=by
 obtain ⟨e1,e2,e3,e4⟩:=GD x c lo m hw hs h hv;unfold rZ lQ;simp only;rw[e1,KY _ _ hk];split
 ·exact ⟨rfl,e2,e3⟩
 ·exact ⟨ED _ e2,e2.say (by omega) hp (aj _),e3.say _ _⟩
theorem fR (w:fq)(p:Nat)(h:Inv c n)(hp:w.size=0\/p < m)(hm:n<=m)(hv:V3 c):rM w p c=(if w.toList.isEmpty then c else nP w p 105 c)/\Inv (rM w p c) m/\V3 (rM w p c):=by
 unfold rM;have hz:w.toList.isEmpty=true↔w.size=0:=by
  rw[aN,dA,<- aY];exact Iff.rfl
 by_cases h0:w.size=0
 ·rw[if_pos h0,if_pos (hz.2 h0)];exact ⟨rfl,h.mono hm,hv⟩
 ·rw[if_neg h0,if_neg (fun h'=>h0 (hz.1 h'))]
  obtain ⟨g1,g2⟩:=UM w p 105 h (by omega) hm
  rw[g1];exact ⟨rfl,g2,hv.give (ak rfl)⟩
def qV (x:Sm)(c:Lk):Lk :=
 if x.op=108 then
  match x.ex with
  | none=>c
  | some e=>rY x.fD x.pl (iP e c).1 (iP e c).2
 else if x.op=99 then countP x.n x.gG 1 5 (rM x.gu x.fZ (nD x.ex c))
 else if x.op=105 then
  match x.ex with
  | none=>c
  | some e=>jO x.two (jO x.one (rZ e 98 c))
 else if x.op=116 then jO x.two (jO x.one c)
 else if x.op=114 then jO x.one (countP x.n x.gG 0 9 c)
 else c
theorem GI (c:Lk):jO [] c=c:=by rw[jO]
theorem GJ (x:Sm)(l:List Sm)(c:Lk):jO (x::l) c=jO l (qV x c):=by
 obtain ⟨op,fD,pl,ex,gu,fZ,undo,n,gG,one,two⟩:=x;rw[jO.eq_def]
 all_goals rfl
theorem Cw (l:List Sm):∀ (c:Lk) (lo hi:Nat),jM l->Ss l lo hi->Inv c lo->V3 c->jO l c=iG l c/\Inv (iG l c) hi/\V3 (iG l c):=by
 match l with
 | [] =>
  intro c lo hi _ hs h hv;rw[GI,KV];exact ⟨rfl,h.mono (Oe.1 hs),hv⟩
 | ⟨op,fD,pl,ex,gu,fZ,undo,n,gG,one,two⟩::rest =>
  intro c lo hi hw hs h hv;obtain ⟨w0,w1,w2,w3⟩:=zi.1 hw;obtain ⟨md,s1,h0,s2⟩:=UF.1 hs;rw[GJ,KX];have H:qV ⟨op,fD,pl,ex,gu,fZ,undo,n,gG,one,two⟩ c=pO ⟨op,fD,pl,ex,gu,fZ,undo,n,gG,one,two⟩ c/\Inv (pO ⟨op,fD,pl,ex,gu,fZ,undo,n,gG,one,two⟩ c) md/\V3 (pO ⟨op,fD,pl,ex,gu,fZ,undo,n,gG,one,two⟩ c):=by
   unfold pO qV;simp only at w0 w1 w2 s2 |-;rcases s2 with ⟨o,e,h1,h2,h3⟩ | ⟨o,m1,m2,h1,h2,h3,h4,h5,h6⟩ | ⟨o,e,a,b,c',d,m1,h1,h2,h3,h4,h5,h6,h7,h8⟩ | ⟨o,a,b,c',d,h1,h2,h3,h4,h5⟩ | ⟨o,a,b,h1,h2,h3,h4⟩ | o
   ·subst o h1;have vT:=w0.1 e rfl;obtain ⟨e1,e2,e3,e4⟩:=GD e c lo md vT h2 h hv;simp only[if_true];rw[e1];obtain ⟨g1,g2⟩:=UM fD pl (iC e c).1 e2 h3 (aj _);exact ⟨g1,g2,e3.give e4⟩
   ·subst o;simp only[if_true,if_neg (by decide:¬(99:Nat)=108)]
    have ha:nD ex c=lQ ex 105 c/\Inv (lQ ex 105 c) m1/\V3 (lQ ex 105 c):=by
     cases ex with
     | none=>exact ⟨rfl,h.mono h1,hv⟩
     | some e=>exact UN (w0.1 e rfl) (h4 e rfl).1 (h4 e rfl).2 h hv (by decide)
    obtain ⟨a1,a2,a3⟩:=ha;rw[a1];obtain ⟨b1,b2,b3⟩:=fR gu fZ a2 h5 h2 a3;rw[<- b1];generalize rM gu fZ (lQ ex 105 c)=c2 at b1 b2 b3;unfold countP;by_cases hn:n < 1\/5 < n
    ·rw[if_pos hn,if_pos hn];have h7:m2<=gG/\gG < md:=by omega
     exact ⟨Od b2 h7.1,b2.say (by omega) h7.2 h3,b3.say _ _⟩
    ·rw[if_neg hn,if_neg hn];exact ⟨rfl,b2.mono h3,b3⟩
   ·subst o h1;simp only[if_true,if_neg (by decide:¬(105:Nat)=108),if_neg (by decide:¬(105:Nat)=99)]
    obtain ⟨a1,a2,a3⟩:=UN (k:=98) (w0.1 e rfl) h2 h3 h hv (by decide)
    rw[a1];obtain ⟨b1,b2,b3⟩:=Cw one _ a b w1 h5 (a2.mono h4) a3;rw[b1];obtain ⟨d1,d2,d3⟩:=Cw two _ c' d w2 h7 (b2.mono h6) b3;exact ⟨d1,d2.mono h8,d3⟩
   ·subst o;simp only[if_true,if_neg (by decide:¬(116:Nat)=108),if_neg (by decide:¬(116:Nat)=99),if_neg (by decide:¬(116:Nat)=105)]
    obtain ⟨b1,b2,b3⟩:=Cw one _ a b w1 h2 (h.mono h1) hv;rw[b1];obtain ⟨d1,d2,d3⟩:=Cw two _ c' d w2 h4 (b2.mono h3) b3;exact ⟨d1,d2.mono h5,d3⟩
   ·subst o;simp only[if_true,if_neg (by decide:¬(114:Nat)=108),if_neg (by decide:¬(114:Nat)=99),if_neg (by decide:¬(114:Nat)=105),if_neg (by decide:¬(114:Nat)=116)]
    have ha:countP n gG 0 9 c=(if 9 < n then say 4 gG c else c)/\Inv (if 9 < n then say 4 gG c else c) a/\V3 (if 9 < n then say 4 gG c else c):=by
     unfold countP;by_cases hn:9 < n
     ·rw[if_pos (ah hn),if_pos hn];exact ⟨Od h h1,h.say (by omega) h2 (by omega),hv.say _ _⟩
     ·rw[if_neg (by omega),if_neg hn]
      exact ⟨rfl,h.mono (by omega),hv⟩
    obtain ⟨a1,a2,a3⟩:=ha;rw[a1];obtain ⟨b1,b2,b3⟩:=Cw one _ a b w1 h3 a2 a3;exact ⟨b1,b2.mono h4,b3⟩
   ·subst o;simp only[if_neg (by decide:¬(102:Nat)=108),if_neg (by decide:¬(102:Nat)=99),if_neg (by decide:¬(102:Nat)=105),if_neg (by decide:¬(102:Nat)=116),if_neg (by decide:¬(102:Nat)=114)]
    exact ⟨trivial,h.mono h0,hv⟩
  obtain ⟨H1,H2,H3⟩:=H;rw[H1];exact Cw rest _ md hi w3 s1 H2 H3
theorem fS {s:fq}{l:List Sm}(h:read s=.ok l):jO l ⟨[],0,0⟩=iG l ⟨[],0,0⟩:=by
 obtain ⟨lo,hi,hs⟩:=fN h;exact (Cw l _ lo hi (EC h).1 hs ⟨by decide,ak rfl⟩ (fun v hv=>by cases hv)).1
end Px
open Go.RowKit
structure fO (T:Nat->Prop)(w w':fu):Prop where
 os:w'.os=w.os
 tape:w'.tape=w.tape
 output:w'.output=w.output
 size:w.heap.size<=w'.heap.size
 block:∀ k,k < w.heap.size->¬ T k->w'.heap[k]?=w.heap[k]?
theorem fO.refl (T:Nat->Prop)(w:fu):fO T w w:=⟨rfl,rfl,rfl,aj _,fun _ _ _=>rfl⟩
theorem fO.trans {T:Nat->Prop}{w w1 w2:fu}(h:fO T w w1)(k:fO T w1 w2):fO T w w2 :=
 ⟨k.os.trans h.os,k.tape.trans h.tape,k.output.trans h.output,aP h.size k.size,fun i hi hn=>(k.block i (aV hi h.size) hn).trans (h.block i hi hn)⟩
theorem fO.mono {T T':Nat->Prop}{w w':fu}(h:fO T w w')(ht:∀ k,k < w.heap.size->T k->T' k):fO T' w w':=⟨h.os,h.tape,h.output,h.size,fun k hk hn=>h.block k hk fun ht'=>hn (ht k hk ht')⟩
theorem fO.drew {T:Nat->Prop}{w w1:fu}(h:fO T w w1):fO T w w1.drew:=⟨h.os,h.tape,h.output,h.size,h.block⟩
theorem fO.below {T:Nat->Prop}{w w1 w2:fu}(h:fO T w w1)(k:Below w1.heap.size w1 w2):fO T w w2:=h.trans ⟨k.os,k.tape,k.output,k.size,fun i hi _=>k.block i hi⟩
theorem fO.alloc {T:Nat->Prop}{w w1:fu}(h:fO T w w1)(o:Obj):fO T w (w1.alloc o):=h.below ((aH _ _).alloc (aj _) _)
theorem fO.setCell {T:Nat->Prop}{w w1:fu}(h:fO T w w1){p:Addr}(hp:T p.block\/w.heap.size<=p.block)(u:fC):fO T w (w1.setCell p u) :=
 ⟨h.os,h.tape,h.output,by simpa [World.setCell] using h.size,fun i hi hn=>by
  rw[bL _ _ _ _ (by rintro rfl;rcases hp with hp | hp;exact hn hp;omega)];exact h.block i hi hn⟩
theorem fO.grown {T:Nat->Prop}{w w1 w2:fu}{row:Option Nat}(h:fO T w w1)(hg:w1.grownBy w2 row)(hr:∀ k,row=some k->T k\/w.heap.size<=k):fO T w w2 :=
 ⟨hg.os.trans h.os,hg.tape.trans h.tape,hg.output.trans h.output,aP h.size hg.size,fun i hi hn=>by
  rw[hg.block i (aV hi h.size) (fun e=>by rcases hr i e.symm with h | h;exact hn h;omega)];exact h.block i hi hn⟩
theorem fO.mY {T:Nat->Prop}{B:Nat}{w w':fu}(h:fO T w w')(hB:B<=w.heap.size)(ht:∀ k,T k->B<=k):Below B w w':=⟨h.os,h.tape,h.output,h.size,fun k hk=>h.block k (by omega) fun hk'=>by have:=ht k hk';omega⟩
theorem gZ {T:Nat->Prop}{w w':fu}{base:Nat}{e:TypeId}{size:Nat}{v:fC}{n:Nat}{xs:List fC}(h:w.ownsRow base e size v n xs)(ht:fO T w w')(hn:∀ k,v.ownBlock=some k->¬ T k):w'.ownsRow base e size v n xs:=by
 obtain ⟨h1,h2⟩:=h;refine ⟨h1,?_⟩;rcases h2 with h2 | ⟨g,cap,cur,hv,hg,hh,r⟩
 ·exact ak h2
 ·subst hv;exact ah ⟨g,cap,cur,rfl,hg,by rw[ht.block g (aG.1 hh).1 (hn g rfl)];exact hh,r⟩
structure Sep (B c:Nat)(w:fu)(rows:List fC):Prop where
 own:∀ v∈rows,∀ k,v.ownBlock=some k->B<=k/\k≠c/\k < w.heap.size
 apart:rows.Pairwise fun a b=>∀ k,a.ownBlock=some k->b.ownBlock≠some k
theorem Sep.world {B c:Nat}{w w':fu}{rows:List fC}(h:Sep B c w rows)(hs:w.heap.size<=w'.heap.size):Sep B c w' rows :=
 ⟨fun v hv k hk=>by obtain ⟨h1,h2,h3⟩:=h.own v hv k hk;exact ⟨h1,h2,by omega⟩,h.apart⟩
theorem Sep.turn {B c:Nat}{w w':fu}{A R:List fC}{v v':fC}(h:Sep B c w (A++v::R))(hs:w.heap.size<=w'.heap.size)(hB:B<=w.heap.size)(hc:c < w.heap.size)(hv:v'.ownBlock=v.ownBlock\/v'.ownBlock=none\/∃ n,v'.ownBlock=some n/\w.heap.size<=n/\n < w'.heap.size):Sep B c w' (A++v'::R):=by
 have own':∀ x∈A++v'::R,∀ k,x.ownBlock=some k->B<=k/\k≠c/\k < w'.heap.size:=by
  intro x hx k hk;rw[bR,bY] at hx;rcases hx with hx | rfl | hx
  ·obtain ⟨h1,h2,h3⟩:=h.own x (by simp[hx]) k hk;exact ⟨h1,h2,by omega⟩
  ·rcases hv with hv | hv | ⟨n,hv,h1,h2⟩
   ·rw[hv] at hk;obtain ⟨h1,h2,h3⟩:=h.own v (by simp) k hk;exact ⟨h1,h2,by omega⟩
   ·rw[hv] at hk;cases hk
   ·rw[hv] at hk;cases hk;exact ⟨by omega,by omega,h2⟩
  ·obtain ⟨h1,h2,h3⟩:=h.own x (by simp[hx]) k hk;exact ⟨h1,h2,by omega⟩
 refine ⟨own',?_⟩;have ha:=h.apart;rw[List.pairwise_append,List.pairwise_cons] at ha |-;obtain ⟨p1,⟨p2,p3⟩,p4⟩:=ha;refine ⟨p1,⟨fun b hb k hk=>?_,p3⟩,fun a ha b hb=>?_⟩
 ·rcases hv with hv | hv | ⟨n,hv,h1,h2⟩
  ·rw[hv] at hk;exact p2 b hb k hk
  ·rw[hv] at hk;cases hk
  ·rw[hv] at hk;cases hk;intro hb';obtain ⟨_,_,h3⟩:=h.own b (by simp[hb]) _ hb'
   omega
 ·rw[bY] at hb;rcases hb with rfl | hb
  ·intro k hk hb';rcases hv with hv | hv | ⟨n,hv,h1,h2⟩
   ·rw[hv] at hb';exact p4 a ha v (by simp) k hk hb'
   ·rw[hv] at hb';cases hb'
   ·rw[hv] at hb';cases hb';obtain ⟨_,_,h3⟩:=h.own a (by simp[ha]) _ hk
    omega
  ·exact p4 a ha b (by simp[hb])
theorem Sep.mem {B c:Nat}{w:fu}{rows:List fC}(h:Sep B c w rows){i j:Nat}{v u:fC}(hi:rows[i]?=some v)(hj:rows[j]?=some u)(hij:i≠j):∀ k,v.ownBlock=some k->u.ownBlock≠some k:=by
 obtain ⟨hi1,hi2⟩:=aU.1 hi;obtain ⟨hj1,hj2⟩:=aU.1 hj;intro k hk hk';rcases Nat.lt_or_gt_of_ne hij with h1 | h1
 ·have:=(List.pairwise_iff_getElem.1 h.apart) i j hi1 hj1 h1
  rw[hi2,hj2] at this;exact this k hk hk'
 ·have:=(List.pairwise_iff_getElem.1 h.apart) j i hj1 hi1 h1
  rw[hi2,hj2] at this;exact this k hk' hk
theorem Sep.sub {B c:Nat}{w:fu}{rows rows':List fC}(h:Sep B c w rows)(hs:rows'.Sublist rows):Sep B c w rows' :=
 ⟨fun v hv k hk=>h.own v (hs.subset hv) k hk,h.apart.sublist hs⟩
theorem Sep.perm {B c:Nat}{w:fu}{rows rows':List fC}(h:Sep B c w rows)(hs:rows.Perm rows'):Sep B c w rows' :=
 ⟨fun v hv k hk=>h.own v (hs.mem_iff.2 hv) k hk,hs.pairwise h.apart (fun {_a _b} hab k hk hk'=>hab k hk' hk)⟩
theorem Sep.nil {B c:Nat}{w:fu}{rows:List fC}(h:Sep B c w rows){v:fC}(hv:v.ownBlock=none):Sep B c w (v::rows):=by
 refine ⟨fun x hx k hk=>?_,List.pairwise_cons.2 ⟨fun b _ k hk=>(by rw[hv] at hk;cases hk),h.apart⟩⟩
 rw[bY] at hx;rcases hx with rfl | hx
 ·rw[hv] at hk;cases hk
 ·exact h.own x hx k hk
theorem wR {P:Program}{ops:Array Oper}{o:Oper}{a:Act}{w:fu}{K:Act->fu->Prop}{Q:Exit->Act->fu->Prop}{E:Prop}(hg:o.guard=none)(s x:Operand)(t:TypeId)(ho:o.op=.call { callee:=.builtin .append,args:=#[s,x],argTypes:=#[t,t] })(base:Nat)(e:TypeId)(i:TypeInfo)(z:fC)(size bytes:Nat)(ht:P.underlying t=some (.slice e))(hi:P.info? e=some i)(hz:i.zero=some z)(hsize:i.size=size)(hby:i.bytes=bytes)(hzs:z.cells.size=size)(hsz:0 < size)(v:fC)(n:Nat)(xs:List fC)(hs:a.eval s=v)(hown:w.ownsRow base e size v n xs)(ad:Addr)(m c:Nat)(news:List fC)(hx:a.eval x=.slice (some ad) m c)(hl:news.length=m * size)(hnews:∀ j u,news[j]?=some u->w.cell? (ad.add j)=some u)(h1:∀ u∈news,u.oneCell'=true)(h63:n+m<=maxLen)(hbytes:(n+m) * bytes<=140737488355328)(hbase:base<=w.heap.size)(h:∀ v' w',w'.ownsRow base e size v' (n+m) (xs++news)->w.grownBy w' v.ownBlock->(v'.ownBlock=v.ownBlock\/v'.ownBlock=some w.heap.size)->K (a.put o.dst v') w') :
  if Region.wanted o (yielded ops a.tmps)=true then Oper.wp P o a w K Q else E:=by
 have hw:Region.wanted o (yielded ops a.tmps)=true:=by simp[Region.wanted,hg]
 rw[if_pos hw];obtain ⟨v',w',hr,h2,h3,_,h5⟩:=run_append_own_at (P:=P) w base t o.type e i z size bytes ht hi hz hsize hby hzs hsz v n xs hown ad m c news hl hnews h1 h63 hbytes hbase;unfold Oper.wp;simp only[execOp,ho,resolve,invoke,builtin,Sem.run_bind,Sem.run_pure,Result.andThen_ok,List.map_toArray,eF,List.map_nil,hs,hx,hr];exact h v' w' h2 h3 h5
namespace Px
structure Ask where
 fD:fq
 arg:Int
 nth:Nat
 undo:Bool
structure Rs where
 held:List Int
 left:List Int
 fI:List Ask
 fG:List (List (fq×Int))
 over:Nat
 stop:Bool
 failed:Bool
def Rs.going (s:Rs):Bool:=s.over == 0 && !s.stop && !s.failed
def ask (a:Ask)(s:Rs):Option Int×Rs :=
 match s.left with
 | []=>(none,{ s with fI:=s.fI++[a],stop:=true })
 | v::r=>(some v,{ s with fI:=s.fI++[a],left:=r })
abbrev Vs:=List (fq×Nat)
def GK (vars:Vs)(held:List Int)(w:fq):Int :=
 match iK vars w with
 | none=>0
 | some i=>held.getD i 0
def nG (vars:Vs)(held:List Int)(w:fq)(v:Int):List Int :=
 match iK vars w with
 | none=>held
 | some i=>held.set i v
def truth (b:Bool):Int:=if b then 1 else 0
def op2 (op:Nat)(a b:Int):Option Int :=
 if op=43 then some (wrap64 (a+b)) else if op=45 then some (wrap64 (a - b)) else if op=42 then some (wrap64 (a * b))
 else if op=60 then some (truth (decide (a < b))) else if op=61 then some (truth (decide (a=b))) else if op=35 then some (truth (decide (a≠b)))
 else if b=0 then none else some (wrap64 (a.tdiv b))
def lK (vars:Vs)(held:List Int):Ex->Option Int
 | ⟨op,n,fD,_,_,none,_⟩=>if op=119 then some (GK vars held fD) else some n
 | ⟨_,_,_,_,_,some l,none⟩=>(lK vars held l).map fun v=>wrap64 (1 - v)
 | ⟨op,_,_,_,_,some l,some r⟩ =>
  match lK vars held l with
  | none=>none
  | some a =>
   match lK vars held r with
   | none=>none
   | some b=>op2 op a b
def sN (vars:Vs)(held:List Int)(x:Option Ex):Option Int :=
 match x with
 | none=>some 0
 | some e=>lK vars held e
def tries (fD:fq)(arg:Int)(undo:Bool):Nat->Nat->Rs->Option (Option Int)×Rs
 | 0,_,s=>(some none,s)
 | k+1,t,s =>
  match ask ⟨fD,arg,t,undo⟩ s with
  | (none,s1)=>(none,s1)
  | (some v,s1)=>if 0<=v then (some (some v),s1) else tries fD arg undo k (t+1) s1
def l9:List (fq×Int)->Rs->Rs
 | [],s=>s
 | (w,v)::r,s =>
  match tries w v true 3 1 s with
  | (none,s1)=>s1
  | (some none,s1)=>{ s1 with over:=3 }
  | (some (some _),s1)=>l9 r s1
def lS (s:Rs):Rs:=l9 (s.fG.getLastD []).reverse { s with fG:=s.fG.dropLast }
def iA (fG:List (List (fq×Int)))(x:List (fq×Int)):List (List (fq×Int)):=fG.dropLast++[fG.getLastD []++x]
def uG (vars:Vs)(fD:fq)(ex:Option Ex)(gu undo:fq)(n:Nat)(s:Rs):Rs :=
 match sN vars s.held ex with
 | none=>{ s with failed:=true }
 | some arg =>
  match tries fD arg false n 1 s with
  | (none,s1)=>s1
  | (some none,s1)=>{ s1 with failed:=true }
  | (some (some v),s1)=>{ s1 with held:=if gu.size=0 then s1.held else nG vars s1.held gu v,fG:=if undo.size=0 then s1.fG else iA s1.fG [(undo,v)] }
def iter (f:Rs->Rs):Nat->Rs->Rs
 | 0,s=>s
 | n+1,s=>iter f n (f s)
def gJ (vars:Vs):List Sm->Rs->Rs
 | [],s=>s
 | ⟨op,fD,_,ex,gu,_,undo,n,_,one,two⟩::rest,s =>
  gJ vars rest (
   if s.going then
    (if op=108 then (match sN vars s.held ex with
      | none=>{ s with failed:=true }
      | some v=>{ s with held:=nG vars s.held fD v })
     else if op=99 then uG vars fD ex gu undo n s
     else if op=105 then (match sN vars s.held ex with
      | none=>{ s with failed:=true }
      | some v=>if v=1 then gJ vars one s else gJ vars two s)
     else if op=116 then
      (let s1:=gJ vars one { s with fG:=s.fG++[[]] }
      if s1.over≠0\/s1.stop=true then s1
      else if s1.failed then (let s2:=lS { s1 with failed:=false };if s2.going then gJ vars two s2 else s2)
      else { s1 with fG:=iA s1.fG.dropLast (s1.fG.getLastD []) })
     else if op=114 then iter (gJ vars one) n s
     else { s with failed:=true })
   else s)
def gT (vars:Vs)(x:Sm)(s:Rs):Rs :=
 if x.op=108 then (match sN vars s.held x.ex with
  | none=>{ s with failed:=true }
  | some v=>{ s with held:=nG vars s.held x.fD v })
 else if x.op=99 then uG vars x.fD x.ex x.gu x.undo x.n s
 else if x.op=105 then (match sN vars s.held x.ex with
  | none=>{ s with failed:=true }
  | some v=>if v=1 then gJ vars x.one s else gJ vars x.two s)
 else if x.op=116 then
  (let s1:=gJ vars x.one { s with fG:=s.fG++[[]] }
   if s1.over≠0\/s1.stop=true then s1
   else if s1.failed then (let s2:=lS { s1 with failed:=false };if s2.going then gJ vars x.two s2 else s2)
   else { s1 with fG:=iA s1.fG.dropLast (s1.fG.getLastD []) })
 else if x.op=114 then iter (gJ vars x.one) x.n s
 else { s with failed:=true }
theorem Cy (vars:Vs)(s:Rs):gJ vars [] s=s:=by rw[gJ]
theorem EF (vars:Vs)(x:Sm)(l:List Sm)(s:Rs):gJ vars (x::l) s=gJ vars l (if s.going then gT vars x s else s):=by
 obtain ⟨op,fD,pl,ex,gu,fZ,undo,n,gG,one,two⟩:=x;rw[gJ.eq_def]
 all_goals rfl
def ended (s:Rs):Rs :=
 if s.over≠0\/s.stop=true then s
 else if s.failed then (let s2:=lS s;if s2.over=0/\s2.stop=false then { s2 with over:=2 } else s2)
 else { s with over:=1 }
def play (vars:Vs)(l:List Sm)(fK:List Int):Rs:=ended (gJ vars l ⟨List.replicate vars.length 0,fK,[],[[]],0,false,false⟩)
def run (s:fq)(fK:List Int):List Ask×Nat×Nat×Nat :=
 match read s with
 | .error r=>([],0,r)
 | .ok l=>if check s=(0,0) then (let z:=play (iG l ⟨[],0,0⟩).vars l fK;(z.fI,z.over,0,0)) else ([],0,check s)
variable {s:Rs}
theorem EH (vars:Vs)(l:List Sm)(h:s.going=false):gJ vars l s=s:=by
 induction l with
 | nil=>exact Cy vars s
 | cons x l ih=>rw[EF,h];exact ih
variable {f:Rs->Rs}
theorem UO (h:f s=s)(n:Nat):iter f n s=s:=by
 induction n with
 | zero=>rfl
 | succ n ih=>rw[iter,h,ih]
def Pre (f:Rs->Rs):Prop:=∀ s,s.fI <+: (f s).fI
theorem fW (a:Ask)(s:Rs):(ask a s).2.fI=s.fI++[a]:=by
 unfold ask;split<;>rfl
theorem K9 (w:fq)(v:Int)(u:Bool)(k:Nat):∀ t,Pre fun s=>(tries w v u k t s).2:=by
 induction k with
 | zero=>intro t s;exact aO _
 | succ k ih =>
  intro t s;have h:=fW ⟨w,v,t,u⟩ s;have h0:s.fI <+: (ask ⟨w,v,t,u⟩ s).2.fI:=by rw[h];exact List.prefix_append _ _
  show s.fI <+: (tries w v u (k+1) t s).2.fI
  unfold tries;split
  ·rename_i s1 he;rw[he] at h0;exact h0
  ·rename_i x s1 he;rw[he] at h0;split
   ·exact h0
   ·exact h0.trans (ih (t+1) s1)
theorem UQ (l:List (fq×Int)):Pre (l9 l):=by
 induction l with
 | nil=>intro s;exact aO _
 | cons x l ih =>
  intro s;obtain ⟨w,v⟩:=x;have h0:=K9 w v true 3 1 s;rw[l9];split
  ·rename_i s1 he;simp only[he] at h0;exact h0
  ·rename_i s1 he;simp only[he] at h0;exact h0
  ·rename_i y s1 he;simp only[he] at h0;exact h0.trans (ih s1)
theorem La:Pre lS:=fun s=>UQ (s.fG.getLastD []).reverse { s with fG:=s.fG.dropLast }
theorem fX (vars:Vs)(fD:fq)(ex:Option Ex)(gu undo:fq)(n:Nat):Pre (uG vars fD ex gu undo n):=by
 intro s;unfold uG;split
 ·exact aO _
 ·rename_i arg _;have h0:=K9 fD arg false n 1 s;split
  ·rename_i s1 he;simp only[he] at h0;exact h0
  ·rename_i s1 he;simp only[he] at h0;exact h0
  ·rename_i y s1 he;simp only[he] at h0;exact h0
theorem UR (h:Pre f)(n:Nat):Pre (iter f n):=by
 induction n with
 | zero=>intro s;exact aO _
 | succ n ih=>intro s;exact (h s).trans (ih (f s))
theorem fY (vars:Vs)(x:Sm)(h1:Pre (gJ vars x.one))(h2:Pre (gJ vars x.two)):Pre (gT vars x):=by
 intro s;unfold gT;split
 ·split<;>exact aO _
 ·split
  ·exact fX _ _ _ _ _ _ s
  ·split
   ·split
    ·exact aO _
    ·split
     ·exact h1 s
     ·exact h2 s
   ·split
    ·have a:=h1 { s with fG:=s.fG++[[]] }
     dsimp only;split
     ·exact a
     ·split
      ·have b:=La { (gJ vars x.one { s with fG:=s.fG++[[]] }) with failed:=false }
       split
       ·exact (a.trans b).trans (h2 _)
       ·exact a.trans b
      ·exact a
    ·split
     ·exact UR h1 _ s
     ·exact aO _
theorem CF (vars:Vs)(l:List Sm):Pre (gJ vars l):=by
 match l with
 | []=>intro s;rw[Cy];exact aO _
 | ⟨op,fD,pl,ex,gu,fZ,undo,n,gG,one,two⟩::rest =>
  intro s;rw[EF];refine List.IsPrefix.trans ?_ (CF vars rest _);split
  ·exact fY vars ⟨op,fD,pl,ex,gu,fZ,undo,n,gG,one,two⟩ (CF vars one) (CF vars two) s
  ·exact aO _
theorem gA:Pre ended:=by
 intro s;unfold ended;split
 ·exact aO _
 ·split
  ·dsimp only;split
   ·exact La s
   ·exact La s
  ·exact aO _
variable {c:Lk}{N e i k most n p q:Nat}
theorem xV (he:e≠0)(p:Nat):(say e p c).e≠0:=by
 unfold say;split
 ·exact he
 ·rename_i h;exact fun x=>h (ak x)
theorem gC (h:c.e≠0)(op:Nat)(w:fq)(own:Nat):(ze op w own c).2.e≠0:=by
 unfold ze;split
 ·exact h
 ·split
  ·exact h
  ·split
   ·exact xV (by decide) _
   ·exact h
theorem CG (x:Ex):∀ c:Lk,c.e≠0->(iC x c).2.e≠0:=by
 match x with
 | ⟨op,n,fD,pl,own,none,_⟩=>intro c h;rw[iC];exact gC h _ _ _
 | ⟨op,n,fD,pl,own,some l,none⟩ =>
  intro c h;rw[iC]
  have:=CG l c h
  unfold qU;dsimp only;split
  ·exact this
  ·exact xV (by decide) _
 | ⟨op,n,fD,pl,own,some l,some r⟩ =>
  intro c h;rw[iC]
  have:=CG r _ (CG l c h)
  unfold oh;split
  ·dsimp only;split
   ·exact xV (by decide) _
   ·exact this
  ·dsimp only;split
   ·exact this
   ·exact xV (by decide) _
theorem CJ (h:c.e≠0)(w:fq)(p k:Nat):(nP w p k c).e≠0:=by
 unfold nP;split
 ·exact h
 ·split
  ·exact xV (by decide) _
  ·exact h
theorem Lb (h:c.e≠0)(x:Option Ex)(k:Nat):(lQ x k c).e≠0:=by
 unfold lQ;split
 ·exact h
 ·split
  ·exact CG _ _ h
  ·exact xV (by decide) _
def vU (x:Sm)(c:Lk):Lk :=
 if x.op=108 then
  match x.ex with
  | none=>c
  | some e=>nP x.fD x.pl (iC e c).1 (iC e c).2
 else if x.op=99 then
  let c1:=lQ x.ex 105 c
  let c2:=if x.gu.toList.isEmpty then c1 else nP x.gu x.fZ 105 c1
  if x.n < 1\/5 < x.n then say 4 x.gG c2 else c2
 else if x.op=105 then iG x.two (iG x.one (lQ x.ex 98 c))
 else if x.op=116 then iG x.two (iG x.one c)
 else if x.op=114 then iG x.one (if 9 < x.n then say 4 x.gG c else c)
 else c
theorem Oh (x:Sm)(l:List Sm)(c:Lk):iG (x::l) c=iG l (vU x c):=by
 obtain ⟨op,fD,pl,ex,gu,fZ,undo,n,gG,one,two⟩:=x;rw[iG.eq_def]
 all_goals rfl
theorem gR (x:Sm)(h1:∀ c:Lk,c.e≠0->(iG x.one c).e≠0)(h2:∀ c:Lk,c.e≠0->(iG x.two c).e≠0)(c:Lk)(h:c.e≠0):(vU x c).e≠0:=by
 unfold vU;split
 ·split
  ·exact h
  ·exact CJ (CG _ _ h) _ _ _
 ·split
  ·dsimp only;split
   ·exact xV (by decide) _
   ·split
    ·exact Lb h _ _
    ·exact CJ (Lb h _ _) _ _ _
  ·split
   ·exact h2 _ (h1 _ (Lb h _ _))
   ·split
    ·exact h2 _ (h1 _ h)
    ·split
     ·refine h1 _ ?_;split
      ·exact xV (by decide) _
      ·exact h
     ·exact h
theorem vV (l:List Sm):∀ c:Lk,c.e≠0->(iG l c).e≠0:=by
 match l with
 | []=>intro c h;rw[iG];exact h
 | ⟨op,fD,pl,ex,gu,fZ,undo,n,gG,one,two⟩::rest =>
  intro c h;rw[Oh];exact vV rest _ (gR ⟨op,fD,pl,ex,gu,fZ,undo,n,gG,one,two⟩ (vV one) (vV two) c h)
def mG (V:Vs):Ex->Nat->Prop
 | ⟨op,n,fD,_,_,none,_⟩,k=>if op=110 then k=105 else if op=116 then k=98/\n<=1 else op=119/\∃ i,iK V fD=some i/\og V i=k
 | ⟨op,_,_,_,_,some l,none⟩,k=>op=33/\k=98/\mG V l 98
 | ⟨op,_,_,_,_,some l,some r⟩,k =>
  if op=61\/op=35 then k=98/\∃ j,mG V l j/\mG V r j
  else (op=42\/op=47\/op=43\/op=45\/op=60)/\k=(if op=60 then 98 else 105)/\mG V l 105/\mG V r 105
def okO (V:Vs)(x:Option Ex)(k:Nat):Prop:=∀ e,x=some e->mG V e k
def okV (V:Vs)(w:fq)(k:Nat):Prop:=∃ i,iK V w=some i/\og V i=k
def zP (V:Vs)(op:Nat)(fD:fq)(ex:Option Ex)(gu:fq)(n:Nat):Prop :=
 (op=108/\∃ e k,ex=some e/\mG V e k/\okV V fD k/\(k=105\/k=98)) \/
 (op=99/\okO V ex 105/\(gu.size=0\/okV V gu 105)/\1<=n/\n<=5) \/
 (op=105/\∃ e,ex=some e/\mG V e 98)\/op=116\/(op=114/\n<=9)\/op=102
def mZ (V:Vs):List Sm->Prop
 | []=>True
 | ⟨op,fD,_,ex,gu,_,_,n,_,one,two⟩::rest=>zP V op fD ex gu n/\(op=105\/op=116\/op=114->mZ V one)/\(op=105\/op=116->mZ V two)/\mZ V rest
theorem UU (V:Vs):mZ V []:=by rw[mZ];trivial
variable {V:Vs}{x:Sm}{l:List Sm}
theorem zQ:mZ V (x::l)↔zP V x.op x.fD x.ex x.gu x.n/\(x.op=105\/x.op=116\/x.op=114->mZ V x.one)/\(x.op=105\/x.op=116->mZ V x.two)/\mZ V l:=by
 obtain ⟨op,fD,pl,ex,gu,fZ,undo,n,gG,one,two⟩:=x;rw[mZ]
def oN:Ex->Prop
 | ⟨op,n,_,_,_,none,_⟩=>op=116->n<=1
 | ⟨_,_,_,_,_,some l,none⟩=>oN l
 | ⟨_,_,_,_,_,some l,some r⟩=>oN l/\oN r
def rO:List Sm->Prop
 | []=>True
 | ⟨_,_,_,ex,_,_,_,_,_,one,two⟩::rest=>(∀ e,ex=some e->oN e)/\rO one/\rO two/\rO rest
theorem zR:rO []:=by rw[rO];trivial
theorem UW:rO (x::l)↔(∀ e,x.ex=some e->oN e)/\rO x.one/\rO x.two/\rO l:=by
 obtain ⟨op,fD,pl,ex,gu,fZ,undo,n,gG,one,two⟩:=x;rw[rO]
variable {w:fq}
theorem Oi {l m:Vs}(h:iK l w=some i):iK (l++m) w=some i:=by
 induction l generalizing i with
 | nil=>cases h
 | cons v l ih =>
  obtain ⟨v,k⟩:=v;rw[iK] at h;rw[bG,iK];split at h
  ·rename_i hc;rw[if_pos hc];exact h
  ·rename_i hc;rw[if_neg hc];cases hf:iK l w with
   | none=>rw[hf] at h;cases h
   | some j=>rw[hf] at h;rw[ih hf];exact h
theorem gS {l:Vs}(h:iK l w=none):iK (l++[(w,k)]) w=some l.length:=by
 induction l with
 | nil=>simp[iK]
 | cons v l ih =>
  obtain ⟨v,k'⟩:=v;rw[iK] at h;split at h
  ·cases h
  ·rename_i hc;rw[bG,iK,if_neg hc];have h2:iK l w=none:=by
    cases hf:iK l w with
    | none=>rfl
    | some j=>rw[hf] at h;cases h
   rw[ih h2];simp
theorem Oj {l m:Vs}(h:i < l.length):og (l++m) i=og l i:=by
 unfold og;rw[aX,aX,aQ h]
def K2 (V:Vs):Prop:=∀ v∈V,v.2=105\/v.2=98
theorem K2.at (h:K2 V)(hi:i < V.length):og V i=105\/og V i=98:=by
 obtain ⟨v,hv,e⟩:=KZ hi;rw[e];exact h v hv
theorem um (he:e≠0):¬ (say e p c).e=0:=xV he p
theorem Lc {want:Nat}(hk:k=105\/k=98):isK k want=true↔k=want:=by
 unfold isK;rw[dx,beq_iff_eq,beq_iff_eq];omega
theorem EK (x:Ex):∀ (c:Lk) (W:Vs),mO x->oN x->K2 c.vars->(iC x c).2.e=0->(iC x c).2=c/\((iC x c).1=105\/(iC x c).1=98)/\mG (c.vars++W) x (iC x c).1:=by
 match x with
 | ⟨op,n,fD,pl,own,none,none⟩ =>
  intro c W hw ht hk h;rw[iC] at h |-;unfold ze at h |-;have hw':op=110\/op=116\/op=119:=hw;by_cases h1:op=110
  ·rw[if_pos h1];refine ⟨rfl,ak rfl,?_⟩;rw[mG,if_pos h1]
  ·rw[if_neg h1] at h |-;by_cases h2:op=116
   ·rw[if_pos h2];refine ⟨rfl,ah rfl,?_⟩;rw[mG,if_neg h1,if_pos h2];exact ⟨rfl,ht h2⟩
   ·rw[if_neg h2] at h |-;cases hf:iK c.vars fD with
    | none=>rw[hf] at h;exact absurd h (um (by decide))
    | some i =>
     dsimp only;have hi:=vo hf;refine ⟨rfl,hk.at hi,?_⟩;rw[mG,if_neg h1,if_neg h2];exact ⟨by omega,i,Oi hf,Oj hi⟩
 | ⟨op,n,fD,pl,own,none,some r⟩=>intro c W hw;exact hw.elim
 | ⟨op,n,fD,pl,own,some l,none⟩ =>
  intro c W hw ht hk h;rw[iC] at h |-;unfold qU at h |-;dsimp only at h |-;have hl:(iC l c).2.e=0/\isK (iC l c).1 98=true:=by
   split at h
   ·rename_i hi;exact ⟨h,hi⟩
   ·exact absurd h (um (by decide))
  obtain ⟨i1,i2,i3⟩:=EK l c W hw.2 ht hk hl.1;rw[if_pos hl.2];refine ⟨i1,ah rfl,?_⟩;rw[mG];rw[(Lc i2).1 hl.2] at i3;exact ⟨hw.1,rfl,i3⟩
 | ⟨op,n,fD,pl,own,some l,some r⟩ =>
  intro c W hw ht hk h;rw[iC] at h |-;obtain ⟨hop,hwl,hwr⟩:=hw;have hr0:(iC r (iC l c).2).2.e=0:=by
   unfold oh at h;split at h
   ·dsimp only at h;split at h
    ·exact absurd h (um (by decide))
    ·exact h
   ·dsimp only at h;split at h
    ·exact h
    ·exact absurd h (um (by decide))
  have hl0:(iC l c).2.e=0:=aR fun hn=>CG r _ hn hr0
  obtain ⟨i1,i2,i3⟩:=EK l c W hwl ht.1 hk hl0;rw[i1] at hr0 h |-;obtain ⟨j1,j2,j3⟩:=EK r c W hwr ht.2 hk hr0;unfold oh at h |-;by_cases ho:op=61\/op=35
  ·rw[if_pos ho] at h |-;dsimp only at h |-;split at h
   ·exact absurd h (um (by decide))
   ·rename_i hu;rw[if_neg hu,j1];refine ⟨rfl,ah rfl,?_⟩;rw[mG,if_pos ho]
    have:(iC l c).1=(iC r c).1:=by
     unfold uD at hu;simp only[aZ,bne_iff_ne,ne_eq,not_and,Decidable.not_not] at hu;omega
    exact ⟨rfl,_,i3,by rw[this];exact j3⟩
  ·rw[if_neg ho] at h |-;dsimp only at h |-;split at h
   ·rename_i hi;rw[if_pos hi,j1];rw[aZ,Lc i2,Lc j2] at hi;refine ⟨rfl,by split<;>omega,?_⟩
    rw[mG,if_neg ho];rw[hi.1] at i3;rw[hi.2] at j3;exact ⟨by omega,rfl,i3,j3⟩
   ·exact absurd h (um (by decide))
theorem UY (hk:K2 c.vars)(hk':k=105\/k=98)(h:(nP w p k c).e=0):c.e=0/\K2 (nP w p k c).vars/\(∃ m,(nP w p k c).vars=c.vars++m)/\∀ W,okV ((nP w p k c).vars++W) w k:=by
 have hc0:c.e=0:=aR fun hn=>CJ hn w p k h
 unfold nP at h |-;cases hf:iK c.vars w with
 | none =>
  simp only;refine ⟨hc0,?_,⟨[(w,k)],rfl⟩,?_⟩
  ·intro v hv;rw[bR,bq] at hv;rcases hv with hv | rfl
   ·exact hk v hv
   ·exact hk'
  ·intro W;refine ⟨c.vars.length,Oi (gS hf),?_⟩;rw[Oj (by simp)]
   unfold og;simp[List.getD_eq_getElem?_getD]
 | some i =>
  rw[hf] at h;simp only at h |-;have hi:=vo hf;split at h
  ·exact absurd h (um (by decide))
  ·rename_i hu;rw[if_neg hu];refine ⟨hc0,hk,⟨[],by simp⟩,fun W=>⟨i,Oi hf,?_⟩⟩
   rw[Oj hi]
   have:=hk.at hi
   unfold uD at hu;simp only[aZ,bne_iff_ne,ne_eq,not_and,Decidable.not_not] at hu;omega
theorem Ol {x:Option Ex}(hw:zh x)(ht:∀ e,x=some e->oN e)(hk:K2 c.vars)(h:(lQ x k c).e=0):c.e=0/\lQ x k c=c/\∀ W,okO (c.vars++W) x k:=by
 have hc0:c.e=0:=aR fun hn=>Lb hn x k h
 unfold lQ at h |-;cases x with
 | none=>exact ⟨hc0,rfl,fun W e he=>by cases he⟩
 | some e =>
  simp only at h |-;split at h
  ·rename_i hi;rw[if_pos hi];have hh:=fun W=>EK e c W (hw e rfl) (ht e rfl) hk h
   refine ⟨hc0,(hh []).1,fun W e' he=>?_⟩
   cases he;obtain ⟨_,i2,i3⟩:=hh W;rw[(Lc i2).1 hi] at i3;exact i3
  ·exact absurd h (um (by decide))
theorem Bc (l:List Sm):∀ (c:Lk),jM l->rO l->K2 c.vars->(iG l c).e=0->c.e=0/\K2 (iG l c).vars/\(∃ m,(iG l c).vars=c.vars++m)/\∀ W,mZ ((iG l c).vars++W) l:=by
 match l with
 | []=>intro c _ _ hk h;rw[iG] at h |-;exact ⟨h,hk,⟨[],by simp⟩,fun W=>UU _⟩
 | ⟨op,fD,pl,ex,gu,fZ,undo,n,gG,one,two⟩::rest =>
  intro c hw ht hk h;rw[Oh] at h |-;obtain ⟨⟨hw1,hw2⟩,hwo,hwt,hwr⟩:=zi.1 hw;obtain ⟨ht1,hto,Om,htr⟩:=UW.1 ht;dsimp only at hw1 hw2 hwo hwt ht1 hto Om;have hx:(vU ⟨op,fD,pl,ex,gu,fZ,undo,n,gG,one,two⟩ c).e=0:=aR fun hn=>vV rest _ hn h
  have key:c.e=0/\K2 (vU ⟨op,fD,pl,ex,gu,fZ,undo,n,gG,one,two⟩ c).vars/\(∃ m,(vU ⟨op,fD,pl,ex,gu,fZ,undo,n,gG,one,two⟩ c).vars=c.vars++m) /\
    ∀ W,zP ((vU ⟨op,fD,pl,ex,gu,fZ,undo,n,gG,one,two⟩ c).vars++W) op fD ex gu n/\(op=105\/op=116\/op=114->mZ ((vU ⟨op,fD,pl,ex,gu,fZ,undo,n,gG,one,two⟩ c).vars++W) one)/\(op=105\/op=116->mZ ((vU ⟨op,fD,pl,ex,gu,fZ,undo,n,gG,one,two⟩ c).vars++W) two):=by
   unfold vU at hx |-;dsimp only at hx |-;by_cases o1:op=108
   ·rw[if_pos o1] at hx |-;obtain ⟨e,rfl⟩:∃ e,ex=some e:=by
     cases ex with
     | none=>rcases hw2 with h | h | h | h | h | h<;>first | exact absurd rfl h.2 | omega
     | some e=>exact ⟨e,rfl⟩
    dsimp only at hx |-;have he0:(iC e c).2.e=0:=aR fun hn=>CJ hn _ _ _ hx
    obtain ⟨i1,i2,_⟩:=EK e c [] (hw1 e rfl) (ht1 e rfl) hk he0;have i3:=fun W=>(EK e c W (hw1 e rfl) (ht1 e rfl) hk he0).2.2
    rw[i1] at hx |-;obtain ⟨g1,g2,⟨m,g3⟩,g4⟩:=UY hk i2 hx;refine ⟨g1,g2,⟨m,g3⟩,fun W=>⟨ak ⟨o1,e,_,rfl,?_,g4 W,i2⟩,fun h=>by omega,fun h=>by omega⟩⟩
    rw[g3,aI];exact i3 _
   ·rw[if_neg o1] at hx |-;by_cases o2:op=99
    ·rw[if_pos o2] at hx |-;have hn:1<=n/\n<=5:=by
      by_cases hn:n < 1\/5 < n
      ·rw[if_pos hn] at hx;exact absurd hx (um (by decide))
      ·omega
     have hnn:¬ (n < 1\/5 < n):=by omega
     rw[if_neg hnn] at hx |-;by_cases ha:gu.toList.isEmpty
     ·rw[if_pos ha] at hx |-;obtain ⟨m1,m2,m3⟩:=Ol hw1 ht1 hk hx;rw[m2];refine ⟨m1,hk,⟨[],by simp⟩,fun W=>⟨ah (ak ⟨o2,m3 W,ak ?_,hn.1,hn.2⟩),fun h=>by omega,fun h=>by omega⟩⟩
      rw[dA,aN] at ha;exact aY.2 ha
     ·rw[if_neg ha] at hx |-;have hm0:(lQ ex 105 c).e=0:=aR fun hn=>CJ hn _ _ _ hx
      obtain ⟨m1,m2,m3⟩:=Ol hw1 ht1 hk hm0;rw[m2] at hx |-;obtain ⟨g1,g2,⟨m,g3⟩,g4⟩:=UY hk (ak rfl) hx;refine ⟨g1,g2,⟨m,g3⟩,fun W=>⟨ah (ak ⟨o2,?_,ah (g4 W),hn.1,hn.2⟩),fun h=>by omega,fun h=>by omega⟩⟩
      rw[g3,aI];exact m3 _
    ·rw[if_neg o2] at hx |-;by_cases o3:op=105
     ·rw[if_pos o3] at hx |-;have h1:(iG one (lQ ex 98 c)).e=0:=aR fun hn=>vV two _ hn hx
      have h0:(lQ ex 98 c).e=0:=aR fun hn=>vV one _ hn h1
      obtain ⟨m1,m2,m3⟩:=Ol hw1 ht1 hk h0;rw[m2] at hx h1 |-;obtain ⟨a1,a2,⟨ma,a3⟩,a4⟩:=Bc one c hwo hto hk h1;obtain ⟨b1,b2,⟨mb,b3⟩,b4⟩:=Bc two (iG one c) hwt Om a2 hx;obtain ⟨e,rfl⟩:∃ e,ex=some e:=by
       cases ex with
       | none=>rcases hw2 with h | h | h | h | h | h<;>first | exact absurd rfl h.2 | omega
       | some e=>exact ⟨e,rfl⟩
      refine ⟨m1,b2,⟨ma++mb,by rw[b3,a3,aI]⟩,fun W=>⟨ah (ah (ak ⟨o3,e,rfl,?_⟩)),fun _=>?_,fun _=>b4 W⟩⟩
      ·rw[b3,a3,aI,aI];exact m3 _ e rfl
      ·rw[b3,aI];exact a4 _
     ·rw[if_neg o3] at hx |-;by_cases o4:op=116
      ·rw[if_pos o4] at hx |-;have h1:(iG one c).e=0:=aR fun hn=>vV two _ hn hx
       obtain ⟨a1,a2,⟨ma,a3⟩,a4⟩:=Bc one c hwo hto hk h1;obtain ⟨b1,b2,⟨mb,b3⟩,b4⟩:=Bc two (iG one c) hwt Om a2 hx;refine ⟨a1,b2,⟨ma++mb,by rw[b3,a3,aI]⟩,fun W=>⟨ah (ah (ah (ak o4))),fun _=>?_,fun _=>b4 W⟩⟩
       rw[b3,aI];exact a4 _
      ·rw[if_neg o4] at hx |-;by_cases o5:op=114
       ·rw[if_pos o5] at hx |-;have hn:n<=9:=by
         by_cases hn:9 < n
         ·rw[if_pos hn] at hx;exact absurd hx (vV one _ (xV (by decide) _))
         ·omega
        rw[if_neg (by omega)] at hx |-
        obtain ⟨a1,a2,⟨ma,a3⟩,a4⟩:=Bc one c hwo hto hk hx;exact ⟨a1,a2,⟨ma,a3⟩,fun W=>⟨ah (ah (ah (ah (ak ⟨o5,hn⟩)))),fun _=>a4 W,fun h=>by omega⟩⟩
       ·rw[if_neg o5] at hx |-;refine ⟨hx,hk,⟨[],by simp⟩,fun W=>⟨ah (ah (ah (ah (ah ?_)))),fun h=>by omega,fun h=>by omega⟩⟩
        rcases hw2 with h | h | h | h | h | h<;>omega
  obtain ⟨k1,k2,⟨m,k3⟩,k4⟩:=key;obtain ⟨r1,r2,⟨m',r3⟩,r4⟩:=Bc rest _ hwr htr k2 h;refine ⟨k1,r2,⟨m++m',by rw[r3,k3,aI]⟩,fun W=>?_⟩
  rw[zQ];dsimp only;rw[r3,aI];obtain ⟨q1,q2,q3⟩:=k4 (m'++W);refine ⟨q1,q2,q3,?_⟩;rw[<- aI,<- r3];exact r4 W
structure Ins where
 k:Nat
 a:Nat
 b:Nat
structure Pg where
 fT:List fq
 nv:Nat
 ins:List Ins
structure Ms where
 st:List Int
 vars:List Int
 fU:List (Nat×Int)
 fP:List (Nat×Nat×Nat)
 fI:List Ask
 left:List Int
 fE:Nat
 fJ:Nat
 iZ:Bool
 fin:Nat
def iU (P:Pg)(i:Nat)(arg:Int)(most:Nat)(und:Bool)(m:Ms):Nat×Int×Ms :=
 match m.left with
 | []=>(2,0,{ m with fI:=m.fI++[⟨P.fT.getD i gM,arg,m.fJ+1,und⟩] })
 | v::r =>
  if v < 0/\m.fJ+1 < most then (3,0,{ m with fI:=m.fI++[⟨P.fT.getD i gM,arg,m.fJ+1,und⟩],left:=r,fJ:=m.fJ+1 })
  else if v < 0 then (1,0,{ m with fI:=m.fI++[⟨P.fT.getD i gM,arg,m.fJ+1,und⟩],left:=r,fJ:=0 })
  else (0,v,{ m with fI:=m.fI++[⟨P.fT.getD i gM,arg,m.fJ+1,und⟩],left:=r,fJ:=0 })
def vW (k:Nat)(a b:Int):Int :=
 if k=4 then wrap64 (a+b) else if k=5 then wrap64 (a - b) else if k=6 then wrap64 (a * b)
 else if k=8 then truth (decide (a < b)) else if k=9 then truth (decide (a=b)) else truth (decide (a≠b))
def jh (P:Pg)(i:Ins)(m:Ms):Nat×Ms :=
 if i.k=0 then (0,{ m with st:=(i.a:Int)::m.st })
 else if i.k=1 then (0,{ m with st:=m.vars.getD i.a 0::m.st })
 else if i.k=2 then (0,{ m with vars:=m.vars.set i.a (m.st.headD 0),st:=m.st.tail })
 else if i.k=3 then (0,{ m with st:=m.st.tail })
 else if i.k=7 then
  if m.st.headD 0=0 then (1,m) else (0,{ m with st:=wrap64 ((m.st.tail.headD 0).tdiv (m.st.headD 0))::m.st.tail.tail })
 else if i.k<=10 then (0,{ m with st:=vW i.k (m.st.tail.headD 0) (m.st.headD 0)::m.st.tail.tail })
 else if i.k=11 then (0,{ m with st:=truth (decide (m.st.headD 0=0))::m.st.tail })
 else if i.k=12 then (0,{ m with fE:=i.a })
 else if i.k=13 then (0,{ m with st:=m.st.tail,fE:=if m.st.headD 0=0 then i.a else m.fE })
 else if i.k=14 then
  if 0 < m.st.headD 0 then (0,{ m with st:=wrap64 (m.st.headD 0 - 1)::m.st.tail }) else (0,{ m with st:=m.st.tail,fE:=i.a })
 else if i.k=15 then (0,{ m with fP:=(m.fU.length,m.st.length,i.a)::m.fP })
 else if i.k=16 then (0,{ m with fP:=m.fP.tail,fE:=i.a })
 else if i.k=17 then (1,m)
 else if i.k=18 then
  match iU P i.a (m.st.headD 0) i.b false m with
  | (0,v,m')=>(0,{ m' with st:=v::m'.st.tail })
  | (e,_,m')=>(e,m')
 else (0,{ m with fU:=(i.a,m.st.headD 0)::m.fU })
def pG (m:Ms):Nat :=
 match m.fP with
 | []=>0
 | b::_=>b.1
def kU (P:Pg)(m:Ms):Nat×Ms :=
 match m.fU with
 | []=>behind
 | u::r =>
  if m.fU.length=pG m then behind
  else
   match iU P u.1 u.2 3 true m with
   | (0,_,m')=>(0,{ m' with fU:=r })
   | (1,_,m')=>(4,m')
   | (e,_,m')=>(e,m')
where
 behind:Nat×Ms :=
  match m.fP with
  | []=>(0,{ m with iZ:=false,fin:=2 })
  | b::r=>(0,{ m with iZ:=false,fP:=r,st:=m.st.drop (m.st.length - b.2.1),fE:=b.2.2 })
def jE (P:Pg)(m:Ms):Nat×Ms :=
 if m.iZ then kU P m
 else
  match P.ins[m.fE]? with
  | none=>(0,{ m with fin:=1 })
  | some i =>
   match jh P i { m with fE:=m.fE+1 } with
   | (0,m')=>(0,m')
   | (e,m')=>(e,{ m' with fE:=m.fE })
def mP (P:Pg)(m:Ms):Bool×Ms :=
 match jE P m with
 | (0,m')=>(decide (m'.fin≠0),m')
 | (1,m')=>(decide (m'.fin≠0),{ m' with iZ:=true })
 | (2,m')=>(true,m')
 | (3,m')=>(decide (m'.fin≠0),m')
 | (_,m')=>(true,{ m' with fin:=3 })
def runM (P:Pg):Nat->Ms->Nat×Ms
 | 0,m=>(4,m)
 | n+1,m=>if (mP P m).1 then ((mP P m).2.fin,(mP P m).2) else runM P n (mP P m).2
def jY (P:Pg):Nat->Ms->Option Ms
 | 0,m=>some m
 | n+1,m=>if (mP P m).1 then none else jY P n (mP P m).2
variable {P:Pg}{m m' m1:Ms}
theorem oO {a b:Nat}{m2:Ms}(h:jY P a m=some m1)(k:jY P b m1=some m2):jY P (a+b) m=some m2:=by
 induction a generalizing m with
 | zero=>cases h;simpa using k
 | succ a ih =>
  rw[jY] at h;rw[show a+1+b=(a+b)+1 by omega,jY]
  split at h
  ·cases h
  ·rename_i hs;rw[if_neg hs];exact ih h
theorem Bf (h:mP P m=(false,m1)):jY P 1 m=some m1:=by
 rw[jY,h]<;>rfl
theorem hY {a:Nat}(h:jY P a m=some m1)(hn:a<=n):runM P n m=runM P (n - a) m1:=by
 induction a generalizing m n with
 | zero=>cases h;rfl
 | succ a ih =>
  obtain ⟨n,rfl⟩:∃ k,n=k+1:=⟨n - 1,by omega⟩
  rw[jY] at h;split at h
  ·cases h
  ·rename_i hs;rw[runM,if_neg hs,ih h (by omega)]
   congr 1;omega
theorem hZ (h:mP P m=(true,m1))(hn:0 < n):runM P n m=(m1.fin,m1):=by
 obtain ⟨n,rfl⟩:∃ k,n=k+1:=⟨n - 1,by omega⟩
 rw[runM,h]<;>rfl
def fM:List fq->fq->Nat
 | [],_=>0
 | v::r,w=>if v.toList == w.toList then 0 else fM r w+1
def pR (op:Nat):Nat:=if op=43 then 4 else if op=45 then 5 else if op=42 then 6 else if op=47 then 7 else if op=60 then 8 else if op=61 then 9 else 10
def jo (iv:fq->Nat):Ex->List Ins
 | ⟨op,n,fD,_,_,none,_⟩=>if op=119 then [⟨1,iv fD,0⟩] else [⟨0,n,0⟩]
 | ⟨_,_,_,_,_,some l,none⟩=>jo iv l++[⟨11,0,0⟩]
 | ⟨op,_,_,_,_,some l,some r⟩=>jo iv l++jo iv r++[⟨pR op,0,0⟩]
def lu (iv:fq->Nat)(x:Option Ex):List Ins :=
 match x with
 | none=>[⟨0,0,0⟩]
 | some e=>jo iv e
def wS (iw iv:fq->Nat)(fD:fq)(ex:Option Ex)(gu undo:fq)(n:Nat):List Ins :=
 lu iv ex++([⟨18,iw fD,n⟩]++((if undo.size=0 then [] else [⟨19,iw undo,0⟩])++[if gu.size=0 then ⟨3,0,0⟩ else ⟨2,iv gu,0⟩]))
def mkS (iw iv:fq->Nat):List Sm->Nat->List Ins
 | [],_=>[]
 | ⟨op,fD,_,ex,gu,_,undo,n,_,one,two⟩::rest,p =>
  let c :=
   if op=108 then lu iv ex++[⟨2,iv fD,0⟩]
   else if op=99 then wS iw iv fD ex gu undo n
   else if op=105 then
    let x:=lu iv ex
    let a:=mkS iw iv one (p+x.length+1)
    if two.isEmpty then x++([⟨13,p+x.length+1+a.length,0⟩]++a)
    else
     let b:=mkS iw iv two (p+x.length+1+a.length+1)
     x++([⟨13,p+x.length+1+a.length+1,0⟩]++(a++([⟨12,p+x.length+1+a.length+1+b.length,0⟩]++b)))
   else if op=116 then
    let a:=mkS iw iv one (p+1)
    let b:=mkS iw iv two (p+1+a.length+1)
    [⟨15,p+1+a.length+1,0⟩]++(a++([⟨16,p+1+a.length+1+b.length,0⟩]++b))
   else if op=114 then
    let a:=mkS iw iv one (p+2)
    [⟨0,n,0⟩]++([⟨14,p+2+a.length+1,0⟩]++(a++[⟨12,p+1,0⟩]))
   else [⟨17,0,0⟩]
  c++mkS iw iv rest (p+c.length)
def kE (iw iv:fq->Nat)(x:Sm)(p:Nat):List Ins :=
 if x.op=108 then lu iv x.ex++[⟨2,iv x.fD,0⟩]
 else if x.op=99 then wS iw iv x.fD x.ex x.gu x.undo x.n
 else if x.op=105 then
  let c:=lu iv x.ex
  let a:=mkS iw iv x.one (p+c.length+1)
  if x.two.isEmpty then c++([⟨13,p+c.length+1+a.length,0⟩]++a)
  else
   let b:=mkS iw iv x.two (p+c.length+1+a.length+1)
   c++([⟨13,p+c.length+1+a.length+1,0⟩]++(a++([⟨12,p+c.length+1+a.length+1+b.length,0⟩]++b)))
 else if x.op=116 then
  let a:=mkS iw iv x.one (p+1)
  let b:=mkS iw iv x.two (p+1+a.length+1)
  [⟨15,p+1+a.length+1,0⟩]++(a++([⟨16,p+1+a.length+1+b.length,0⟩]++b))
 else if x.op=114 then
  let a:=mkS iw iv x.one (p+2)
  [⟨0,x.n,0⟩]++([⟨14,p+2+a.length+1,0⟩]++(a++[⟨12,p+1,0⟩]))
 else [⟨17,0,0⟩]
theorem EL (iw iv:fq->Nat)(p:Nat):mkS iw iv [] p=[]:=by rw[mkS]
theorem CK (iw iv:fq->Nat)(x:Sm)(l:List Sm)(p:Nat):mkS iw iv (x::l) p=kE iw iv x p++mkS iw iv l (p+(kE iw iv x p).length):=by
 obtain ⟨op,fD,pl,ex,gu,fZ,undo,n,gG,one,two⟩:=x;rw[mkS.eq_def]
 all_goals rfl
def iY:Ex->Nat
 | ⟨_,_,_,_,_,none,_⟩=>1
 | ⟨_,_,_,_,_,some l,none⟩=>iY l+1
 | ⟨_,_,_,_,_,some l,some r⟩=>iY l+iY r+1
def jA (x:Option Ex):Nat :=
 match x with
 | none=>1
 | some e=>iY e
def kL:List Sm->Nat
 | []=>0
 | ⟨op,_,_,ex,_,_,undo,n,_,one,two⟩::rest =>
  (if op=108 then jA ex+1
   else if op=99 then jA ex+n+(if undo.size=0 then 0 else 4)+1
   else if op=105 then jA ex+2+kL one+kL two
   else if op=116 then 3+kL one+kL two
   else if op=114 then 2+n * (kL one+2)
   else 1)+kL rest
def pU (x:Sm):Nat :=
 if x.op=108 then jA x.ex+1
 else if x.op=99 then jA x.ex+x.n+(if x.undo.size=0 then 0 else 4)+1
 else if x.op=105 then jA x.ex+2+kL x.one+kL x.two
 else if x.op=116 then 3+kL x.one+kL x.two
 else if x.op=114 then 2+x.n * (kL x.one+2)
 else 1
theorem Oo:kL []=0:=by rw[kL]
theorem UZ (x:Sm)(l:List Sm):kL (x::l)=pU x+kL l:=by
 obtain ⟨op,fD,pl,ex,gu,fZ,undo,n,gG,one,two⟩:=x;rw[kL]
 all_goals rfl
def jc (P:Pg)(p:Nat)(c:List Ins):Prop:=∀ j,j < c.length->P.ins[p+j]?=c[j]?
variable {a b:List Ins}
theorem jc.left (h:jc P p (a++b)):jc P p a:=fun j hj=>by
 rw[h j (by simp;omega),aQ hj]
theorem jc.right (h:jc P p (a++b)):jc P (p+a.length) b:=fun j hj=>by
 rw[dN,h (a.length+j) (by simp;omega),aJ (by omega),Nat.add_sub_cancel_left]
theorem jc.head {i:Ins}(h:jc P p (i::b)):P.ins[p]?=some i:=by
 have:=h 0 (by simp)
 simpa using this
theorem jc.one {i:Ins}(h:jc P p [i]):P.ins[p]?=some i:=h.head
theorem Oq {i:Ins}(hi:P.ins[m.fE]?=some i)(hu:m.iZ=false):jE P m=match jh P i { m with fE:=m.fE+1 } with
  | (0,m')=>(0,m')
  | (e,m')=>(e,{ m' with fE:=m.fE }):=by
 unfold jE;rw[if_neg (by simp[hu]),hi]
 all_goals rfl
theorem step_ok {i:Ins}(hi:P.ins[m.fE]?=some i)(hu:m.iZ=false)(hd:jh P i { m with fE:=m.fE+1 }=(0,m'))(hf:m'.fin=0):jY P 1 m=some m':=by
 refine Bf ?_;unfold mP;rw[Oq hi hu,hd];simp only[hf];rfl
theorem U0 {i:Ins}(hi:P.ins[m.fE]?=some i)(hu:m.iZ=false)(hd:jh P i { m with fE:=m.fE+1 }=(1,m'))(hf:m'.fin=0):jY P 1 m=some { m' with fE:=m.fE,iZ:=true }:=by
 refine Bf ?_;unfold mP;rw[Oq hi hu,hd];simp only[hf];rfl
theorem uH (iv:fq->Nat)(x:Ex):(jo iv x).length=iY x:=by
 match x with
 | ⟨op,n,fD,pl,own,none,_⟩=>rw[jo,iY];split<;>rfl
 | ⟨op,n,fD,pl,own,some l,none⟩=>rw[jo,iY,ay,uH iv l];rfl
 | ⟨op,n,fD,pl,own,some l,some r⟩=>rw[jo,iY,ay,ay,uH iv l,uH iv r];rfl
structure EM (V:Vs)(held:List Int):Prop where
 len:held.length=V.length
 tr:∀ i,i < V.length->og V i=98->held.getD i 0=0\/held.getD i 0=1
theorem U3 (b:Bool):truth b=0\/truth b=1:=by cases b<;>simp[truth]
theorem GL {op:Nat}(h:op=42\/op=43\/op=45\/op=60\/op=61\/op=35)(a b:Int):op2 op a b=some (vW (pR op) a b)/\pR op<=10/\pR op≠7/\4<=pR op:=by
 rcases h with rfl | rfl | rfl | rfl | rfl | rfl<;>simp[op2,vW,pR]
variable {S r vars:List Int}
theorem iS {x y:Nat}(h1:4<=k)(h2:k<=10)(h3:k≠7){a b:Int}(hs:m.st=b::a::r):jh P ⟨k,x,y⟩ m=(0,{ m with st:=vW k a b::r }):=by
 unfold jh;rw[if_neg (by dsimp only;omega),if_neg (by dsimp only;omega),if_neg (by dsimp only;omega),if_neg (by dsimp only;omega),if_neg (by dsimp only;omega),if_pos (by dsimp only;omega),hs]
 rfl
theorem Ld (P:Pg)(V:Vs)(iv:fq->Nat)(hiv:∀ w i,iK V w=some i->iv w=i)(x:Ex):∀ (k:Nat) (m:Ms),mG V x k->EM V m.vars->m.iZ=false->m.fin=0->jc P m.fE (jo iv x) ->
  (∀ v,lK V m.vars x=some v->jY P (iY x) m=some { m with st:=v::m.st,fE:=m.fE+iY x }/\(k=98->v=0\/v=1)) /\
  (lK V m.vars x=none->∃ n t q,n<=iY x/\jY P n m=some { m with st:=t++m.st,fE:=q,iZ:=true }):=by
 match x with
 | ⟨op,n,fD,pl,own,none,r⟩ =>
  intro k m hk hty hu hf hc;rw[jo] at hc;rw[lK,iY];rw[mG] at hk;by_cases h1:op=110
  ·rw[if_pos h1] at hk;rw[if_neg (by omega)] at hc |-
   refine ⟨fun v hv=>?_,fun h=>(by cases h)⟩
   cases hv;refine ⟨step_ok hc.one hu rfl hf,fun h=>by omega⟩
  ·rw[if_neg h1] at hk;by_cases h2:op=116
   ·rw[if_pos h2] at hk;rw[if_neg (by omega)] at hc |-
    refine ⟨fun v hv=>?_,fun h=>(by cases h)⟩
    cases hv;exact ⟨step_ok hc.one hu rfl hf,fun h=>by have:=hk.2;omega⟩
   ·rw[if_neg h2] at hk;obtain ⟨h3,i,hi,hki⟩:=hk;rw[if_pos h3] at hc |-;refine ⟨fun v hv=>?_,fun h=>(by cases h)⟩
    cases hv;have hlt:=vo hi;refine ⟨?_,fun h=>?_⟩
    ·have e:GK V m.vars fD=m.vars.getD (iv fD) 0:=by unfold GK;rw[hi,hiv _ _ hi]
     rw[e];exact step_ok hc.one hu rfl hf
    ·unfold GK;rw[hi];exact hty.tr i hlt (by omega)
 | ⟨op,n,fD,pl,own,some l,none⟩ =>
  intro k m hk hty hu hf hc;rw[jo] at hc;rw[lK,iY];rw[mG] at hk;obtain ⟨i1,i2⟩:=Ld P V iv hiv l 98 m hk.2.2 hty hu hf hc.left;constructor
  ·intro v hv;cases he:lK V m.vars l with
   | none=>rw[he] at hv;cases hv
   | some a =>
    rw[he] at hv;cases hv;dsimp only;obtain ⟨j1,j2⟩:=i1 a he;have hr:=hc.right;rw[uH] at hr;have e1:truth (decide (a=0))=wrap64 (1 - a):=by
     rcases j2 rfl with rfl | rfl<;>simp[truth,wrap64]
    refine ⟨oO j1 (step_ok (m':={ m with st:=wrap64 (1 - a)::m.st,fE:=m.fE+(iY l+1) }) hr.one hu ?_ hf),fun _=>?_⟩
    ·rw[<- e1]<;>rfl
    ·rw[<- e1];exact U3 _
  ·intro hv;cases he:lK V m.vars l with
   | some a=>rw[he] at hv;cases hv
   | none =>
    obtain ⟨n',t,q,h1,h2⟩:=i2 he;exact ⟨n',t,q,by omega,h2⟩
 | ⟨op,n,fD,pl,own,some l,some r⟩ =>
  intro k m hk hty hu hf hc;rw[jo] at hc;rw[lK,iY];rw[mG] at hk;obtain ⟨kl,kr,hkl,hkr⟩:∃ kl kr,mG V l kl/\mG V r kr:=by
   split at hk
   ·obtain ⟨_,j,h1,h2⟩:=hk;exact ⟨j,j,h1,h2⟩
   ·exact ⟨105,105,hk.2.2.1,hk.2.2.2⟩
  obtain ⟨i1,i2⟩:=Ld P V iv hiv l kl m hkl hty hu hf hc.left.left;cases hl:lK V m.vars l with
  | none =>
   refine ⟨fun v hv=>(by cases hv),fun _=>?_⟩
   obtain ⟨n',t,q,h1,h2⟩:=i2 hl;exact ⟨n',t,q,by omega,h2⟩
  | some a =>
   obtain ⟨a1,_⟩:=i1 a hl;have hcr:=hc.left.right;rw[uH] at hcr;obtain ⟨j1,j2⟩:=Ld P V iv hiv r kr { m with st:=a::m.st,fE:=m.fE+iY l } hkr hty hu hf hcr
   cases hr:lK V m.vars r with
   | none =>
    refine ⟨fun v hv=>(by cases hv),fun _=>?_⟩
    obtain ⟨n',t,q,h1,h2⟩:=j2 hr;refine ⟨iY l+n',t++[a],q,by omega,?_⟩
    have:=oO a1 h2
    simpa using this
   | some b =>
    obtain ⟨b1,_⟩:=j1 b hr;have hco:=hc.right;rw[ay,uH,uH] at hco;have ab:=oO a1 b1;dsimp only at ab |-;by_cases hdv:op=47
    ·have hko:pR op=7:=by rw[hdv]<;>rfl
     rw[hko] at hco;have hop2:op2 op a b=if b=0 then none else some (wrap64 (a.tdiv b)):=by rw[hdv]<;>rfl
     rw[hop2];by_cases hb:b=0
     ·rw[if_pos hb];refine ⟨fun v hv=>(by cases hv),fun _=>?_⟩
      refine ⟨iY l+iY r+1,[b,a],m.fE+iY l+iY r,by omega,oO ab ?_⟩
      have hd:jh P ⟨7,0,0⟩ { m with st:=b::a::m.st,fE:=m.fE+iY l+iY r+1 }=(1,{ m with st:=b::a::m.st,fE:=m.fE+iY l+iY r+1 }):=by
       unfold jh;simp[hb]
      exact U0 (m:={ m with st:=b::a::m.st,fE:=m.fE+iY l+iY r }) (by rw[<- dN] at hco;exact hco.one) hu hd hf
     ·rw[if_neg hb];refine ⟨fun v hv=>?_,fun h=>(by cases h)⟩
      cases hv;refine ⟨oO ab ?_,fun kA=>?_⟩
      ·refine step_ok (m:={ m with st:=b::a::m.st,fE:=m.fE+iY l+iY r }) (by rw[<- dN] at hco;exact hco.one) hu ?_ hf
       unfold jh;simp[hb];omega
      ·rw[if_neg (by omega)] at hk
       have:=hk.2.1
       rw[if_neg (by omega)] at this
       omega
    ·have hops:op=42\/op=43\/op=45\/op=60\/op=61\/op=35:=by
      split at hk
      ·omega
      ·have:=hk.1;omega
     obtain ⟨o1,o2,o3,o4⟩:=GL hops a b;rw[o1];refine ⟨fun v hv=>?_,fun h=>(by cases h)⟩
     cases hv;refine ⟨oO ab ?_,fun kA=>?_⟩
     ·refine step_ok (m:={ m with st:=b::a::m.st,fE:=m.fE+iY l+iY r }) (by rw[<- dN] at hco;exact hco.one) hu ?_ hf
      rw[iS o4 o2 o3 rfl];simp;omega
     ·have h3:op=60\/op=61\/op=35:=by
       split at hk
       ·omega
       ·have h4:=hk.2.1;split at h4<;>omega
      rcases h3 with rfl | rfl | rfl<;>simp only[pR,vW]<;>exact U3 _
theorem U4 (w:fq)(v:Int)(u:Bool)(k:Nat):∀ t s,∃ a l q,(tries w v u k t s).2={ s with fI:=a,left:=l,stop:=q }/\((tries w v u k t s).1≠none->q=s.stop)/\((tries w v u k t s).1=none->q=true):=by
 induction k with
 | zero=>intro t s;exact ⟨s.fI,s.left,s.stop,rfl,fun _=>rfl,fun h=>by cases h⟩
 | succ k ih =>
  intro t s;unfold tries ask;cases hl:s.left with
  | nil=>exact ⟨s.fI++[⟨w,v,t,u⟩],[],true,rfl,fun h=>absurd rfl h,fun _=>rfl⟩
  | cons x r =>
   simp only;split
   ·exact ⟨_,r,s.stop,rfl,fun _=>rfl,fun h=>by cases h⟩
   ·obtain ⟨a,l,q,h1,h2,h3⟩:=ih (t+1) { s with fI:=s.fI++[⟨w,v,t,u⟩],left:=r }
    exact ⟨a,l,q,h1,h2,h3⟩
def lC (P:Pg)(m:Ms)(n f:Nat)(fI:List Ask)(vars:List Int):Prop:=∃ k m1 m2,jY P k m=some m1/\mP P m1=(true,m2)/\m2.fin=f/\m2.fI=fI/\m2.vars=vars/\k+1<=n
variable {fI:List Ask}
theorem lC.after {f:Nat}(hk:jY P k m=some m1)(h:lC P m1 n f fI vars)(hn:k+n<=N):lC P m N f fI vars:=by
 obtain ⟨j,a,b,h1,h2,h3,h4,h6,h5⟩:=h;exact ⟨k+j,a,b,oO hk h1,h2,h3,h4,h6,by omega⟩
theorem lC.mono {f:Nat}(h:lC P m n f fI vars)(hn:n<=N):lC P m N f fI vars:=by
 obtain ⟨j,a,b,h1,h2,h3,h4,h6,h5⟩:=h;exact ⟨j,a,b,h1,h2,h3,h4,h6,by omega⟩
variable {arg v:Int}{und:Bool}
theorem U5 (h:m.left=[]):iU P i arg most und m=(2,0,{ m with fI:=m.fI++[⟨P.fT.getD i gM,arg,m.fJ+1,und⟩] }):=by
 unfold iU;rw[h]
theorem U6 (h:m.left=v::r)(hv:0<=v):iU P i arg most und m=(0,v,{ m with fI:=m.fI++[⟨P.fT.getD i gM,arg,m.fJ+1,und⟩],left:=r,fJ:=0 }):=by
 unfold iU;rw[h];simp only;rw[if_neg (by omega),if_neg (by omega)]
theorem U7 (h:m.left=v::r)(hv:v < 0)(ht:m.fJ+1 < most):iU P i arg most und m=(3,0,{ m with fI:=m.fI++[⟨P.fT.getD i gM,arg,m.fJ+1,und⟩],left:=r,fJ:=m.fJ+1 }):=by
 unfold iU;rw[h];simp only;rw[if_pos ⟨hv,ht⟩]
theorem U8 (h:m.left=v::r)(hv:v < 0)(ht:¬ m.fJ+1 < most):iU P i arg most und m=(1,0,{ m with fI:=m.fI++[⟨P.fT.getD i gM,arg,m.fJ+1,und⟩],left:=r,fJ:=0 }):=by
 unfold iU;rw[h];simp only;rw[if_neg (by omega),if_pos hv]
theorem kB (P:Pg)(i n:Nat)(m:Ms):jh P ⟨18,i,n⟩ m=match iU P i (m.st.headD 0) n false m with
  | (0,v,m')=>(0,{ m' with st:=v::m'.st.tail })
  | (e,_,m')=>(e,m'):=rfl
theorem kO (P:Pg)(i N:Nat)(fD:fq)(arg:Int)(hw:P.fT.getD i gM=fD)(k:Nat):∀ (m:Ms) (s:Rs),P.ins[m.fE]?=some ⟨18,i,N⟩->m.iZ=false->m.fin=0->m.st.headD 0=arg->m.left=s.left->m.fI=s.fI->N=m.fJ+k->0 < k ->
  ((tries fD arg false k (m.fJ+1) s).1=none->lC P m k 0 (tries fD arg false k (m.fJ+1) s).2.fI m.vars) /\
  ((tries fD arg false k (m.fJ+1) s).1=some none->∃ j,j<=k/\jY P j m=some { m with fI:=(tries fD arg false k (m.fJ+1) s).2.fI,left:=(tries fD arg false k (m.fJ+1) s).2.left,fJ:=0,iZ:=true }) /\
  (∀ v,(tries fD arg false k (m.fJ+1) s).1=some (some v)->∃ j,j<=k/\jY P j m=some { m with fI:=(tries fD arg false k (m.fJ+1) s).2.fI,left:=(tries fD arg false k (m.fJ+1) s).2.left,fJ:=0,st:=v::m.st.tail,fE:=m.fE+1 }):=by
 induction k with
 | zero=>intro m s _ _ _ _ _ _ _ h;omega
 | succ k ih =>
  intro m s hi hu hf hst hl ha hN _;have hs:=Oq hi hu;rw[kB] at hs;unfold tries ask;cases hsl:s.left with
  | nil =>
   rw[hsl] at hl;rw[U5 (m:={ m with fE:=m.fE+1 }) hl] at hs
   refine ⟨fun _=>⟨0,m,{ m with fI:=m.fI++[⟨fD,arg,m.fJ+1,false⟩] },rfl,?_,hf,?_,rfl,by omega⟩,fun h=>(by cases h),fun v h=>(by cases h)⟩
   ·unfold mP;rw[hs,hw];simp only[hst]
   ·rw[ha]
  | cons x r =>
   rw[hsl] at hl;simp only;by_cases hx:0<=x
   ·rw[if_pos hx];rw[U6 (m:={ m with fE:=m.fE+1 }) hl hx] at hs
    refine ⟨fun h=>(by cases h),fun h=>(by cases h),fun v h=>?_⟩
    cases h;refine ⟨1,by omega,Bf ?_⟩
    unfold mP;rw[hs,hw];simp only[hst,hf,ha];rfl
   ·rw[if_neg hx];by_cases hk:k=0
    ·subst hk;rw[U8 (m:={ m with fE:=m.fE+1 }) hl (by omega) (by dsimp only;omega)] at hs
     unfold tries;refine ⟨fun h=>(by cases h),fun _=>⟨1,by omega,Bf ?_⟩,fun v h=>(by cases h)⟩
     unfold mP;rw[hs,hw];simp only[hst,hf,ha];rfl
    ·rw[U7 (m:={ m with fE:=m.fE+1 }) hl (by omega) (by dsimp only;omega)] at hs
     have h1:jY P 1 m=some { m with fI:=s.fI++[⟨fD,arg,m.fJ+1,false⟩],left:=r,fJ:=m.fJ+1 }:=by
      refine Bf ?_;unfold mP;rw[hs,hw];simp only[hst,hf,ha];rfl
     obtain ⟨g1,g2,g3⟩:=ih { m with fI:=s.fI++[⟨fD,arg,m.fJ+1,false⟩],left:=r,fJ:=m.fJ+1 } { s with fI:=s.fI++[⟨fD,arg,m.fJ+1,false⟩],left:=r } hi hu hf hst rfl rfl (by dsimp only;omega) (by omega)
     dsimp only at g1 g2 g3;refine ⟨fun h=>(g1 h).after h1 (by omega),fun h=>?_,fun v h=>?_⟩
     ·obtain ⟨j,hj,hh⟩:=g2 h;exact ⟨1+j,by omega,oO h1 hh⟩
     ·obtain ⟨j,hj,hh⟩:=g3 v h;exact ⟨1+j,by omega,oO h1 hh⟩
theorem Ot {u:Nat×Int}{r:List (Nat×Int)}(hu:m.iZ=true)(hm:m.fU=u::r)(hfl:pG m < m.fU.length):jE P m=match iU P u.1 u.2 3 true m with
   | (0,_,m')=>(0,{ m' with fU:=r })
   | (1,_,m')=>(4,m')
   | (e,_,m')=>(e,m'):=by
 unfold jE kU;rw[if_pos hu];split
 ·rename_i h;rw[hm] at h;cases h
 ·rename_i u' r' h;rw[hm] at h;cases h;rw[if_neg (by omega)]
  all_goals rfl
theorem lA (P:Pg)(fD:fq)(u:Nat×Int)(r:List (Nat×Int))(hw:P.fT.getD u.1 gM=fD)(k:Nat):∀ (m:Ms) (s:Rs),m.iZ=true->m.fU=u::r->pG m < m.fU.length->m.fin=0->m.left=s.left->m.fI=s.fI->3=m.fJ+k->0 < k ->
  ((tries fD u.2 true k (m.fJ+1) s).1=none->lC P m k 0 (tries fD u.2 true k (m.fJ+1) s).2.fI m.vars) /\
  ((tries fD u.2 true k (m.fJ+1) s).1=some none->lC P m k 3 (tries fD u.2 true k (m.fJ+1) s).2.fI m.vars) /\
  (∀ v,(tries fD u.2 true k (m.fJ+1) s).1=some (some v)->∃ j,j<=k/\jY P j m=some { m with fI:=(tries fD u.2 true k (m.fJ+1) s).2.fI,left:=(tries fD u.2 true k (m.fJ+1) s).2.left,fJ:=0,fU:=r }):=by
 induction k with
 | zero=>intro m s _ _ _ _ _ _ _ h;omega
 | succ k ih =>
  intro m s hu hm hfl hf hl ha hN _;have hs:=Ot (P:=P) hu hm hfl;unfold tries ask;cases hsl:s.left with
  | nil =>
   rw[hsl] at hl;rw[U5 hl] at hs;refine ⟨fun _=>⟨0,m,{ m with fI:=m.fI++[⟨fD,u.2,m.fJ+1,true⟩] },rfl,?_,hf,?_,rfl,by omega⟩,fun h=>(by cases h),fun v h=>(by cases h)⟩
   ·unfold mP;rw[hs,hw]
    all_goals rfl
   ·rw[ha]
  | cons x q =>
   rw[hsl] at hl;simp only;by_cases hx:0<=x
   ·rw[if_pos hx];rw[U6 hl hx] at hs;refine ⟨fun h=>(by cases h),fun h=>(by cases h),fun v h=>⟨1,by omega,Bf ?_⟩⟩
    unfold mP;rw[hs,hw];simp only[hf,ha];rfl
   ·rw[if_neg hx];by_cases hk:k=0
    ·subst hk;rw[U8 hl (by omega) (by omega)] at hs
     unfold tries;refine ⟨fun h=>(by cases h),fun _=>⟨0,m,{ m with fI:=m.fI++[⟨fD,u.2,m.fJ+1,true⟩],left:=q,fJ:=0,fin:=3 },rfl,?_,rfl,?_,rfl,by omega⟩,fun v h=>(by cases h)⟩
     ·unfold mP;rw[hs,hw]
      all_goals rfl
     ·rw[ha]
    ·rw[U7 hl (by omega) (by omega)] at hs
     have h1:jY P 1 m=some { m with fI:=s.fI++[⟨fD,u.2,m.fJ+1,true⟩],left:=q,fJ:=m.fJ+1 }:=by
      refine Bf ?_;unfold mP;rw[hs,hw];simp only[hf,ha];rfl
     obtain ⟨g1,g2,g3⟩:=ih { m with fI:=s.fI++[⟨fD,u.2,m.fJ+1,true⟩],left:=q,fJ:=m.fJ+1 } { s with fI:=s.fI++[⟨fD,u.2,m.fJ+1,true⟩],left:=q } hu hm hfl hf rfl rfl (by dsimp only;omega) (by omega)
     dsimp only at g1 g2 g3;refine ⟨fun h=>(g1 h).after h1 (by omega),fun h=>(g2 h).after h1 (by omega),fun v h=>?_⟩
     obtain ⟨j,hj,hh⟩:=g3 v h;exact ⟨1+j,by omega,oO h1 hh⟩
def lM (P:Pg)(u:Nat×Int):fq×Int:=(P.fT.getD u.1 gM,u.2)
theorem U9 (P:Pg)(L:List (Nat×Int)):∀ (r:List (Nat×Int)) (m:Ms) (s:Rs),m.iZ=true->m.fU=L++r->pG m=r.length->m.fin=0->m.left=s.left->m.fI=s.fI->m.fJ=0->s.over=0->s.stop=false ->
  ((l9 (L.map (lM P)) s).over≠0\/(l9 (L.map (lM P)) s).stop=true->lC P m (3 * L.length) (l9 (L.map (lM P)) s).over (l9 (L.map (lM P)) s).fI m.vars) /\
  ((l9 (L.map (lM P)) s).over=0->(l9 (L.map (lM P)) s).stop=false->∃ j,j<=3 * L.length/\jY P j m=some { m with fI:=(l9 (L.map (lM P)) s).fI,left:=(l9 (L.map (lM P)) s).left,fU:=r }) /\
  (∃ a l o q,l9 (L.map (lM P)) s={ s with fI:=a,left:=l,over:=o,stop:=q }):=by
 induction L with
 | nil =>
  intro r m s hu hm hfl hf hl ha ht ho hs;rw[List.map_nil,l9];refine ⟨fun h=>?_,fun _ _=>⟨0,by simp,?_⟩,s.fI,s.left,s.over,s.stop,rfl⟩
  ·rw[ho,hs] at h;simp at h
  ·rw[jY,<- hl,<- ha];simp only[dh] at hm;rw[<- hm]
 | cons u L ih =>
  intro r m s hu hm hfl hf hl ha ht ho hs;rw[eF];have hm':m.fU=u::(L++r):=hm;have hlt:pG m < m.fU.length:=by rw[hfl,hm'];simp;omega
  obtain ⟨g1,g2,g3⟩:=lA P (P.fT.getD u.1 gM) u (L++r) rfl 3 m s hu hm' hlt hf hl ha (by omega) (by omega)
  rw[ht] at g1 g2 g3;obtain ⟨a,l,q,f1,f2,f3⟩:=U4 (P.fT.getD u.1 gM) u.2 true 3 1 s;rw[lM,l9];cases htr:tries (P.fT.getD u.1 gM) u.2 true 3 1 s with
  | mk o s1 =>
   rw[htr] at f1 f2 f3 g1 g2 g3;dsimp only at f1 f2 f3 g1 g2 g3;subst f1;match o with
   | none =>
    simp only;rw[f3 rfl] at g1 |-;refine ⟨fun _=>?_,fun _ h=>(by cases h),a,l,s.over,true,rfl⟩
    have:=(g1 rfl).mono (N:=3 * (u::L).length) (by simp;omega)
    rw[ho];exact this
   | some none =>
    simp only;rw[f2 (by simp)] at g2 |-
    refine ⟨fun _=>(g2 rfl).mono (by simp;omega),fun h=>(by cases h),a,l,3,s.stop,rfl⟩
   | some (some v) =>
    simp only;rw[f2 (by simp)] at g3 |-
    obtain ⟨j,hj,hh⟩:=g3 v rfl;dsimp only at hh;obtain ⟨e1,e2,a',l',o',q',e3⟩:=ih r { m with fI:=a,left:=l,fJ:=0,fU:=L++r } { s with fI:=a,left:=l } hu rfl hfl hf rfl rfl rfl ho hs
    refine ⟨fun h=>(e1 h).after hh (by simp;omega),fun h h'=>?_,a',l',o',q',e3⟩
    obtain ⟨j',hj',hh'⟩:=e2 h h';refine ⟨j+j',by simp;omega,?_⟩
    have:=oO hh hh'
    rw[this];dsimp only;rw[ht]
theorem Va (h:m.fU.length=pG m):kU P m=kU.behind m:=by
 unfold kU;split
 ·rfl
 ·rw[if_pos h]
theorem lB {f h s:Nat}{r:List (Nat×Nat×Nat)}(hu:m.iZ=true)(hb:m.fP=(f,h,s)::r)(hfl:m.fU.length=f)(hf:m.fin=0):jY P 1 m=some { m with iZ:=false,fP:=r,st:=m.st.drop (m.st.length - h),fE:=s }:=by
 refine Bf ?_;have hfm:pG m=f:=by unfold pG;rw[hb]
 have hb':kU.behind m=(0,{ m with iZ:=false,fP:=r,st:=m.st.drop (m.st.length - h),fE:=s }):=by
  unfold kU.behind;rw[hb]
 unfold mP jE;rw[if_pos hu,Va (by omega),hb']
 simp only[hf];rfl
theorem lE (hu:m.iZ=true)(hb:m.fP=[])(hfl:m.fU=[]):mP P m=(true,{ m with iZ:=false,fin:=2 }):=by
 have hfm:pG m=0:=by unfold pG;rw[hb]
 have hb':kU.behind m=(0,{ m with iZ:=false,fin:=2 }):=by
  unfold kU.behind;rw[hb]
 unfold mP jE;rw[if_pos hu,Va (by rw[hfl,hfm]<;>rfl),hb']
 rfl
def frames:List (List (fq×Int))->List (Nat×Nat)->List (Nat×Nat×Nat)
 | _,[]=>[]
 | ps,g::G=>(ps.dropLast.flatten.length,g.1,g.2)::frames ps.dropLast G
variable {ps:List (List (fq×Int))}
theorem Vb {qs:List (List (fq×Int))}(h:ps.dropLast=qs.dropLast)(G:List (Nat×Nat)):frames ps G=frames qs G:=by
 cases G with
 | nil=>rfl
 | cons g G=>rw[frames,frames,h]
theorem Vd (ps:List (List (fq×Int)))(x:List (fq×Int)):(iA ps x).dropLast=ps.dropLast:=by
 unfold iA;rw[List.dropLast_concat]
theorem EO (h:ps≠[]):ps.flatten=ps.dropLast.flatten++ps.getLastD []:=by
 obtain ⟨qs,q,e⟩:∃ qs q,ps=qs++[q]:=⟨_,_,(bH h).symm⟩;subst e;simp[List.getLastD_eq_getLast?]
theorem Le (h:ps≠[])(x:List (fq×Int)):(iA ps x).flatten=ps.flatten++x:=by
 unfold iA;rw[EO h];simp
theorem Ve (h:ps≠[])(x:List (fq×Int)):(iA ps x).length=ps.length:=by
 unfold iA
 have:=bV.2 h
 simp;omega
structure Rel (P:Pg)(V:Vs)(s:Rs)(m:Ms)(S:List Int)(G:List (Nat×Nat)):Prop where
 held:m.vars=s.held
 left:m.left=s.left
 fI:m.fI=s.fI
 st:m.st=S
 und:(m.fU.map (lM P)).reverse=s.fG.flatten
 fP:m.fP=frames s.fG G
 len:s.fG.length=G.length+1
 fJ:m.fJ=0
 fin:m.fin=0
 ty:EM V s.held
variable {G:List (Nat×Nat)}
theorem Rel.ne (h:Rel P V s m S G):s.fG≠[]:=fun e=>by
 have:=h.len;rw[e] at this;simp at this
theorem Rel.Ou (h:Rel P V s m S G):m.fU.length=s.fG.flatten.length:=by
 rw[<- h.und];simp
def Uq (s:Rs):Nat:=3 * s.fG.flatten.length
def Post (P:Pg)(V:Vs)(S:List Int)(G:List (Nat×Nat))(p n:Nat)(m:Ms)(s:Rs):Prop :=
 (s.over=0/\s.stop=false/\s.failed=false/\∃ k m',jY P k m=some m'/\Rel P V s m' S G/\m'.fE=p/\m'.iZ=false/\k+Uq s<=n) \/
 (s.over=0/\s.stop=false/\s.failed=true/\∃ k m' t,jY P k m=some m'/\Rel P V s m' (t++S) G/\m'.iZ=true/\k+Uq s<=n) \/
 ((s.over≠0\/s.stop=true)/\lC P m n s.over s.fI s.held)
theorem zo:s.going=true↔s.over=0/\s.stop=false/\s.failed=false:=by
 unfold Rs.going;rw[aZ,aZ,beq_iff_eq,dB,dB];exact and_assoc
theorem Post.mono {P:Pg}{V:Vs}{S:List Int}{G:List (Nat×Nat)}{p n N:Nat}{m:Ms}{s:Rs}(h:Post P V S G p n m s)(hn:n<=N):Post P V S G p N m s:=by
 rcases h with ⟨h1,h2,h3,k,m',h4,h5,h6,h7,h8⟩ | ⟨h1,h2,h3,k,m',t,h4,h5,h6,h8⟩ | ⟨h1,h2⟩
 ·exact ak ⟨h1,h2,h3,k,m',h4,h5,h6,h7,by omega⟩
 ·exact ah (ak ⟨h1,h2,h3,k,m',t,h4,h5,h6,by omega⟩)
 ·exact ah (ah ⟨h1,h2.mono hn⟩)
theorem Post.after {P:Pg}{V:Vs}{S:List Int}{G:List (Nat×Nat)}{p n N k:Nat}{m m1:Ms}{s:Rs}(hk:jY P k m=some m1)(h:Post P V S G p n m1 s)(hn:k+n<=N):Post P V S G p N m s:=by
 rcases h with ⟨h1,h2,h3,j,m',h4,h5,h6,h7,h8⟩ | ⟨h1,h2,h3,j,m',t,h4,h5,h6,h8⟩ | ⟨h1,h2⟩
 ·exact ak ⟨h1,h2,h3,k+j,m',oO hk h4,h5,h6,h7,by omega⟩
 ·exact ah (ak ⟨h1,h2,h3,k+j,m',t,oO hk h4,h5,h6,by omega⟩)
 ·exact ah (ah ⟨h1,h2.after hk hn⟩)
theorem Post.seq {S':List Int}(h:Post P V (S'++S) G p n m s)(hi:s.going=false->f s=s)(hn:n<=N)(hf:∀ k m',jY P k m=some m'->Rel P V s m' (S'++S) G->m'.fE=p->m'.iZ=false->k+Uq s<=n->s.going=true->Post P V S G q (N - k) m' (f s)):Post P V S G q N m (f s):=by
 rcases h with ⟨h1,h2,h3,k,m',h4,h5,h6,h7,h8⟩ | ⟨h1,h2,h3,k,m',t,h4,h5,h6,h8⟩ | ⟨h1,h2⟩
 ·exact Post.after h4 (hf k m' h4 h5 h6 h7 h8 (zo.2 ⟨h1,h2,h3⟩)) (by omega)
 ·rw[hi (by unfold Rs.going;rw[h3];simp)]
  refine ah (ak ⟨h1,h2,h3,k,m',t++S',h4,?_,h6,by omega⟩)
  rw[aI];exact h5
 ·rw[hi (by
   unfold Rs.going;rcases h1 with h1 | h1
   ·rw[(beq_eq_false_iff_ne).2 h1];simp
   ·rw[h1];simp)]
  exact ah (ah ⟨h1,h2.mono hn⟩)
theorem vX (iv:fq->Nat)(x:Option Ex):(lu iv x).length=jA x:=by
 cases x with
 | none=>rfl
 | some e=>exact uH iv e
theorem Ov (P:Pg)(V:Vs)(iv:fq->Nat)(hiv:∀ w i,iK V w=some i->iv w=i)(x:Option Ex)(k:Nat)(m:Ms)(hk:okO V x k)(hty:EM V m.vars)(hu:m.iZ=false)(hf:m.fin=0)(hc:jc P m.fE (lu iv x)) :
  (∀ v,sN V m.vars x=some v->jY P (jA x) m=some { m with st:=v::m.st,fE:=m.fE+jA x }/\(k=98->v=0\/v=1)) /\
  (sN V m.vars x=none->∃ n t q,n<=jA x/\jY P n m=some { m with st:=t++m.st,fE:=q,iZ:=true }):=by
 cases x with
 | none =>
  refine ⟨fun v hv=>?_,fun h=>(by cases h)⟩
  cases hv;exact ⟨step_ok hc.one hu rfl hf,fun _=>ak rfl⟩
 | some e=>exact Ld P V iv hiv e k m (hk e rfl) hty hu hf hc
def sO (P:Pg)(iw:fq->Nat):List Sm->Prop
 | []=>True
 | ⟨op,fD,_,_,_,_,undo,_,_,one,two⟩::rest=>(op=99->P.fT.getD (iw fD) gM=fD/\(undo.size≠0->P.fT.getD (iw undo) gM=undo))/\(op=105\/op=116\/op=114->sO P iw one)/\(op=105\/op=116->sO P iw two)/\sO P iw rest
theorem Vf {iw:fq->Nat}:sO P iw (x::l)↔(x.op=99->P.fT.getD (iw x.fD) gM=x.fD/\(x.undo.size≠0->P.fT.getD (iw x.undo) gM=x.undo))/\(x.op=105\/x.op=116\/x.op=114->sO P iw x.one)/\(x.op=105\/x.op=116->sO P iw x.two)/\sO P iw l:=by
 obtain ⟨op,fD,pl,ex,gu,fZ,undo,n,gG,one,two⟩:=x;rw[sO]
def uI (P:Pg)(V:Vs)(iw iv:fq->Nat)(l:List Sm):Prop:=∀ (s:Rs) (m:Ms) (S:List Int) (G:List (Nat×Nat)),mZ V l->sO P iw l->Rel P V s m S G->s.going=true->m.iZ=false->jc P m.fE (mkS iw iv l m.fE)->Post P V S G (m.fE+(mkS iw iv l m.fE).length) (kL l+Uq s) m (gJ V l s)
def uJ (P:Pg)(V:Vs)(iw iv:fq->Nat)(x:Sm):Prop:=∀ (s:Rs) (m:Ms) (S:List Int) (G:List (Nat×Nat)),Rel P V s m S G->s.going=true->m.iZ=false->jc P m.fE (kE iw iv x m.fE)->Post P V S G (m.fE+(kE iw iv x m.fE).length) (pU x+Uq s) m (gT V x s)
theorem Lf {t:List Int}(hr:Rel P V s m S G)(hg:s.going=true)(h:jY P k m=some { m with st:=t++m.st,fE:=q,iZ:=true })(hk:k+Uq s<=n):Post P V S G p n m { s with failed:=true }:=by
 obtain ⟨g1,g2,g3⟩:=zo.1 hg;refine ah (ak ⟨g1,g2,rfl,k,_,t,h,⟨hr.held,hr.left,hr.fI,?_,hr.und,hr.fP,hr.len,hr.fJ,hr.fin,hr.ty⟩,rfl,hk⟩);dsimp only;rw[hr.st]
theorem EM.set {V:Vs}{held:List Int}(h:EM V held){i k:Nat}{v:Int}(_hi:i < V.length)(hk:og V i=k)(hv:k=98->v=0\/v=1):EM V (held.set i v):=by
 refine ⟨by rw[dM];exact h.len,fun j hj hkj=>?_⟩
 rw[aX,List.getElem?_set];split
 ·rename_i e;subst e;split
  ·simp only[Option.getD_some];exact hv (by omega)
  ·exact ak rfl
 ·rw[<- aX];exact h.tr j hj hkj
theorem Lh (h:iK V w=some i)(held:List Int)(v:Int):nG V held w v=held.set i v:=by unfold nG;rw[h]
theorem lL (P:Pg)(V:Vs)(iw iv:fq->Nat)(hiv:∀ w i,iK V w=some i->iv w=i)(x:Sm)(hop:x.op=108)(hk:zP V x.op x.fD x.ex x.gu x.n):uJ P V iw iv x:=by
 intro s m S G hr hg hu hc;obtain ⟨e,k,he,hke,⟨i,hi,hki⟩,_⟩:∃ e k,x.ex=some e/\mG V e k/\okV V x.fD k/\(k=105\/k=98):=by
  rcases hk with h | h | h | h | h | h
  ·exact h.2
  all_goals omega
 have hmk:kE iw iv x m.fE=lu iv x.ex++[⟨2,iv x.fD,0⟩]:=by unfold kE;rw[if_pos hop]
 have hco:pU x=jA x.ex+1:=by unfold pU;rw[if_pos hop]
 have hrun:gT V x s=match sN V s.held x.ex with
  | none=>{ s with failed:=true }
  | some v=>{ s with held:=nG V s.held x.fD v }:=by unfold gT;rw[if_pos hop]<;>rfl
 rw[hmk] at hc |-;rw[hco,hrun];obtain ⟨o1,o2⟩:=Ov P V iv hiv x.ex k m (fun e' h'=>by rw[he] at h';cases h';exact hke) (by rw[hr.held];exact hr.ty) hu hr.fin hc.left
 rw[hr.held] at o1 o2;obtain ⟨g1,g2,g3⟩:=zo.1 hg;cases hev:sN V s.held x.ex with
 | none =>
  obtain ⟨n',t,q,h1,h2⟩:=o2 hev;rw[<- hr.held] at h2;exact Lf hr hg h2 (by omega)
 | some v =>
  obtain ⟨h1,h2⟩:=o1 v hev;have hcr:=hc.right;rw[vX] at hcr;have hst:jY P 1 { m with st:=v::m.st,fE:=m.fE+jA x.ex }=some { m with vars:=m.vars.set (iv x.fD) v,st:=m.st,fE:=m.fE+jA x.ex+1 }:=step_ok hcr.one hu rfl hr.fin
  have h1':jY P (jA x.ex) m=some { m with st:=v::m.st,fE:=m.fE+jA x.ex }:=by
   rw[hr.held];exact h1
  refine ak ⟨g1,g2,g3,jA x.ex+1,_,oO h1' hst,⟨?_,hr.left,hr.fI,hr.st,hr.und,hr.fP,hr.len,hr.fJ,hr.fin,?_⟩,?_,hu,aj _⟩
  ·dsimp only;rw[Lh hi,hiv _ _ hi,hr.held]
  ·dsimp only;rw[Lh hi];exact hr.ty.set (vo hi) hki h2
  ·dsimp only;rw[ay,vX];simp;omega
theorem lO (P:Pg)(V:Vs)(iw iv:fq->Nat)(hiv:∀ w i,iK V w=some i->iv w=i)(x:Sm)(hop:x.op=99)(hk:zP V x.op x.fD x.ex x.gu x.n)(hw:P.fT.getD (iw x.fD) gM=x.fD/\(x.undo.size≠0->P.fT.getD (iw x.undo) gM=x.undo)):uJ P V iw iv x:=by
 intro s m S G hr hg hu hc;obtain ⟨hke,hka,hn1,lP⟩:okO V x.ex 105/\(x.gu.size=0\/okV V x.gu 105)/\1<=x.n/\x.n<=5:=by
  rcases hk with h | h | h | h | h | h
  ·omega
  ·exact h.2
  all_goals omega
 have hmk:kE iw iv x m.fE=lu iv x.ex++([⟨18,iw x.fD,x.n⟩]++((if x.undo.size=0 then [] else [⟨19,iw x.undo,0⟩])++[if x.gu.size=0 then ⟨3,0,0⟩ else ⟨2,iv x.gu,0⟩])):=by unfold kE;rw[if_neg (by omega),if_pos hop]<;>rfl
 have hco:pU x=jA x.ex+x.n+(if x.undo.size=0 then 0 else 4)+1:=by unfold pU;rw[if_neg (by omega),if_pos hop]
 have hrun:gT V x s=uG V x.fD x.ex x.gu x.undo x.n s:=by unfold gT;rw[if_neg (by omega),if_pos hop]
 rw[hmk] at hc |-;rw[hco,hrun];obtain ⟨o1,o2⟩:=Ov P V iv hiv x.ex 105 m hke (by rw[hr.held];exact hr.ty) hu hr.fin hc.left
 rw[hr.held] at o1 o2;obtain ⟨g1,g2,g3⟩:=zo.1 hg;unfold uG;cases hev:sN V s.held x.ex with
 | none =>
  obtain ⟨n',t,q,h1,h2⟩:=o2 hev;rw[<- hr.held] at h2;exact Lf hr hg h2 (by omega)
 | some arg =>
  obtain ⟨h1,_⟩:=o1 arg hev;rw[<- hr.held] at h1;have hcr:=hc.right;rw[vX] at hcr;obtain ⟨a1,a2,a3⟩:=kO P (iw x.fD) x.n x.fD arg hw.1 x.n { m with st:=arg::m.st,fE:=m.fE+jA x.ex } s hcr.left.one hu hr.fin rfl hr.left hr.fI (by dsimp only;rw[hr.fJ];omega) (by omega)
  dsimp only at a1 a2 a3;have ht1:m.fJ+1=1:=by rw[hr.fJ]
  rw[ht1] at a1 a2 a3;obtain ⟨A,L,Q,f1,f2,f3⟩:=U4 x.fD arg false x.n 1 s;dsimp only;cases htr:tries x.fD arg false x.n 1 s with
  | mk o s1 =>
   rw[htr] at f1 f2 f3 a1 a2 a3;dsimp only at f1 f2 f3 a1 a2 a3;subst f1;match o with
   | none =>
    simp only;refine ah (ah ⟨ah (f3 rfl),?_⟩)
    have:=(a1 rfl).after h1 (N:=jA x.ex+x.n+(if x.undo.size=0 then 0 else 4)+1+Uq s) (by omega)
    dsimp only;rw[g1,<- hr.held];exact this
   | some none =>
    simp only;obtain ⟨j,hj,hh⟩:=a2 rfl;rw[f2 (by simp)]
    refine ah (ak ⟨g1,g2,rfl,jA x.ex+j,_,[arg],oO h1 hh,⟨hr.held,rfl,rfl,?_,hr.und,hr.fP,hr.len,rfl,hr.fin,hr.ty⟩,rfl,?_⟩)
    ·dsimp only;rw[hr.st]<;>rfl
    ·have:Uq { s with fI:=A,left:=L,failed:=true }=Uq s:=rfl
     show jA x.ex+j+Uq s<=_
     omega
   | some (some v) =>
    simp only;obtain ⟨j,hj,hh⟩:=a3 v rfl;rw[f2 (by simp)]
    have hA:=oO h1 hh;dsimp only at hA;have Li:=hcr.right;simp only[aS] at Li;obtain ⟨ju,mu,Bg,hsu,pV,Ow,Lj,GN⟩:∃ ju mu,ju+3 * (if x.undo.size=0 then s.fG else iA s.fG [(x.undo,v)]).flatten.length<=(if x.undo.size=0 then 0 else 4)+Uq s/\jY P ju { m with fI:=A,left:=L,fJ:=0,st:=v::m.st,fE:=m.fE+jA x.ex+1 }=some mu /\
      Rel P V { s with fI:=A,left:=L,fG:=if x.undo.size=0 then s.fG else iA s.fG [(x.undo,v)] } mu (v::S) G/\mu.fE=m.fE+jA x.ex+1+(if x.undo.size=0 then [] else [(⟨19,iw x.undo,0⟩:Ins)]).length/\mu.iZ=false/\mu.st=v::S:=by
     by_cases hz:x.undo.size=0
     ·rw[if_pos hz,if_pos hz,if_pos hz];refine ⟨0,_,?_,rfl,⟨hr.held,rfl,rfl,?_,hr.und,hr.fP,hr.len,rfl,hr.fin,hr.ty⟩,by simp,hu,?_⟩
      ·show 0+3 * s.fG.flatten.length<=0+Uq s;unfold Uq;omega
      ·dsimp only;rw[hr.st]
      ·dsimp only;rw[hr.st]
     ·rw[if_neg hz,if_neg hz,if_neg hz];rw[if_neg hz] at Li;have hs1:jY P 1 { m with fI:=A,left:=L,fJ:=0,st:=v::m.st,fE:=m.fE+jA x.ex+1 }=some { m with fI:=A,left:=L,fJ:=0,st:=v::m.st,fE:=m.fE+jA x.ex+1+1,fU:=(iw x.undo,v)::m.fU }:=step_ok Li.left.one hu rfl hr.fin
      refine ⟨1,_,?_,hs1,⟨hr.held,rfl,rfl,?_,?_,?_,?_,rfl,hr.fin,hr.ty⟩,by simp,hu,?_⟩
      ·rw[Le hr.ne];unfold Uq;simp;omega
      ·dsimp only;rw[hr.st]
      ·dsimp only;rw[Le hr.ne,eF,dP,hr.und];unfold lM;rw[hw.2 hz]
      ·dsimp only;rw[hr.fP];exact Vb (Vd _ _).symm G
      ·dsimp only;rw[Ve hr.ne];exact hr.len
      ·dsimp only;rw[hr.st]
    have hB:=oO hA hsu;have hcl:=Li.right;rw[<- Ow] at hcl;by_cases hz:x.gu.size=0
    ·simp only[if_pos hz] at hcl |-;have hs2:jY P 1 mu=some { mu with st:=S,fE:=mu.fE+1 }:=by
      refine step_ok hcl.one Lj ?_ pV.fin;show (0,{ mu with st:=mu.st.tail,fE:=mu.fE+1 })=_
      rw[GN]<;>rfl
     refine ak ⟨g1,g2,g3,_,_,oO hB hs2,⟨pV.held,pV.left,pV.fI,rfl,pV.und,pV.fP,pV.len,pV.fJ,pV.fin,pV.ty⟩,?_,Lj,?_⟩
     ·dsimp only;rw[Ow];simp only[ay,vX,aS];omega
     ·show jA x.ex+j+ju+1+3 * (if x.undo.size=0 then s.fG else iA s.fG [(x.undo,v)]).flatten.length<=_
      omega
    ·simp only[if_neg hz] at hcl |-;obtain ⟨i,hi,hki⟩:=hka.resolve_left hz;have hs2:jY P 1 mu=some { mu with vars:=mu.vars.set (iv x.gu) v,st:=S,fE:=mu.fE+1 }:=by
      refine step_ok hcl.one Lj ?_ pV.fin;show (0,{ mu with vars:=mu.vars.set (iv x.gu) (mu.st.headD 0),st:=mu.st.tail,fE:=mu.fE+1 })=_
      rw[GN]<;>rfl
     refine ak ⟨g1,g2,g3,_,_,oO hB hs2,⟨?_,pV.left,pV.fI,rfl,pV.und,pV.fP,pV.len,pV.fJ,pV.fin,?_⟩,?_,Lj,?_⟩
     ·dsimp only;rw[Lh hi,hiv _ _ hi,pV.held]
     ·dsimp only;rw[Lh hi];exact hr.ty.set (vo hi) hki (fun h=>by omega)
     ·dsimp only;rw[Ow];simp only[ay,vX,aS];omega
     ·show jA x.ex+j+ju+1+3 * (if x.undo.size=0 then s.fG else iA s.fG [(x.undo,v)]).flatten.length<=_
      omega
