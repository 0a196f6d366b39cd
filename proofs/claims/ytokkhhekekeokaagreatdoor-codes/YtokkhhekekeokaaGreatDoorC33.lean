import Derived.Test.YtokkhhekekeokaaGreatDoorC32
set_option maxRecDepth 100000
set_option maxHeartbeats 4000000
namespace Go.Proofs.YtokkhhekekeokaaGreatDoor
open Go.RowKit Tryz
namespace Rn
open Mk Px Ref
def sK (m:Ms):fC×Bool :=
 match m.fU with
 | []=>(.agg #[.int .i64 0,.int .i64 0],false)
 | u::_=>if m.fU.length=pG m then (.agg #[.int .i64 0,.int .i64 0],false) else (.agg #[.int .i64 (u.1:Int),.int .i64 u.2],true)
variable {x:Cx}
theorem zmt (hj:iT x)(m:Ms)(w:fu)(f:Nat->fC)(va:fC)(h:MK x m w f va)(hl:m.fP.length<=10000000)(hu:m.fU.length<=10000000)(hfl:pG m<=m.fU.length) :
  Calls prog 183 #[.pointer (some ⟨x.g,1,none⟩)] w fun e w'=>e=.returned (.tuple #[(sK m).1,.bool (sK m).2])/\fO (fun _=>False) w w':=by
 have c1:=h.a.blk.cell 1 (by decide)
 have c2:=h.a.blk.cell 2 (by decide)
 have hgz:=h.a.lt;have HT:Hid (∀ A:Obj,fO (fun _=>False) w (w.alloc A)):=fun A=>(fO.refl _ _).alloc A
 have HD:Hid (∀ A:Obj,fO (fun _=>False) w (w.alloc A).drew):=fun A=>((fO.refl _ _).alloc A).drew
 have JY:Hid (∀ A:Obj,fO (fun _=>False) w (w.alloc A).drew.drew):=fun A=>((fO.refl _ _).alloc A).drew.drew
 obtain ⟨au,nu,cu,eu⟩:=jm h.a.un;obtain rfl:nu=m.fU.length:=by have:=h.a.un;rw[eu] at this;exact Ce this
 obtain ⟨ab,nb,cb,eb⟩:=jm h.a.be;obtain rfl:nb=m.fP.length:=by have:=h.a.be;rw[eb] at this;exact Ce this
 cases hb:m.fP with
 | nil =>
  have hf0:pG m=0:=by unfold pG;rw[hb]
  rw[eb,hb] at c2;cases hun:m.fU with
  | nil =>
   have EV:sK m=(.agg #[.int .i64 0,.int .i64 0],false):=by unfold sK;rw[hun]
   rw[eu,hun] at c1;simp only[aL] at c1 c2;rw[EV];clear h hj hb hun EV hf0;go_enter func183,ntmps183
   go_wp2_with fail;refine bodyPost_ret (v:=.tuple #[.agg #[.int .i64 0,.int .i64 0],.bool false]) (by simp[results,results183,go_sem]) rfl ⟨rfl,?_⟩
   first | exact HT.o _ | exact HD.o _ | exact JY.o _
  | cons u r =>
   have EV:sK m=(.agg #[.int .i64 (u.1:Int),.int .i64 u.2],true):=by unfold sK;rw[hf0];simp only[hun];rw[if_neg (by simp)]
   obtain ⟨q,c,e1,SN,cu1,hcap,_⟩:=h.SL hj hun;rw[e1] at c1;rw[hun,aC] at hu;simp only[aL] at c2;rw[EV];clear h hj hb hun EV hf0;have hq:=lt_of_cell SN;generalize r.length=K at *;go_enter func183,ntmps183
   go_wp2_with fail;go_region
   all_goals
    go_wp2_with fail;refine bodyPost_ret (v:=.tuple #[.agg #[.int .i64 (u.1:Int),.int .i64 u.2],.bool true]) (by simp[results,results183,go_sem]) rfl ⟨rfl,?_⟩
    first | exact HT.o _ | exact HD.o _ | exact JY.o _
 | cons b s =>
  have hf0:pG m=b.1:=by unfold pG;rw[hb]
  obtain ⟨qb,kb,e2,NJ,_,_,hcb,_⟩:=h.Zf hj hb;rw[e2] at c2;rw[hb,aC] at hl;have Pm:=lt_of_cell NJ;rw[hf0] at hfl;generalize s.length=S at *;cases hun:m.fU with
  | nil =>
   have EV:sK m=(.agg #[.int .i64 0,.int .i64 0],false):=by unfold sK;rw[hun]
   rw[eu,hun] at c1;have hb0:b.1=0:=by rw[hun] at hfl;simpa using hfl
   rw[hb0] at NJ;simp only[aL] at c1;rw[EV];clear h hj hb hun EV hf0 hfl;go_enter func183,ntmps183
   go_wp2_with fail;go_region
   all_goals
    go_wp2_with fail;refine bodyPost_ret (v:=.tuple #[.agg #[.int .i64 0,.int .i64 0],.bool false]) (by simp[results,results183,go_sem]) rfl ⟨rfl,?_⟩
    first | exact HT.o _ | exact HD.o _ | exact JY.o _
  | cons u r =>
   obtain ⟨q,c,e1,SN,cu1,hcap,_⟩:=h.SL hj hun;rw[e1] at c1;have hq:=lt_of_cell SN;have hlen:m.fU.length=r.length+1:=by rw[hun];rfl
   rw[hlen] at hfl hu;by_cases he:r.length+1=b.1
   ·have EV:sK m=(.agg #[.int .i64 0,.int .i64 0],false):=by unfold sK;rw[hf0];simp only[hun];rw[if_pos (by simpa using he)]
    rw[EV];clear h hj hb hun EV hf0 hlen;generalize r.length=K at *;generalize b.1=F at *;subst he;have ht:((K:Int)+1 == ((K+1:Nat):Int))=true:=by simp
    go_enter func183,ntmps183
    go_wp2_with fail;go_region
    all_goals
     go_wp2_with fail;refine bodyPost_ret (v:=.tuple #[.agg #[.int .i64 0,.int .i64 0],.bool false]) (by simp[results,results183,go_sem]) rfl ⟨rfl,?_⟩
     first | exact HT.o _ | exact HD.o _ | exact JY.o _
   ·have EV:sK m=(.agg #[.int .i64 (u.1:Int),.int .i64 u.2],true):=by unfold sK;rw[hf0];simp only[hun];rw[if_neg (by simpa using he)]
    rw[EV];clear h hj hb hun EV hf0 hlen;generalize r.length=K at *;generalize b.1=F at *;have ht:¬ ((K:Int)+1=(F:Int)):=by omega
    go_enter func183,ntmps183
    go_wp2_with fail;go_region
    all_goals
     go_wp2_with fail;go_region
     all_goals
      go_wp2_with fail;refine bodyPost_ret (v:=.tuple #[.agg #[.int .i64 (u.1:Int),.int .i64 u.2],.bool true]) (by simp[results,results183,go_sem]) rfl ⟨rfl,?_⟩
      first | exact HT.o _ | exact HD.o _ | exact JY.o _
theorem PM.same {x:Cx}(hj:iT x){m:Ms}{w w1 w2:fu}{f:Nat->fC}{va:fC}(h:PM x m w f va w1)(hT:fO (fun _=>False) w1 w2):PM x m w f va w2:=by
 obtain ⟨f1,iI,k1,k2⟩:=h;obtain ⟨j1,j2⟩:=k1.same hj hT;exact ⟨_,_,j1,k2.trans j2⟩
def xJ (m:Ms):fC×Bool :=
 match m.fP with
 | []=>(.agg #[.int .i64 0,.int .i64 0,.int .i64 0],false)
 | b::_=>(.agg #[.int .i64 (b.1:Int),.int .i64 (b.2.1:Int),.int .i64 (b.2.2:Int)],true)
theorem SQ (hj:iT x)(m:Ms)(w:fu)(f:Nat->fC)(va:fC)(h:MK x m w f va)(hl:m.fP.length<=10000000) :
  Calls prog 75 #[.pointer (some ⟨x.g,1,none⟩)] w fun e w'=>e=.returned (.tuple #[(xJ m).1,.bool (xJ m).2])/\PM x { m with fP:=m.fP.tail } w f va w':=by
 have c2:=h.a.blk.cell 2 (by decide)
 have cf:=h.a.blk.fr 2;have hgz:=h.a.lt;cases hb:m.fP with
 | nil =>
  obtain ⟨ab,nb,cb,eb⟩:=jm h.a.be;obtain rfl:nb=m.fP.length:=by have:=h.a.be;rw[eb] at this;exact Ce this
  rw[eb,hb] at c2;simp only[aL] at c2;have EV:xJ m=(.agg #[.int .i64 0,.int .i64 0,.int .i64 0],false):=by unfold xJ;rw[hb]
  rw[EV];have HT:Hid (∀ A:Obj,PM x { m with fP:=[] } w f va (w.alloc A)):=fun A=>by
   obtain ⟨k1,k2⟩:=h.same hj ((fO.refl _ _).alloc A);refine ⟨_,_,?_,k2⟩
   have:({ m with fP:=[] }:Ms)=m:=by cases m;simp at hb;subst hb;rfl
   rw[this];exact k1
  clear h hj hb EV;go_enter func75,ntmps75
  go_wp2_with fail;refine bodyPost_ret (v:=.tuple #[.agg #[.int .i64 0,.int .i64 0,.int .i64 0],.bool false]) (by simp[results,results75,go_sem]) rfl ⟨rfl,?_⟩
  exact HT.o _
 | cons b r =>
  have EV:xJ m=(.agg #[.int .i64 (b.1:Int),.int .i64 (b.2.1:Int),.int .i64 (b.2.2:Int)],true):=by unfold xJ;rw[hb]
  rw[EV];rw[hb,aC] at hl;obtain ⟨q,c,e2,NJ,cb1,cb2,hcap,hown⟩:=h.Zf hj hb;rw[e2] at c2;have hq:=lt_of_cell NJ;have HQ:Hid (∀ A A':Obj,PM x { m with fP:=r } w f va (((w.setCell ⟨x.g,2,none⟩ (.slice (some ⟨q,0,none⟩) r.length c)).alloc A).alloc A')):=fun A A'=>by
   obtain ⟨k1,k2⟩:=h.Y4 (v':=.slice (some ⟨q,0,none⟩) r.length c) hj r (fO.refl _ _) (ak (by rw[e2];rfl)) hown
   exact PM.same hj ⟨_,_,k1,k2⟩ (((fO.refl _ _).alloc A).alloc A')
  clear h hj hb EV hown;generalize r.length=K at *;go_enter func75,ntmps75
  go_wp2_with fail;refine bodyPost_ret (v:=.tuple #[.agg #[.int .i64 (b.1:Int),.int .i64 (b.2.1:Int),.int .i64 (b.2.2:Int)],.bool true]) (by simp[results,results75,go_sem]) rfl ⟨rfl,?_⟩
  exact HQ.o _ _
def Ga (a:Px.Ask):List fC:=[.string a.fD,.int .i64 a.arg,.int .i64 (a.nth:Int),.bool a.undo]
def jw (l:List Px.Ask):List fC:=l.flatMap Ga
def yM (a:Px.Ask):fC:=.agg #[.string a.fD,.int .i64 a.arg,.int .i64 (a.nth:Int),.bool a.undo]
theorem Zg (l:List Px.Ask)(a:Px.Ask):jw (l++[a])=jw l++Ga a:=by simp[jw]
structure jZ (w:fu)(B jl:Nat)(sv:fC)(l:List Int):Prop where
 ex:∃ ad c,sv=.slice ad l.length c/\l.length<=c/\(∀ i (hi:i < l.length),∃ q o,ad=some ⟨q,o,none⟩/\w.cell? ⟨q,o+i,none⟩=some (.int .i64 l[i]))/\∀ q,ad=some q->q.block < B/\q.block≠jl
variable {W w w':fu}{B jl:Nat}{l:List Int}{T:Nat->Prop}
theorem jZ.jG {sv:fC}(h:jZ w B jl sv l)(hT:fO T w w')(ht:∀ k,T k->B<=k\/k=jl):jZ w' B jl sv l:=by
 obtain ⟨ad,c,h1,h2,h3,h4⟩:=h.ex;refine ⟨ad,c,h1,h2,fun i hi=>?_,h4⟩
 obtain ⟨q,o,e,hc⟩:=h3 i hi
 have:=h4 _ e
 refine ⟨q,o,e,(aF (w:=w) (a:=⟨q,o+i,none⟩) (hT.block q (lt_of_cell hc) (fun hk=>?_))).trans hc⟩
 rcases ht q hk with h | h
 ·have:=this.1;simp only at this;omega
 ·exact this.2 h
def Kl (B jl:Nat)(l:List Int)(a:List Px.Ask)(va:fC)(w:fu):Prop :=
 w.cell? ⟨jl,0,none⟩=some va/\(∃ sv,w.cell? ⟨jl,1,none⟩=some sv/\jZ w B jl sv l)/\(∀ o,w.frozen? ⟨jl,o,none⟩=false)/\w.ownsRow B 122 4 va a.length (jw a)
variable {a:List Px.Ask}{va:fC}
theorem Kl.keep (hjl:jl < B)(h:Kl B jl l a va w)(hT:fO T w w')(h1:∀ k,T k->B<=k)(h2:∀ k,va.ownBlock=some k->¬ T k):Kl B jl l a va w':=by
 obtain ⟨c0,⟨sv,c1,ha⟩,fr,ow⟩:=h;have hb:w'.heap[jl]?=w.heap[jl]?:=hT.block jl (lt_of_cell c0) fun hk=>by have:=h1 _ hk;omega
 exact ⟨(aF (w:=w) (a:=⟨jl,0,none⟩) hb).trans c0,⟨sv,(aF (w:=w) (a:=⟨jl,1,none⟩) hb).trans c1,ha.jG hT fun k hk=>ak (h1 k hk)⟩,fun o=>(bQ (w:=w) (a:=⟨jl,o,none⟩) hb).trans (fr o),gZ ow hT h2⟩
theorem Py:(prog.info? 122).map (fun i=>(i.zero,i.size,i.bytes))=some (some (.agg #[.string ⟨#[]⟩,.int .i64 0,.int .i64 0,.bool false]),4,40):=by kernel_rfl
theorem Me {b:Nat}{p q r s:fC}{t:TypeId}(h:W.heap[b]?=some (.cells #[p,q,r,s] t)):∀ j u,[p,q,r,s][j]?=some u->W.cell? ((⟨b,0,none⟩:Addr).add j)=some u:=by
 intro j u hj;match j,hj with
 | 0,hj=>simp at hj;subst hj;simp[Addr.add,World.cell?,h]
 | 1,hj=>simp at hj;subst hj;simp[Addr.add,World.cell?,h]
 | 2,hj=>simp at hj;subst hj;simp[Addr.add,World.cell?,h]
 | 3,hj=>simp at hj;subst hj;simp[Addr.add,World.cell?,h]
def JZ (K:List Int->List Px.Ask->fC->fu->Prop)(jl:Nat)(l:List Int)(a:List Px.Ask)(va:fC)(ask:Px.Ask)(w:fu)(e:Ending)(w':fu):Prop :=
 e=.returned (.tuple #[.int .i64 (l.headD 0),.bool (!l.isEmpty)])/\∃ va',K l.tail (a++[ask]) va' w'/\fO (fun k=>k=jl\/va.ownBlock=some k) w w'/\(va'.ownBlock=va.ownBlock\/va'.ownBlock=none\/∃ n,va'.ownBlock=some n/\w.heap.size<=n/\n < w'.heap.size)
theorem Kl.app (hjl:jl < B)(h:Kl B jl l a va w)(ask:Px.Ask)(hW:fO (fun _=>False) w W)(_hB:B<=w.heap.size) :
  ∀ v' w3,w3.ownsRow B 122 4 v' (a.length+1) (jw a++Ga ask)->W.grownBy w3 va.ownBlock->(v'.ownBlock=va.ownBlock\/v'.ownBlock=some W.heap.size) ->
   ∃ a1 n1 c1,v'=.slice a1 n1 c1/\w3.cell? ⟨jl,0,none⟩=some va/\(∀ o,w3.frozen? ⟨jl,o,none⟩=false)/\(∀ q o u,q < B->w.cell? ⟨q,o,none⟩=some u->w3.cell? ⟨q,o,none⟩=some u)/\Hid (Kl B jl l (a++[ask]) v' (w3.setCell ⟨jl,0,none⟩ v')/\fO (fun k=>k=jl\/va.ownBlock=some k) w (w3.setCell ⟨jl,0,none⟩ v')/\(v'.ownBlock=va.ownBlock\/v'.ownBlock=none\/∃ n,v'.ownBlock=some n/\w.heap.size<=n/\n < (w3.setCell ⟨jl,0,none⟩ v').heap.size)):=by
 intro v' w3 hown hg hloc;obtain ⟨c0,⟨sv,c1,ha⟩,fr,ow⟩:=h;obtain ⟨a1,n1,k1,rfl⟩:=jm hown;have pY:¬ va.ownBlock=some jl:=fun e=>by have:=(ow.lt _ e).1;omega
 have hT:fO (fun k=>va.ownBlock=some k) w w3:=(hW.mono fun _ _ h=>h.elim).grown hg fun k hk=>ak hk
 have oZ:fO (fun k=>k=jl\/va.ownBlock=some k) w (w3.setCell ⟨jl,0,none⟩ (.slice a1 n1 k1)):=fO.setCell (T:=fun k=>k=jl\/va.ownBlock=some k) (hT.mono fun k _ hk=>ah hk) (p:=⟨jl,0,none⟩) (ak (ak rfl)) _
 have hb3:w3.heap[jl]?=w.heap[jl]?:=hT.block jl (lt_of_cell c0) pY;have c03:=(aF (w:=w) (a:=⟨jl,0,none⟩) hb3).trans c0;have c13:=(aF (w:=w) (a:=⟨jl,1,none⟩) hb3).trans c1;have Zh:∀ o,w3.frozen? ⟨jl,o,none⟩=false:=fun o=>(bQ (w:=w) (a:=⟨jl,o,none⟩) hb3).trans (fr o)
 have hne:(Value.slice a1 n1 k1).ownBlock≠some jl:=fun e=>by have:=(hown.lt _ e).1;omega
 refine ⟨a1,n1,k1,rfl,c03,Zh,fun q o u hq hu=>(aF (w:=w) (a:=⟨q,o,none⟩) (hT.block q (lt_of_cell hu) (fun e=>by have:=(ow.lt _ e).1;omega))).trans hu,⟨ND c03,⟨sv,by rw[uy (by intro e;cases e)];exact c13,ha.jG oZ fun k hk=>?_⟩,fun o=>by rw[World.frozen?_setCell];exact Zh o,?_⟩,oZ,?_⟩
 ·rcases hk with hk | hk
  ·exact ah hk
  ·exact ak (ow.lt _ hk).1
 ·rw[ay,Zg];exact ownsRow_setCell_other hown (a:=⟨jl,0,none⟩) hne _
 ·rcases hloc with hl | hl
  ·exact ak hl
  ·exact ah (ah ⟨_,hl,hW.size,by have:=(hown.lt _ hl).2;simpa [World.setCell] using this⟩)
theorem Kl.next {v:Int}{r:List Int}(hjl:jl < B)(h:Kl B jl (v::r) a va w){q o c:Nat}(h1:w.cell? ⟨jl,1,none⟩=some (.slice (some ⟨q,o,none⟩) (r.length+1) c)) :
  Kl B jl r a va (w.setCell ⟨jl,1,none⟩ (.slice (some (if c=1 then ⟨q,o,none⟩ else ⟨q,o+1,none⟩)) r.length (c - 1))):=by
 obtain ⟨c0,⟨sv,c1,ha⟩,fr,ow⟩:=h;rw[h1] at c1;obtain rfl:=(Option.some.inj c1).symm;obtain ⟨ad,c',e1,e2,e3,e4⟩:=ha.ex;cases e1;have pY:va.ownBlock≠some jl:=fun e=>by have:=(ow.lt _ e).1;omega
 obtain ⟨hq1,hq2⟩:=e4 _ rfl;simp only at hq1 hq2;refine ⟨by rw[uy (by intro e;cases e)];exact c0,⟨_,ND h1,⟨_,_,rfl,by simp at e2;omega,fun i hi=>?_,fun p hp=>?_⟩⟩,fun o=>by rw[World.frozen?_setCell];exact fr o,ownsRow_setCell_other ow (a:=⟨jl,1,none⟩) pY _⟩
 ·have hc:¬ c=1:=by simp at e2;omega
  obtain ⟨q',o',f1,f2⟩:=e3 (i+1) (by simp;omega)
  cases f1;refine ⟨q,o+1,by rw[if_neg hc],?_⟩
  rw[uy (by intro e;exact hq2 (congrArg Addr.block e).symm),show o+1+i=o+(i+1) by omega]
  exact f2
 ·by_cases hc:c=1
  ·rw[if_pos hc] at hp;cases hp;exact ⟨hq1,hq2⟩
  ·rw[if_neg hc] at hp;cases hp;exact ⟨hq1,hq2⟩
structure JA (x:Cx)(fn:Nat):Prop where
 ok:iT x
 ans:∀ (l:List Int) (a:List Px.Ask) (va:fC) (w:fu) (ask:Px.Ask),x.K l a va w->x.B<=w.heap.size->a.length<=10000000->Calls prog fn #[.pointer (some ⟨x.jl,0,none⟩),yM ask] w (JZ x.K x.jl l a va ask w)
def uo (x:Cx)(m:Ms)(i:Nat)(arg:Int)(most:Nat)(und:Bool)(w:fu)(f:Nat->fC)(va:fC)(e:Ending)(w':fu):Prop :=
 e=.returned (.tuple #[.int .i64 (iU x.P i arg most und m).2.1,gU x (iU x.P i arg most und m).1])/\PM x (iU x.P i arg most und m).2.2 w f va w'
def zyp (x:Cx)(m:Ms)(a:Px.Ask)(w:fu)(f:Nat->fC)(va:fC)(e:Ending)(w1:fu):Prop :=
 e=.returned (.tuple #[.int .i64 (m.left.headD 0),.bool (!m.left.isEmpty)])/\(∀ k o v,(k=x.g\/(k < x.B/\k≠x.jl))->w.cell? ⟨k,o,none⟩=some v->w1.cell? ⟨k,o,none⟩=some v)/\w1.frozen? ⟨x.g,87,none⟩=false /\
  w1.cell? ⟨10,0,none⟩=some (.iface 337 (.pointer (some (x.E 1))))/\w1.cell? ⟨11,0,none⟩=some (.iface 337 (.pointer (some (x.E 2))))/\w1.cell? ⟨12,0,none⟩=some (.iface 337 (.pointer (some (x.E 3))))/\17<=x.g /\
  Hid (∃ va',MK x { m with left:=m.left.tail,fI:=m.fI++[a] } w1 f va'/\Fr x w f va w1 f va')
theorem zve {fn:Nat}(ja:JA x fn){m:Ms}{f:Nat->fC}(h:MK x m w f va)(a:Px.Ask)(ha:m.fI.length<=10000000):∀ W,fO (fun _=>False) w W->Calls prog fn #[.pointer (some ⟨x.jl,0,none⟩),yM a] W (zyp x m a w f va):=by
 intro W hT;obtain ⟨k1,k2⟩:=h.same ja.ok hT;refine aA (ja.ans _ _ _ _ a k1.k (by have:=k1.a.lt;have:=k1.a.hB;omega) ha) ?_
 rintro e w1 ⟨rfl,va',h1,h2,h3⟩;obtain ⟨j1,j2⟩:=k1.SF h1 h2 h3;have mH:fO (fun k=>k=x.jl\/va.ownBlock=some k) w w1:=(hT.mono fun _ _ h=>h.elim).trans h2
 have hc:∀ k o v,(k=x.g\/(k < x.B/\k≠x.jl))->w.cell? ⟨k,o,none⟩=some v->w1.cell? ⟨k,o,none⟩=some v:=by
  intro k o v hk hv;refine (aF (w:=w) (a:=⟨k,o,none⟩) (mH.block k (lt_of_cell hv) (fun hh=>?_))).trans hv
  have hs:=h.a.sep.own va (by simp[rows])
  have h1:=h.a.hB;have h2:=h.a.hj;rcases hh with hh | hh
  ·rcases hk with hk | hk
   ·omega
   ·exact hk.2 hh
  ·obtain ⟨q1,q2,_⟩:=hs k hh;rcases hk with hk | hk
   ·exact q2 hk
   ·omega
 exact ⟨rfl,hc,j1.a.blk.fr 87,j1.e.v1,j1.e.v2,j1.e.v3,aP j1.e.lo j1.a.hB,va',j1,k2.trans j2⟩
theorem PM.fJ {x:Cx}(hj:iT x){m:Ms}{w w1:fu}{f:Nat->fC}{va:fC}(h:PM x m w f va w1)(p:Nat):PM x { m with fJ:=p } w f va (w1.setCell ⟨x.g,87,none⟩ (.int .i64 (p:Int))):=by
 obtain ⟨f1,iI,k1,k2⟩:=h;obtain ⟨j1,j2⟩:=k1.zlx hj p;exact ⟨_,_,j1,k2.trans j2⟩
def xL (x:Cx):Prop:=∀ (m:Ms) (w:fu) (f:Nat->fC) (va:fC),MK x m w f va->∀ (i:Nat) (arg:Int) (most:Nat) (und:Bool),i < x.P.fT.length->nA arg->(∀ v∈m.left,nA v)->m.fJ < 65536->most<=65536->m.fI.length<=10000000->x.P.fT.length<=10000000 ->
  Calls prog 102 #[.pointer (some ⟨x.g,0,none⟩),.int .i64 (i:Int),.int .i64 arg,.int .i64 (most:Int),.bool und] w (uo x m i arg most und w f va)
theorem znh (a:Addr)(w:fu):(nilAhead 479 116 (.pointer (some a)) "AnswerTo").run prog w=.ok (some false) w:=by kernel_rfl
theorem zhj (a:Addr)(w:fu):(Go.method 479 116 (.pointer (some a)) "AnswerTo").run prog w=.ok (214,.pointer (some a)) w:=by kernel_rfl
theorem zni (ja:JA x 214)(pY:x.vj=.iface 116 (.pointer (some ⟨x.jl,0,none⟩))):xL x:=by
 intro m w f va h i arg most und hi hr hrl ht hm ha AZ;have c3:=h.a.blk.cell 3 (by decide)
 have c4:=h.a.blk.cell 4 (by decide)
 have c87:=h.a.blk.cell 87 (by decide)
 rw[h.a.f3,pY] at c3;rw[h.a.f4] at c4;rw[h.a.f87] at c87;obtain ⟨vl,vw,vn,lo,p1,p2,p3,p4,p5,p6,p7⟩:=h.p.ex;obtain ⟨aw,nw,cw,rfl⟩:=jm p6;obtain ⟨rfl,_,hcell⟩:=NA p6;obtain ⟨gw,rfl,hcw⟩:=hcell i hi;have pw:w.cell? ⟨x.pp,0,none⟩=some (.slice (some ⟨gw,0,none⟩) x.P.fT.length cw):=by simp[World.cell?,p1]
 have hN:=znh;have hM:=zhj;obtain ⟨hr1,hr2⟩:=hr;have ew:x.P.fT.getD i gM=x.P.fT[i]:=by simp[List.getD_eq_getElem?_getD,List.getElem?_eq_getElem hi]
 have HX:Hid (_):=zve ja h ⟨x.P.fT[i],arg,m.fJ+1,und⟩ ha;have HP:Hid (iT x):=ja.ok;generalize x.P.fT[i]=fD at *;unfold yM at HX;simp only[Int.natCast_add,Int.cast_ofNat_Int] at HX;have hwr:IntKind.i64.wrap ((m.fJ:Int)+1)=(m.fJ:Int)+1:=by rw[IntKind.wrap_i64];omega
 have hgw:=p7 gw rfl;clear p1 p4 p5 p6 p7 hcell h ja;cases hleft:m.left with
 | nil =>
  have HE:Hid (∀ w',PM x { m with left:=m.left.tail,fI:=m.fI++[⟨fD,arg,m.fJ+1,und⟩] } w f va w'->uo x m i arg most und w f va (.returned (.tuple #[.int .i64 0,.iface 337 (.pointer (some (x.E 2)))])) w'):=by
   intro w' hp;have e:iU x.P i arg most und m=(2,0,{ m with left:=m.left.tail,fI:=m.fI++[⟨fD,arg,m.fJ+1,und⟩] }):=by
    unfold iU;rw[ew];cases m;simp at hleft;subst hleft;rfl
   unfold uo;rw[e];exact ⟨rfl,hp⟩
  go_enter func102,ntmps102
  go_wp2_with fail;go_region_held (fun w'=>w'.cell? ⟨x.g,3,none⟩=some (.iface 116 (.pointer (some ⟨x.jl,0,none⟩)))/\w'.cell? ⟨x.g,4,none⟩=some (.pointer (some ⟨x.pp,0,none⟩))/\w'.cell? ⟨x.g,87,none⟩=some (.int .i64 (m.fJ:Int))/\w'.cell? ⟨x.pp,0,none⟩=some (.slice (some ⟨gw,0,none⟩) x.P.fT.length cw)/\w'.cell? ⟨gw,i,none⟩=some (.string fD)) (go_keep)
   (first | (go_at_call 214;refine aA (HX.o _ (by first | exact fO.refl _ _ | exact (fO.refl _ _).drew)) ?_;rintro e w1 ⟨rfl,hcc,f87',g1,g2,g3,hG,HM⟩;have d3:=hcc _ _ _ (ak rfl) c3;have d4:=hcc _ _ _ (ak rfl) c4;have SV:=hcc _ _ _ (ak rfl) c87;have dp:=hcc _ _ _ (ah ⟨p2,p3⟩) pw;have dw:=hcc _ _ _ (ah hgw) hcw;clear hcc;rw[hleft]))
  all_goals
   go_wp2_with fail;go_region
   all_goals
    go_wp2_with fail;go_ret2;refine HE.o _ ?_;obtain ⟨va',k1,k2⟩:=HM.o;exact PM.same HP.o ⟨_,_,k1,k2⟩ (fO.refl _ _).drew
 | cons v r =>
  obtain ⟨hv1,hv2⟩:=hrl v (by rw[hleft];exact dK)
  have ec:((m.fJ+1:Nat):Int)=(m.fJ:Int)+1:=by simp
  by_cases hneg:v < 0
  ·by_cases hmo:m.fJ+1 < most
   ·have hmo':(m.fJ:Int)+1 < (most:Int):=by omega
    have HE:Hid (∀ w',PM x { m with left:=r,fI:=m.fI++[⟨fD,arg,m.fJ+1,und⟩],fJ:=m.fJ+1 } w f va w'->uo x m i arg most und w f va (.returned (.tuple #[.int .i64 0,.iface 337 (.pointer (some (x.E 3)))])) w'):=by
     intro w' hp;have e:iU x.P i arg most und m=(3,0,{ m with left:=r,fI:=m.fI++[⟨fD,arg,m.fJ+1,und⟩],fJ:=m.fJ+1 }):=by
      unfold iU;rw[ew,hleft];simp only;rw[if_pos ⟨hneg,hmo⟩]
     unfold uo;rw[e];exact ⟨rfl,hp⟩
    go_enter func102,ntmps102
    go_wp2_with fail;go_region_held (fun w'=>w'.cell? ⟨x.g,3,none⟩=some (.iface 116 (.pointer (some ⟨x.jl,0,none⟩)))/\w'.cell? ⟨x.g,4,none⟩=some (.pointer (some ⟨x.pp,0,none⟩))/\w'.cell? ⟨x.g,87,none⟩=some (.int .i64 (m.fJ:Int))/\w'.cell? ⟨x.pp,0,none⟩=some (.slice (some ⟨gw,0,none⟩) x.P.fT.length cw)/\w'.cell? ⟨gw,i,none⟩=some (.string fD)) (go_keep)
     (first | (go_at_call 214;refine aA (HX.o _ (by first | exact fO.refl _ _ | exact (fO.refl _ _).drew)) ?_;rintro e w1 ⟨rfl,hcc,f87',g1,g2,g3,hG,HM⟩;have d3:=hcc _ _ _ (ak rfl) c3;have d4:=hcc _ _ _ (ak rfl) c4;have SV:=hcc _ _ _ (ak rfl) c87;have dp:=hcc _ _ _ (ah ⟨p2,p3⟩) pw;have dw:=hcc _ _ _ (ah hgw) hcw;clear hcc;rw[hleft];simp only[eY,hleft] at HM))
    all_goals
     go_wp2_with fail;go_region
     all_goals
      go_wp2_with fail;go_ret2;refine HE.o _ ?_;obtain ⟨va',k1,k2⟩:=HM.o
      first | (have:=PM.same HP.o (PM.fJ HP.o ⟨_,_,k1,k2⟩ (m.fJ+1)) (fO.refl _ _).drew;rw[ec] at this;exact this) | (have:=PM.fJ HP.o (PM.same HP.o ⟨_,_,k1,k2⟩ (fO.refl _ _).drew) (m.fJ+1);rw[ec] at this;exact this)
   ·have hmo':¬ (m.fJ:Int)+1 < (most:Int):=by omega
    have HE:Hid (∀ w',PM x { m with left:=r,fI:=m.fI++[⟨fD,arg,m.fJ+1,und⟩],fJ:=0 } w f va w'->uo x m i arg most und w f va (.returned (.tuple #[.int .i64 0,.iface 337 (.pointer (some (x.E 1)))])) w'):=by
     intro w' hp;have e:iU x.P i arg most und m=(1,0,{ m with left:=r,fI:=m.fI++[⟨fD,arg,m.fJ+1,und⟩],fJ:=0 }):=by
      unfold iU;rw[ew,hleft];simp only;rw[if_neg (fun h=>hmo h.2),if_pos hneg]
     unfold uo;rw[e];exact ⟨rfl,hp⟩
    go_enter func102,ntmps102
    go_wp2_with fail;go_region_held (fun w'=>w'.cell? ⟨x.g,3,none⟩=some (.iface 116 (.pointer (some ⟨x.jl,0,none⟩)))/\w'.cell? ⟨x.g,4,none⟩=some (.pointer (some ⟨x.pp,0,none⟩))/\w'.cell? ⟨x.g,87,none⟩=some (.int .i64 (m.fJ:Int))/\w'.cell? ⟨x.pp,0,none⟩=some (.slice (some ⟨gw,0,none⟩) x.P.fT.length cw)/\w'.cell? ⟨gw,i,none⟩=some (.string fD)) (go_keep)
     (first | (go_at_call 214;refine aA (HX.o _ (by first | exact fO.refl _ _ | exact (fO.refl _ _).drew)) ?_;rintro e w1 ⟨rfl,hcc,f87',g1,g2,g3,hG,HM⟩;have d3:=hcc _ _ _ (ak rfl) c3;have d4:=hcc _ _ _ (ak rfl) c4;have SV:=hcc _ _ _ (ak rfl) c87;have dp:=hcc _ _ _ (ah ⟨p2,p3⟩) pw;have dw:=hcc _ _ _ (ah hgw) hcw;clear hcc;rw[hleft];simp only[eY,hleft] at HM))
    all_goals
     go_wp2_with fail;go_region
     all_goals
      go_wp2_with fail;go_ret2;refine HE.o _ ?_;obtain ⟨va',k1,k2⟩:=HM.o
      first | exact PM.same HP.o (PM.fJ HP.o ⟨_,_,k1,k2⟩ 0) (fO.refl _ _).drew | exact PM.fJ HP.o (PM.same HP.o ⟨_,_,k1,k2⟩ (fO.refl _ _).drew) 0 | exact PM.fJ HP.o ⟨_,_,k1,k2⟩ 0 | (have:=PM.fJ HP.o (PM.fJ HP.o ⟨_,_,k1,k2⟩ (m.fJ+1)) 0;rw[ec] at this;exact this) | (have:=PM.same HP.o (PM.fJ HP.o (PM.fJ HP.o ⟨_,_,k1,k2⟩ (m.fJ+1)) 0) (fO.refl _ _).drew;rw[ec] at this;exact this)
  ·have hneg':¬ v < 0:=hneg;have HE:Hid (∀ w',PM x { m with left:=r,fI:=m.fI++[⟨fD,arg,m.fJ+1,und⟩],fJ:=0 } w f va w'->uo x m i arg most und w f va (.returned (.tuple #[.int .i64 v,.nilIface])) w'):=by
    intro w' hp;have e:iU x.P i arg most und m=(0,v,{ m with left:=r,fI:=m.fI++[⟨fD,arg,m.fJ+1,und⟩],fJ:=0 }):=by
     unfold iU;rw[ew,hleft];simp only;rw[if_neg (fun h=>hneg h.1),if_neg hneg]
    unfold uo;rw[e];exact ⟨rfl,hp⟩
   go_enter func102,ntmps102
   go_wp2_with fail;go_region_held (fun w'=>w'.cell? ⟨x.g,3,none⟩=some (.iface 116 (.pointer (some ⟨x.jl,0,none⟩)))/\w'.cell? ⟨x.g,4,none⟩=some (.pointer (some ⟨x.pp,0,none⟩))/\w'.cell? ⟨x.g,87,none⟩=some (.int .i64 (m.fJ:Int))/\w'.cell? ⟨x.pp,0,none⟩=some (.slice (some ⟨gw,0,none⟩) x.P.fT.length cw)/\w'.cell? ⟨gw,i,none⟩=some (.string fD)) (go_keep)
    (first | (go_at_call 214;refine aA (HX.o _ (by first | exact fO.refl _ _ | exact (fO.refl _ _).drew)) ?_;rintro e w1 ⟨rfl,hcc,f87',g1,g2,g3,hG,HM⟩;have d3:=hcc _ _ _ (ak rfl) c3;have d4:=hcc _ _ _ (ak rfl) c4;have SV:=hcc _ _ _ (ak rfl) c87;have dp:=hcc _ _ _ (ah ⟨p2,p3⟩) pw;have dw:=hcc _ _ _ (ah hgw) hcw;clear hcc;rw[hleft];simp only[eY,hleft] at HM))
   all_goals
    go_wp2_with fail;go_ret2;refine HE.o _ ?_;obtain ⟨va',k1,k2⟩:=HM.o
    first | exact PM.same HP.o (PM.fJ HP.o ⟨_,_,k1,k2⟩ 0) (fO.refl _ _).drew | exact PM.fJ HP.o (PM.same HP.o ⟨_,_,k1,k2⟩ (fO.refl _ _).drew) 0 | exact PM.fJ HP.o ⟨_,_,k1,k2⟩ 0 | (have:=PM.fJ HP.o (PM.fJ HP.o ⟨_,_,k1,k2⟩ (m.fJ+1)) 0;rw[ec] at this;exact this) | (have:=PM.same HP.o (PM.fJ HP.o (PM.fJ HP.o ⟨_,_,k1,k2⟩ (m.fJ+1)) 0) (fO.refl _ _).drew;rw[ec] at this;exact this)
