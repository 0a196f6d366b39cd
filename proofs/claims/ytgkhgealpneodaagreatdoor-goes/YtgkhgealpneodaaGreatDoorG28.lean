import Derived.Test.YtgkhgealpneodaaGreatDoorG27
import Derived.Deep.RegionHeld
set_option maxRecDepth 100000
set_option maxHeartbeats 4000000
namespace Go.Proofs.YtgkhgealpneodaaGreatDoor
open Go.RowKit
namespace Rn
open Px Ref
theorem T9(n k:Nat):n<oI n k:=by
 unfold oI;by_cases h4:k=4;·rw[aA h4];omega
 rw[ah h4];by_cases h5:k=5;·rw[aA h5];omega
 rw[ah h5];by_cases h6:k=6;·rw[aA h6];omega
 rw[ah h6];by_cases h8:k=8;·rw[aA h8];omega
 rw[ah h8];by_cases h9:k=9;·rw[aA h9];omega
 rw[ah h9];omega
theorem Z7(w:dY)(a b c d e f g:Obj):fE (fun _=>False) w (((((((w.alloc a).alloc b).alloc c).alloc d).alloc e).alloc f).alloc g):=((((((((fE.refl _ _).alloc a).alloc b).alloc c).alloc d).alloc e).alloc f).alloc g)
theorem qnh(w:dY):fI 50 #[] w fun e w'=>e=fM (.agg (pz w.heap.size).toArray)/\fE (fun _=>False) w w'/\∀k,ru k=true->w'.cell? ⟨oI w.heap.size k,0,none⟩=some (.func (.func (xZ k)) #[] #[]):=by
 go_enter Tryz.func50,Tryz.ntmps50;go_wp2_with (first
  |(go_at_call 103;refine(zl8 _ _).mono ?_;rintro e w1 ⟨rfl,hs,HP⟩)
  |(refine ze1 rfl _ _ rfl w.heap.size _ rfl rfl (by kernel_rfl) ?ht ?hh))
 case ht=>
  rename_i wa ha Ha wb hb Hb wc hc Hc wd hd Hd we he He;exact Z6 Z0 (Z5 ha hb hc hd he Ha.o Hb.o Hc.o Hd.o He.o HP.o (Z7 _ _ _ _ _ _ _ _)).1
 case hh=>
  rename_i wa ha Ha wb hb Hb wc hc Hc wd hd Hd we he He;have Q:=Z5 ha hb hc hd he Ha.o Hb.o Hc.o Hd.o He.o HP.o (Z7 w1 (.cells #[eF 3] 215) (.cells #[eF 3] 215) (.cells #[eF 3] 215) (.cells #[eF 3] 215) (.cells #[eF 3] 215) (.cells #[eF 2,eF 0] 215) (.cells #[eF 2] 215));have hth:=Z6 Z0 Q.1;refine bodyPost_ret (qxj _ _ w.heap.size rfl (World.rangeAt_setCells_same _ _ _ _ hth)) rfl ⟨rfl,?_,fun k hk=>?_⟩;·exact qu7 _ (ay _) _ _ _ (((fE.refl _ _).alloc _).trans Q.1)
  exact(qty w.heap.size (oI w.heap.size k) (Nat.ne_of_gt (T9 _ _)) _ _ _).trans (Q.2 k hk)
def newL(n:Nat)(vj:dZ)(pp:Nat)(vv:dZ):List dZ:=[iE,iE,iE,vj,fq pp]++pz n++[vv,eF 0,eF 0,.bool false,eF 0]
variable{T:Array dZ}
theorem fold_size(hT:T.size=80)(cs:Array dZ):(Array.foldl (fun(cs:Array dZ)(x:dZ×Nat)=>cs.setIfInBounds (5+x.2) x.1) cs T.zipIdx 0 80).size=cs.size:=by
 have hz:T.zipIdx.size=80:=by simp[hT]
 have h:(Array.foldl (fun(cs:Array dZ)(x:dZ×Nat)=>cs.setIfInBounds (5+x.2) x.1) cs T.zipIdx 0 T.zipIdx.size).size=cs.size:=by refine Array.foldl_induction (motive:=fun _(b:Array dZ)=>b.size=cs.size) rfl ?_;intro i b hb;simpa using hb
 rw[hz]at h;exact h
theorem Z8(n:Nat)(vj:dZ)(pp:Nat)(vv:dZ):(Array.foldl (fun(cs:Array dZ)(x:dZ×Nat)=>cs.setIfInBounds (5+x.2) x.1) ((Tryz.zeroCells153.setIfInBounds 3 vj).setIfInBounds 4 (fq pp)) (pz n).toArray.zipIdx 0 80).setIfInBounds 85 vv=(newL n vj pp vv).toArray:=by kernel_rfl
structure nC(pp nv:Nat)(vj:dZ)(w w':dY)(g n gv:Nat):Prop where
 t:fE (fun _=>False) w w'
 g1:w.heap.size<=g
 at_:w'.heap[g]?=some (.cells (newL n vj pp (.slice (some ⟨gv,0,none⟩) nv nv)).toArray 153)
 v1:w.heap.size<=gv
 v2:gv≠g
 Z9:w'.heap[gv]?=some (.cells (madeCells #[eF 0] nv) 2)
 jn:∀k,ru k=true->w'.cell? ⟨oI n k,0,none⟩=some (.func (.func (xZ k)) #[] #[])/\oI n k≠g/\oI n k≠gv/\w.heap.size<=oI n k
variable{nv pp:Nat}{va vj:dZ}{w w1:dY}
theorem zs7(h:T=(pz w.drew.heap.size).toArray/\fE (fun _=>False) w.drew w1/\∀k,ru k=true->w1.cell? ⟨oI w.drew.heap.size k,0,none⟩=some (.func (.func (xZ k)) #[] #[])):nC pp nv vj w ((w1.alloc (.cells (madeCells #[eF 0] nv) 2)).alloc (.cells ((Array.foldl (fun(cs:Array dZ)(x:dZ×Nat)=>cs.setIfInBounds (5+x.2) x.1) ((Tryz.zeroCells153.setIfInBounds 3 vj).setIfInBounds 4 (fq pp)) T.zipIdx 0 80).setIfInBounds 85 (.slice (some ⟨w1.heap.size,0,none⟩) nv nv)) 153)) (w1.heap.size+1) w.drew.heap.size w1.heap.size:=by
 obtain⟨rfl,hT,hj⟩:=h;have hs:w.heap.size<=w1.heap.size:=hT.size;have hT':fE (fun _=>False) w w1:=((fE.refl _ w).drew).trans hT;rw[Z8];refine⟨(hT'.alloc _).alloc _,by omega,?_,hs,by omega,?_,fun k hk=>?_⟩;·show((w1.heap.push _).push _)[w1.heap.size+1]?=_;rw[xJ]
 ·show((w1.heap.push _).push _)[w1.heap.size]?=_;rw[aD,ah (by simp),aD,aA rfl]
 have hz:=lt_of_cell (hj k hk);have hg:=T9 w.drew.heap.size k;refine⟨?_,by omega,by omega,bU hg⟩;exact DU (((fE.refl _ w1).alloc _).alloc _) (hj k hk)
theorem zs5(h:T=(pz (w.alloc (.cells (madeCells #[eF 0] nv) 2)).drew.heap.size).toArray/\fE (fun _=>False) (w.alloc (.cells (madeCells #[eF 0] nv) 2)).drew w1/\∀k,ru k=true->w1.cell? ⟨oI (w.alloc (.cells (madeCells #[eF 0] nv) 2)).drew.heap.size k,0,none⟩=some (.func (.func (xZ k)) #[] #[])):nC pp nv vj w (w1.alloc (.cells ((Array.foldl (fun(cs:Array dZ)(x:dZ×Nat)=>cs.setIfInBounds (5+x.2) x.1) ((Tryz.zeroCells153.setIfInBounds 3 vj).setIfInBounds 4 (fq pp)) T.zipIdx 0 80).setIfInBounds 85 (.slice (some ⟨w.heap.size,0,none⟩) nv nv)) 153)) w1.heap.size (w.alloc (.cells (madeCells #[eF 0] nv) 2)).drew.heap.size w.heap.size:=by
 obtain⟨rfl,hT,hj⟩:=h;have e:(w.alloc (.cells (madeCells #[eF 0] nv) 2)).drew.heap.size=w.heap.size+1:=by show(w.heap.push _).size=_;simp
 have hs:=hT.size;rw[e]at hs hj |-;have hT':fE (fun _=>False) w w1:=(((fE.refl _ w).alloc _).drew).trans hT;rw[Z8];refine⟨hT'.alloc _,by omega,?_,ay _,by omega,?_,fun k hk=>?_⟩;·show(w1.heap.push _)[w1.heap.size]?=_;rw[aD,aA rfl]
 ·have h0:(w.alloc (.cells (madeCells #[eF 0] nv) 2)).drew.heap[w.heap.size]?=some (.cells (madeCells #[eF 0] nv) 2):=by show(w.heap.push _)[w.heap.size]?=_;rw[aD,aA rfl]
  have h1:w1.heap[w.heap.size]?=some (.cells (madeCells #[eF 0] nv) 2):=by rw[hT.block _ (by rw[e];omega) (fun h=>h)];exact h0
  show(w1.heap.push _)[w.heap.size]?=_;rw[aD,ah (by omega)];exact h1
 have hz:=lt_of_cell (hj k hk);have hg:=T9 (w.heap.size+1) k;refine⟨DU ((fE.refl _ w1).alloc _) (hj k hk),by omega,by omega,by omega⟩
theorem zs8(pp nv:Nat)(vj:dZ)(t:TypeId)(p:Addr)(sP:vj=.iface t (.pointer (some p)))(w:dY)(hp:w.cell? ⟨pp,1,none⟩=some (eF (nv:Int)))(hn:nv<=10000000):fI 23 #[fq pp,vj] w fun e w'=>∃g n gv,e=fM (fq g)/\nC pp nv vj w w' g n gv:=by
 subst sP;have hmk:=run_make_row' (P:=Tryz.prog) 141 2 (eF 0) 8 Tryz.underlying141 ZV rfl .i64 .i64 nv (by omega) (by omega);have hpz:=lt_of_cell hp;have HM:Hid (∀W:dY,w.heap.size<=W.heap.size->W.cell? ⟨pp,1,none⟩=some (eF (nv:Int))->fI 50 #[] W fun e w1=>∃T:Array dZ,e=fM (.agg T)/\T.size=80/\(∀cs:Array dZ,(Array.foldl (fun(cs:Array dZ)(x:dZ×Nat)=>cs.setIfInBounds (5+x.2) x.1) cs T.zipIdx 0 80).size=cs.size)/\w1.cell? ⟨pp,1,none⟩=some (eF (nv:Int))/\Hid (T=(pz W.heap.size).toArray/\fE (fun _=>False) W w1/\∀k,ru k=true->w1.cell? ⟨oI W.heap.size k,0,none⟩=some (.func (.func (xZ k)) #[] #[]))):=fun W _ hW=>by refine(qnh W).mono ?_;rintro e w1 ⟨rfl,hT,hc⟩;exact⟨_,rfl,rfl,fold_size rfl,(aH (w:=W) (a:=⟨pp,1,none⟩) (hT.block _ (lt_of_cell hW) (fun h=>h))).trans hW,rfl,hT,hc⟩
 go_enter Tryz.func23,Tryz.ntmps23;go_wp2_with fail;go_region_held (fun w'=>w'.cell? ⟨pp,1,none⟩=some (eF (nv:Int))) (go_keep)
  (first|(go_at_call 50;refine aB (HM.o _ (by simp) (by simp[*])) ?_;rintro e w1 ⟨T,rfl,hTs,hTf,d1,H1⟩))
 all_goals
  go_wp2_with fail;go_ret;first
   |exact⟨_,_,_,rfl,zs7 H1.o⟩
   |exact⟨_,_,_,rfl,zs5 H1.o⟩
theorem zmx(n:Nat)(vj:dZ)(pp:Nat)(vv:dZ):(newL n vj pp vv).length=90:=rfl
theorem zmw(n:Nat)(vj:dZ)(pp:Nat)(vv:dZ)(k:Nat)(hk:k<20):((newL n vj pp vv)[8+4*k]?).getD undef=.func (.func (pq k)) #[] (tK (oI n) k):=by
 have h:=zrn n k hk;have e:(newL n vj pp vv)[8+4*k]?=(pz n)[4*k+3]?:=by unfold newL;have h5:([iE,iE,iE,vj,fq pp]:List dZ).length=5:=rfl;have h80:(pz n).length=80:=rfl;rw[aM,aY (by rw[h5];omega),h5,bg (by rw[h80];omega),show 8+4*k-5=4*k+3 by omega]
 rw[e,h];rfl
theorem zm6{B g:Nat}(hg:B<=g)(h:w.heap[g]?=some (.cells (madeCells #[eF 0] nv) 2))(hn:nv<=10000000):w.ownsRow B 2 1 (.slice (some ⟨g,0,none⟩) nv nv) nv (lD (List.replicate nv 0)):=by refine⟨by simp[lD],.inr ⟨g,nv,madeCells #[eF 0] nv,rfl,hg,h,by simp,by unfold maxLen;omega,by simp[madeCells],?_⟩⟩;rw[toList_madeCells_one];simp[lD]
variable{x:Cx}
theorem zwy{w':dY}{n gv:Nat}{l:List Int}(h:nC x.pp x.P.nv x.vj w w' x.g n gv)(hB:x.B=w.heap.size)(hJ:x.J=oI n)(hjl:x.jl<x.B)(hn:x.P.nv<=10000000)(hva:va.ownBlock=none)(hk:x.K l [] va w')(hp:yO x w)(he:Ge x w):MK x (vH x.P l) w' (fun o=>((newL n x.vj x.pp (.slice (some ⟨gv,0,none⟩) x.P.nv x.P.nv))[o]?).getD undef) va:=by
 have hz:x.g<w'.heap.size:=(aN.1 h.at_).1;have Ua:gv<w'.heap.size:=(aN.1 h.Z9).1;have hb:zR w' x.g 90 (fun o=>((newL n x.vj x.pp (.slice (some ⟨gv,0,none⟩) x.P.nv x.P.nv))[o]?).getD undef):=by refine⟨fun o ho=>?_,fun o=>by simp[World.frozen?,h.at_]⟩;have hl:=zmx n x.vj x.pp (.slice (some ⟨gv,0,none⟩) x.P.nv x.P.nv);have e:(newL n x.vj x.pp (.slice (some ⟨gv,0,none⟩) x.P.nv x.P.nv))[o]?=some ((newL n x.vj x.pp (.slice (some ⟨gv,0,none⟩) x.P.nv x.P.nv))[o]'(by omega)):=bN _;simp only[World.cell?,h.at_,List.getElem?_toArray];rw[e];rfl
 refine⟨⟨by rw[hB];exact h.g1,hjl,hb,rfl,rfl,fun k hk=>?_,rfl,rfl,rfl,rfl,aX _ _ _ _,aX _ _ _ _,aX _ _ _ _,?_,⟨?_,?_⟩,fun k hk=>?_⟩,hk,hp.oL h.t (fun _ h=>h.elim),he.oL h.t (fun _ h=>h.elim)⟩;·rw[hJ];exact zmw n x.vj x.pp _ k hk
 ·have:=zm6 (B:=x.B) (by rw[hB];exact h.v1) h.Z9 hn;have el:(vH x.P l).vars.length=x.P.nv:=by simp[vH]
  rw[el];exact this
 ·intro v hv k hkk;have hv':v=iE\/v=.slice (some ⟨gv,0,none⟩) x.P.nv x.P.nv\/v=va:=by
   simp only[fZ,bn,List.not_mem_nil,or_false]at hv;obtain rfl|rfl|rfl|rfl|rfl:=hv;·exact ak rfl
   ·exact ak rfl
   ·exact ak rfl
   ·exact aj (ak rfl)
   exact aj (aj rfl)
  obtain rfl|rfl|rfl:=hv';·cases hkk
  ·cases hkk;exact⟨by rw[hB];exact h.v1,h.v2,Ua⟩
  rw[hva]at hkk;cases hkk
 ·have e:fZ (fun o=>((newL n x.vj x.pp (.slice (some ⟨gv,0,none⟩) x.P.nv x.P.nv))[o]?).getD undef) va=[iE,iE,iE,.slice (some ⟨gv,0,none⟩) x.P.nv x.P.nv,va]:=rfl;rw[e];refine List.Pairwise.cons (fun b _ k hk=>by cases hk) (List.Pairwise.cons (fun b _ k hk=>by cases hk) (List.Pairwise.cons (fun b _ k hk=>by cases hk) (List.Pairwise.cons (fun b hb k _=>?_) (List.Pairwise.cons (fun b hb=>by cases hb) List.Pairwise.nil))));rw[bD.1 hb,hva];simp
 obtain⟨j1,j2,j3,j4⟩:=h.jn k hk;rw[hJ];refine⟨j1,j2,by omega,fun r hr=>?_⟩;have hr':r=iE\/r=.slice (some ⟨gv,0,none⟩) x.P.nv x.P.nv\/r=va:=by
  simp only[fZ,bn,List.not_mem_nil,or_false]at hr;obtain rfl|rfl|rfl|rfl|rfl:=hr;·exact ak rfl
  ·exact ak rfl
  ·exact ak rfl
  ·exact aj (ak rfl)
  exact aj (aj rfl)
 obtain rfl|rfl|rfl:=hr';·intro e;cases e
 ·intro e;cases e;exact j3 rfl
 intro e;rw[hva]at e;cases e
theorem gu.mk'{m:Ms}{f:Nat->dZ}{f1:Nat->dZ}{jD:dZ}(h:MK x m w1 f1 jD)(k:Fr x w f va w1 f1 jD):gu x m w f va w1:=⟨_,_,h,k⟩
theorem gu.eD{x:Cx}(hj:jV x){m:Ms}{w w1:dY}{f:Nat->dZ}{va:dZ}(h:gu x m w f va w1)(p:Nat):gu x {m with eD:=p} w f va (w1.setCell ⟨x.g,86,none⟩ (eF (p:Int))):=by obtain⟨f1,jD,k1,k2⟩:=h;obtain⟨j1,j2⟩:=k1.TQ hj p;exact⟨_,_,j1,k2.trans j2⟩
theorem gu.fin{x:Cx}(hj:jV x){m:Ms}{w w1:dY}{f:Nat->dZ}{va:dZ}(h:gu x m w f va w1)(p:Nat):gu x {m with fin:=p} w f va (w1.setCell ⟨x.g,89,none⟩ (eF (p:Int))):=by obtain⟨f1,jD,k1,k2⟩:=h;obtain⟨j1,j2⟩:=k1.TR hj p;exact⟨_,_,j1,k2.trans j2⟩
def AL(P:Pg)(i b:Nat)(m:Ms):Nat×Ms:=
 match iI P i (m.st.headD 0) b false m with
 |(0,v,m')=>(0,{m' with st:=v::m'.st.tail})
 |(e,_,m')=>(e,m')
theorem RP(hj:jV x)(lN:zX x)(m:Ms)(w:dY)(f:Nat->dZ)(va:dZ)(h:MK x m w f va)(i b:Nat)(v:Int)(r:List Int)(hst:m.st=v::r)(hl:r.length<=10000000)(hi:i<x.P.gT.length)(hr:mZ v)(hrl:∀v∈m.left,mZ v)(ht:m.fD<65536)(hm:b<=65536)(ha:m.eY.length<=10000000)(Il:x.P.gT.length<=10000000):fI 126 #[fq x.g,eF (i:Int),eF (b:Int)] w fun e w'=>e=fM (iW x (AL x.P i b m).1)/\gu x (AL x.P i b m).2 w f va w':=by
 have HH:Hid (MK x m w f va):=h;have HA:Hid (∀w1,MK x m w1 f va->fI 163 #[fq x.g,eF (i:Int),eF v,eF (b:Int),.bool false] w1 (vM x m i v b false w1 f va)):=fun w1 h1=>lN m w1 f va h1 i v b false hi hr hrl ht hm ha Il;have hhd:m.st.headD 0=v:=by rw[hst];rfl
 cases hq:iI x.P i v b false m with| mk ea q=>
 obtain⟨va',ma⟩:=q;have hma:ma.st=v::r:=by obtain⟨_,_,_,rfl,_⟩:=Dy hq;exact hst
 have HC:Hid (AL x.P i b m=if ea=0 then(0,{ma with st:=va'::r})else(ea,ma)):=by unfold Hid AL;rw[hhd,hq];cases ea with| zero=>rw[aA rfl];simp only[hma];rfl| succ n=>rw[ah (by omega)];rfl
 by_cases hz:ea=0;·subst hz;rw[HC.o,aA rfl];go_enter Tryz.func126,Tryz.ntmps126;go_wp2_with fail;refine(KI hj m w f va HH.o v r hst hl).mono ?_;rintro e w1 ⟨rfl,hT⟩;have H1:Hid (MK x m w1 f va/\Fr x w f va w1 f va):=HH.o.same hj hT;go_wp2_with fail;refine aB (HA.o w1 H1.o.1) ?_;rintro e w2 ⟨rfl,f2,jO,k1,k2⟩;rw[hq]at k1 |-;have H2:Hid (MK x ma w2 f2 jO/\Fr x w f va w2 f2 jO):=⟨k1,H1.o.2.trans k2⟩;simp only[iW,if_true];go_wp2_with fail;refine(yP hj ma w2 f2 jO H2.o.1 v r hma hl).mono ?_;rintro e w3 ⟨rfl,v3,k1,k2⟩;have H3:Hid (MK x {ma with st:=r} w3 (upd f2 0 v3) jO/\Fr x w f va w3 (upd f2 0 v3) jO):=⟨k1,H2.o.2.trans k2⟩;go_wp2_with fail;refine(FV hj {ma with st:=r} w3 _ jO H3.o.1 va' hl).mono ?_;rintro e w4 ⟨rfl,v4,k1,k2⟩;have H4:Hid (gu x {ma with st:=va'::r} w f va w4):=gu.mk' k1 (H3.o.2.trans k2);go_wp2_with fail;go_ret;exact⟨rfl,H4.o⟩
 rw[HC.o,ah hz];go_enter Tryz.func126,Tryz.ntmps126;go_wp2_with fail;refine(KI hj m w f va HH.o v r hst hl).mono ?_;rintro e w1 ⟨rfl,hT⟩;have H1:Hid (MK x m w1 f va/\Fr x w f va w1 f va):=HH.o.same hj hT;go_wp2_with fail;refine aB (HA.o w1 H1.o.1) ?_;rintro e w2 ⟨rfl,f2,jO,k1,k2⟩;rw[hq]at k1 |-;have H2:Hid (MK x ma w2 f2 jO/\Fr x w f va w2 f2 jO):=⟨k1,H1.o.2.trans k2⟩;simp only[iW,ah hz];go_wp2_with fail;go_ret;exact⟨by simp only[iW,ah hz];rfl,gu.mk' H2.o.1 H2.o.2⟩
theorem zbw(hj:jV x)(m:Ms)(w:dY)(f:Nat->dZ)(va:dZ)(h:MK x m w f va)(p:Nat)(v:Int)(r:List Int)(hst:m.st=v::r)(hl:r.length<=10000000):fI 116 #[fq x.g,eF (p:Int)] w fun e w'=>e=fM (.tuple #[])/\gu x {m with st:=r,eD:=if v=0 then p else m.eD} w f va w':=by
 have HH:Hid (MK x m w f va):=h;by_cases hv:v=0
 ·rw[aA hv];have hb:(v==0)=true:=by rw[hv];rfl
  go_enter Tryz.func116,Tryz.ntmps116;go_wp2_with fail;refine(yP hj m w f va HH.o v r hst hl).mono ?_;rintro e w1 ⟨rfl,v1,k1,k2⟩;have H1:Hid (MK x {m with st:=r} w1 (upd f 0 v1) va/\Fr x w f va w1 (upd f 0 v1) va):=⟨k1,k2⟩;have wE:=k1.a.blk.cell 86 (by decide);have cf:=k1.a.blk.fr 86;go_wp2_with fail;go_end0
  exact⟨rfl,gu.eD hj (gu.mk' H1.o.1 H1.o.2) p⟩
 rw[ah hv];go_enter Tryz.func116,Tryz.ntmps116;go_wp2_with fail;refine(yP hj m w f va HH.o v r hst hl).mono ?_;rintro e w1 ⟨rfl,v1,k1,k2⟩;have H1:Hid (MK x {m with st:=r} w1 (upd f 0 v1) va/\Fr x w f va w1 (upd f 0 v1) va):=⟨k1,k2⟩;have wE:=k1.a.blk.cell 86 (by decide);have cf:=k1.a.blk.fr 86;go_wp2_with fail;go_end0
 exact⟨rfl,gu.mk' H1.o.1 H1.o.2⟩
theorem zj8(hj:jV x)(m:Ms)(w:dY)(f:Nat->dZ)(va:dZ)(h:MK x m w f va)(p:Nat)(v:Int)(r:List Int)(hst:m.st=v::r)(hl:r.length<=10000000)(hv:mZ v):fI 118 #[fq x.g,eF (p:Int)] w fun e w'=>e=fM (.tuple #[])/\gu x (if 0<v then{m with st:=wrap64 (v-1)::r}else{m with st:=r,eD:=p}) w f va w':=by
 have HH:Hid (MK x m w f va):=h;obtain⟨hv1,hv2⟩:=hv;by_cases hp:0<v
 ·have ew:wrap64 (v-1)=v-1:=by unfold wrap64;omega
  rw[aA hp,ew];go_enter Tryz.func118,Tryz.ntmps118;go_wp2_with fail;refine(yP hj m w f va HH.o v r hst hl).mono ?_;rintro e w1 ⟨rfl,v1,k1,k2⟩;have H1:Hid (MK x {m with st:=r} w1 (upd f 0 v1) va/\Fr x w f va w1 (upd f 0 v1) va):=⟨k1,k2⟩;have wE:=k1.a.blk.cell 86 (by decide);have cf:=k1.a.blk.fr 86;go_wp2_with fail;refine(FV hj {m with st:=r} w1 _ va H1.o.1 (v-1) hl).mono ?_;rintro e w2 ⟨rfl,v2,k1,k2⟩;have H2:Hid (gu x {m with st:=(v-1)::r} w f va w2):=gu.mk' k1 (H1.o.2.trans k2);go_wp2_with fail;go_end0
  exact⟨rfl,H2.o⟩
 rw[ah hp];go_enter Tryz.func118,Tryz.ntmps118;go_wp2_with fail;refine(yP hj m w f va HH.o v r hst hl).mono ?_;rintro e w1 ⟨rfl,v1,k1,k2⟩;have H1:Hid (MK x {m with st:=r} w1 (upd f 0 v1) va/\Fr x w f va w1 (upd f 0 v1) va):=⟨k1,k2⟩;have wE:=k1.a.blk.cell 86 (by decide);have cf:=k1.a.blk.fr 86;go_wp2_with fail;go_end0
 exact⟨rfl,gu.eD hj (gu.mk' H1.o.1 H1.o.2) p⟩
end Rn
open Go.RowKit Go.Extern.Stop Go.Stop Go.Extern
namespace Lg
theorem zn1(a b:Addr)(ca cb:Array dZ)(ta tb:TypeId)(w:dY)(hne:a≠b)(ha:w.heap[a.block]?=some (.cells ca ta (0,0)))(hb:w.heap[b.block]?=some (.cells cb tb (0,0))):fI 47 #[.iface 393 (.pointer (some a)),.iface 393 (.pointer (some b))] w fun e w'=>e=fM (.bool false)/\w'=w:=by obtain⟨i,hi,hcmp⟩:=bG.1 Fq;obtain⟨j,hj,hjs⟩:=bG.1 Fv;have h8:=@run_callFunc_extern Tryz.prog 92 _ Extern.ReflectliteType.typeOf Tryz.func92 (by kernel_rfl) (by kernel_rfl) (by kernel_rfl) (by kernel_rfl);have h32:=@run_callFunc_extern Tryz.prog 303 _ (Extern.ReflectliteType.method fun t=>do Extern.Rtype.noPackHeld "Comparable" t;pure (.bool (<- typeInfo t).comparable)) Tryz.func303 (by kernel_rfl) (by kernel_rfl) (by kernel_rfl) (by kernel_rfl);have tT:=BO;have cT:=Fj;have mR:=Fp;have nE:=Hz;have uE:=Dm;have vE:=Dn;have heq:=run_eql_iface_ptr_other (P:=Tryz.prog) w Tryz.underlying63 Tryz.underlying393 hi hcmp hj (by rw[hjs];decide) hne ha hb;go_enter Tryz.func47,Tryz.ntmps47;go_wp2;refine wp_loop_rounds 1 ?_;rw[rounds_succ];go_wp2;go_ret;exact⟨rfl,rfl⟩
end Lg
namespace Rn
open Px Ref
variable{x:Cx}{m:Ms}{w:dY}{f:Nat->dZ}{va:dZ}
theorem MK.KL(hj:jV x)(h:MK x m w f va){k:Nat}(hk:k<=m.st.length):∃a c,f 0=.slice a m.st.length c/\m.st.length<=c/\(a=none\/∃q,a=some ⟨q,0,none⟩)/\(a=none->c=0/\m.st.length=0)/\Hid (gu x {m with st:=m.st.drop (m.st.length-k)} w f va (w.setCell ⟨x.g,0,none⟩ (.slice a k c))):=by
 have hs:=h.a.st;have key:∀a c,f 0=.slice a m.st.length c->Hid (gu x {m with st:=m.st.drop (m.st.length-k)} w f va (w.setCell ⟨x.g,0,none⟩ (.slice a k c))):=by
  intro a c e;rw[e]at hs;have hcut:=OG hs hk;obtain⟨k1,k2⟩:=h.TP (v':=.slice a k c) hj (m.st.drop (m.st.length-k)) (fE.refl _ _) (ak (by rw[e];cases a<;>rfl)) (by
   have hl:(m.st.drop (m.st.length-k)).length=k:=by rw[List.length_drop];omega
   rw[hl];have:lD (m.st.drop (m.st.length-k)).reverse=(lD m.st.reverse).take (k*1):=by unfold lD;rw[<- List.map_take,Nat.mul_one,List.reverse_drop];congr 2;omega
   rw[this];exact hcut)
  exact⟨_,_,k1,k2⟩
 obtain⟨e,h0⟩|⟨q,cap,cur,e,_,_,h2,_⟩:=hs.2;·exact⟨none,0,by rw[e,h0],by omega,ak rfl,fun _=>⟨rfl,h0⟩,key none 0 (by rw[e,h0])⟩
 exact⟨some ⟨q,0,none⟩,cap,e,h2,aj ⟨q,rfl⟩,(fun h=>by cases h),key _ _ e⟩
theorem Ub(hj:jV x)(m:Ms)(w:dY)(f:Nat->dZ)(va:dZ)(h:MK x m w f va)(k:Nat)(hk:k<=m.st.length)(hl:m.st.length<=10000000):fI 161 #[fq x.g,eF (k:Int)] w fun e w'=>e=fM (.tuple #[])/\gu x {m with st:=m.st.drop (m.st.length-k)} w f va w':=by
 obtain⟨a,c,e0,hc,ha,hn,HP⟩:=h.KL hj hk;have c0:=h.a.blk.cell 0 (by decide);have cf:=h.a.blk.fr 0;rw[e0]at c0;generalize m.st.drop (m.st.length-k)=D at *;obtain rfl|⟨q,rfl⟩:=ha
 ·obtain⟨rfl,h0⟩:=hn rfl;obtain rfl:k=0:=by omega
  rw[h0]at c0;go_enter Tryz.func161,Tryz.ntmps161;go_wp2_with fail;go_end0
  exact⟨rfl,HP.o⟩
 generalize m.st.length=L at *;by_cases hz:c=0
 ·subst hz;obtain rfl:L=0:=by omega
  obtain rfl:k=0:=by omega
  go_enter Tryz.func161,Tryz.ntmps161;go_wp2_with fail;go_end0
  exact⟨rfl,HP.o⟩
 have hkc:(k:Int)<=(c:Int):=by omega
 go_enter Tryz.func161,Tryz.ntmps161;go_wp2_with fail;go_end0
 exact⟨rfl,HP.o⟩
theorem Fr.loc{w0 W w2:dY}{f2:Nat->dZ}{jO:dZ}{n o:Nat}{v:dZ}(h0:Cq x m w0 f va)(hn:w0.heap.size<=n)(hF:Fr x W f va w2 f2 jO)(hv:W.cell? ⟨n,o,none⟩=some v):w2.cell? ⟨n,o,none⟩=some v:=(aH (w:=W) (a:=⟨n,o,none⟩) (hF.t.block n (lt_of_cell hv) (fun hk=>by have:=kG.lt h0 hk;omega))).trans hv
theorem yR(w:dY)(cs:Array dZ)(t:TypeId)(o:Nat)(v:dZ)(h:cs[o]?=some v):(w.alloc (.cells cs t)).cell? ⟨w.heap.size,o,none⟩=some v:=by
 have:(w.alloc (.cells cs t)).heap[w.heap.size]?=some (.cells cs t):=by show(w.heap.push _)[w.heap.size]?=_;rw[aD,aA rfl]
 unfold World.cell?;simp only[this];exact h
theorem zd4(h:m.fK=[]):(jC.behind m).2={m with jK:=false,fK:=[],fin:=2}:=by unfold jC.behind;rw[h]
theorem qyr{b:Nat×Nat×Nat}{r:List (Nat×Nat×Nat)}(h:m.fK=b::r):(jC.behind m).2={m with jK:=false,fK:=r,st:=m.st.drop (m.st.length-b.2.1),eD:=b.2.2}:=by unfold jC.behind;rw[h]
theorem qwc(hj:jV x)(m:Ms)(w:dY)(f:Nat->dZ)(va:dZ)(h:MK x m w f va)(hl:m.st.length<=10000000)(hb:m.fK.length<=10000000)(hh:∀b r,m.fK=b::r->b.2.1<=m.st.length):fI 207 #[fq x.g] w fun e w'=>e=fM (.tuple #[])/\gu x (jC.behind m).2 w f va w':=by
 have OL:=h.a.blk.cell 88 (by decide);have cf:=h.a.blk.fr 88;have H1:Hid (MK x {m with jK:=false} (w.setCell ⟨x.g,88,none⟩ (.bool false)) (upd f 88 (.bool false)) va/\Fr x w f va (w.setCell ⟨x.g,88,none⟩ (.bool false)) (upd f 88 (.bool false)) va):=h.ZU hj false;rw[h.a.f88]at OL;have hbe:m.fK=[]\/∃b r,m.fK=b::r:=by cases m.fK with| nil=>exact ak rfl| cons b r=>exact aj ⟨b,r,rfl⟩
 obtain hbe|⟨b,r,hbe⟩:=hbe
 ·rw[zd4 hbe];have ev:yQ {m with jK:=false}=(.agg #[eF 0,eF 0,eF 0],false):=by unfold yQ;simp only[hbe]
  have et:m.fK.tail=[]:=by rw[hbe];rfl
  go_enter Tryz.func207,Tryz.ntmps207;go_wp2_with fail;refine(TY hj {m with jK:=false} _ _ va H1.o.1 hb).mono ?_;rintro e w1 ⟨rfl,f1,jD,k1,k2⟩;rw[ev];have H2:Hid (MK x {m with jK:=false,fK:=m.fK.tail} w1 f1 jD/\Fr x w f va w1 f1 jD):=⟨k1,H1.o.2.trans k2⟩;have HT:Hid (∀A:Obj,MK x {m with jK:=false,fK:=m.fK.tail} (w1.alloc A) f1 jD/\Fr x w f va (w1.alloc A) f1 jD):=fun A=>by obtain⟨j1,j2⟩:=H2.o.1.same hj ((fE.refl _ _).alloc A);exact⟨j1,H2.o.2.trans j2⟩
  have hgz:=H2.o.1.a.lt;have AO:=H2.o.1.a.blk.cell 89 (by decide);have cf:=H2.o.1.a.blk.fr 89;have HF:Hid (∀A:Obj,gu x {m with jK:=false,fK:=[],fin:=2} w f va ((w1.setCell ⟨x.g,89,none⟩ (eF 2)).alloc A)):=fun A=>by have:=gu.same hj (gu.fin hj (gu.mk' H2.o.1 H2.o.2) 2) ((fE.refl _ _).alloc A);rw[et]at this;exact this
  have HF2:Hid (∀A:Obj,gu x {m with jK:=false,fK:=[],fin:=2} w f va ((w1.alloc A).setCell ⟨x.g,89,none⟩ (eF 2))):=fun A=>by have:=gu.fin hj (gu.mk' (HT.o A).1 (HT.o A).2) 2;rw[et]at this;exact this
  go_wp2_with fail;first
   |refine bodyPost_ret (results_none rfl _ _ _) rfl ?_
   |go_end0
  exact⟨rfl,by first|exact HF.o _|exact HF2.o _⟩
 rw[qyr hbe];have ev:yQ {m with jK:=false}=(.agg #[eF (b.1:Int),eF (b.2.1:Int),eF (b.2.2:Int)],true):=by unfold yQ;simp only[hbe]
 have et:m.fK.tail=r:=by rw[hbe];rfl
 have hbl:=hh b r hbe;go_enter Tryz.func207,Tryz.ntmps207;go_wp2_with fail;refine(TY hj {m with jK:=false} _ _ va H1.o.1 hb).mono ?_;rintro e w1 ⟨rfl,f1,jD,k1,k2⟩;rw[ev];have H2:Hid (MK x {m with jK:=false,fK:=m.fK.tail} w1 f1 jD/\Fr x w f va w1 f1 jD):=⟨k1,H1.o.2.trans k2⟩;have HT:Hid (∀A:Obj,MK x {m with jK:=false,fK:=m.fK.tail} (w1.alloc A) f1 jD/\Fr x w f va (w1.alloc A) f1 jD):=fun A=>by obtain⟨j1,j2⟩:=H2.o.1.same hj ((fE.refl _ _).alloc A);exact⟨j1,H2.o.2.trans j2⟩
 have hgz:=H2.o.1.a.lt;rw[et]at HT H2;obtain⟨A,hA⟩:∃A,A=Obj.cells #[eF (b.1:Int),eF (b.2.1:Int),eF (b.2.2:Int)] 228:=⟨_,rfl⟩;have HC:Hid (fI 161 #[fq x.g,eF (b.2.1:Int)] (w1.alloc A).drew fun e w2=>e=fM (.tuple #[])/\w2.cell? ⟨w1.heap.size,2,none⟩=some (eF (b.2.2:Int))/\(∃u,w2.cell? ⟨x.g,86,none⟩=some u)/\w2.frozen? ⟨x.g,86,none⟩=false/\Hid (gu x {m with jK:=false,fK:=r,st:=m.st.drop (m.st.length-b.2.1)} w f va w2)):=by have hT:fE (fun _=>False) (w1.alloc A) (w1.alloc A).drew:=(fE.refl _ _).drew;obtain⟨j1,j2⟩:=(HT.o A).1.same hj hT;refine(Ub hj {m with jK:=false,fK:=r} _ f1 jD j1 b.2.1 hbl hl).mono ?_;rintro e w2 ⟨rfl,f2,jO,k1,k2⟩;refine⟨rfl,Fr.loc H2.o.1.a (ay _) k2 ?_,⟨_,k1.a.blk.cell 86 (by decide)⟩,k1.a.blk.fr 86,gu.mk' k1 ((HT.o A).2.trans (j2.trans k2))⟩;subst hA;exact yR w1 _ _ 2 _ rfl
 subst hA;go_wp2_with fail;go_region_with (first|(go_at_call 161;refine aB HC.o ?_;rintro e w2 ⟨rfl,d2,⟨u86,d86⟩,df,H3⟩))
 all_goals
  go_wp2_with fail;go_end0
  exact⟨rfl,gu.eD hj H3.o b.2.2⟩
structure Bd(P:Pg)(m:Ms):Prop where
 s:m.st.length<=9000000
 u:m.fV.length<=9000000
 b:m.fK.length<=9000000
 a:m.eY.length<=9000000
 t:m.fD<65536
 sw:∀v∈m.st,mZ v
 kY:∀v∈m.left,mZ v
 vars:m.vars.length=P.nv
 w:P.gT.length<=10000000
def jS(i:fC):dZ:=.agg #[eF (i.k:Int),eF (i.a:Int),eF (i.b:Int)]
def iX(i:fC):Obj:=.cells #[eF (i.k:Int),eF (i.a:Int),eF (i.b:Int)] 219
def iB(x:Cx)(i:fC)(m:Ms)(w:dY)(f:Nat->dZ)(va:dZ)(e:Ending)(w':dY):Prop:=e=fM (iW x (jF x.P i m).1)/\gu x (jF x.P i m).2 w f va w'
theorem iB.ok{i:fC}{m':Ms}{w':dY}(h:jF x.P i m=(0,m'))(hp:gu x m' w f va w'):iB x i m w f va (fM .nilIface) w':=by unfold iB;rw[h];exact⟨rfl,hp⟩
theorem MK.boxed(hj:jV x)(h:MK x m w f va)(A:Obj):Hid (∀W,(W=w.alloc A\/W=(w.alloc A).drew)->MK x m W f va/\Fr x w f va W f va):=by
 rintro W (rfl|rfl);·exact h.same hj ((fE.refl _ _).alloc _)
 exact h.same hj ((fE.refl _ _).alloc _).drew
theorem FW(h:1<=m.st.length):∃v r,m.st=v::r:=by cases hs:m.st with| nil=>rw[hs]at h;simp at h| cons v r=>exact⟨v,r,rfl⟩
theorem cA(h:2<=m.st.length):∃b a r,m.st=b::a::r:=by match hs:m.st,h with| [],h=>simp at h| [_],h=>simp at h| b::a::r,_=>exact⟨b,a,r,rfl⟩
theorem do0(hj:jV x)(m:Ms)(w:dY)(f:Nat->dZ)(va:dZ)(h:MK x m w f va)(i:fC)(hb:Bd x.P m)(hk:i.k=0):fI 97 #[fq x.g,jS i] w (iB x i m w f va):=by
 have HB:=h.boxed hj (iX i);have HD:Hid (jF x.P i m=(0,{m with st:=(i.a:Int)::m.st})):=by unfold Hid jF;rw[aA hk]
 have hs:=hb.s;have hgz:=h.a.lt;unfold jS;unfold iX at HB;clear h hb hk;go_enter Tryz.func97,Tryz.ntmps97;go_wp2_with fail;go_region_with (first|(go_at_call 98;refine(FV hj m _ f va (HB.o _ (by first|exact ak rfl|exact aj rfl)).1 (i.a:Int) (by omega)).mono ?_;rintro e w1 ⟨rfl,v1,k1,k2⟩;have H1:Hid (gu x {m with st:=(i.a:Int)::m.st} w f va w1):=gu.mk' k1 ((HB.o _ (by first|exact ak rfl|exact aj rfl)).2.trans k2);clear k1 k2))
 all_goals
  go_wp2_with fail;go_ret;exact iB.ok HD.o H1.o
theorem MK.OM(hj:jV x)(h:MK x m w f va){i:Nat}(hi:i<m.vars.length):∃q c,f 85=.slice (some ⟨q,0,none⟩) m.vars.length c/\w.cell? ⟨q,i,none⟩=some (eF (m.vars.getD i 0))/\w.frozen? ⟨q,i,none⟩=false/\q≠x.g /\
   ∀v:Int,MK x {m with vars:=m.vars.set i v} (w.setCell ⟨q,i,none⟩ (eF v)) f va/\Fr x w f va (w.setCell ⟨q,i,none⟩ (eF v)) f va:=by
 have hs:=h.a.zT;obtain⟨q,c,e⟩:=KH hs (by omega);rw[e]at hs;have hmem:f 85∈fZ f va:=by simp[fZ]
 have rH:(f 85).ownBlock=some q:=by rw[e];rfl
 have hq:=h.a.sep.own _ hmem q rH;have hlt:=h.a.lt;refine⟨q,c,e,?_,hs.frozenAt i,hq.2.1,fun v=>?_⟩;·rw[hs.cellAt i (by omega)];simp[lD,List.getD_eq_getElem?_getD,List.getElem?_eq_getElem hi]
 ·have hT:fE (fun k=>k=q) w (w.setCell ⟨q,i,none⟩ (eF v)):=fE.setCell (T:=fun k=>k=q) (fE.refl _ _) (p:=⟨q,i,none⟩) (ak rfl) _;have wX:∀k,k=q->x.B<=k:=fun k hk=>by rw[hk];exact hq.1
  have vJ:∀j u,(fZ f va)[j]?=some u->j≠3->∀k,u.ownBlock=some k->¬k=q:=fun j u zm hj3 k hk hh=>by subst hh;exact h.a.sep.mem (i:=j) (j:=3) zm rfl hj3 k hk rH
  refine⟨⟨⟨h.a.hB,h.a.hj,h.a.blk.oL (by decide) hT (fun hh=>hq.2.1 hh.symm),h.a.f3,h.a.f4,h.a.tab,h.a.f86,h.a.f87,h.a.f88,h.a.f89,iM h.a.st hT (vJ 0 _ rfl (by decide)),iM h.a.un hT (vJ 1 _ rfl (by decide)),iM h.a.be hT (vJ 2 _ rfl (by decide)),?_,h.a.sep.world hT.size,fun k hk=>?_⟩,hj.keep _ _ _ _ _ _ h.k hT wX (vJ 4 _ rfl (by decide)),h.p.oL hT fun k hk=>ak (wX k hk),h.e.oL hT fun k hk=>ak (wX k hk)⟩,hT.mono fun k _ hk=>?_,fun k _ hk=>hk⟩
  ·have:=(hs.stored i (eF v)).1;rw[e];simp only[List.length_set];have e2:lD (m.vars.set i v)=(lD m.vars).set i (eF v):=by unfold lD;rw[List.map_set]
   rw[e2];exact this
  ·obtain⟨a,b,c,d⟩:=h.a.jn k hk;exact⟨(aH (w:=w) (a:=⟨x.J k,0,none⟩) (hT.block _ (lt_of_cell a) (fun hh=>d _ hmem (rH.trans (congrArg some (show q=x.J k from hh.symm)))))).trans a,b,c,d⟩
  ·exact aj (aj ⟨f 85,hmem,by rw[rH,hk]⟩)
theorem do1(hj:jV x)(m:Ms)(w:dY)(f:Nat->dZ)(va:dZ)(h:MK x m w f va)(i:fC)(hb:Bd x.P m)(hc:mW x.P i m)(hk:i.k=1):fI 99 #[fq x.g,jS i] w (iB x i m w f va):=by
 have HB:=h.boxed hj (iX i);have hv:i.a<m.vars.length:=by rw[hb.vars];exact SQ hc.fit (ak hk)
 have HD:Hid (jF x.P i m=(0,{m with st:=m.vars.getD i.a 0::m.st})):=by unfold Hid jF;rw[ah (by omega),aA hk]
 obtain⟨q,c,KM,cv,_,_,_⟩:=h.OM hj hv;have c85:=h.a.blk.cell 85 (by decide);rw[KM]at c85;have hs:=hb.s;have hgz:=h.a.lt;have hqz:=lt_of_cell cv;have Nq:(i.a:Int)<(m.vars.length:Int):=by omega
 have HP:Hid (∀W,(W=w.alloc (iX i)\/W=(w.alloc (iX i)).drew)->fI 98 #[fq x.g,eF (m.vars.getD i.a 0)] W fun e w1=>e=fM (.tuple #[])/\w1.cell? ⟨x.g,85,none⟩=some (.slice (some ⟨q,0,none⟩) m.vars.length c)/\w1.cell? ⟨q,i.a,none⟩=some (eF (m.vars.getD i.a 0))/\w1.cell? ⟨w.heap.size,1,none⟩=some (eF (i.a:Int))/\Hid (gu x {m with st:=m.vars.getD i.a 0::m.st} w f va w1)):=fun W hW=>by
  obtain⟨j1,j2⟩:=HB.o W hW;refine(FV hj m W f va j1 (m.vars.getD i.a 0) (by omega)).mono ?_;rintro e w1 ⟨rfl,v1,k1,k2⟩;obtain⟨q',c',e1,e2,_⟩:=k1.OM hj hv;have e1':f 85=.slice (some ⟨q',0,none⟩) m.vars.length c':=e1;rw[KM]at e1';cases e1';have c1:=k1.a.blk.cell 85 (by decide);rw[e1]at c1;refine⟨rfl,c1,e2,Fr.loc h.a (ay _) k2 ?_,gu.mk' k1 (j2.trans k2)⟩;obtain rfl|rfl:=hW;·exact yR w _ _ 1 _ rfl
  exact yR w _ _ 1 _ rfl
 unfold jS;unfold iX at HB HP;clear h hb hc hk;generalize m.vars.getD i.a 0=V at *;generalize m.vars.length=L at *;go_enter Tryz.func99,Tryz.ntmps99;go_wp2_with fail;go_region_held (fun w'=>w'.cell? ⟨x.g,85,none⟩=some (.slice (some ⟨q,0,none⟩) L c)/\w'.cell? ⟨q,i.a,none⟩=some (eF V)/\w'.cell? ⟨w.heap.size,1,none⟩=some (eF (i.a:Int))) (go_keep)
  (first|(go_at_call 98;refine aB (HP.o _ (by first|exact ak rfl|exact aj rfl)) ?_;rintro e w1 ⟨rfl,d1,d2,d3,H1⟩))
 all_goals
  go_wp2_with fail;go_ret;exact iB.ok HD.o H1.o
theorem do3(hj:jV x)(m:Ms)(w:dY)(f:Nat->dZ)(va:dZ)(h:MK x m w f va)(i:fC)(hb:Bd x.P m)(hc:mW x.P i m)(hk:i.k=3):fI 102 #[fq x.g,jS i] w (iB x i m w f va):=by
 have HB:=h.boxed hj (iX i);have hst:=hc.st;rw[show mH i.k=1 by rw[hk];rfl]at hst;obtain⟨v,r,hst⟩:=FW hst;have HD:Hid (jF x.P i m=(0,{m with st:=r})):=by unfold Hid jF;rw[ah (by omega),ah (by omega),ah (by omega),aA hk];simp only[hst];rfl
 have hs:=hb.s;rw[hst,aG]at hs;unfold jS;unfold iX at HB;clear h hb hc hk;go_enter Tryz.func102,Tryz.ntmps102;go_wp2_with fail;refine(yP hj m _ f va (HB.o _ (by first|exact ak rfl|exact aj rfl)).1 v r hst (by omega)).mono ?_;rintro e w1 ⟨rfl,v1,k1,k2⟩;have H1:Hid (gu x {m with st:=r} w f va w1):=gu.mk' k1 ((HB.o _ (by first|exact ak rfl|exact aj rfl)).2.trans k2);clear k1 k2;go_wp2_with fail;go_ret;exact iB.ok HD.o H1.o
theorem Uc(hj:jV x)(m:Ms)(w:dY)(f:Nat->dZ)(va:dZ)(h:MK x m w f va)(i:fC)(_hb:Bd x.P m)(_hc:mW x.P i m)(hk:i.k=12):fI 114 #[fq x.g,jS i] w (iB x i m w f va):=by
 have HB:=h.boxed hj (iX i);have HD:Hid (jF x.P i m=(0,{m with eD:=i.a})):=by unfold Hid jF;rw[ah (by omega),ah (by omega),ah (by omega),ah (by omega),ah (by omega),ah (by omega),ah (by omega),aA hk]
 have HQ:Hid (∀W,(W=w.alloc (iX i)\/W=(w.alloc (iX i)).drew)->gu x {m with eD:=i.a} w f va (W.setCell ⟨x.g,86,none⟩ (eF (i.a:Int)))):=fun W hW=>gu.eD hj (gu.mk' (HB.o W hW).1 (HB.o W hW).2) i.a;have HQ2:Hid (∀A,gu x {m with eD:=i.a} w f va ((w.setCell ⟨x.g,86,none⟩ (eF (i.a:Int))).alloc A)):=fun A=>gu.same hj (gu.eD hj (gu.mk' h (Fr.refl _ _ _ _)) i.a) ((fE.refl _ _).alloc A);have wE:=h.a.blk.cell 86 (by decide);have cf:=h.a.blk.fr 86;have hgz:=h.a.lt;unfold jS;unfold iX at HB HQ;clear h _hb _hc hk;go_enter Tryz.func114,Tryz.ntmps114;go_wp2_with fail;go_ret;exact iB.ok HD.o (by first|exact HQ2.o _|exact HQ.o _ (ak rfl)|exact HQ.o _ (aj rfl))
theorem Ud(hj:jV x)(m:Ms)(w:dY)(f:Nat->dZ)(va:dZ)(h:MK x m w f va)(i:fC)(hb:Bd x.P m)(hc:mW x.P i m)(hk:i.k=13):fI 115 #[fq x.g,jS i] w (iB x i m w f va):=by
 have HB:=h.boxed hj (iX i);have hst:=hc.st;rw[show mH i.k=1 by rw[hk];rfl]at hst;obtain⟨v,r,hst⟩:=FW hst;have HD:Hid (jF x.P i m=(0,{m with st:=r,eD:=if v=0 then i.a else m.eD})):=by unfold Hid jF;rw[ah (by omega),ah (by omega),ah (by omega),ah (by omega),ah (by omega),ah (by omega),ah (by omega),ah (by omega),aA hk];simp only[hst];rfl
 have hs:=hb.s;rw[hst,aG]at hs;have HU:Hid (∀W,(W=w.alloc (iX i)\/W=(w.alloc (iX i)).drew)->fI 116 #[fq x.g,eF (i.a:Int)] W fun e w'=>e=fM (.tuple #[])/\gu x {m with st:=r,eD:=if v=0 then i.a else m.eD} w f va w'):=fun W hW=>(zbw hj m W f va (HB.o W hW).1 i.a v r hst (by omega)).mono (by rintro e w1 ⟨rfl,f1,jD,k1,k2⟩;exact⟨rfl,gu.mk' k1 ((HB.o W hW).2.trans k2)⟩);unfold jS;unfold iX at HB HU;clear h hb hc hk;go_enter Tryz.func115,Tryz.ntmps115;go_wp2_with fail;refine aB (HU.o _ (by first|exact ak rfl|exact aj rfl)) ?_;rintro e w1 ⟨rfl,h1⟩;have H1:Hid (gu x {m with st:=r,eD:=if v=0 then i.a else m.eD} w f va w1):=h1;clear h1;go_wp2_with fail;go_ret;exact iB.ok HD.o H1.o
theorem Ue(hj:jV x)(m:Ms)(w:dY)(f:Nat->dZ)(va:dZ)(h:MK x m w f va)(i:fC)(hb:Bd x.P m)(hc:mW x.P i m)(hk:i.k=14):fI 117 #[fq x.g,jS i] w (iB x i m w f va):=by
 have HB:=h.boxed hj (iX i);have hst:=hc.st;rw[show mH i.k=1 by rw[hk];rfl]at hst;obtain⟨v,r,hst⟩:=FW hst;have HD:Hid (jF x.P i m=(0,(if 0<v then{m with st:=wrap64 (v-1)::r}else{m with st:=r,eD:=i.a}))):=by unfold Hid jF;rw[ah (by omega),ah (by omega),ah (by omega),ah (by omega),ah (by omega),ah (by omega),ah (by omega),ah (by omega),ah (by omega),aA hk];simp only[hst,List.headD_cons,dM];split<;>rfl
 have hs:=hb.s;rw[hst,aG]at hs;have HU:Hid (∀W,(W=w.alloc (iX i)\/W=(w.alloc (iX i)).drew)->fI 118 #[fq x.g,eF (i.a:Int)] W fun e w'=>e=fM (.tuple #[])/\gu x (if 0<v then{m with st:=wrap64 (v-1)::r}else{m with st:=r,eD:=i.a}) w f va w'):=fun W hW=>(zj8 hj m W f va (HB.o W hW).1 i.a v r hst (by omega) (hb.sw v (by rw[hst];exact dA))).mono (by rintro e w1 ⟨rfl,f1,jD,k1,k2⟩;exact⟨rfl,gu.mk' k1 ((HB.o W hW).2.trans k2)⟩);unfold jS;unfold iX at HB HU;clear h hb hc hk;go_enter Tryz.func117,Tryz.ntmps117;go_wp2_with fail;refine aB (HU.o _ (by first|exact ak rfl|exact aj rfl)) ?_;rintro e w1 ⟨rfl,h1⟩;have H1:Hid (gu x (if 0<v then{m with st:=wrap64 (v-1)::r}else{m with st:=r,eD:=i.a}) w f va w1):=h1;clear h1;go_wp2_with fail;go_ret;exact iB.ok HD.o H1.o
theorem zc9(m:Ms)(w:dY)(f:Nat->dZ)(va:dZ)(h:MK x m w f va)(_hl:m.st.length<=10000000):fI 121 #[fq x.g] w fun e w'=>e=fM (eF (m.st.length:Int))/\w'=w:=by
 have c0:=h.a.blk.cell 0 (by decide);obtain⟨a,n,cp,e0⟩:=lu h.a.st;obtain rfl:n=m.st.length:=by have:=h.a.st;rw[e0]at this;exact DT this
 rw[e0]at c0;clear h;generalize m.st.length=L at *;go_enter Tryz.func121,Tryz.ntmps121;go_wp2_with fail;go_ret;exact⟨rfl,rfl⟩
theorem Uf(hj:jV x)(m:Ms)(w:dY)(f:Nat->dZ)(va:dZ)(h:MK x m w f va)(i:fC)(hb:Bd x.P m)(_hc:mW x.P i m)(hk:i.k=15):fI 119 #[fq x.g,jS i] w (iB x i m w f va):=by
 have HB:=h.boxed hj (iX i);have HD:Hid (jF x.P i m=(0,{m with fK:=(m.fV.length,m.st.length,i.a)::m.fK})):=by unfold Hid jF;rw[ah (by omega),ah (by omega),ah (by omega),ah (by omega),ah (by omega),ah (by omega),ah (by omega),ah (by omega),ah (by omega),ah (by omega),aA hk]
 have hs:=hb.s;have hu:=hb.u;have hbb:=hb.b;have HH:Hid (∀W,(W=w.alloc (iX i)\/W=(w.alloc (iX i)).drew)->fI 121 #[fq x.g] W fun e w'=>e=fM (eF (m.st.length:Int))/\w'=W):=fun W hW=>zc9 m W f va (HB.o W hW).1 (by omega);have HP:Hid (∀W,(W=w.alloc (iX i)\/W=(w.alloc (iX i)).drew)->fI 120 #[.pointer (some ⟨x.g,1,none⟩),eF (m.st.length:Int),eF (i.a:Int)] W fun e w1=>e=fM (.tuple #[])/\w1.cell? ⟨w.heap.size,1,none⟩=some (eF (i.a:Int))/\Hid (gu x {m with fK:=(m.fV.length,m.st.length,i.a)::m.fK} w f va w1)):=fun W hW=>by
  obtain⟨j1,j2⟩:=HB.o W hW;refine(zjt hj m W f va j1 m.st.length i.a (by omega) (by omega)).mono ?_;rintro e w1 ⟨rfl,f1,jD,k1,k2⟩;refine⟨rfl,Fr.loc h.a (ay _) k2 ?_,gu.mk' k1 (j2.trans k2)⟩;obtain rfl|rfl:=hW;·exact yR w _ _ 1 _ rfl
  exact yR w _ _ 1 _ rfl
 have hgz:=h.a.lt;unfold jS;unfold iX at HB HP HH;clear h hb _hc hk hs hu hbb;generalize m.st.length=L at *;go_enter Tryz.func119,Tryz.ntmps119;go_wp2_with fail;go_region_held (fun w'=>w'.cell? ⟨w.heap.size,1,none⟩=some (eF (i.a:Int))) (go_keep)
  (first|(go_at_call 121;refine aB (HH.o _ (by first|exact ak rfl|exact aj rfl)) ?_;rintro e w1 ⟨rfl,rfl⟩)|(go_at_call 120;refine aB (HP.o _ (by first|exact ak rfl|exact aj rfl)) ?_;rintro e w1 ⟨rfl,d1,H1⟩))
 all_goals
  go_wp2_with fail;go_ret;exact iB.ok HD.o H1.o
theorem Ug(hj:jV x)(m:Ms)(w:dY)(f:Nat->dZ)(va:dZ)(h:MK x m w f va)(i:fC)(hb:Bd x.P m)(hc:mW x.P i m)(hk:i.k=16):fI 122 #[fq x.g,jS i] w (iB x i m w f va):=by
 have HB:=h.boxed hj (iX i);have HD:Hid (jF x.P i m=(0,{m with fK:=m.fK.tail,eD:=i.a})):=by unfold Hid jF;rw[ah (by omega),ah (by omega),ah (by omega),ah (by omega),ah (by omega),ah (by omega),ah (by omega),ah (by omega),ah (by omega),ah (by omega),ah (by omega),aA hk]
 have hbb:=hb.b;have hne:=hc.keep hk;have hbe:∃b r,m.fK=b::r:=by cases hm:m.fK with| nil=>exact absurd hm hne| cons b r=>exact⟨b,r,rfl⟩
 obtain⟨b,r,hbe⟩:=hbe;have ev:yQ m=(.agg #[eF (b.1:Int),eF (b.2.1:Int),eF (b.2.2:Int)],true):=by unfold yQ;rw[hbe]
 have HP:Hid (∀W,(W=w.alloc (iX i)\/W=(w.alloc (iX i)).drew)->fI 123 #[.pointer (some ⟨x.g,1,none⟩)] W fun e w1=>e=fM (.tuple #[.agg #[eF (b.1:Int),eF (b.2.1:Int),eF (b.2.2:Int)],.bool true])/\w1.cell? ⟨w.heap.size,1,none⟩=some (eF (i.a:Int))/\(∃u,w1.cell? ⟨x.g,86,none⟩=some u)/\w1.frozen? ⟨x.g,86,none⟩=false/\Hid (gu x {m with fK:=m.fK.tail} w f va w1)):=fun W hW=>by
  obtain⟨j1,j2⟩:=HB.o W hW;refine(TY hj m W f va j1 (by omega)).mono ?_;rintro e w1 ⟨rfl,f1,jD,k1,k2⟩;rw[ev];refine⟨rfl,Fr.loc h.a (ay _) k2 ?_,⟨_,k1.a.blk.cell 86 (by decide)⟩,k1.a.blk.fr 86,gu.mk' k1 (j2.trans k2)⟩;obtain rfl|rfl:=hW;·exact yR w _ _ 1 _ rfl
  exact yR w _ _ 1 _ rfl
 have hgz:=h.a.lt;unfold jS;unfold iX at HB HP;clear h hb hc hk hbb hne ev hbe;go_enter Tryz.func122,Tryz.ntmps122;go_wp2_with fail;refine aB (HP.o _ (by first|exact ak rfl|exact aj rfl)) ?_;rintro e w1 ⟨rfl,d1,⟨u,d86⟩,df,H1⟩;go_wp2_with fail;go_ret;exact iB.ok HD.o (gu.eD hj H1.o i.a)
theorem Uh(hj:jV x)(m:Ms)(w:dY)(f:Nat->dZ)(va:dZ)(h:MK x m w f va)(i:fC)(_hb:Bd x.P m)(_hc:mW x.P i m)(hk:i.k=17):fI 124 #[fq x.g,jS i] w (iB x i m w f va):=by
 have HB:=h.boxed hj (iX i);have HD:Hid (jF x.P i m=(1,m)):=by unfold Hid jF;rw[ah (by omega),ah (by omega),ah (by omega),ah (by omega),ah (by omega),ah (by omega),ah (by omega),ah (by omega),ah (by omega),ah (by omega),ah (by omega),ah (by omega),aA hk]
 have v1:=h.e.v1;have hgz:=h.a.lt;have hG:=lt_of_cell v1;have HF:Hid (gu x m w f va w):=gu.mk' h (Fr.refl _ _ _ _);unfold jS;unfold iX at HB;clear h _hb _hc hk;go_enter Tryz.func124,Tryz.ntmps124;go_wp2_with fail;go_ret;unfold iB;rw[HD.o];exact⟨rfl,by first|exact HF.o|exact gu.mk' (HB.o _ (by first|exact ak rfl|exact aj rfl)).1 (HB.o _ (by first|exact ak rfl|exact aj rfl)).2⟩
theorem Ui(hj:jV x)(lN:zX x)(m:Ms)(w:dY)(f:Nat->dZ)(va:dZ)(h:MK x m w f va)(i:fC)(hb:Bd x.P m)(hc:mW x.P i m)(hk:i.k=18):fI 125 #[fq x.g,jS i] w (iB x i m w f va):=by
 have HB:=h.boxed hj (iX i);have hst:=hc.st;rw[show mH i.k=1 by rw[hk];rfl]at hst;obtain⟨v,r,hst⟩:=FW hst;have hs:=hb.s;rw[hst,aG]at hs;have HD:Hid (jF x.P i m=AL x.P i.a i.b m):=by unfold Hid jF;rw[ah (by omega),ah (by omega),ah (by omega),ah (by omega),ah (by omega),ah (by omega),ah (by omega),ah (by omega),ah (by omega),ah (by omega),ah (by omega),ah (by omega),ah (by omega),aA hk];rfl
 have hw:=Za hc.fit (ak hk);have HP:Hid (∀W,(W=w.alloc (iX i)\/W=(w.alloc (iX i)).drew)->fI 126 #[fq x.g,eF (i.a:Int),eF (i.b:Int)] W fun e w1=>e=fM (iW x (AL x.P i.a i.b m).1)/\Hid (gu x (AL x.P i.a i.b m).2 w f va w1)):=fun W hW=>by obtain⟨j1,j2⟩:=HB.o W hW;have ha:=hb.a;have Il:=hb.w;have hbb:=hc.b;refine(RP hj lN m W f va j1 i.a i.b v r hst (by omega) hw (hb.sw v (by rw[hst];exact dA)) hb.kY hb.t (by omega) (by omega) Il).mono ?_;rintro e w1 ⟨rfl,f1,jD,k1,k2⟩;exact⟨rfl,gu.mk' k1 (j2.trans k2)⟩
 unfold jS;unfold iX at HB HP;clear h hb hc hk lN hst hs;go_enter Tryz.func125,Tryz.ntmps125;go_wp2_with fail;refine aB (HP.o _ (by first|exact ak rfl|exact aj rfl)) ?_;rintro e w1 ⟨rfl,H1⟩;go_wp2_with fail;go_ret;unfold iB;rw[HD.o];exact⟨rfl,H1.o⟩
theorem Uj(hj:jV x)(m:Ms)(w:dY)(f:Nat->dZ)(va:dZ)(h:MK x m w f va)(i:fC)(hb:Bd x.P m)(hc:mW x.P i m)(hk:i.k=19):fI 127 #[fq x.g,jS i] w (iB x i m w f va):=by
 have HB:=h.boxed hj (iX i);have hst:=hc.st;rw[show mH i.k=1 by rw[hk];rfl]at hst;obtain⟨v,r,hst⟩:=FW hst;have hs:=hb.s;rw[hst,aG]at hs;have HD:Hid (jF x.P i m=(0,{m with fV:=(i.a,v)::m.fV})):=by unfold Hid jF;rw[ah (by omega),ah (by omega),ah (by omega),ah (by omega),ah (by omega),ah (by omega),ah (by omega),ah (by omega),ah (by omega),ah (by omega),ah (by omega),ah (by omega),ah (by omega),ah (by omega)];simp only[hst];rfl
 have hu:=hb.u;have HH:Hid (∀W,(W=w.alloc (iX i)\/W=(w.alloc (iX i)).drew)->fI 129 #[fq x.g] W fun e w1=>e=fM (eF v)/\w1.cell? ⟨w.heap.size,1,none⟩=some (eF (i.a:Int))/\Hid (MK x m w1 f va/\Fr x w f va w1 f va)):=fun W hW=>by
  obtain⟨j1,j2⟩:=HB.o W hW;refine(KI hj m W f va j1 v r hst (by omega)).mono ?_;rintro e w1 ⟨rfl,hT⟩;obtain⟨k1,k2⟩:=j1.same hj hT;refine⟨rfl,Fr.loc h.a (ay _) k2 ?_,k1,j2.trans k2⟩;obtain rfl|rfl:=hW;·exact yR w _ _ 1 _ rfl
  exact yR w _ _ 1 _ rfl
 have HP:Hid (∀w1,(MK x m w1 f va/\Fr x w f va w1 f va)->w1.cell? ⟨w.heap.size,1,none⟩=some (eF (i.a:Int))->fI 128 #[.pointer (some ⟨x.g,1,none⟩),eF (i.a:Int),eF v] w1 fun e w2=>e=fM (.tuple #[])/\w2.cell? ⟨w.heap.size,1,none⟩=some (eF (i.a:Int))/\Hid (gu x {m with fV:=(i.a,v)::m.fV} w f va w2)):=fun w1 h1 hd=>by refine(ztq hj m w1 f va h1.1 i.a v (by omega)).mono ?_;rintro e w2 ⟨rfl,f1,jD,k1,k2⟩;exact⟨rfl,Fr.loc h.a (ay _) k2 hd,gu.mk' k1 (h1.2.trans k2)⟩
 have hgz:=h.a.lt;unfold jS;unfold iX at HB HH;clear h hb hc hk hst hs hu;go_enter Tryz.func127,Tryz.ntmps127;go_wp2_with fail;go_region_held (fun w'=>w'.cell? ⟨w.heap.size,1,none⟩=some (eF (i.a:Int))) (go_keep)
  (first|(go_at_call 129;refine aB (HH.o _ (by first|exact ak rfl|exact aj rfl)) ?_;rintro e w1 ⟨rfl,d1,H1⟩)|(go_at_call 128;refine aB (HP.o _ H1.o d1) ?_;rintro e w2 ⟨rfl,d2,H2⟩))
 all_goals
  go_wp2_with fail;go_ret;exact iB.ok HD.o H2.o
