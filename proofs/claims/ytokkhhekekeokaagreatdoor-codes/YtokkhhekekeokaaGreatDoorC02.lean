import Derived.Test.YtokkhhekekeokaaGreatDoorC01
set_option maxRecDepth 100000
namespace Go.Proofs.YtokkhhekekeokaaGreatDoor
open Go.RowKit
namespace Px
theorem lR (P:Pg)(V:Vs)(iw iv:fq->Nat)(hiv:∀ w i,iK V w=some i->iv w=i)(x:Sm)(hop:x.op=105)(hk:zP V x.op x.fD x.ex x.gu x.n)(h1:uI P V iw iv x.one)(h2:uI P V iw iv x.two)(k1:mZ V x.one)(k2:mZ V x.two)(u1:sO P iw x.one)(u2:sO P iw x.two):uJ P V iw iv x:=by
 intro s m S G hr hg hu hc;obtain ⟨e,he,hke⟩:∃ e,x.ex=some e/\mG V e 98:=by
  rcases hk with h | h | h | h | h | h
  ·omega
  ·omega
  ·exact h.2
  all_goals omega
 have hco:pU x=jA x.ex+2+kL x.one+kL x.two:=by unfold pU;rw[if_neg (by omega),if_neg (by omega),if_pos hop]
 have hrun:gT V x s=match sN V s.held x.ex with
  | none=>{ s with failed:=true }
  | some v=>if v=1 then gJ V x.one s else gJ V x.two s:=by unfold gT;rw[if_neg (by omega),if_neg (by omega),if_pos hop]<;>rfl
 have hX:jc P m.fE (lu iv x.ex):=by
  unfold kE at hc;rw[if_neg (by omega),if_neg (by omega),if_pos hop] at hc
  dsimp only at hc;split at hc
  ·exact hc.left
  ·exact hc.left
 rw[hco,hrun];obtain ⟨o1,o2⟩:=Ov P V iv hiv x.ex 98 m (fun e' h'=>by rw[he] at h';cases h';exact hke) (by rw[hr.held];exact hr.ty) hu hr.fin hX
 rw[hr.held] at o1 o2;cases hev:sN V s.held x.ex with
 | none =>
  obtain ⟨n',t,q,g1,g2⟩:=o2 hev;rw[<- hr.held] at g2;exact Lf hr hg g2 (by omega)
 | some v =>
  obtain ⟨g1,g2⟩:=o1 v hev;rw[<- hr.held] at g1;dsimp only;by_cases CO:x.two.isEmpty
  ·have hmk:kE iw iv x m.fE=lu iv x.ex++([⟨13,m.fE+jA x.ex+1+(mkS iw iv x.one (m.fE+jA x.ex+1)).length,0⟩]++mkS iw iv x.one (m.fE+jA x.ex+1)):=by
    unfold kE;rw[if_neg (by omega),if_neg (by omega),if_pos hop];dsimp only;rw[if_pos CO,vX]
   rw[hmk] at hc |-;have hcr:=hc.right;rw[vX] at hcr;have hca:=hcr.right;simp only[aS] at hca;rcases g2 rfl with rfl | rfl
   ·rw[if_neg (by decide)]
    have e2:x.two=[]:=dA.1 CO;rw[e2,Cy];have hs:jY P 1 { m with st:=0::m.st,fE:=m.fE+jA x.ex }=some { m with st:=m.st,fE:=m.fE+jA x.ex+1+(mkS iw iv x.one (m.fE+jA x.ex+1)).length }:=step_ok hcr.left.one hu rfl hr.fin
    obtain ⟨q1,q2,q3⟩:=zo.1 hg;refine ak ⟨q1,q2,q3,_,_,oO g1 hs,⟨hr.held,hr.left,hr.fI,hr.st,hr.und,hr.fP,hr.len,hr.fJ,hr.fin,hr.ty⟩,?_,hu,by omega⟩
    dsimp only;simp only[ay,vX,aS];omega
   ·rw[if_pos rfl];have hs:jY P 1 { m with st:=1::m.st,fE:=m.fE+jA x.ex }=some { m with st:=m.st,fE:=m.fE+jA x.ex+1 }:=step_ok hcr.left.one hu rfl hr.fin
    have hp:=h1 s { m with st:=m.st,fE:=m.fE+jA x.ex+1 } S G k1 u1 ⟨hr.held,hr.left,hr.fI,hr.st,hr.und,hr.fP,hr.len,hr.fJ,hr.fin,hr.ty⟩ hg hu hca
    have:=Post.after (oO g1 hs) hp (N:=jA x.ex+2+kL x.one+kL x.two+Uq s) (by omega)
    dsimp only at this;have el:m.fE+(lu iv x.ex++([(⟨13,m.fE+jA x.ex+1+(mkS iw iv x.one (m.fE+jA x.ex+1)).length,0⟩:Ins)]++mkS iw iv x.one (m.fE+jA x.ex+1))).length=m.fE+jA x.ex+1+(mkS iw iv x.one (m.fE+jA x.ex+1)).length:=by
     simp only[ay,vX,aS];omega
    rw[el];exact this
  ·generalize hA:mkS iw iv x.one (m.fE+jA x.ex+1)=A;generalize hB:mkS iw iv x.two (m.fE+jA x.ex+1+A.length+1)=B;have hmk:kE iw iv x m.fE=lu iv x.ex++([⟨13,m.fE+jA x.ex+1+A.length+1,0⟩]++(A++([⟨12,m.fE+jA x.ex+1+A.length+1+B.length,0⟩]++B))):=by
    unfold kE;rw[if_neg (by omega),if_neg (by omega),if_pos hop];dsimp only;rw[if_neg CO,vX,hA,hB]
   rw[hmk] at hc |-;have hcr:=hc.right;rw[vX] at hcr;have hca:=hcr.right;simp only[aS] at hca;have el:m.fE+(lu iv x.ex++([(⟨13,m.fE+jA x.ex+1+A.length+1,0⟩:Ins)]++(A++([(⟨12,m.fE+jA x.ex+1+A.length+1+B.length,0⟩:Ins)]++B)))).length=m.fE+jA x.ex+1+A.length+1+B.length:=by
    simp only[ay,vX,aS];omega
   rw[el];rcases g2 rfl with rfl | rfl
   ·rw[if_neg (by decide)]
    have hs:jY P 1 { m with st:=0::m.st,fE:=m.fE+jA x.ex }=some { m with st:=m.st,fE:=m.fE+jA x.ex+1+A.length+1 }:=step_ok hcr.left.one hu rfl hr.fin
    have hcb:=hca.right.right;simp only[aS] at hcb;have hp:=h2 s { m with st:=m.st,fE:=m.fE+jA x.ex+1+A.length+1 } S G k2 u2 ⟨hr.held,hr.left,hr.fI,hr.st,hr.und,hr.fP,hr.len,hr.fJ,hr.fin,hr.ty⟩ hg hu (by dsimp only;rw[hB];exact hcb)
    dsimp only at hp;rw[hB] at hp;exact Post.after (oO g1 hs) hp (by omega)
   ·rw[if_pos rfl];have hs:jY P 1 { m with st:=1::m.st,fE:=m.fE+jA x.ex }=some { m with st:=m.st,fE:=m.fE+jA x.ex+1 }:=step_ok hcr.left.one hu rfl hr.fin
    have hp:=h1 s { m with st:=m.st,fE:=m.fE+jA x.ex+1 } S G k1 u1 ⟨hr.held,hr.left,hr.fI,hr.st,hr.und,hr.fP,hr.len,hr.fJ,hr.fin,hr.ty⟩ hg hu (by dsimp only;rw[hA];exact hca.left)
    dsimp only at hp;rw[hA] at hp;refine Post.after (oO g1 hs) (n:=kL x.one+Uq s+1) ?_ (by omega)
    refine Post.seq (S':=[]) (f:=fun s=>s) hp (fun _=>rfl) (by omega) ?_
    intro k m' hk' hr' hp' hu' hb' hg';have hs2:jY P 1 m'=some { m' with fE:=m.fE+jA x.ex+1+A.length+1+B.length }:=by
     refine step_ok (i:=⟨12,m.fE+jA x.ex+1+A.length+1+B.length,0⟩) ?_ hu' rfl hr'.fin;rw[hp'];exact hca.right.left.one
    obtain ⟨q1,q2,q3⟩:=zo.1 hg';exact ak ⟨q1,q2,q3,1,_,hs2,⟨hr'.held,hr'.left,hr'.fI,hr'.st,hr'.und,hr'.fP,hr'.len,hr'.fJ,hr'.fin,hr'.ty⟩,rfl,hu',by omega⟩
theorem mB (P:Pg)(V:Vs)(iw iv:fq->Nat)(one:List Sm)(h1:uI P V iw iv one)(k1:mZ V one)(u1:sO P iw one)(p:Nat)(hc:jc P p ([⟨14,p+1+(mkS iw iv one (p+1)).length+1,0⟩]++(mkS iw iv one (p+1)++[⟨12,p,0⟩])))(n:Nat):n<=9->∀ (s:Rs) (m:Ms) (S:List Int) (G:List (Nat×Nat)),Rel P V s m ((n:Int)::S) G->s.going=true->m.iZ=false->m.fE=p ->
  Post P V S G (p+1+(mkS iw iv one (p+1)).length+1) (n * (kL one+2)+1+Uq s) m (iter (gJ V one) n s):=by
 induction n with
 | zero =>
  intro _ s m S G hr hg hu hp;subst hp;have hs:jY P 1 m=some { m with st:=S,fE:=m.fE+1+(mkS iw iv one (m.fE+1)).length+1 }:=by
   refine step_ok hc.left.one hu ?_ hr.fin;unfold jh;simp[hr.st]
  obtain ⟨q1,q2,q3⟩:=zo.1 hg;exact ak ⟨q1,q2,q3,1,_,hs,⟨hr.held,hr.left,hr.fI,rfl,hr.und,hr.fP,hr.len,hr.fJ,hr.fin,hr.ty⟩,rfl,hu,by rw[iter];omega⟩
 | succ n ih =>
  intro hn s m S G hr hg hu hp;subst hp;have hs:jY P 1 m=some { m with st:=(n:Int)::S,fE:=m.fE+1 }:=by
   refine step_ok hc.left.one hu ?_ hr.fin;have e1:wrap64 ((n:Int)+1 - 1)=n:=by rw[show (n:Int)+1 - 1=n by omega];unfold wrap64;omega
   have e2:(0:Int) < (n:Int)+1:=by omega
   show (if 0 < m.st.headD 0 then ((0:Nat),{ m with st:=wrap64 (m.st.headD 0 - 1)::m.st.tail,fE:=m.fE+1 }) else (0,{ m with st:=m.st.tail,fE:=m.fE+1+(mkS iw iv one (m.fE+1)).length+1 }))=_
   rw[hr.st];have e3:(((n+1:Nat):Int)::S).headD 0=(n:Int)+1:=by simp
   rw[e3,if_pos e2,e1]
   all_goals rfl
  have hca:=hc.right;simp only[aS] at hca;have hb:=h1 s { m with st:=(n:Int)::S,fE:=m.fE+1 } ((n:Int)::S) G k1 u1 ⟨hr.held,hr.left,hr.fI,rfl,hr.und,hr.fP,hr.len,hr.fJ,hr.fin,hr.ty⟩ hg hu hca.left
  dsimp only at hb;rw[iter];have en:(n+1) * (kL one+2)=n * (kL one+2)+kL one+2:=by rw[Nat.add_mul];omega
  rw[en];refine Post.after hs (n:=n * (kL one+2)+kL one+2+Uq s) ?_ (by omega)
  refine Post.seq (S':=[(n:Int)]) (f:=iter (gJ V one) n) hb (fun h=>UO (EH V one h) n) (by omega) ?_
  intro k m' hk' hr' hp' hu' hb' hg';have hs2:jY P 1 m'=some { m' with fE:=m.fE }:=by
   refine step_ok (i:=⟨12,m.fE,0⟩) ?_ hu' rfl hr'.fin;rw[hp'];exact hca.right.one
  have:=ih (by omega) (gJ V one s) { m' with fE:=m.fE } S G ⟨hr'.held,hr'.left,hr'.fI,hr'.st,hr'.und,hr'.fP,hr'.len,hr'.fJ,hr'.fin,hr'.ty⟩ hg' hu' rfl
  exact Post.after hs2 this (by omega)
theorem mC (P:Pg)(V:Vs)(iw iv:fq->Nat)(x:Sm)(hop:x.op=114)(hn:x.n<=9)(h1:uI P V iw iv x.one)(k1:mZ V x.one)(u1:sO P iw x.one):uJ P V iw iv x:=by
 intro s m S G hr hg hu hc;have hmk:kE iw iv x m.fE=[⟨0,x.n,0⟩]++([⟨14,m.fE+1+1+(mkS iw iv x.one (m.fE+1+1)).length+1,0⟩]++(mkS iw iv x.one (m.fE+1+1)++[⟨12,m.fE+1,0⟩])):=by
  unfold kE;rw[if_neg (by omega),if_neg (by omega),if_neg (by omega),if_neg (by omega),if_pos hop]
 have hco:pU x=2+x.n * (kL x.one+2):=by unfold pU;rw[if_neg (by omega),if_neg (by omega),if_neg (by omega),if_neg (by omega),if_pos hop]
 have hrun:gT V x s=iter (gJ V x.one) x.n s:=by unfold gT;rw[if_neg (by omega),if_neg (by omega),if_neg (by omega),if_neg (by omega),if_pos hop]
 rw[hmk] at hc |-;rw[hco,hrun];have hs:jY P 1 m=some { m with st:=(x.n:Int)::m.st,fE:=m.fE+1 }:=step_ok hc.left.one hu rfl hr.fin
 have hcr:=hc.right;simp only[aS] at hcr
 have:=mB P V iw iv x.one h1 k1 u1 (m.fE+1) hcr x.n hn s { m with st:=(x.n:Int)::m.st,fE:=m.fE+1 } S G ⟨hr.held,hr.left,hr.fI,by dsimp only;rw[hr.st],hr.und,hr.fP,hr.len,hr.fJ,hr.fin,hr.ty⟩ hg hu rfl
 have el:m.fE+([(⟨0,x.n,0⟩:Ins)]++([(⟨14,m.fE+1+1+(mkS iw iv x.one (m.fE+1+1)).length+1,0⟩:Ins)]++(mkS iw iv x.one (m.fE+1+1)++[(⟨12,m.fE+1,0⟩:Ins)]))).length=m.fE+1+1+(mkS iw iv x.one (m.fE+1+1)).length+1:=by
  simp only[ay,aS];omega
 rw[el];exact Post.after hs this (by omega)
theorem mL (P:Pg)(V:Vs)(iw iv:fq->Nat)(x:Sm)(hop:x.op=102):uJ P V iw iv x:=by
 intro s m S G hr hg hu hc;have hmk:kE iw iv x m.fE=[⟨17,0,0⟩]:=by
  unfold kE;rw[if_neg (by omega),if_neg (by omega),if_neg (by omega),if_neg (by omega),if_neg (by omega)]
 have hco:pU x=1:=by unfold pU;rw[if_neg (by omega),if_neg (by omega),if_neg (by omega),if_neg (by omega),if_neg (by omega)]
 have hrun:gT V x s={ s with failed:=true }:=by unfold gT;rw[if_neg (by omega),if_neg (by omega),if_neg (by omega),if_neg (by omega),if_neg (by omega)]
 rw[hmk] at hc |-;rw[hco,hrun];have hs:jY P 1 m=some { m with st:=[]++m.st,fE:=m.fE,iZ:=true }:=U0 (m':={ m with fE:=m.fE+1 }) hc.one hu rfl hr.fin
 exact Lf hr hg hs (by omega)
variable {P:Pg}{V:Vs}
theorem Rel.split {s:Rs}{m:Ms}{S:List Int}{G:List (Nat×Nat)}(hr:Rel P V s m S G):∃ L r,m.fU=L++r/\L.map (lM P)=(s.fG.getLastD []).reverse/\(r.map (lM P)).reverse=s.fG.dropLast.flatten/\L.length=(s.fG.getLastD []).length/\r.length=s.fG.dropLast.flatten.length:=by
 have h:=hr.und;rw[EO hr.ne] at h;have h2:m.fU.map (lM P)=(s.fG.getLastD []).reverse++s.fG.dropLast.flatten.reverse:=by
  rw[<- List.reverse_append,<- h,List.reverse_reverse]
 obtain ⟨L,r,e1,e2,e3⟩:=List.map_eq_append_iff.1 h2;refine ⟨L,r,e1,e2,by rw[e3,List.reverse_reverse],?_,?_⟩
 ·have:=congrArg List.length e2;simpa using this
 ·have:=congrArg List.length e3;simpa using this
theorem mN (P:Pg)(V:Vs)(iw iv:fq->Nat)(x:Sm)(hop:x.op=116)(h1:uI P V iw iv x.one)(h2:uI P V iw iv x.two)(k1:mZ V x.one)(k2:mZ V x.two)(u1:sO P iw x.one)(u2:sO P iw x.two):uJ P V iw iv x:=by
 intro s m S G hr hg hu hc;generalize hA:mkS iw iv x.one (m.fE+1)=A;generalize hB:mkS iw iv x.two (m.fE+1+A.length+1)=B;have hmk:kE iw iv x m.fE=[⟨15,m.fE+1+A.length+1,0⟩]++(A++([⟨16,m.fE+1+A.length+1+B.length,0⟩]++B)):=by
  unfold kE;rw[if_neg (by omega),if_neg (by omega),if_neg (by omega),if_pos hop];dsimp only;rw[hA,hB]
 have hco:pU x=3+kL x.one+kL x.two:=by unfold pU;rw[if_neg (by omega),if_neg (by omega),if_neg (by omega),if_pos hop]
 have hrun:gT V x s=(let s1:=gJ V x.one { s with fG:=s.fG++[[]] }
   if s1.over≠0\/s1.stop=true then s1
   else if s1.failed then (let s2:=lS { s1 with failed:=false };if s2.going then gJ V x.two s2 else s2)
   else { s1 with fG:=iA s1.fG.dropLast (s1.fG.getLastD []) }):=by unfold gT;rw[if_neg (by omega),if_neg (by omega),if_neg (by omega),if_pos hop]
 rw[hmk] at hc |-;rw[hco,hrun];have el:m.fE+([(⟨15,m.fE+1+A.length+1,0⟩:Ins)]++(A++([(⟨16,m.fE+1+A.length+1+B.length,0⟩:Ins)]++B))).length=m.fE+1+A.length+1+B.length:=by
  simp only[ay,aS];omega
 rw[el];have hca:=hc.right;simp only[aS] at hca;have hcb:=hca.right.right;simp only[aS] at hcb;have hs:jY P 1 m=some { m with fP:=(m.fU.length,m.st.length,m.fE+1+A.length+1)::m.fP,fE:=m.fE+1 }:=step_ok hc.left.one hu rfl hr.fin
 have hr0:Rel P V { s with fG:=s.fG++[[]] } { m with fP:=(m.fU.length,m.st.length,m.fE+1+A.length+1)::m.fP,fE:=m.fE+1 } S ((S.length,m.fE+1+A.length+1)::G):=by
  refine ⟨hr.held,hr.left,hr.fI,hr.st,?_,?_,?_,hr.fJ,hr.fin,hr.ty⟩
  ·dsimp only;rw[hr.und];simp
  ·dsimp only;rw[frames,List.dropLast_concat,hr.fP,hr.Ou,hr.st]
  ·dsimp only;rw[ay,aC,hr.len]<;>rfl
 have mS:Uq { s with fG:=s.fG++[[]] }=Uq s:=by unfold Uq;simp
 have hb:=h1 { s with fG:=s.fG++[[]] } _ S ((S.length,m.fE+1+A.length+1)::G) k1 u1 hr0 hg hu (by dsimp only;rw[hA];exact hca.left)
 dsimp only at hb;rw[hA,mS] at hb;dsimp only;generalize gJ V x.one { s with fG:=s.fG++[[]] }=s1 at hb
 refine Post.after hs (n:=2+kL x.one+kL x.two+Uq s) ?_ (by omega)
 rcases hb with ⟨b1,b2,b3,k,m1,b4,b5,b6,b7,b8⟩ | ⟨b1,b2,b3,k,m1,t,b4,b5,b6,b8⟩ | ⟨b1,b2⟩
 ·rw[if_neg (by rw[b1,b2];simp),if_neg (by rw[b3];simp)]
  have hs2:jY P 1 m1=some { m1 with fP:=m1.fP.tail,fE:=m.fE+1+A.length+1+B.length }:=by
   refine step_ok (i:=⟨16,m.fE+1+A.length+1+B.length,0⟩) ?_ b7 rfl b5.fin;rw[b6];exact hca.right.left.one
  have hne:s1.fG.dropLast≠[]:=by
   intro e;have h3:=b5.len;have h4:s1.fG.dropLast.length=0:=by rw[e]<;>rfl
   rw[cO] at h4;simp at h3;omega
  refine ak ⟨b1,b2,b3,k+1,_,oO b4 hs2,⟨b5.held,b5.left,b5.fI,b5.st,?_,?_,?_,b5.fJ,b5.fin,b5.ty⟩,rfl,b7,?_⟩
  ·dsimp only;rw[Le hne,b5.und,EO b5.ne]
  ·dsimp only;rw[b5.fP,frames,eY];exact Vb (Vd _ _).symm G
  ·dsimp only;rw[Ve hne,cO,b5.len];simp
  ·have hu1:Uq { s1 with fG:=iA s1.fG.dropLast (s1.fG.getLastD []) }=Uq s1:=by
    unfold Uq;dsimp only;rw[Le hne,<- EO b5.ne]
   rw[hu1];omega
 ·rw[if_neg (by rw[b1,b2];simp),if_pos b3]
  obtain ⟨L,r,e1,e2,e3,e4,e5⟩:=b5.split;have hfl:pG m1=r.length:=by
   unfold pG;rw[b5.fP,frames,e5]
  obtain ⟨c1,c2,a,l,o,q,c3⟩:=U9 P L r m1 { s1 with failed:=false,fG:=s1.fG.dropLast } b6 e1 hfl b5.fin b5.left b5.fI b5.fJ b1 b2
  have qB:lS { s1 with failed:=false }=l9 (L.map (lM P)) { s1 with failed:=false,fG:=s1.fG.dropLast }:=by
   unfold lS;dsimp only;rw[e2]
  rw[qB];have mT:Uq s1=3 * L.length+3 * s1.fG.dropLast.flatten.length:=by
   unfold Uq;rw[EO b5.ne,ay,e4];omega
  generalize l9 (L.map (lM P)) { s1 with failed:=false,fG:=s1.fG.dropLast }=s2 at c1 c2 c3
  by_cases hg2:s2.going=true
  ·rw[if_pos hg2];obtain ⟨q1,q2,q3⟩:=zo.1 hg2;obtain ⟨j,hj,hst⟩:=c2 q1 q2;have hbg:m1.fP=(r.length,S.length,m.fE+1+A.length+1)::frames s1.fG.dropLast G:=by rw[b5.fP,frames,e5]
   have hsb:jY P 1 { m1 with fI:=s2.fI,left:=s2.left,fU:=r }=some { m1 with fI:=s2.fI,left:=s2.left,fU:=r,iZ:=false,fP:=frames s1.fG.dropLast G,st:=S,fE:=m.fE+1+A.length+1 }:=by
    have h3:=lB (P:=P) (m:={ m1 with fI:=s2.fI,left:=s2.left,fU:=r }) b6 hbg rfl b5.fin
    rw[h3];dsimp only;congr 2;rw[b5.st,ay,Nat.add_sub_cancel,List.drop_left]
   have hr2:Rel P V s2 { m1 with fI:=s2.fI,left:=s2.left,fU:=r,iZ:=false,fP:=frames s1.fG.dropLast G,st:=S,fE:=m.fE+1+A.length+1 } S G:=by
    refine ⟨?_,rfl,rfl,rfl,?_,?_,?_,b5.fJ,b5.fin,?_⟩
    ·rw[c3];exact b5.held
    ·rw[c3];exact e3
    ·rw[c3]
    ·rw[c3];dsimp only;rw[cO,b5.len];simp
    ·rw[c3];exact b5.ty
   have hp:=h2 s2 _ S G k2 u2 hr2 hg2 rfl (by dsimp only;rw[hB];exact hcb)
   dsimp only at hp;rw[hB] at hp;have nB:Uq s2=3 * s1.fG.dropLast.flatten.length:=by unfold Uq;rw[c3]
   rw[nB] at hp;exact Post.after (oO b4 (oO hst hsb)) hp (by omega)
  ·rw[if_neg hg2];have hnot:s2.over≠0\/s2.stop=true:=by
    by_cases ho:s2.over=0
    ·refine ah ?_;by_cases hs3:s2.stop=true
     ·exact hs3
     ·exact absurd (zo.2 ⟨ho,by simpa using hs3,by rw[c3]⟩) hg2
    ·exact ak ho
   refine ah (ah ⟨hnot,?_⟩);rw[show s2.held=m1.vars by rw[c3];exact b5.held.symm]
   exact (c1 hnot).after b4 (by omega)
 ·rw[if_pos b1];exact ah (ah ⟨b1,b2.mono (by omega)⟩)
theorem CU (P:Pg)(V:Vs)(iw iv:fq->Nat)(hiv:∀ w i,iK V w=some i->iv w=i)(l:List Sm):uI P V iw iv l:=by
 match l with
 | [] =>
  intro s m S G _ _ hr hg hu _;rw[Cy,EL,Oo];obtain ⟨q1,q2,q3⟩:=zo.1 hg;exact ak ⟨q1,q2,q3,0,m,rfl,hr,rfl,hu,by omega⟩
 | ⟨op,fD,pl,ex,gu,fZ,undo,n,gG,one,two⟩::rest =>
  intro s m S G hk Ox hr hg hu hc;rw[CK] at hc;rw[CK,EF,if_pos hg,UZ];obtain ⟨k1,k2,k3,k4⟩:=zQ.1 hk;obtain ⟨u1,u2,u3,u4⟩:=Vf.1 Ox;have hx:uJ P V iw iv ⟨op,fD,pl,ex,gu,fZ,undo,n,gG,one,two⟩:=by
   dsimp only at k1 k2 k3 u1 u2 u3;have k1':=k1;rcases k1 with h | h | h | h | h | h
   ·exact lL P V iw iv hiv _ h.1 k1'
   ·exact lO P V iw iv hiv _ h.1 k1' (u1 h.1)
   ·exact lR P V iw iv hiv _ h.1 k1' (CU P V iw iv hiv one) (CU P V iw iv hiv two) (k2 (ak h.1)) (k3 (ak h.1)) (u2 (ak h.1)) (u3 (ak h.1))
   ·exact mN P V iw iv _ h (CU P V iw iv hiv one) (CU P V iw iv hiv two) (k2 (ah (ak h))) (k3 (ah h)) (u2 (ah (ak h))) (u3 (ah h))
   ·exact mC P V iw iv _ h.1 h.2 (CU P V iw iv hiv one) (k2 (ah (ah h.1))) (u2 (ah (ah h.1)))
   ·exact mL P V iw iv _ h
  generalize (⟨op,fD,pl,ex,gu,fZ,undo,n,gG,one,two⟩:Sm)=x at *;have hp:=hx s m S G hr hg hu hc.left;refine Post.seq (S':=[]) (f:=gJ V rest) hp (fun h=>EH V rest h) (N:=pU x+kL rest+Uq s) (by omega) ?_
  intro k m' hk' hr' hp' hu' hb' hg';have hc2:=hc.right;rw[<- hp'] at hc2
  have:=CU P V iw iv hiv rest (gT V x s) m' S G k4 u4 hr' hg' hu' (by rw[hp'] at hc2 |-;exact hc2)
  rw[hp'] at this;rw[ay,<- dN];exact this.mono (by omega)
theorem nF (P:Pg)(V:Vs)(iw iv:fq->Nat)(hiv:∀ w i,iK V w=some i->iv w=i)(l:List Sm)(hk:mZ V l)(Ox:sO P iw l)(hins:P.ins=mkS iw iv l 0)(Bh:P.nv=V.length)(fK:List Int)(N:Nat)(hN:kL l+2<=N) :
  ∃ m,runM P N ⟨[],List.replicate P.nv 0,[],[],[],fK,0,0,false,0⟩=((play V l fK).over,m)/\m.fI=(play V l fK).fI/\m.vars=(play V l fK).held/\m.fin=(play V l fK).over:=by
 have hr:Rel P V ⟨List.replicate V.length 0,fK,[],[[]],0,false,false⟩ ⟨[],List.replicate P.nv 0,[],[],[],fK,0,0,false,0⟩ [] []:=by
  refine ⟨by rw[Bh],rfl,rfl,rfl,rfl,rfl,rfl,rfl,rfl,⟨by simp,fun i hi _=>ak ?_⟩⟩
  dsimp only;rw[aX,dH];split<;>rfl
 have hc:jc P 0 (mkS iw iv l 0):=fun j _=>by rw[hins,bX]
 have hp:=CU P V iw iv hiv l _ _ [] [] hk Ox hr rfl rfl hc;have hU:Uq ⟨List.replicate V.length 0,fK,[],[[]],0,false,false⟩=0:=rfl;rw[hU] at hp;dsimp only at hp;have ends:∀ {f:Nat} {fI:List Ask} {vars:List Int},lC P ⟨[],List.replicate P.nv 0,[],[],[],fK,0,0,false,0⟩ N f fI vars->∃ m,runM P N ⟨[],List.replicate P.nv 0,[],[],[],fK,0,0,false,0⟩=(f,m)/\m.fI=fI/\m.vars=vars/\m.fin=f:=by
  rintro f fI vars ⟨k,m1,m2,e1,e2,e3,e4,e6,e5⟩;refine ⟨m2,?_,e4,e6,e3⟩;rw[hY e1 (by omega),hZ e2 (by omega),e3]
 unfold play;generalize gJ V l ⟨List.replicate V.length 0,fK,[],[[]],0,false,false⟩=s1 at hp;refine ends ?_;unfold ended;rcases hp with ⟨b1,b2,b3,k,m1,b4,b5,b6,b7,b8⟩ | ⟨b1,b2,b3,k,m1,t,b4,b5,b6,b8⟩ | ⟨b1,b2⟩
 ·rw[if_neg (by rw[b1,b2];simp),if_neg (by rw[b3];simp)]
  refine ⟨k,m1,{ m1 with fin:=1 },b4,?_,rfl,b5.fI,b5.held,by omega⟩
  unfold mP jE;have hno:P.ins[m1.fE]?=none:=by rw[b6,hins];simp
  rw[if_neg (by simp[b7]),hno]
  all_goals rfl
 ·rw[if_neg (by rw[b1,b2];simp),if_pos b3]
  obtain ⟨L,r,e1,e2,e3,e4,e5⟩:=b5.split;have hlen:=b5.len;simp only[aL,bX] at hlen;have hdrop:s1.fG.dropLast=[]:=aY.1 (by rw[cO,hlen])
  have hr0:r=[]:=aY.1 (by rw[e5,hdrop]<;>rfl)
  subst hr0;have hfl:pG m1=([]:List (Nat×Int)).length:=by
   unfold pG;rw[b5.fP]
   all_goals rfl
  obtain ⟨c1,c2,a,l',o,q,c3⟩:=U9 P L [] m1 { s1 with fG:=s1.fG.dropLast } b6 e1 hfl b5.fin b5.left b5.fI b5.fJ b1 b2
  have qB:lS s1=l9 (L.map (lM P)) { s1 with fG:=s1.fG.dropLast }:=by
   unfold lS;rw[e2]
  rw[qB];have mT:Uq s1=3 * L.length:=by
   unfold Uq;rw[EO b5.ne,hdrop,e4];simp
  generalize l9 (L.map (lM P)) { s1 with fG:=s1.fG.dropLast }=s2 at c1 c2 c3
  dsimp only;by_cases hg2:s2.over=0/\s2.stop=false
  ·rw[if_pos hg2];obtain ⟨j,hj,hst⟩:=c2 hg2.1 hg2.2;refine lC.after (oO b4 hst) ⟨0,_,_,rfl,lE b6 ?_ rfl,rfl,rfl,?_,aj _⟩ (by omega)
   ·dsimp only;rw[b5.fP]<;>rfl
   ·dsimp only;rw[c3];exact b5.held
  ·rw[if_neg hg2];have hnot:s2.over≠0\/s2.stop=true:=by
    by_cases ho:s2.over=0
    ·refine ah ?_;by_cases hs3:s2.stop=true
     ·exact hs3
     ·exact absurd ⟨ho,by simpa using hs3⟩ hg2
    ·exact ak ho
   rw[show s2.held=m1.vars by rw[c3];exact b5.held.symm]
   exact (c1 hnot).after b4 (by omega)
 ·rw[if_pos b1];exact b2.mono (by omega)
def zT (s:fq)(g:Ps->Except Nat (Ex×Ps)):Prop:=∀ st x st',Tk s st.t->g st=.ok (x,st')->oN x/\iY x+st.t.a<=st'.t.a/\(0<=st.fH->0<=st'.fH)
theorem Vg (x:Ex)(a:Nat):iY { x with pl:=a }=iY x:=by
 match x with
 | ⟨_,_,_,_,_,none,_⟩=>rfl
 | ⟨_,_,_,_,_,some _,none⟩=>rfl
 | ⟨_,_,_,_,_,some _,some _⟩=>rfl
theorem oN.fE {x:Ex}(h:oN x)(a:Nat):oN { x with pl:=a }:=by
 match x with
 | ⟨_,_,_,_,_,none,_⟩=>exact h
 | ⟨_,_,_,_,_,some _,none⟩=>exact h
 | ⟨_,_,_,_,_,some _,some _⟩=>exact h
variable {st st':Ps}
theorem Vh (h:0<=st.fH):0<=(dn st).fH:=by
 show 0<=rW st.fF st.fH st.t.a
 unfold rW;split<;>omega
variable {s w:fq}
theorem oA {g:Ps->Except Nat (Ex×Ps)}(hg:Goes s g)(hs:zT s g)(a b:UInt8)(n:Nat):∀ (pl lo:Nat) (e:Ex) (st:Ps) (x:Ex) (st':Ps),Tk s st.t->oN e->iY e+lo<=st.t.a->chain s g a b n pl e st=.ok (x,st')->oN x/\iY x+lo<=st'.t.a/\(0<=st.fH->0<=st'.fH):=by
 induction n with
 | zero=>intro pl lo e st x st' _ _ _ h;simp[chain] at h
 | succ n ih =>
  intro pl lo e st x st' ht he hle h;rw[chain] at h;split at h
  ·rename_i ho;have g0:=gX ht ho;have l0:=g0.lt;cases hp:g (nx s st) with
   | error p=>rw[hp] at h;cases h
   | ok r =>
    obtain ⟨k,st1⟩:=r;rw[hp] at h;have g1:=hg _ _ _ g0.tk hp;obtain ⟨k1,k2,k3⟩:=hs _ _ _ g0.tk hp;obtain ⟨i1,i2,i3⟩:=ih pl lo ⟨a.toNat,0,gM,pl,st.t.a,some e,some k⟩ _ _ _ g1.tk ⟨he,k1⟩ (by simp only[iY];omega) h
    exact ⟨i1,i2,fun hd=>i3 (k3 hd)⟩
  ·split at h
   ·rename_i ho;have g0:=gX ht ho;have l0:=g0.lt;cases hp:g (nx s st) with
    | error p=>rw[hp] at h;cases h
    | ok r =>
     obtain ⟨k,st1⟩:=r;rw[hp] at h;have g1:=hg _ _ _ g0.tk hp;obtain ⟨k1,k2,k3⟩:=hs _ _ _ g0.tk hp;obtain ⟨i1,i2,i3⟩:=ih pl lo ⟨b.toNat,0,gM,pl,st.t.a,some e,some k⟩ _ _ _ g1.tk ⟨he,k1⟩ (by simp only[iY];omega) h
     exact ⟨i1,i2,fun hd=>i3 (k3 hd)⟩
   ·cases h;exact ⟨he,hle,id⟩
theorem Vi {g:Ps->Except Nat (Ex×Ps)}(hg:Goes s g)(hs:zT s g)(a b:UInt8):zT s (row s g a b):=by
 intro st x st' ht h;unfold row at h;cases hp:g st with
 | error p=>rw[hp] at h;cases h
 | ok r =>
  obtain ⟨e,st1⟩:=r;rw[hp] at h;have g1:=hg _ _ _ ht hp;obtain ⟨k1,k2,k3⟩:=hs _ _ _ ht hp;obtain ⟨i1,i2,i3⟩:=oA hg hs _ _ _ _ _ _ _ _ _ g1.tk k1 k2 h;exact ⟨i1,i2,fun hd=>i3 (k3 hd)⟩
theorem Vj {g:Ps->Except Nat (Ex×Ps)}(hg:Goes s g)(hs:zT s g):zT s (sum s g):=Vi (Co hg) (Vi hg hs _ _) _ _
theorem Vk {g:Ps->Except Nat (Ex×Ps)}(hg:Goes s g)(hs:zT s g):zT s (expr s g):=by
 intro st x st' ht h;unfold expr at h;cases hp:sum s g st with
 | error p=>rw[hp] at h;cases h
 | ok r =>
  obtain ⟨e,st1⟩:=r;rw[hp] at h;simp only at h;have g1:=zJ hg _ _ _ ht hp;obtain ⟨j1,j2,j3⟩:=Vj hg hs _ _ _ ht hp;cases hc:qj s st1.t with
  | none=>rw[hc] at h;cases h;exact ⟨j1,j2,j3⟩
  | some o =>
   rw[hc] at h;simp only at h;have hk:=Ew hc;have g0:Good s st1 (nx s st1):=vg g1.tk (by rw[hk];decide) (by rw[hk];decide)
   have l0:=g0.lt;cases hq:sum s g (nx s st1) with
   | error p=>rw[hq] at h;cases h
   | ok r2 =>
    obtain ⟨k,st2⟩:=r2;rw[hq] at h;obtain ⟨i1,i2,i3⟩:=Vj hg hs _ _ _ g0.tk hq;cases h;exact ⟨⟨j1,i1⟩,by simp only[iY];omega,fun hd=>i3 (j3 hd)⟩
theorem oB (s:fq)(n:Nat):zT s (atom s n):=by
 induction n with
 | zero=>intro st x st' _ h;simp[atom] at h
 | succ n ih =>
  intro st x st' ht h;have hgo:=qA s (n+1) _ _ _ ht h;have hlt:=hgo.lt;rw[atom] at h;split at h
  ·cases h;exact ⟨fun h=>absurd h (by decide),by simp only[leaf,iY];omega,id⟩
  ·split at h
   ·cases h;exact ⟨fun h=>absurd h (by decide),by simp only[leaf,iY];omega,id⟩
   ·split at h
    ·cases h;exact ⟨fun _=>aj _,by simp only[leaf,iY];omega,id⟩
    ·split at h
     ·cases h;exact ⟨fun _=>aK _,by simp only[leaf,iY];omega,id⟩
     ·split at h
      ·rename_i ho;have g0:=gX ht ho;have l0:=g0.lt;cases hp:atom s n (nx s st) with
       | error p=>rw[hp] at h;cases h
       | ok r =>
        obtain ⟨k,st1⟩:=r;rw[hp] at h;obtain ⟨k1,k2,k3⟩:=ih _ _ _ g0.tk hp;cases h;exact ⟨k1,by simp only[iY];omega,k3⟩
      ·split at h
       ·rename_i ho;have g0:=gX (st:=dn st) ht ho;have l0:st.t.a < (nx s (dn st)).t.a:=g0.lt;cases hp:expr s (atom s n) (nx s (dn st)) with
        | error p=>rw[hp] at h;cases h
        | ok r =>
         obtain ⟨k,st1⟩:=r;have g1:=A9 (qA s n) _ _ _ g0.tk hp;obtain ⟨k1,k2,k3⟩:=Vk (qA s n) ih _ _ _ g0.tk hp;rw[hp] at h;simp only at h;split at h
         ·rename_i ho2;have g2:=gX g1.tk ho2;have l3:st1.t.a < (qy (nx s st1)).t.a:=g2.lt;cases h;exact ⟨k1.fE _,by rw[Vg];omega,fun hd=>k3 (Vh hd)⟩
         ·cases h
       ·cases h
theorem Oy (s:fq):zT s (jN s):=Vk (qA s _) (oB s _)
variable {d i k:Nat}
theorem Vl (h:kind s k st=.ok st'):st.t.k=k/\st'=nx s st:=by
 unfold kind at h;split at h
 ·rename_i hk;cases h;exact ⟨hk,rfl⟩
 ·cases h
def kD (d:Nat):Nat:=2 * 9 ^ (4 - d)
theorem EP (h:d<=4):(d=0/\kD d=13122/\kD (d+1)=1458)\/(d=1/\kD d=1458/\kD (d+1)=162)\/(d=2/\kD d=162/\kD (d+1)=18)\/(d=3/\kD d=18/\kD (d+1)=2)\/(d=4/\kD d=2):=by
 have:d=0\/d=1\/d=2\/d=3\/d=4:=by omega
 rcases this with rfl | rfl | rfl | rfl | rfl<;>simp[kD]
def Vm (x:Sm):Prop:=(∀ e,x.ex=some e->oN e)/\rO x.one/\rO x.two
def vY (s:fq)(V:Vs)(g:Ps->Except Nat (Sm×Ps)):Prop:=∀ st x st',Tk s st.t->g st=.ok (x,st')->Vm x/\(0<=st.fH->0<=st'.fH)/\∀ d:Nat,st.fF=d->d<=4->st'.fH < 0->mZ V [x]->pU x+kD d * st.t.a<=kD d * st'.t.a
variable {g:Ps->Except Nat (Sm×Ps)}
theorem Oz (hg:Goes s g)(hs:vY s V g)(stop:Ps->Bool)(n:Nat):∀ (l:List Sm) (st:Ps) (x:List Sm) (st':Ps),Tk s st.t->stmts s g stop n l st=.ok (x,st')->∃ y,x=l++y/\rO y/\(0<=st.fH->0<=st'.fH)/\∀ d:Nat,st.fF=d->d<=4->st'.fH < 0->mZ V y->kL y+kD d * st.t.a<=kD d * st'.t.a:=by
 induction n with
 | zero=>intro l st x st' _ h;simp[stmts] at h
 | succ n ih =>
  intro l st x st' ht h;rw[stmts] at h;split at h
  ·cases h;exact ⟨[],by simp,zR,id,fun d _ _ _ _=>by rw[Oo];omega⟩
  ·cases hp:g st with
   | error p=>rw[hp] at h;cases h
   | ok r =>
    obtain ⟨y,st1⟩:=r;rw[hp] at h;have g1:=hg _ _ _ ht hp;obtain ⟨m1,m2,m3⟩:=hs _ _ _ ht hp;obtain ⟨z,i1,i2,i3,i4⟩:=ih _ _ _ _ g1.tk h;refine ⟨y::z,by rw[i1,aI]<;>rfl,UW.2 ⟨m1.1,m1.2.1,m1.2.2,i2⟩,fun hd=>i3 (m2 hd),fun d hn hd hdp hok=>?_⟩
    obtain ⟨o1,o2,o3,o4⟩:=zQ.1 hok;have hd1:st1.fH < 0:=by
     rcases Int.lt_or_le st1.fH 0 with h | h
     ·exact h
     ·have:=i3 h;omega
    have a1:=m3 d hn hd hd1 (zQ.2 ⟨o1,o2,o3,UU V⟩);have a2:=i4 d (by rw[g1.fF];exact hn) hd hdp o4
    rw[UZ];omega
theorem GQ (hg:Goes s g)(hs:vY s V g){x:List Sm}(ht:Tk s st.t)(h:block s g st=.ok (x,st')):rO x/\(0<=st.fH->0<=st'.fH)/\∀ d:Nat,st.fF=d->d<=4->st'.fH < 0->mZ V x->d < 4/\kL x+kD (d+1) * (st.t.a+2)<=kD (d+1) * st'.t.a:=by
 unfold block at h;split at h
 ·rename_i ho;have g0:=gX (st:=dn st) ht ho;have l0:st.t.a < (nx s (dn st)).t.a:=g0.lt;cases hp:stmts s g (fun st=>gy s st.t ⟨#[125]⟩) (s.size+1) [] (nx s (dn st)) with
  | error p=>rw[hp] at h;cases h
  | ok r =>
   obtain ⟨l,st1⟩:=r;rw[hp] at h;obtain ⟨y,i1,i2,i3,i4⟩:=Oz hg hs _ _ _ _ _ _ g0.tk hp;obtain ⟨g1,g2⟩:=wQ hg _ _ _ _ _ _ g0.tk hp;have g3:=gX g1.tk g2;have l3:st1.t.a < (qy (nx s st1)).t.a:=g3.lt;simp only[dh] at i1;cases h;subst i1;refine ⟨i2,fun hd=>i3 (Vh hd),fun d hn hd hdp hok=>?_⟩
   have hd1:st1.fH < 0:=hdp;have hd0:(dn st).fH < 0:=by
    rcases Int.lt_or_le (dn st).fH 0 with h | h
    ·exact h
    ·have:0<=st1.fH:=i3 h;omega
   have hlt:d < 4:=by
    have e:(dn st).fH=rW st.fF st.fH st.t.a:=rfl;rw[e] at hd0;unfold rW at hd0;split at hd0
    ·omega
    ·rename_i hc;omega
   have a:=i4 (d+1) (by show st.fF+1=((d+1:Nat):Int);omega) (by omega) hd1 hok
   refine ⟨hlt,?_⟩;rcases EP hd with ⟨_,_,e⟩ | ⟨_,_,e⟩ | ⟨_,_,e⟩ | ⟨_,_,e⟩ | ⟨_,_⟩
   ·rw[e] at a |-;omega
   ·rw[e] at a |-;omega
   ·rw[e] at a |-;omega
   ·rw[e] at a |-;omega
   ·omega
 ·cases h
theorem Vn (h:0<=st.fH->0<=st'.fH)(h':st'.fH < 0):st.fH < 0:=by
 rcases Int.lt_or_le st.fH 0 with g | g
 ·exact g
 ·have:=h g;omega
theorem OA (h:d<=4):kD d=13122\/kD d=1458\/kD d=162\/kD d=18\/kD d=2:=by
 rcases EP h with h | h | h | h | h<;>omega
theorem Ll:∀ e,(none:Option Ex)=some e->oN e:=fun e h=>by cases h
theorem Lm {e:Ex}(h:oN e):∀ e',some e=some e'->oN e':=fun e' h'=>by cases h';exact h
theorem oE (s:fq)(V:Vs):vY s V (kJ s):=by
 intro st x st' ht h;unfold kJ at h;cases h1:kind s 119 st with
 | error p=>rw[h1] at h;cases h
 | ok st1 =>
  rw[h1] at h;simp only at h;have g1:=oG ht (by decide) (by decide) h1
  have d1:st1.fH=st.fH:=by rw[(Vl h1).2]<;>rfl
  cases h2:need s ⟨#[61]⟩ st1 with
  | error p=>rw[h2] at h;cases h
  | ok st2 =>
   rw[h2] at h;simp only at h;have g2:=lZ g1.tk h2;have d2:st2.fH=st1.fH:=by unfold need at h2;split at h2<;>cases h2;rfl
   cases h3:jN s st2 with
   | error p=>rw[h3] at h;cases h
   | ok r =>
    obtain ⟨e,gV⟩:=r;rw[h3] at h;simp only at h;have g3:=rX s _ _ _ g2.tk h3;obtain ⟨e1,e2,e3⟩:=Oy s _ _ _ g2.tk h3;cases h4:need s ⟨#[59]⟩ gV with
    | error p=>rw[h4] at h;cases h
    | ok jL =>
     have g4:=lZ g3.tk h4;have d4:jL.fH=gV.fH:=by unfold need at h4;split at h4<;>cases h4;rfl
     rw[h4] at h;cases h;have l1:=g1.lt;have l2:=g2.lt;have l4:=g4.lt;refine ⟨⟨Lm e1,zR,zR⟩,fun hd=>by rw[d4];exact e3 (by rw[d2,d1];exact hd),fun d _ hd _ _=>?_⟩
     have hc:pU { jk with op:=108,fD:=txt s st.t,pl:=st.t.a,ex:=some e }=iY e+1:=rfl
     rw[hc];rcases OA hd with k | k | k | k | k<;>rw[k]<;>omega
theorem ES {x:fq}(h:need s x st=.ok st'):st'.fH=st.fH:=by
 unfold need at h;split at h
 ·cases h;rfl
 ·cases h
theorem GR (h:kind s k st=.ok st'):st'.fH=st.fH:=by rw[(Vl h).2]<;>rfl
theorem oR (s:fq)(V:Vs):vY s V (call s):=by
 intro st x st' ht h;unfold call at h;cases h1:kind s 119 st with
 | error p=>rw[h1] at h;cases h
 | ok st1 =>
  rw[h1] at h;simp only at h;have g1:=oG ht (by decide) (by decide) h1
  have d1:=GR h1;cases h2:need s ⟨#[40]⟩ st1 with
  | error p=>rw[h2] at h;cases h
  | ok st2 =>
   rw[h2] at h;simp only at h;have g2:=lZ g1.tk h2;have d2:=ES h2;generalize hz:({ jk with op:=99,fD:=txt s st.t,pl:=st.t.a,n:=1 }:Sm)=x2 at h
   have z0:x2.op=99/\x2.n=1/\x2.undo.size=0/\x2.ex=none/\x2.one=[]/\x2.two=[]:=by rw[<- hz];exact ⟨rfl,rfl,rfl,rfl,rfl,rfl⟩
   cases h3:lJ s x2 st2 with
   | error p=>rw[h3] at h;cases h
   | ok r =>
    obtain ⟨x3,gV⟩:=r;rw[h3] at h;simp only at h;have g3:=Ez g2.tk h3;have z3:x3.op=99/\x3.n=1/\x3.undo.size=0/\x3.one=[]/\x3.two=[]/\(∀ e,x3.ex=some e->oN e)/\jA x3.ex+st2.t.a<=gV.t.a+1/\(0<=st2.fH->0<=gV.fH):=by
     unfold lJ at h3;split at h3
     ·cases h3;exact ⟨z0.1,z0.2.1,z0.2.2.1,z0.2.2.2.2.1,z0.2.2.2.2.2,by rw[z0.2.2.2.1];exact Ll,by rw[z0.2.2.2.1];simp only[jA];omega,id⟩
     ·cases hp:jN s st2 with
      | error p=>rw[hp] at h3;cases h3
      | ok r =>
       obtain ⟨e,zO⟩:=r;rw[hp] at h3;obtain ⟨e1,e2,e3⟩:=Oy s _ _ _ g2.tk hp;cases h3;exact ⟨z0.1,z0.2.1,z0.2.2.1,z0.2.2.2.2.1,z0.2.2.2.2.2,Lm e1,by simp only[jA];omega,e3⟩
    cases h4:need s ⟨#[41]⟩ gV with
    | error p=>rw[h4] at h;cases h
    | ok jL =>
     rw[h4] at h;simp only at h;have g4:=lZ g3.tk h4;have d4:=ES h4;cases h5:lg s x3 jL with
     | error p=>rw[h5] at h;cases h
     | ok r5 =>
      obtain ⟨x5,kT⟩:=r5;rw[h5] at h;simp only at h;have g5:=Ey g4.tk h5;have z5:x5.op=99/\x5.n=1/\x5.undo.size=0/\x5.one=[]/\x5.two=[]/\x5.ex=x3.ex/\kT.fH=jL.fH:=by
       unfold lg at h5;split at h5
       ·cases hp:kind s 119 (nx s jL) with
        | error p=>rw[hp] at h5;cases h5
        | ok st' =>
         rw[hp] at h5
         have:=GR hp
         cases h5;exact ⟨z3.1,z3.2.1,z3.2.2.1,z3.2.2.2.1,z3.2.2.2.2.1,rfl,this⟩
       ·cases h5;exact ⟨z3.1,z3.2.1,z3.2.2.1,z3.2.2.2.1,z3.2.2.2.2.1,rfl,rfl⟩
      cases h6:lY s x5 kT with
      | error p=>rw[h6] at h;cases h
      | ok r6 =>
       obtain ⟨x6,mF⟩:=r6;rw[h6] at h;simp only at h;have g6:=Gy g5.tk h6;have z6:x6.op=99/\x6.n=1/\x6.one=[]/\x6.two=[]/\x6.ex=x5.ex/\mF.fH=kT.fH/\(if x6.undo.size=0 then 0 else 4)+2 * kT.t.a<=2 * mF.t.a:=by
        unfold lY at h6;split at h6
        ·rename_i ho;have g0:=gX g5.tk ho;have l0:=g0.lt;cases hp:kind s 119 (nx s kT) with
         | error p=>rw[hp] at h6;cases h6
         | ok st' =>
          rw[hp] at h6
          have:=GR hp
          have l1:=(oG g0.tk (by decide) (by decide) hp).lt
          cases h6;exact ⟨z5.1,z5.2.1,z5.2.2.2.1,z5.2.2.2.2.1,rfl,this,by split<;>omega⟩
        ·cases h6;exact ⟨z5.1,z5.2.1,z5.2.2.2.1,z5.2.2.2.2.1,rfl,rfl,by rw[if_pos z5.2.2.1];omega⟩
       cases h7:nC s x6 mF with
       | error p=>rw[h7] at h;cases h
       | ok r7 =>
        obtain ⟨x7,pz⟩:=r7;rw[h7] at h;simp only at h;have g7:=Gz g6.tk h7;have z7:x7.op=99/\x7.one=[]/\x7.two=[]/\x7.ex=x6.ex/\x7.undo=x6.undo/\pz.fH=mF.fH/\(x7.n<=5->x7.n+2 * mF.t.a<=2 * pz.t.a+1):=by
         unfold nC at h7;split at h7
         ·rename_i ho;have g0:=gX g6.tk ho;have l0:=g0.lt;cases hp:kind s 110 (nx s mF) with
          | error p=>rw[hp] at h7;cases h7
          | ok st' =>
           rw[hp] at h7
           have:=GR hp
           have l8:=(oG g0.tk (by decide) (by decide) hp).lt
           cases h7;exact ⟨z6.1,z6.2.2.1,z6.2.2.2.1,rfl,rfl,this,fun _=>by simp only at *;omega⟩
         ·cases h7;exact ⟨z6.1,z6.2.2.1,z6.2.2.2.1,rfl,rfl,rfl,fun _=>by rw[z6.2.1];omega⟩
        cases h8:need s ⟨#[59]⟩ pz with
        | error p=>rw[h8] at h;cases h
        | ok uz =>
         have g8:=lZ g7.tk h8;have d8:=ES h8;rw[h8] at h;cases h;have l1:=g1.lt;have l2:=g2.lt;have l4:=g4.lt;have l8:=g8.lt;have l3:=g3.le;have l5:=g5.le;have l6:=g6.le;have l7:=g7.le;have he:x.ex=x3.ex:=by rw[z7.2.2.2.1,z6.2.2.2.2.1,z5.2.2.2.2.2.1]
         refine ⟨⟨by rw[he];exact z3.2.2.2.2.2.1,by rw[z7.2.1];exact zR,by rw[z7.2.2.1];exact zR⟩,fun hd=>?_,fun d _ hd _ hok=>?_⟩
         ·have:=z3.2.2.2.2.2.2.2 (by rw[d2,d1];exact hd)
          rw[d8,z7.2.2.2.2.2.1,z6.2.2.2.2.2.1,z5.2.2.2.2.2.2,d4];exact this
         ·have hn:x.n<=5:=by
           have:=(zQ.1 hok).1
           have h9:=z7.1;rcases this with h | h | h | h | h | h
           ·omega
           ·exact h.2.2.2.2
           ·omega
           ·omega
           ·omega
           ·omega
          have hco:pU x=jA x.ex+x.n+(if x.undo.size=0 then 0 else 4)+1:=by unfold pU;rw[if_neg (by have:=z7.1;omega),if_pos z7.1]
          rw[hco,he,z7.2.2.2.2.1];have q3:=z3.2.2.2.2.2.2.1;have q6:=z6.2.2.2.2.2.2;have q7:=z7.2.2.2.2.2.2 hn;generalize (if x6.undo.size=0 then 0 else 4)=u at *
          rcases OA hd with k | k | k | k | k<;>rw[k]<;>omega
variable {x:Sm}
theorem Lp (h:mZ V [x])(ho:x.op=105\/x.op=116\/x.op=114):mZ V x.one:=(zQ.1 h).2.1 ho
theorem Vo (h:mZ V [x])(ho:x.op=105\/x.op=116):mZ V x.two:=(zQ.1 h).2.2.1 ho
theorem oS (hg:Goes s g)(hs:vY s V g):vY s V (pK s g):=by
 intro st x st' ht h;unfold pK at h;cases h1:jN s st with
 | error p=>rw[h1] at h;cases h
 | ok r =>
  obtain ⟨e,st1⟩:=r;rw[h1] at h;simp only at h;have g1:=rX s _ _ _ ht h1;obtain ⟨e1,e2,e3⟩:=Oy s _ _ _ ht h1;cases h2:block s g st1 with
  | error p=>rw[h2] at h;cases h
  | ok r =>
   obtain ⟨l,st2⟩:=r;rw[h2] at h;simp only at h;have g2:=pE hg _ _ _ g1.tk h2;obtain ⟨m1,m2,m3⟩:=GQ hg hs g1.tk h2;split at h
   ·rename_i ho;have g3:=gX g2.tk ho;have l3:=g3.lt;cases h4:block s g (nx s st2) with
    | error p=>rw[h4] at h;cases h
    | ok r =>
     obtain ⟨m,gV⟩:=r;obtain ⟨n1,n2,n3⟩:=GQ hg hs g3.tk h4;rw[h4] at h;cases h;refine ⟨⟨Lm e1,m1,n1⟩,fun hd=>n2 (m2 (e3 hd)),fun d hn hd hdp hok=>?_⟩
     have d2:st2.fH < 0:=Vn (st:=st2) n2 hdp;have a1:=m3 d (by rw[g1.fF];exact hn) hd d2 (Lp hok (ak rfl))
     have a2:=n3 d (by show st2.fF=_;rw[g2.fF,g1.fF];exact hn) hd hdp (Vo hok (ak rfl))
     have hc:pU { jk with op:=105,ex:=some e,one:=l,two:=m }=iY e+2+kL l+kL m:=rfl
     rw[hc];rcases EP hd with ⟨_,k,k'⟩ | ⟨_,k,k'⟩ | ⟨_,k,k'⟩ | ⟨_,k,k'⟩ | ⟨_,k⟩
     ·rw[k'] at a1 a2;rw[k];omega
     ·rw[k'] at a1 a2;rw[k];omega
     ·rw[k'] at a1 a2;rw[k];omega
     ·rw[k'] at a1 a2;rw[k];omega
     ·omega
   ·cases h;refine ⟨⟨Lm e1,m1,zR⟩,fun hd=>m2 (e3 hd),fun d hn hd hdp hok=>?_⟩
    have a1:=m3 d (by rw[g1.fF];exact hn) hd hdp (Lp hok (ak rfl))
    have hc:pU { jk with op:=105,ex:=some e,one:=l }=iY e+2+kL l+kL []:=rfl
    rw[hc,Oo];rcases EP hd with ⟨_,k,k'⟩ | ⟨_,k,k'⟩ | ⟨_,k,k'⟩ | ⟨_,k,k'⟩ | ⟨_,k⟩
    ·rw[k'] at a1;rw[k];omega
    ·rw[k'] at a1;rw[k];omega
    ·rw[k'] at a1;rw[k];omega
    ·rw[k'] at a1;rw[k];omega
    ·omega
theorem oT (hg:Goes s g)(hs:vY s V g):vY s V (kK s g):=by
 intro st x st' ht h;unfold kK at h;cases h1:block s g st with
 | error p=>rw[h1] at h;cases h
 | ok r =>
  obtain ⟨l,st1⟩:=r;rw[h1] at h;simp only at h;have g1:=pE hg _ _ _ ht h1;obtain ⟨m1,m2,m3⟩:=GQ hg hs ht h1;cases h2:need s ⟨#[101,108,115,101]⟩ st1 with
  | error p=>rw[h2] at h;cases h
  | ok st2 =>
   rw[h2] at h;simp only at h;have g2:=lZ g1.tk h2;have d2:=ES h2;have l2:=g2.lt;cases h3:block s g st2 with
   | error p=>rw[h3] at h;cases h
   | ok r =>
    obtain ⟨m,gV⟩:=r;obtain ⟨n1,n2,n3⟩:=GQ hg hs g2.tk h3;rw[h3] at h;cases h;refine ⟨⟨Ll,m1,n1⟩,fun hd=>n2 (by rw[d2];exact m2 hd),fun d hn hd hdp hok=>?_⟩
    have dd:st2.fH < 0:=Vn n2 hdp;have a1:=m3 d hn hd (by rw[<- d2];exact dd) (Lp hok (ah (ak rfl)))
    have a2:=n3 d (by rw[g2.fF,g1.fF];exact hn) hd hdp (Vo hok (ah rfl))
    have hc:pU { jk with op:=116,one:=l,two:=m }=3+kL l+kL m:=rfl
    rw[hc];rcases EP hd with ⟨_,k,k'⟩ | ⟨_,k,k'⟩ | ⟨_,k,k'⟩ | ⟨_,k,k'⟩ | ⟨_,k⟩
    ·rw[k'] at a1 a2;rw[k];omega
    ·rw[k'] at a1 a2;rw[k];omega
    ·rw[k'] at a1 a2;rw[k];omega
    ·rw[k'] at a1 a2;rw[k];omega
    ·omega
theorem oX (hg:Goes s g)(hs:vY s V g):vY s V (qz s g):=by
 intro st x st' ht h;unfold qz at h;cases h1:kind s 110 st with
 | error p=>rw[h1] at h;cases h
 | ok st1 =>
  rw[h1] at h;simp only at h;have g1:=oG ht (by decide) (by decide) h1
  have l1:=g1.lt;have d1:=GR h1;cases h2:block s g st1 with
  | error p=>rw[h2] at h;cases h
  | ok r =>
   obtain ⟨m,gV⟩:=r;obtain ⟨m1,m2,m3⟩:=GQ hg hs g1.tk h2;rw[h2] at h;cases h;refine ⟨⟨Ll,m1,zR⟩,fun hd=>m2 (by rw[d1];exact hd),fun d hn hd hdp hok=>?_⟩
   have a1:=m3 d (by rw[g1.fF];exact hn) hd hdp (Lp hok (ah (ah rfl)))
   have Vp:valOf (txt s st.t).toList<=9:=by
    have h0:=(zQ.1 hok).1;dsimp only at h0;rcases h0 with h | h | h | h | h | h
    ·omega
    ·omega
    ·omega
    ·omega
    ·exact h.2
    ·omega
   have hc:pU { jk with op:=114,n:=valOf (txt s st.t).toList,gG:=st.t.a,one:=m }=2+valOf (txt s st.t).toList * (kL m+2):=rfl
   have hm:valOf (txt s st.t).toList * (kL m+2)<=9 * (kL m+2):=Nat.mul_le_mul_right _ Vp;rw[hc];rcases EP hd with ⟨_,k,k'⟩ | ⟨_,k,k'⟩ | ⟨_,k,k'⟩ | ⟨_,k,k'⟩ | ⟨_,k⟩
   ·rw[k'] at a1;rw[k];omega
   ·rw[k'] at a1;rw[k];omega
   ·rw[k'] at a1;rw[k];omega
   ·rw[k'] at a1;rw[k];omega
   ·omega
theorem vY.behind (hs:vY s V g)(ht:Tk s st.t)(ho:gy s st.t w=true)(h:g (nx s st)=.ok (x,st')):Vm x/\(0<=st.fH->0<=st'.fH)/\∀ d:Nat,st.fF=d->d<=4->st'.fH < 0->mZ V [x]->pU x+kD d * st.t.a<=kD d * st'.t.a:=by
 have g1:=gX ht ho;have l1:=g1.lt;obtain ⟨m1,m2,m3⟩:=hs _ _ _ g1.tk h;refine ⟨m1,m2,fun d hn hd hdp hok=>?_⟩
 have:=m3 d hn hd hdp hok
 have h2:kD d * st.t.a<=kD d * (nx s st).t.a:=Nat.mul_le_mul_left _ (bN l1);omega
theorem Vq (s:fq)(V:Vs)(n:Nat):vY s V (stmt s n):=by
 induction n with
 | zero=>intro st x st' _ h;simp[stmt] at h
 | succ n ih =>
  intro st x st' ht h;have hgo:=jS s (n+1) _ _ _ ht h;have hlt:=hgo.lt;rw[stmt] at h;split at h
  ·rename_i ho;exact (oE s V).behind ht ho h
  ·split at h
   ·rename_i ho;exact (oR s V).behind ht ho h
   ·split at h
    ·rename_i ho;exact (oS (jS s n) ih).behind ht ho h
    ·split at h
     ·rename_i ho;exact (oT (jS s n) ih).behind ht ho h
     ·split at h
      ·rename_i ho;exact (oX (jS s n) ih).behind ht ho h
      ·have ho:x={ jk with op:=102 }/\st'.fH=st.fH:=by
        unfold uh at h;cases h1:need s ⟨#[102,97,105,108]⟩ st with
        | error p=>rw[h1] at h;cases h
        | ok st1 =>
         rw[h1] at h;simp only at h;have d1:=ES h1;cases h2:need s ⟨#[59]⟩ st1 with
         | error p=>rw[h2] at h;cases h
         | ok st2 =>
          have d2:=ES h2;rw[h2] at h;cases h;exact ⟨rfl,by rw[d2,d1]⟩
       obtain ⟨rfl,hdd⟩:=ho;refine ⟨⟨Ll,zR,zR⟩,fun hd=>by rw[hdd];exact hd,fun d hn hd hdp hok=>?_⟩
       have hc:pU { jk with op:=102 }=1:=rfl
       rw[hc];rcases OA hd with k | k | k | k | k<;>rw[k]<;>omega
theorem OC {l:List Sm}(h:read s=.ok l):rO l/\∀ V,mZ V l->kL l<=3936600:=by
 unfold read at h;split at h
 ·cases h
 ·rename_i hz;cases hp:stmts s (stmt s (s.size+1)) (fun st=>st.t.k == 0) (s.size+1) [] ⟨tok s 0,0,-1⟩ with
  | error p=>rw[hp] at h;cases h
  | ok r =>
   obtain ⟨l',st⟩:=r;rw[hp] at h;simp only at h;split at h
   ·cases h
   ·rename_i hdp;cases h;have ht:=(uj s 0 (aK _)).1;obtain ⟨g2,_⟩:=wQ (jS s _) _ _ _ _ _ _ ht hp;have h1:=g2.tk.ab;have h2:=g2.tk.le;refine ⟨?_,fun V hok=>?_⟩
    ·obtain ⟨y,i1,i2,_⟩:=Oz (V:=[]) (jS s _) (Vq s [] _) _ _ _ _ _ _ ht hp;rw[i1];exact i2
    ·obtain ⟨y,i1,i2,i3,i4⟩:=Oz (V:=V) (jS s _) (Vq s V _) _ _ _ _ _ _ ht hp;simp only[dh] at i1;subst i1
     have:=i4 0 rfl (by omega) (by omega) hok
     have k0:kD 0=13122:=rfl;rw[k0] at this;omega
def iH:List fq->fq->Bool
 | [],_=>false
 | v::r,w=>v.toList == w.toList || iH r w
def gN (ws:List fq)(w:fq):List fq:=if iH ws w then ws else ws++[w]
theorem oY {a b:fq}(h:(a.toList == b.toList)=true):a=b:=by
 rw[beq_iff_eq,aN,aN] at h;cases a;cases b;congr 1;exact Array.toList_inj.1 h
variable {a b ws:List fq}
theorem pA (h:iH a w=true):iH (a++b) w=true:=by
 induction a with
 | nil=>cases h
 | cons v a ih =>
  rw[iH,dx] at h;rw[bG,iH,dx];exact h.imp id ih
theorem Bj (h:iH a w=true)(hp:a <+: b):iH b w=true:=by
 obtain ⟨c,rfl⟩:=hp;exact pA h
theorem vZ (ws:List fq)(w:fq):iH (gN ws w) w=true:=by
 unfold gN;split
 ·rename_i h;exact h
 ·rename_i h;clear h;induction ws with
  | nil=>simp[iH]
  | cons v ws ih=>rw[bG,iH,ih,Bool.or_true]
theorem wh (ws:List fq)(w:fq):ws <+: gN ws w:=by
 unfold gN;split
 ·exact aO _
 ·exact List.prefix_append _ _
theorem GU (h:iH a w=true)(hp:a <+: b):fM b w=fM a w:=by
 obtain ⟨c,rfl⟩:=hp;induction a with
 | nil=>cases h
 | cons v a ih =>
  rw[bG,fM,fM];split
  ·rfl
  ·rename_i hn;rw[iH,dx] at h;rw[ih (h.resolve_left hn)]
theorem GV (h:iH ws w=true):fM ws w < ws.length:=by
 induction ws with
 | nil=>cases h
 | cons v a ih =>
  rw[fM];split
  ·simp
  ·rename_i hn;rw[iH,dx] at h
   have:=ih (h.resolve_left hn)
   simp;omega
theorem OD (h:iH ws w=true):ws.getD (fM ws w) gM=w:=by
 induction ws with
 | nil=>cases h
 | cons v a ih =>
  rw[fM];split
  ·rename_i hv;rw[List.getD_cons_zero];exact oY hv
  ·rename_i hn;rw[iH,dx] at h;rw[List.getD_cons_succ];exact ih (h.resolve_left hn)
theorem pB (h:iH ws w=false):fM (ws++[w]) w=ws.length:=by
 induction ws with
 | nil=>simp[fM]
 | cons v a ih =>
  rw[iH,dS] at h;rw[bG,fM,if_neg (by simp[h.1]),ih h.2]
  all_goals rfl
def vB (fD undo:fq)(ws:List fq):List fq:=if undo.size=0 then gN ws fD else gN (gN ws fD) undo
def jq:List Sm->List fq->List fq
 | [],ws=>ws
 | ⟨op,fD,_,_,_,_,undo,_,_,one,two⟩::rest,ws =>
  jq rest (if op=99 then vB fD undo ws else if op=105\/op=116 then jq two (jq one ws) else if op=114 then jq one ws else ws)
def kM (x:Sm)(ws:List fq):List fq:=if x.op=99 then vB x.fD x.undo ws else if x.op=105\/x.op=116 then jq x.two (jq x.one ws) else if x.op=114 then jq x.one ws else ws
theorem GX (ws:List fq):jq [] ws=ws:=by rw[jq]
theorem CV (x:Sm)(l:List Sm)(ws:List fq):jq (x::l) ws=jq l (kM x ws):=by
 obtain ⟨op,fD,pl,ex,gu,fZ,undo,n,gG,one,two⟩:=x;rw[jq.eq_def]
 all_goals rfl
def jU:Ex->List fq->List fq
 | ⟨op,_,fD,_,_,none,_⟩,vs=>if op=119 then gN vs fD else vs
 | ⟨_,_,_,_,_,some l,none⟩,vs=>jU l vs
 | ⟨_,_,_,_,_,some l,some r⟩,vs=>jU r (jU l vs)
def nM (x:Option Ex)(vs:List fq):List fq :=
 match x with
 | none=>vs
 | some e=>jU e vs
def iV:List Sm->List fq->List fq
 | [],vs=>vs
 | ⟨op,fD,_,ex,gu,_,_,_,_,one,two⟩::rest,vs =>
  iV rest (if op=108 then gN (nM ex vs) fD else if op=99 then (if gu.size=0 then nM ex vs else gN (nM ex vs) gu) else if op=105 then iV two (iV one (nM ex vs)) else if op=116 then iV two (iV one vs) else if op=114 then iV one vs else vs)
def kF (x:Sm)(vs:List fq):List fq:=if x.op=108 then gN (nM x.ex vs) x.fD else if x.op=99 then (if x.gu.size=0 then nM x.ex vs else gN (nM x.ex vs) x.gu) else if x.op=105 then iV x.two (iV x.one (nM x.ex vs)) else if x.op=116 then iV x.two (iV x.one vs) else if x.op=114 then iV x.one vs else vs
theorem Lr (vs:List fq):iV [] vs=vs:=by rw[iV]
theorem ET (x:Sm)(l:List Sm)(vs:List fq):iV (x::l) vs=iV l (kF x vs):=by
 obtain ⟨op,fD,pl,ex,gu,fZ,undo,n,gG,one,two⟩:=x;rw[iV.eq_def]
 all_goals rfl
def iL (l:List Sm):Pg:=⟨jq l [],(iV l []).length,mkS (fM (jq l [])) (fM (iV l [])) l 0⟩
theorem pC (x:Sm)(h1:∀ ws,ws <+: jq x.one ws)(h2:∀ ws,ws <+: jq x.two ws)(ws:List fq):ws <+: kM x ws:=by
 unfold kM vB;split
 ·split
  ·exact wh _ _
  ·exact (wh _ _).trans (wh _ _)
 ·split
  ·exact (h1 _).trans (h2 _)
  ·split
   ·exact h1 _
   ·exact aO _
theorem xW (l:List Sm):∀ ws,ws <+: jq l ws:=by
 match l with
 | []=>intro ws;rw[jq];exact aO _
 | ⟨op,fD,pl,ex,gu,fZ,undo,n,gG,one,two⟩::rest =>
  intro ws;rw[CV];exact (pC ⟨op,fD,pl,ex,gu,fZ,undo,n,gG,one,two⟩ (xW one) (xW two) ws).trans (xW rest _)
theorem EU (x:Ex):∀ vs,vs <+: jU x vs:=by
 match x with
 | ⟨op,n,fD,pl,own,none,_⟩ =>
  intro vs;rw[jU];split
  ·exact wh _ _
  ·exact aO _
 | ⟨op,n,fD,pl,own,some l,none⟩=>intro vs;rw[jU];exact EU l vs
 | ⟨op,n,fD,pl,own,some l,some r⟩=>intro vs;rw[jU];exact (EU l vs).trans (EU r _)
theorem Ls (x:Option Ex)(vs:List fq):vs <+: nM x vs:=by
 cases x with
 | none=>exact aO _
 | some e=>exact EU e vs
theorem pD (x:Sm)(h1:∀ vs,vs <+: iV x.one vs)(h2:∀ vs,vs <+: iV x.two vs)(vs:List fq):vs <+: kF x vs:=by
 unfold kF;split
 ·exact (Ls _ _).trans (wh _ _)
 ·split
  ·split
   ·exact Ls _ _
   ·exact (Ls _ _).trans (wh _ _)
  ·split
   ·exact ((Ls _ _).trans (h1 _)).trans (h2 _)
   ·split
    ·exact (h1 _).trans (h2 _)
    ·split
     ·exact h1 _
     ·exact aO _
theorem wT (l:List Sm):∀ vs,vs <+: iV l vs:=by
 match l with
 | []=>intro vs;rw[iV];exact aO _
 | ⟨op,fD,pl,ex,gu,fZ,undo,n,gG,one,two⟩::rest =>
  intro vs;rw[ET];exact (pD ⟨op,fD,pl,ex,gu,fZ,undo,n,gG,one,two⟩ (wT one) (wT two) vs).trans (wT rest _)
theorem GY (P:Pg)(l:List Sm):∀ ws,jq l ws <+: P.fT->sO P (fM P.fT) l:=by
 match l with
 | []=>intro ws _;rw[sO];trivial
 | ⟨op,fD,pl,ex,gu,fZ,undo,n,gG,one,two⟩::rest =>
  intro ws h;rw[CV] at h;rw[Vf];have hx:=(xW rest _).trans h;unfold kM at hx;dsimp only at hx |-;refine ⟨fun ho=>?_,fun ho=>?_,fun ho=>?_,GY P rest _ h⟩
  ·rw[if_pos ho] at hx;unfold vB at hx;by_cases hz:undo.size=0
   ·rw[if_pos hz] at hx;exact ⟨OD (Bj (vZ _ _) hx),fun h=>absurd hz h⟩
   ·rw[if_neg hz] at hx;exact ⟨OD (Bj (vZ _ _) ((wh _ _).trans hx)),fun _=>OD (Bj (vZ _ _) hx)⟩
  ·by_cases h2:op=105\/op=116
   ·rw[if_neg (by omega),if_pos h2] at hx
    exact GY P one _ ((xW two _).trans hx)
   ·rw[if_neg (by omega),if_neg h2,if_pos (by omega)] at hx
    exact GY P one _ hx
  ·rw[if_neg (by omega),if_pos ho] at hx
   exact GY P two _ hx
theorem Vr (h:iK V w=some i):iH (V.map Prod.fst) w=true/\fM (V.map Prod.fst) w=i:=by
 induction V generalizing i with
 | nil=>cases h
 | cons v V ih =>
  obtain ⟨v,k⟩:=v;rw[iK] at h;rw[eF,iH,fM];split at h
  ·rename_i hv;cases h;exact ⟨by rw[hv,Bool.true_or],by rw[if_pos hv]⟩
  ·rename_i hv;rw[if_neg hv];cases hf:iK V w with
   | none=>rw[hf] at h;cases h
   | some j =>
    rw[hf] at h;cases h;obtain ⟨h1,h2⟩:=ih hf;exact ⟨by rw[h1,Bool.or_true],by rw[h2]⟩
theorem pH (h:iK V w=none):iH (V.map Prod.fst) w=false:=by
 induction V with
 | nil=>rfl
 | cons v V ih =>
  obtain ⟨v,k⟩:=v;rw[iK] at h;rw[eF,iH];split at h
  ·cases h
  ·rename_i hv;cases hf:iK V w with
   | none=>rw[ih hf,Bool.or_false];simpa using hv
   | some j=>rw[hf] at h;cases h
theorem Vt (h:iK V w=some i):gN (V.map Prod.fst) w=V.map Prod.fst:=by
 unfold gN;rw[if_pos (Vr h).1]
theorem GZ (x:Ex):∀ (c:Lk),(iC x c).2.e=0->mO x->jU x (c.vars.map Prod.fst)=c.vars.map Prod.fst:=by
 match x with
 | ⟨op,n,fD,pl,own,none,none⟩ =>
  intro c h hw;rw[iC] at h;unfold ze at h;rw[jU];by_cases h3:op=119
  ·rw[if_pos h3];rw[if_neg (by omega),if_neg (by omega)] at h
   cases hf:iK c.vars fD with
   | none=>rw[hf] at h;exact absurd h (um (by decide))
   | some i=>exact Vt hf
  ·rw[if_neg h3]
 | ⟨op,n,fD,pl,own,none,some r⟩=>intro c _ hw;exact hw.elim
 | ⟨op,n,fD,pl,own,some l,none⟩ =>
  intro c h hw;rw[iC] at h;rw[jU];refine GZ l c ?_ hw.2;unfold qU at h;dsimp only at h;split at h
  ·exact h
  ·exact absurd h (um (by decide))
 | ⟨op,n,fD,pl,own,some l,some r⟩ =>
  intro c h hw;rw[iC] at h;rw[jU];have hr0:(iC r (iC l c).2).2.e=0:=by
   unfold oh at h;split at h
   ·dsimp only at h;split at h
    ·exact absurd h (um (by decide))
    ·exact h
   ·dsimp only at h;split at h
    ·exact h
    ·exact absurd h (um (by decide))
  have hl0:(iC l c).2.e=0:=aR fun hn=>CG r _ hn hr0
  rw[GZ l c hl0 hw.2.1];have hv:(iC l c).2.vars=c.vars:=zm l c
  have:=GZ r (iC l c).2 hr0 hw.2.2
  rw[hv] at this;exact this
variable {c:Lk}
theorem OE {x:Option Ex}(h:(lQ x k c).e=0)(hw:zh x):nM x (c.vars.map Prod.fst)=c.vars.map Prod.fst:=by
 cases x with
 | none=>rfl
 | some e =>
  refine GZ e c ?_ (hw e rfl);unfold lQ at h;simp only at h;split at h
  ·exact h
  ·exact absurd h (um (by decide))
theorem Vu {p:Nat}(h:(nP w p k c).e=0):gN (c.vars.map Prod.fst) w=(nP w p k c).vars.map Prod.fst:=by
 unfold nP at h |-;cases hf:iK c.vars w with
 | none =>
  simp only;unfold gN;rw[if_neg (by rw[pH hf];simp)]
  simp
 | some i =>
  rw[hf] at h;simp only at h |-;rw[Vt hf];split at h
  ·exact absurd h (um (by decide))
  ·rename_i hu;rw[if_neg hu]
theorem CW (l:List Sm):∀ (c:Lk),jM l->(iG l c).e=0->iV l (c.vars.map Prod.fst)=(iG l c).vars.map Prod.fst:=by
 match l with
 | []=>intro c _ _;rw[iG,iV]
 | ⟨op,fD,pl,ex,gu,fZ,undo,n,gG,one,two⟩::rest =>
  intro c hw h;rw[Oh] at h |-;rw[ET];obtain ⟨⟨hw1,hw2⟩,hwo,hwt,hwr⟩:=zi.1 hw;dsimp only at hw1 hw2 hwo hwt;have hx:(vU ⟨op,fD,pl,ex,gu,fZ,undo,n,gG,one,two⟩ c).e=0:=aR fun hn=>vV rest _ hn h
  have key:kF ⟨op,fD,pl,ex,gu,fZ,undo,n,gG,one,two⟩ (c.vars.map Prod.fst)=(vU ⟨op,fD,pl,ex,gu,fZ,undo,n,gG,one,two⟩ c).vars.map Prod.fst:=by
   unfold vU at hx |-;unfold kF;dsimp only at hx |-;by_cases o1:op=108
   ·rw[if_pos o1] at hx |-;rw[if_pos o1];cases ex with
    | none=>rcases hw2 with h | h | h | h | h | h<;>first | exact absurd rfl h.2 | omega
    | some e =>
     dsimp only at hx |-;have he0:(iC e c).2.e=0:=aR fun hn=>CJ hn _ _ _ hx
     have hv:(iC e c).2.vars=c.vars:=zm e c;show gN (jU e _) fD=_
     rw[GZ e c he0 (hw1 e rfl),<- Vu hx,hv]
   ·rw[if_neg o1] at hx |-;rw[if_neg o1];by_cases o2:op=99
    ·rw[if_pos o2] at hx |-;rw[if_pos o2];have hnn:¬ (n < 1\/5 < n):=fun hn=>by rw[if_pos hn] at hx;exact absurd hx (um (by decide))
     rw[if_neg hnn] at hx |-;by_cases ha:gu.toList.isEmpty
     ·rw[if_pos ha] at hx |-;have hz:gu.size=0:=by
       rw[dA,aN] at ha;exact aY.2 ha
      rw[if_pos hz,OE hx hw1,Ct]
     ·rw[if_neg ha] at hx |-;have hz:¬ gu.size=0:=fun hz=>ha (by rw[dA,aN];exact aY.1 hz)
      have hm0:(lQ ex 105 c).e=0:=aR fun hn=>CJ hn _ _ _ hx
      rw[if_neg hz,OE hm0 hw1,<- Vu hx,Ct]
    ·rw[if_neg o2] at hx |-;rw[if_neg o2];by_cases o3:op=105
     ·rw[if_pos o3] at hx |-;rw[if_pos o3];have h1:(iG one (lQ ex 98 c)).e=0:=aR fun hn=>vV two _ hn hx
      have h0:(lQ ex 98 c).e=0:=aR fun hn=>vV one _ hn h1
      have a1:=CW one _ hwo h1;rw[Ct] at a1;rw[OE h0 hw1,a1,CW two _ hwt hx]
     ·rw[if_neg o3] at hx |-;rw[if_neg o3];by_cases o4:op=116
      ·rw[if_pos o4] at hx |-;rw[if_pos o4];have h1:(iG one c).e=0:=aR fun hn=>vV two _ hn hx
       rw[CW one c hwo h1,CW two _ hwt hx]
      ·rw[if_neg o4] at hx |-;rw[if_neg o4];by_cases o5:op=114
       ·rw[if_pos o5] at hx |-;rw[if_pos o5];by_cases hn:9 < n
        ·rw[if_pos hn] at hx;exact absurd hx (vV one _ (xV (by decide) _))
        ·rw[if_neg hn] at hx |-;exact CW one c hwo hx
       ·rw[if_neg o5,if_neg o5]
  rw[key];exact CW rest _ hwr h
theorem Vv {l:List Sm}(hr:read s=.ok l)(hc:check s=(0,0))(fK:List Int)(N:Nat)(hN:3936602<=N) :
  ∃ m,runM (iL l) N ⟨[],List.replicate (iL l).nv 0,[],[],[],fK,0,0,false,0⟩=((play (iG l ⟨[],0,0⟩).vars l fK).over,m)/\m.fI=(play (iG l ⟨[],0,0⟩).vars l fK).fI/\m.vars=(play (iG l ⟨[],0,0⟩).vars l fK).held/\m.fin=(play (iG l ⟨[],0,0⟩).vars l fK).over:=by
 have he:(iG l ⟨[],0,0⟩).e=0:=by
  unfold check at hc;rw[hr] at hc;dsimp only at hc;split at hc
  ·rename_i h;exact h
  ·rename_i h;exact absurd (congrArg Prod.fst hc) h
 obtain ⟨wf,_⟩:=EC hr;obtain ⟨tr,co⟩:=OC hr;obtain ⟨_,_,_,ok⟩:=Bc l ⟨[],0,0⟩ wf tr (fun v hv=>by cases hv) he
 have ok:=ok [];rw[dG] at ok;have hvs:iV l []=(iG l ⟨[],0,0⟩).vars.map Prod.fst:=CW l ⟨[],0,0⟩ wf he;have hiv:∀ w i,iK (iG l ⟨[],0,0⟩).vars w=some i->fM (iV l []) w=i:=fun w i h=>by rw[hvs];exact (Vr h).2
 have:=co _ ok
 exact nF (iL l) _ (fM (jq l [])) (fM (iV l [])) hiv l ok (GY (iL l) l [] (aO _)) rfl (by show (iV l []).length=_;rw[hvs,List.length_map]) fK N (by omega)
def iD (k:Nat):Nat:=if k=18 then 2 else if k<=2\/(12<=k/\k<=16)\/k=19 then 1 else 0
def b2 (n:Nat):List UInt8:=[UInt8.ofNat (n / 256),UInt8.ofNat n]
def wU (w:fq):List UInt8:=UInt8.ofNat w.size::w.data.toList
def qm (i:Ins):List UInt8:=UInt8.ofNat i.k::((if iD i.k=0 then [] else b2 i.a)++(if iD i.k=2 then b2 i.b else []))
def lN:List UInt8:=[101,114,114,97,110,100,32,49,10]
def codeOf (P:Pg):List UInt8:=lN++(b2 P.nv++(b2 P.fT.length++(P.fT.flatMap wU++P.ins.flatMap qm)))
def oH:List UInt8->Option (Nat×List UInt8)
 | a::b::r=>some (a.toNat * 256+b.toNat,r)
 | _=>none
def letters (l:List UInt8):Bool:=l.all fun c=>97<=c.toNat && c.toNat<=122
def r9:List UInt8->Option (fq×List UInt8)
 | []=>none
 | n::r=>if n.toNat=0\/8 < n.toNat\/r.length < n.toNat then none else if letters (r.take n.toNat) then some (⟨(r.take n.toNat).toArray⟩,r.drop n.toNat) else none
def jP:Nat->List UInt8->Option (List fq×List UInt8)
 | 0,r=>some ([],r)
 | n+1,r =>
  match r9 r with
  | none=>none
  | some (w,r1) =>
   match jP n r1 with
   | none=>none
   | some (ws,r2)=>some (w::ws,r2)
def sj:List UInt8->Option (Ins×List UInt8)
 | []=>none
 | k::r =>
  if 20<=k.toNat then none
  else if iD k.toNat=0 then some (⟨k.toNat,0,0⟩,r)
  else
   match oH r with
   | none=>none
   | some (a,r1) =>
    if iD k.toNat=2 then
     match oH r1 with
     | none=>none
     | some (b,r2)=>some (⟨k.toNat,a,b⟩,r2)
    else some (⟨k.toNat,a,0⟩,r1)
def jH:Nat->List UInt8->Option (List Ins)
 | _,[]=>some []
 | 0,_=>none
 | n+1,r =>
  match sj r with
  | none=>none
  | some (i,r1) =>
   match jH n r1 with
   | none=>none
   | some l=>some (i::l)
theorem Lu {n:Nat}(h:n < 65536)(r:List UInt8):oH (b2 n++r)=some (n,r):=by
 show some ((UInt8.ofNat (n / 256)).toNat * 256+(UInt8.ofNat n).toNat,r)=_
 congr 2;simp only[UInt8.toNat_ofNat'];omega
structure OkW (w:fq):Prop where
 pos:0 < w.size
 le:w.size<=8
 OG:letters w.data.toList=true
structure ni (i:Ins):Prop where
 k:i.k < 20
 a:i.a < 65536
 b:i.b < 65536
 za:iD i.k=0->i.a=0
 zb:iD i.k≠2->i.b=0
theorem pL (h:OkW w)(r:List UInt8):r9 (wU w++r)=some (w,r):=by
 have e:(UInt8.ofNat w.size).toNat=w.size:=by
  rw[UInt8.toNat_ofNat']
  have:=h.le
  omega
 have hl:w.data.toList.length=w.size:=rfl;unfold wU;rw[bG,r9,e];have h1:=h.pos;have h2:=h.le;have ht:(w.data.toList++r).take w.size=w.data.toList:=by rw[<- hl,List.take_left]
 have hd:(w.data.toList++r).drop w.size=r:=by rw[<- hl,List.drop_left]
 rw[if_neg (by rw[ay,hl];omega),ht,hd,if_pos h.OG]
theorem pM (h:∀ w∈ws,OkW w)(r:List UInt8):jP ws.length (ws.flatMap wU++r)=some (ws,r):=by
 induction ws with
 | nil=>rfl
 | cons w ws ih =>
  rw[aC,dQ,aI,jP,pL (h w (by simp))]
  simp only;rw[ih fun v hv=>h v (by simp[hv])]
theorem pN {i:Ins}(h:ni i)(r:List UInt8):sj (qm i++r)=some (i,r):=by
 have hk:=h.k;have e:(UInt8.ofNat i.k).toNat=i.k:=by rw[UInt8.toNat_ofNat'];omega
 unfold qm;rw[bG,sj,e,if_neg (by omega)]
 by_cases h0:iD i.k=0
 ·rw[if_pos h0,if_pos h0,if_neg (by omega)]
  have h1:=h.za h0;have h2:=h.zb (by omega)
  obtain ⟨k,a,b⟩:=i;simp only at h1 h2 |-;subst h1 h2;rfl
 ·rw[if_neg h0,if_neg h0,aI,Lu h.a];simp only;by_cases h2:iD i.k=2
  ·rw[if_pos h2,if_pos h2,Lu h.b]
  ·rw[if_neg h2,if_neg h2];have h3:=h.zb h2;obtain ⟨k,a,b⟩:=i;simp only at h3 |-;subst h3;rfl
theorem Vw (i:Ins):0 < (qm i).length:=by unfold qm;simp
variable {l:List Ins}
theorem pP (h:∀ i∈l,ni i)(n:Nat)(hn:l.length<=n):jH n (l.flatMap qm)=some l:=by
 induction l generalizing n with
 | nil=>unfold jH;rfl
 | cons i l ih =>
  obtain ⟨n,rfl⟩:∃ k,n=k+1:=⟨n - 1,by simp at hn;omega⟩
  rw[dQ];have hne:qm i++l.flatMap qm≠[]:=fun e=>by
   have h1:=congrArg List.length e;have h2:=Vw i;rw[ay,aL] at h1;omega
  have e1:jH (n+1) (qm i++l.flatMap qm)=match sj (qm i++l.flatMap qm) with
    | none=>none
    | some (i,r1) =>
     match jH n r1 with
     | none=>none
     | some l=>some (i::l):=by
   cases hc:qm i++l.flatMap qm with
   | nil=>exact absurd hc hne
   | cons a r=>rfl
  rw[e1,pN (h i (by simp))]
  simp only;rw[ih (fun j hj=>h j (by simp[hj])) n (by simp at hn;omega)]
def vC (s:List UInt8):Option Pg :=
 if s.take 9=lN then
  match oH (s.drop 9) with
  | none=>none
  | some (nv,r1) =>
   match oH r1 with
   | none=>none
   | some (n,r2) =>
    match jP n r2 with
    | none=>none
    | some (ws,r3) =>
     match jH r3.length r3 with
     | none=>none
     | some l=>some ⟨ws,nv,l⟩
 else none
theorem Vx:l.length<=(l.flatMap qm).length:=by
 induction l with
 | nil=>exact aK _
 | cons i l ih =>
  have:=Vw i
  rw[dQ,ay,aC];omega
theorem pS (h1:P.nv < 65536)(h2:P.fT.length < 65536)(h3:∀ w∈P.fT,OkW w)(h4:∀ i∈P.ins,ni i):vC (codeOf P)=some P:=by
 have e1:(codeOf P).take 9=lN:=rfl;have e2:(codeOf P).drop 9=b2 P.nv++(b2 P.fT.length++(P.fT.flatMap wU++P.ins.flatMap qm)):=rfl;unfold vC;rw[if_pos e1,e2,Lu h1];simp only;rw[Lu h2];simp only;rw[pM h3];simp only;rw[pP h4 _ Vx]
theorem Vy (ps:List (List (fq×Int))):ps.dropLast.flatten.length<=ps.flatten.length:=by
 by_cases h:ps=[]
 ·subst h;simp
 ·obtain ⟨qs,q,e⟩:∃ qs q,ps=qs++[q]:=⟨_,_,(bH h).symm⟩;subst e;simp
theorem pT (ps:List (List (fq×Int))):(iA ps.dropLast (ps.getLastD [])).flatten.length<=ps.flatten.length:=by
 by_cases h:ps=[]
 ·subst h;simp[iA]
 ·obtain ⟨qs,q,e⟩:∃ qs q,ps=qs++[q]:=⟨_,_,(bH h).symm⟩;subst e;rw[List.dropLast_concat];by_cases h2:qs=[]
  ·subst h2;simp[iA,List.getLastD_eq_getLast?]
  ·obtain ⟨rs,r,e⟩:∃ rs r,qs=rs++[r]:=⟨_,_,(bH h2).symm⟩;subst e;simp[iA,List.getLastD_eq_getLast?]
variable {ps:List (List (fq×Int))}
theorem Vz (h:ps≠[])(x:fq×Int):(iA ps [x]).flatten.length=ps.flatten.length+1/\(iA ps [x]).length=ps.length/\iA ps [x]≠[]:=by
 obtain ⟨qs,q,e⟩:∃ qs q,ps=qs++[q]:=⟨_,_,(bH h).symm⟩;subst e;simp[iA,List.getLastD_eq_getLast?];omega
theorem pZ (h:2<=ps.length)(x:List (fq×Int)):(iA ps.dropLast x).length=ps.length - 1:=by
 unfold iA;simp;omega
theorem Lv (w:fq)(v:Int)(u:Bool)(k:Nat):∀ t s,(tries w v u k t s).2.held=s.held/\(tries w v u k t s).2.fG=s.fG/\(tries w v u k t s).2.over=s.over/\(tries w v u k t s).2.failed=s.failed/\s.fI.length<=(tries w v u k t s).2.fI.length/\(∀ x,(tries w v u k t s).1=some (some x)->s.fI.length+1<=(tries w v u k t s).2.fI.length):=by
 induction k with
 | zero=>intro t s;exact ⟨rfl,rfl,rfl,rfl,aj _,fun x h=>by cases h⟩
 | succ k ih =>
  intro t s;unfold tries ask;cases hl:s.left with
  | nil=>exact ⟨rfl,rfl,rfl,rfl,by simp,fun x h=>by cases h⟩
  | cons x r =>
   simp only;split
   ·exact ⟨rfl,rfl,rfl,rfl,by simp,fun _ _=>by simp⟩
   ·obtain ⟨h1,h2,h3,h4,h5,h6⟩:=ih (t+1) { s with fI:=s.fI++[⟨w,v,t,u⟩],left:=r }
    simp only[ay,aS] at h5 h6;exact ⟨h1,h2,h3,h4,by omega,fun x hx=>by have:=h6 x hx;omega⟩
theorem VA (L:List (fq×Int)):∀ s,(l9 L s).held=s.held/\(l9 L s).fG=s.fG/\(l9 L s).failed=s.failed/\s.fI.length<=(l9 L s).fI.length:=by
 induction L with
 | nil=>intro s;exact ⟨rfl,rfl,rfl,aj _⟩
 | cons a L ih =>
  intro s;obtain ⟨w,v⟩:=a;obtain ⟨h1,h2,h3,h4,h5,_⟩:=Lv w v true 3 1 s;rw[l9];cases ht:tries w v true 3 1 s with
  | mk o s1 =>
   rw[ht] at h1 h2 h4 h5;dsimp only at h1 h2 h4 h5;match o with
   | none=>exact ⟨h1,h2,h4,h5⟩
   | some none=>exact ⟨h1,h2,h4,h5⟩
   | some (some _) =>
    obtain ⟨g1,g2,g3,g4⟩:=ih s1;exact ⟨g1.trans h1,g2.trans h2,g3.trans h4,aP h5 g4⟩
def I3 (f:Rs->Rs):Prop:=∀ s,s.fG≠[]->s.fG.flatten.length<=s.fI.length->(f s).held.length=s.held.length/\(f s).fG.flatten.length<=(f s).fI.length/\((f s).over=0->(f s).stop=false->(f s).fG.length=s.fG.length)
variable {f:Rs->Rs}
theorem I3.ne (h:I3 f){s:Rs}(h1:s.fG≠[])(h2:s.fG.flatten.length<=s.fI.length)(h3:(f s).over=0)(h4:(f s).stop=false):(f s).fG≠[]:=fun e=>by
 have:=(h s h1 h2).2.2 h3 h4
 rw[e] at this;exact h1 (aY.1 this.symm)
theorem VB (V:Vs)(held:List Int)(w:fq)(v:Int):(nG V held w v).length=held.length:=by
 unfold nG;split
 ·rfl
 ·simp
theorem qS (V:Vs)(fD:fq)(ex:Option Ex)(gu undo:fq)(n:Nat):I3 (uG V fD ex gu undo n):=by
 intro s hp hf;unfold uG;split
 ·exact ⟨rfl,hf,fun _ _=>rfl⟩
 ·rename_i arg _;obtain ⟨h1,h2,h3,h4,h5,h6⟩:=Lv fD arg false n 1 s;cases ht:tries fD arg false n 1 s with
  | mk o s1 =>
   rw[ht] at h1 h2 h3 h5 h6;dsimp only at h1 h2 h3 h5 h6;match o with
   | none =>
    simp only;exact ⟨by rw[h1],by rw[h2];omega,fun _ _=>by rw[h2]⟩
   | some none =>
    simp only;exact ⟨by rw[h1],by rw[h2];omega,fun _ _=>by rw[h2]⟩
   | some (some v) =>
    have h7:=h6 v rfl;simp only;have hp1:s1.fG≠[]:=by rw[h2];exact hp
    refine ⟨?_,?_,fun _ _=>?_⟩
    ·split
     ·rw[h1]
     ·rw[VB,h1]
    ·split
     ·rw[h2];omega
     ·rw[(Vz hp1 _).1,h2];omega
    ·split
     ·rw[h2]
     ·rw[(Vz hp1 _).2.1,h2]
theorem qT (h:I3 f)(hi:∀ s,s.going=false->f s=s)(n:Nat):I3 (iter f n):=by
 induction n with
 | zero=>intro s _ hf;exact ⟨rfl,hf,fun _ _=>rfl⟩
 | succ n ih =>
  intro s hp hf;rw[iter];obtain ⟨h1,h2,h3⟩:=h s hp hf;by_cases hg:(f s).over=0/\(f s).stop=false
  ·obtain ⟨g1,g2,g3⟩:=ih (f s) (h.ne hp hf hg.1 hg.2) h2;exact ⟨g1.trans h1,g2,fun a b=>(g3 a b).trans (h3 hg.1 hg.2)⟩
  ·have hno:(f s).going=false:=by
    cases hh:(f s).going with
    | false=>rfl
    | true =>
     exfalso;unfold Rs.going at hh;rw[aZ,aZ,beq_iff_eq,dB,dB] at hh;exact hg hh.1
   rw[UO (hi _ hno)];exact ⟨h1,h2,h3⟩
theorem VD (V:Vs)(x:Sm)(h1:I3 (gJ V x.one))(h2:I3 (gJ V x.two)):I3 (gT V x):=by
 intro s hp hf;unfold gT;split
 ·split
  ·exact ⟨rfl,hf,fun _ _=>rfl⟩
  ·exact ⟨VB _ _ _ _,hf,fun _ _=>rfl⟩
 ·split
  ·exact qS V _ _ _ _ _ s hp hf
  ·split
   ·split
    ·exact ⟨rfl,hf,fun _ _=>rfl⟩
    ·split
     ·exact h1 s hp hf
     ·exact h2 s hp hf
   ·split
    ·obtain ⟨a1,a2,a3⟩:=h1 { s with fG:=s.fG++[[]] } (by simp) (by simpa using hf)
     dsimp only at a1 a2 a3 |-;generalize gJ V x.one { s with fG:=s.fG++[[]] }=s1 at a1 a2 a3
     have hpos:=bV.2 hp;split
     ·rename_i hc;refine ⟨a1,a2,fun b1 b2=>?_⟩
      rcases hc with hc | hc
      ·exact absurd b1 hc
      ·rw[b2] at hc;cases hc
     ·rename_i hc;have hc1:s1.over=0:=aR fun h=>hc (ak h)
      have hc2:s1.stop=false:=by
       cases hh:s1.stop with
       | false=>rfl
       | true=>exact absurd (ah hh) hc
      have hl:=a3 hc1 hc2;rw[ay,aS] at hl;split
      ·obtain ⟨u1,u2,u3,u4⟩:=VA (s1.fG.getLastD []).reverse { s1 with failed:=false,fG:=s1.fG.dropLast }
       have hu:lS { s1 with failed:=false }=l9 (s1.fG.getLastD []).reverse { s1 with failed:=false,fG:=s1.fG.dropLast }:=rfl
       rw[hu];generalize l9 (s1.fG.getLastD []).reverse { s1 with failed:=false,fG:=s1.fG.dropLast }=s2 at u1 u2 u3 u4
       dsimp only at u1 u2 u4;have hd:s1.fG.dropLast.length=s.fG.length:=by rw[cO,hl];omega
       have hf2:s2.fG.flatten.length<=s2.fI.length:=by
        rw[u2]
        have:=Vy s1.fG
        omega
       split
       ·obtain ⟨b1,b2,b3⟩:=h2 s2 (fun e=>by rw[u2] at e;rw[e] at hd;simp at hd;omega) hf2
        exact ⟨b1.trans ((congrArg List.length u1).trans a1),b2,fun c1 c2=>(b3 c1 c2).trans (by rw[u2,hd])⟩
       ·exact ⟨(congrArg List.length u1).trans a1,hf2,fun _ _=>by rw[u2,hd]⟩
      ·refine ⟨a1,?_,fun _ _=>?_⟩
       ·have:=pT s1.fG
        dsimp only;omega
       ·dsimp only;rw[pZ (by omega)]
        omega
    ·split
     ·exact qT h1 (fun s h=>EH V _ h) _ s hp hf
     ·exact ⟨rfl,hf,fun _ _=>rfl⟩
theorem Bl (V:Vs)(l:List Sm):I3 (gJ V l):=by
 match l with
 | []=>intro s _ hf;rw[Cy];exact ⟨rfl,hf,fun _ _=>rfl⟩
 | ⟨op,fD,pl,ex,gu,fZ,undo,n,gG,one,two⟩::rest =>
  intro s hp hf;rw[EF];split
  ·have hx:=VD V ⟨op,fD,pl,ex,gu,fZ,undo,n,gG,one,two⟩ (Bl V one) (Bl V two);obtain ⟨h1,h2,h3⟩:=hx s hp hf;generalize hz:gT V ⟨op,fD,pl,ex,gu,fZ,undo,n,gG,one,two⟩ s=z at h1 h2 h3;by_cases hg:z.over=0/\z.stop=false
   ·have hne:z.fG≠[]:=by rw[<- hz] at hg |-;exact hx.ne hp hf hg.1 hg.2
    obtain ⟨g1,g2,g3⟩:=Bl V rest z hne h2;exact ⟨g1.trans h1,g2,fun a b=>(g3 a b).trans (h3 hg.1 hg.2)⟩
   ·have hno:z.going=false:=by
     cases hh:z.going with
     | false=>rfl
     | true =>
      exfalso;unfold Rs.going at hh;rw[aZ,aZ,beq_iff_eq,dB,dB] at hh;exact hg hh.1
    rw[EH V rest hno];exact ⟨h1,h2,h3⟩
  ·rename_i hg;rw[EH V rest (by simpa using hg)]
   exact ⟨rfl,hf,fun _ _=>rfl⟩
def O3 (f:Rs->Rs):Prop:=∀ s,s.over<=3->(f s).over<=3
theorem rB (L:List (fq×Int)):O3 (l9 L):=by
 induction L with
 | nil=>intro s h;exact h
 | cons a L ih =>
  intro s h;obtain ⟨w,v⟩:=a;obtain ⟨_,_,k3,_⟩:=Lv w v true 3 1 s;rw[l9];cases ht:tries w v true 3 1 s with
  | mk o s1 =>
   rw[ht] at k3;dsimp only at k3;match o with
   | none=>show s1.over<=3;omega
   | some none=>exact aj 3
   | some (some _)=>exact ih s1 (by omega)
theorem VE:O3 lS:=fun s h=>rB _ { s with fG:=s.fG.dropLast } h
theorem rI (V:Vs)(fD:fq)(ex:Option Ex)(gu undo:fq)(n:Nat):O3 (uG V fD ex gu undo n):=by
 intro s h;unfold uG;cases sN V s.held ex with
 | none=>exact h
 | some arg =>
  obtain ⟨_,_,k3,_⟩:=Lv fD arg false n 1 s;dsimp only;cases ht:tries fD arg false n 1 s with
  | mk o s1 =>
   rw[ht] at k3;dsimp only at k3;match o with
   | none=>show s1.over<=3;omega
   | some none=>show s1.over<=3;omega
   | some (some _)=>show s1.over<=3;omega
theorem rK (h:O3 f)(n:Nat):O3 (iter f n):=by
 induction n with
 | zero=>intro s h;exact h
 | succ n ih=>intro s hs;exact ih _ (h s hs)
theorem rL (V:Vs)(x:Sm)(h1:O3 (gJ V x.one))(h2:O3 (gJ V x.two)):O3 (gT V x):=by
 intro s h0;unfold gT;by_cases o1:x.op=108
 ·simp only[if_pos o1];cases sN V s.held x.ex<;>exact h0
 ·simp only[if_neg o1];by_cases o2:x.op=99
  ·simp only[if_pos o2];exact rI V x.fD x.ex x.gu x.undo x.n s h0
  ·simp only[if_neg o2];by_cases o3:x.op=105
   ·simp only[if_pos o3];cases sN V s.held x.ex with
    | none=>exact h0
    | some v =>
     dsimp only;by_cases hv:v=1
     ·rw[if_pos hv];exact h1 s h0
     ·rw[if_neg hv];exact h2 s h0
   ·simp only[if_neg o3];by_cases o4:x.op=116
    ·simp only[if_pos o4];have q1:(gJ V x.one { s with fG:=s.fG++[[]] }).over<=3:=h1 { s with fG:=s.fG++[[]] } h0
     generalize gJ V x.one { s with fG:=s.fG++[[]] }=s1 at q1 |-
     by_cases hb:s1.over≠0\/s1.stop=true
     ·rw[if_pos hb];exact q1
     ·rw[if_neg hb];by_cases hf:s1.failed=true
      ·rw[if_pos hf];have q2:(lS { s1 with failed:=false }).over<=3:=VE { s1 with failed:=false } q1
       generalize lS { s1 with failed:=false }=s2 at q2 |-
       by_cases hg:s2.going=true
       ·rw[if_pos hg];exact h2 s2 q2
       ·rw[if_neg hg];exact q2
      ·rw[if_neg hf];exact q1
    ·simp only[if_neg o4];by_cases o5:x.op=114
     ·simp only[if_pos o5];exact rK h1 x.n s h0
     ·simp only[if_neg o5];exact h0
theorem Lx (V:Vs)(l:List Sm):O3 (gJ V l):=by
 match l with
 | []=>intro s h;rw[Cy];exact h
 | ⟨op,fD,pl,ex,gu,fZ,undo,n,gG,one,two⟩::rest =>
  intro s h;rw[EF];refine Lx V rest _ ?_;split
  ·exact rL V ⟨op,fD,pl,ex,gu,fZ,undo,n,gG,one,two⟩ (Lx V one) (Lx V two) s h
  ·exact h
theorem rN (V:Vs)(l:List Sm)(a:List Int):(play V l a).over<=3:=by
 have q:=Lx V l ⟨List.replicate V.length 0,a,[],[[]],0,false,false⟩ (aK _);unfold play;generalize gJ V l ⟨List.replicate V.length 0,a,[],[[]],0,false,false⟩=s at q |-;unfold ended;by_cases hb:s.over≠0\/s.stop=true
 ·rw[if_pos hb];exact q
 ·rw[if_neg hb];by_cases hf:s.failed=true
  ·rw[if_pos hf];have q2:=VE s q;generalize lS s=s2 at q2 |-;by_cases hg:s2.over=0/\s2.stop=false
   ·rw[if_pos hg];show 2<=3;decide
   ·rw[if_neg hg];exact q2
  ·rw[if_neg hf];show 1<=3;decide
end Px
namespace Ref
open Px
theorem _root_.Go.Proofs.YtokkhhekekeokaaGreatDoor.Px.VF (P:Pg)(i:Nat)(arg:Int)(most:Nat)(und:Bool)(m:Ms):(iU P i arg most und m).2.2.fI.length=m.fI.length+1:=by
 unfold iU;split
 ·simp
 ·split
  ·simp
  ·split<;>simp
theorem rS (r:Nat×Int×Ms)(n:Nat)(h:r.2.2.fI.length=n):(match r with
  | (0,v,m')=>((0:Nat),{ m' with st:=v::m'.st.tail })
  | (e,_,m')=>(e,m')).2.fI.length=n:=by
 obtain ⟨e,v,m'⟩:=r;cases e<;>exact h
theorem sA (r:Nat×Int×Ms)(n:Nat)(u:List (Nat×Int))(h:r.2.2.fI.length=n):(match r with
   | (0,_,m')=>((0:Nat),{ m' with fU:=u })
   | (1,_,m')=>(4,m')
   | (e,_,m')=>(e,m')).2.fI.length=n:=by
 obtain ⟨e,v,m'⟩:=r;match e with
 | 0=>exact h
 | 1=>exact h
 | e+2=>exact h
theorem sB (r:Nat×Ms)(n p:Nat)(h:r.2.fI.length<=n):(match r with
   | (0,m')=>((0:Nat),m')
   | (e,m')=>(e,{ m' with fE:=p })).2.fI.length<=n:=by
 obtain ⟨e,m'⟩:=r;cases e<;>exact h
theorem sC (r:Nat×Ms)(n:Nat)(h:r.2.fI.length<=n):(match r with
 | (0,m')=>(decide (m'.fin≠0),m')
 | (1,m')=>(decide (m'.fin≠0),{ m' with iZ:=true })
 | (2,m')=>(true,m')
 | (3,m')=>(decide (m'.fin≠0),m')
 | (_,m')=>(true,{ m' with fin:=3 })).2.fI.length<=n:=by
 obtain ⟨e,m'⟩:=r;match e with
 | 0=>exact h
 | 1=>exact h
 | 2=>exact h
 | 3=>exact h
 | e+4=>exact h
theorem _root_.Go.Proofs.YtokkhhekekeokaaGreatDoor.Px.sE (P:Pg)(i:Px.Ins)(m:Ms):(jh P i m).2.fI.length<=m.fI.length+1:=by
 unfold jh;by_cases h0:i.k=0
 ·rw[if_pos h0];exact bP _
 rw[if_neg h0];by_cases h1:i.k=1
 ·rw[if_pos h1];exact bP _
 rw[if_neg h1];by_cases h2:i.k=2
 ·rw[if_pos h2];exact bP _
 rw[if_neg h2];by_cases h3:i.k=3
 ·rw[if_pos h3];exact bP _
 rw[if_neg h3];by_cases h4:i.k=7
 ·rw[if_pos h4];by_cases hh:m.st.headD 0=0
  ·rw[if_pos hh];exact bP _
  ·rw[if_neg hh];exact bP _
 rw[if_neg h4];by_cases h5:i.k<=10
 ·rw[if_pos h5];exact bP _
 rw[if_neg h5];by_cases h6:i.k=11
 ·rw[if_pos h6];exact bP _
 rw[if_neg h6];by_cases h7:i.k=12
 ·rw[if_pos h7];exact bP _
 rw[if_neg h7];by_cases h8:i.k=13
 ·rw[if_pos h8];exact bP _
 rw[if_neg h8];by_cases h9:i.k=14
 ·rw[if_pos h9];by_cases hh:0 < m.st.headD 0
  ·rw[if_pos hh];exact bP _
  ·rw[if_neg hh];exact bP _
 rw[if_neg h9];by_cases h10:i.k=15
 ·rw[if_pos h10];exact bP _
 rw[if_neg h10];by_cases h11:i.k=16
 ·rw[if_pos h11];exact bP _
 rw[if_neg h11];by_cases h12:i.k=17
 ·rw[if_pos h12];exact bP _
 rw[if_neg h12];by_cases zU:i.k=18
 ·rw[if_pos zU];exact Nat.le_of_eq (rS _ _ (Px.VF P i.a (m.st.headD 0) i.b false m))
 rw[if_neg zU];exact bP _
theorem _root_.Go.Proofs.YtokkhhekekeokaaGreatDoor.Px.sL (P:Pg)(m:Ms):(kU P m).2.fI.length<=m.fI.length+1:=by
 have hb:(kU.behind m).2.fI.length=m.fI.length:=by unfold kU.behind;split<;>rfl
 unfold kU;split
 ·omega
 ·rename_i u r hu;split
  ·omega
  ·exact Nat.le_of_eq (sA _ _ _ (Px.VF P u.1 u.2 3 true m))
theorem _root_.Go.Proofs.YtokkhhekekeokaaGreatDoor.Px.sR (P:Pg)(m:Ms):(mP P m).2.fI.length<=m.fI.length+1:=by
 have hs:(jE P m).2.fI.length<=m.fI.length+1:=by
  unfold jE;split
  ·exact Px.sL P m
  ·split
   ·exact bP _
   ·rename_i i hi;exact sB _ _ _ (Px.sE P i { m with fE:=m.fE+1 })
 exact sC _ _ hs
theorem _root_.Go.Proofs.YtokkhhekekeokaaGreatDoor.Px.VG (P:Pg)(n:Nat):∀ m:Ms,(Px.runM P n m).2.fI.length<=m.fI.length+n:=by
 induction n with
 | zero=>intro m;exact aj _
 | succ n ih =>
  intro m;rw[Px.runM];have h1:=Px.sR P m;split
  ·dsimp only;omega
  ·have h2:=ih (mP P m).2;omega
