import Derived.Test.YtagpnplggopoeaaGreatDoorT01
import Derived.Test.YtagpnplggopoeaaGreatDoorT00
import Derived.Shelf.GgSortFunc.Small
import Derived.Shelf.GgSortFunc.Tiny
import Derived.Ground.GgsProg
import Derived.Test.YtagpnplggopoeaaGreatDoorProg
set_option maxRecDepth 100000
namespace Go.Proofs.YtagpnplggopoeaaGreatDoor
open Go.RowKit
namespace Px
theorem zxf (P:Pg) (V:Vs) (iw iv:ByteArray→Nat) (hiv:∀ w i,qa3 V w=some i→iv w=i) (x:Sm) (hop:x.op=105) (hk:okH V x.op x.word x.ex x.asw x.n) (h1:SimS P V iw iv x.one) (h2:SimS P V iw iv x.two) (k1:okS V x.one) (k2:okS V x.two) (u1:UsS P iw x.one) (u2:UsS P iw x.two):SimX P V iw iv x:=by
 intro s m S G hr hg hu hc;obtain ⟨e,he,hke⟩:∃ e,x.ex=some e∧okE V e 98:=by
  rcases hk with h | h | h | h | h | h
  ·omega
  ·omega
  ·exact h.2
  all_goals omega
 have hco:coX x=coO x.ex+2+coS x.one+coS x.two:=by unfold coX;rw[if_neg (by omega),if_neg (by omega),if_pos hop]
 have hrun:runX V x s=match evO V s.held x.ex with
  | none=>{ s with failed:=true }
  | some v=>if v=1 then runS V x.one s else runS V x.two s:=by unfold runX;rw[if_neg (by omega),if_neg (by omega),if_pos hop]<;>rfl
 have hX:CodeAt P m.place (mkO iv x.ex):=by
  unfold mkX at hc;rw[if_neg (by omega),if_neg (by omega),if_pos hop] at hc
  dsimp only at hc;split at hc
  ·exact hc.left
  ·exact hc.left
 rw[hco,hrun];obtain ⟨o1,o2⟩:=qxz P V iv hiv x.ex 98 m (fun e' h'=>by rw[he] at h';cases h';exact hke) (by rw[hr.held];exact hr.ty) hu hr.fin hX
 rw[hr.held] at o1 o2;cases hev:evO V s.held x.ex with
 | none =>
  obtain ⟨n',t,q,g1,g2⟩:=o2 hev;rw[← hr.held] at g2;exact qif hr hg g2 (by omega)
 | some v =>
  obtain ⟨g1,g2⟩:=o1 v hev;rw[← hr.held] at g1;dsimp only;by_cases htwo:x.two.isEmpty
  ·have hmk:mkX iw iv x m.place=mkO iv x.ex++([⟨13,m.place+coO x.ex+1+(mkS iw iv x.one (m.place+coO x.ex+1)).length,0⟩]++mkS iw iv x.one (m.place+coO x.ex+1)):=by
    unfold mkX;rw[if_neg (by omega),if_neg (by omega),if_pos hop];dsimp only;rw[if_pos htwo,qfl]
   rw[hmk] at hc ⊢;have hcr:=hc.right;rw[qfl] at hcr;have hca:=hcr.right;simp only[List.length_singleton] at hca;rcases g2 rfl with rfl | rfl
   ·rw[if_neg (by decide)]
    have e2:x.two=[]:=List.isEmpty_iff.1 htwo;rw[e2,qdy];have hs:qa7 P 1 { m with st:=0::m.st,place:=m.place+coO x.ex }=some { m with st:=m.st,place:=m.place+coO x.ex+1+(mkS iw iv x.one (m.place+coO x.ex+1)).length }:=step_ok hcr.left.one hu rfl hr.fin
    obtain ⟨q1,q2,q3⟩:=qeg.1 hg;refine Or.inl ⟨q1,q2,q3,_,_,qaz g1 hs,⟨hr.held,hr.left,hr.asks,hr.st,hr.und,hr.begun,hr.len,hr.tried,hr.fin,hr.ty⟩,?_,hu,by omega⟩
    dsimp only;simp only[List.length_append,qfl,List.length_singleton];omega
   ·rw[if_pos rfl];have hs:qa7 P 1 { m with st:=1::m.st,place:=m.place+coO x.ex }=some { m with st:=m.st,place:=m.place+coO x.ex+1 }:=step_ok hcr.left.one hu rfl hr.fin
    have hp:=h1 s { m with st:=m.st,place:=m.place+coO x.ex+1 } S G k1 u1 ⟨hr.held,hr.left,hr.asks,hr.st,hr.und,hr.begun,hr.len,hr.tried,hr.fin,hr.ty⟩ hg hu hca
    have:=Post.after (qaz g1 hs) hp (N:=coO x.ex+2+coS x.one+coS x.two+Uq s) (by omega)
    dsimp only at this;have el:m.place+(mkO iv x.ex++([(⟨13,m.place+coO x.ex+1+(mkS iw iv x.one (m.place+coO x.ex+1)).length,0⟩:Ins)]++mkS iw iv x.one (m.place+coO x.ex+1))).length=m.place+coO x.ex+1+(mkS iw iv x.one (m.place+coO x.ex+1)).length:=by
     simp only[List.length_append,qfl,List.length_singleton];omega
    rw[el];exact this
  ·generalize hA:mkS iw iv x.one (m.place+coO x.ex+1)=A;generalize hB:mkS iw iv x.two (m.place+coO x.ex+1+A.length+1)=B;have hmk:mkX iw iv x m.place=mkO iv x.ex++([⟨13,m.place+coO x.ex+1+A.length+1,0⟩]++(A++([⟨12,m.place+coO x.ex+1+A.length+1+B.length,0⟩]++B))):=by
    unfold mkX;rw[if_neg (by omega),if_neg (by omega),if_pos hop];dsimp only;rw[if_neg htwo,qfl,hA,hB]
   rw[hmk] at hc ⊢;have hcr:=hc.right;rw[qfl] at hcr;have hca:=hcr.right;simp only[List.length_singleton] at hca;have el:m.place+(mkO iv x.ex++([(⟨13,m.place+coO x.ex+1+A.length+1,0⟩:Ins)]++(A++([(⟨12,m.place+coO x.ex+1+A.length+1+B.length,0⟩:Ins)]++B)))).length=m.place+coO x.ex+1+A.length+1+B.length:=by
    simp only[List.length_append,qfl,List.length_singleton];omega
   rw[el];rcases g2 rfl with rfl | rfl
   ·rw[if_neg (by decide)]
    have hs:qa7 P 1 { m with st:=0::m.st,place:=m.place+coO x.ex }=some { m with st:=m.st,place:=m.place+coO x.ex+1+A.length+1 }:=step_ok hcr.left.one hu rfl hr.fin
    have hcb:=hca.right.right;simp only[List.length_singleton] at hcb;have hp:=h2 s { m with st:=m.st,place:=m.place+coO x.ex+1+A.length+1 } S G k2 u2 ⟨hr.held,hr.left,hr.asks,hr.st,hr.und,hr.begun,hr.len,hr.tried,hr.fin,hr.ty⟩ hg hu (by dsimp only;rw[hB];exact hcb)
    dsimp only at hp;rw[hB] at hp;exact Post.after (qaz g1 hs) hp (by omega)
   ·rw[if_pos rfl];have hs:qa7 P 1 { m with st:=1::m.st,place:=m.place+coO x.ex }=some { m with st:=m.st,place:=m.place+coO x.ex+1 }:=step_ok hcr.left.one hu rfl hr.fin
    have hp:=h1 s { m with st:=m.st,place:=m.place+coO x.ex+1 } S G k1 u1 ⟨hr.held,hr.left,hr.asks,hr.st,hr.und,hr.begun,hr.len,hr.tried,hr.fin,hr.ty⟩ hg hu (by dsimp only;rw[hA];exact hca.left)
    dsimp only at hp;rw[hA] at hp;refine Post.after (qaz g1 hs) (n:=coS x.one+Uq s+1) ?_ (by omega)
    refine Post.seq (S':=[]) (f:=fun s=>s) hp (fun _=>rfl) (by omega) ?_
    intro k m' hk' hr' hp' hu' hb' hg';have hs2:qa7 P 1 m'=some { m' with place:=m.place+coO x.ex+1+A.length+1+B.length }:=by
     refine step_ok (i:=⟨12,m.place+coO x.ex+1+A.length+1+B.length,0⟩) ?_ hu' rfl hr'.fin;rw[hp'];exact hca.right.left.one
    obtain ⟨q1,q2,q3⟩:=qeg.1 hg';exact Or.inl ⟨q1,q2,q3,1,_,hs2,⟨hr'.held,hr'.left,hr'.asks,hr'.st,hr'.und,hr'.begun,hr'.len,hr'.tried,hr'.fin,hr'.ty⟩,rfl,hu',by omega⟩
theorem zsb (P:Pg) (V:Vs) (iw iv:ByteArray→Nat) (one:List Sm) (h1:SimS P V iw iv one) (k1:okS V one) (u1:UsS P iw one) (p:Nat) (hc:CodeAt P p ([⟨14,p+1+(mkS iw iv one (p+1)).length+1,0⟩]++(mkS iw iv one (p+1)++[⟨12,p,0⟩]))) (n:Nat):n≤9→∀ (s:Rs) (m:Ms) (S:List Int) (G:List (Nat×Nat)),Rel P V s m ((n:Int)::S) G→s.going=true→m.qak=false→m.place=p →
  Post P V S G (p+1+(mkS iw iv one (p+1)).length+1) (n * (coS one+2)+1+Uq s) m (iter (runS V one) n s):=by
 induction n with
 | zero =>
  intro _ s m S G hr hg hu hp;subst hp;have hs:qa7 P 1 m=some { m with st:=S,place:=m.place+1+(mkS iw iv one (m.place+1)).length+1 }:=by
   refine step_ok hc.left.one hu ?_ hr.fin;unfold doM;simp[hr.st]
  obtain ⟨q1,q2,q3⟩:=qeg.1 hg;exact Or.inl ⟨q1,q2,q3,1,_,hs,⟨hr.held,hr.left,hr.asks,rfl,hr.und,hr.begun,hr.len,hr.tried,hr.fin,hr.ty⟩,rfl,hu,by rw[iter];omega⟩
 | succ n ih =>
  intro hn s m S G hr hg hu hp;subst hp;have hs:qa7 P 1 m=some { m with st:=(n:Int)::S,place:=m.place+1 }:=by
   refine step_ok hc.left.one hu ?_ hr.fin;have e1:wrap64 ((n:Int)+1 - 1)=n:=by rw[show (n:Int)+1 - 1=n by omega];unfold wrap64;omega
   have e2:(0:Int) < (n:Int)+1:=by omega
   show (if 0 < m.st.headD 0 then ((0:Nat),{ m with st:=wrap64 (m.st.headD 0 - 1)::m.st.tail,place:=m.place+1 }) else (0,{ m with st:=m.st.tail,place:=m.place+1+(mkS iw iv one (m.place+1)).length+1 }))=_
   rw[hr.st];have e3:(((n+1:Nat):Int)::S).headD 0=(n:Int)+1:=by simp
   rw[e3,if_pos e2,e1]
   all_goals rfl
  have hca:=hc.right;simp only[List.length_singleton] at hca;have hb:=h1 s { m with st:=(n:Int)::S,place:=m.place+1 } ((n:Int)::S) G k1 u1 ⟨hr.held,hr.left,hr.asks,rfl,hr.und,hr.begun,hr.len,hr.tried,hr.fin,hr.ty⟩ hg hu hca.left
  dsimp only at hb;rw[iter];have en:(n+1) * (coS one+2)=n * (coS one+2)+coS one+2:=by rw[Nat.add_mul];omega
  rw[en];refine Post.after hs (n:=n * (coS one+2)+coS one+2+Uq s) ?_ (by omega)
  refine Post.seq (S':=[(n:Int)]) (f:=iter (runS V one) n) hb (fun h=>qjn (qez V one h) n) (by omega) ?_
  intro k m' hk' hr' hp' hu' hb' hg';have hs2:qa7 P 1 m'=some { m' with place:=m.place }:=by
   refine step_ok (i:=⟨12,m.place,0⟩) ?_ hu' rfl hr'.fin;rw[hp'];exact hca.right.one
  have:=ih (by omega) (runS V one s) { m' with place:=m.place } S G ⟨hr'.held,hr'.left,hr'.asks,hr'.st,hr'.und,hr'.begun,hr'.len,hr'.tried,hr'.fin,hr'.ty⟩ hg' hu' rfl
  exact Post.after hs2 this (by omega)
theorem zcl (P:Pg) (V:Vs) (iw iv:ByteArray→Nat) (x:Sm) (hop:x.op=114) (hn:x.n≤9) (h1:SimS P V iw iv x.one) (k1:okS V x.one) (u1:UsS P iw x.one):SimX P V iw iv x:=by
 intro s m S G hr hg hu hc;have hmk:mkX iw iv x m.place=[⟨0,x.n,0⟩]++([⟨14,m.place+1+1+(mkS iw iv x.one (m.place+1+1)).length+1,0⟩]++(mkS iw iv x.one (m.place+1+1)++[⟨12,m.place+1,0⟩])):=by
  unfold mkX;rw[if_neg (by omega),if_neg (by omega),if_neg (by omega),if_neg (by omega),if_pos hop]
 have hco:coX x=2+x.n * (coS x.one+2):=by unfold coX;rw[if_neg (by omega),if_neg (by omega),if_neg (by omega),if_neg (by omega),if_pos hop]
 have hrun:runX V x s=iter (runS V x.one) x.n s:=by unfold runX;rw[if_neg (by omega),if_neg (by omega),if_neg (by omega),if_neg (by omega),if_pos hop]
 rw[hmk] at hc ⊢;rw[hco,hrun];have hs:qa7 P 1 m=some { m with st:=(x.n:Int)::m.st,place:=m.place+1 }:=step_ok hc.left.one hu rfl hr.fin
 have hcr:=hc.right;simp only[List.length_singleton] at hcr
 have:=zsb P V iw iv x.one h1 k1 u1 (m.place+1) hcr x.n hn s { m with st:=(x.n:Int)::m.st,place:=m.place+1 } S G ⟨hr.held,hr.left,hr.asks,by dsimp only;rw[hr.st],hr.und,hr.begun,hr.len,hr.tried,hr.fin,hr.ty⟩ hg hu rfl
 have el:m.place+([(⟨0,x.n,0⟩:Ins)]++([(⟨14,m.place+1+1+(mkS iw iv x.one (m.place+1+1)).length+1,0⟩:Ins)]++(mkS iw iv x.one (m.place+1+1)++[(⟨12,m.place+1,0⟩:Ins)]))).length=m.place+1+1+(mkS iw iv x.one (m.place+1+1)).length+1:=by
  simp only[List.length_append,List.length_singleton];omega
 rw[el];exact Post.after hs this (by omega)
theorem zom (P:Pg) (V:Vs) (iw iv:ByteArray→Nat) (x:Sm) (hop:x.op=102):SimX P V iw iv x:=by
 intro s m S G hr hg hu hc;have hmk:mkX iw iv x m.place=[⟨17,0,0⟩]:=by
  unfold mkX;rw[if_neg (by omega),if_neg (by omega),if_neg (by omega),if_neg (by omega),if_neg (by omega)]
 have hco:coX x=1:=by unfold coX;rw[if_neg (by omega),if_neg (by omega),if_neg (by omega),if_neg (by omega),if_neg (by omega)]
 have hrun:runX V x s={ s with failed:=true }:=by unfold runX;rw[if_neg (by omega),if_neg (by omega),if_neg (by omega),if_neg (by omega),if_neg (by omega)]
 rw[hmk] at hc ⊢;rw[hco,hrun];have hs:qa7 P 1 m=some { m with st:=[]++m.st,place:=m.place,qak:=true }:=qvd (m':={ m with place:=m.place+1 }) hc.one hu rfl hr.fin
 exact qif hr hg hs (by omega)
theorem Rel.split {P:Pg} {V:Vs} {s:Rs} {m:Ms} {S:List Int} {G:List (Nat×Nat)} (hr:Rel P V s m S G):∃ L r,m.undos=L++r∧L.map (undW P)=(s.piles.getLastD []).reverse∧(r.map (undW P)).reverse=s.piles.dropLast.flatten∧L.length=(s.piles.getLastD []).length∧r.length=s.piles.dropLast.flatten.length:=by
 have h:=hr.und;rw[qhw hr.ne] at h;have h2:m.undos.map (undW P)=(s.piles.getLastD []).reverse++s.piles.dropLast.flatten.reverse:=by
  rw[← List.reverse_append,← h,List.reverse_reverse]
 obtain ⟨L,r,e1,e2,e3⟩:=List.map_eq_append_iff.1 h2;refine ⟨L,r,e1,e2,by rw[e3,List.reverse_reverse],?_,?_⟩
 ·have:=congrArg List.length e2;simpa using this
 ·have:=congrArg List.length e3;simpa using this
theorem zrc (P:Pg) (V:Vs) (iw iv:ByteArray→Nat) (x:Sm) (hop:x.op=116) (h1:SimS P V iw iv x.one) (h2:SimS P V iw iv x.two) (k1:okS V x.one) (k2:okS V x.two) (u1:UsS P iw x.one) (u2:UsS P iw x.two):SimX P V iw iv x:=by
 intro s m S G hr hg hu hc;generalize hA:mkS iw iv x.one (m.place+1)=A;generalize hB:mkS iw iv x.two (m.place+1+A.length+1)=B;have hmk:mkX iw iv x m.place=[⟨15,m.place+1+A.length+1,0⟩]++(A++([⟨16,m.place+1+A.length+1+B.length,0⟩]++B)):=by
  unfold mkX;rw[if_neg (by omega),if_neg (by omega),if_neg (by omega),if_pos hop];dsimp only;rw[hA,hB]
 have hco:coX x=3+coS x.one+coS x.two:=by unfold coX;rw[if_neg (by omega),if_neg (by omega),if_neg (by omega),if_pos hop]
 have hrun:runX V x s=(let s1:=runS V x.one { s with piles:=s.piles++[[]] }
   if s1.over≠0∨s1.stop=true then s1
   else if s1.failed then (let s2:=qb5 { s1 with failed:=false };if s2.going then runS V x.two s2 else s2)
   else { s1 with piles:=layP s1.piles.dropLast (s1.piles.getLastD []) }):=by unfold runX;rw[if_neg (by omega),if_neg (by omega),if_neg (by omega),if_pos hop]
 rw[hmk] at hc ⊢;rw[hco,hrun];have el:m.place+([(⟨15,m.place+1+A.length+1,0⟩:Ins)]++(A++([(⟨16,m.place+1+A.length+1+B.length,0⟩:Ins)]++B))).length=m.place+1+A.length+1+B.length:=by
  simp only[List.length_append,List.length_singleton];omega
 rw[el];have hca:=hc.right;simp only[List.length_singleton] at hca;have hcb:=hca.right.right;simp only[List.length_singleton] at hcb;have hs:qa7 P 1 m=some { m with begun:=(m.undos.length,m.st.length,m.place+1+A.length+1)::m.begun,place:=m.place+1 }:=step_ok hc.left.one hu rfl hr.fin
 have hr0:Rel P V { s with piles:=s.piles++[[]] } { m with begun:=(m.undos.length,m.st.length,m.place+1+A.length+1)::m.begun,place:=m.place+1 } S ((S.length,m.place+1+A.length+1)::G):=by
  refine ⟨hr.held,hr.left,hr.asks,hr.st,?_,?_,?_,hr.tried,hr.fin,hr.ty⟩
  ·dsimp only;rw[hr.und];simp
  ·dsimp only;rw[frames,List.dropLast_concat,hr.begun,hr.nund,hr.st]
  ·dsimp only;rw[List.length_append,List.length_cons,hr.len]<;>rfl
 have hU0:Uq { s with piles:=s.piles++[[]] }=Uq s:=by unfold Uq;simp
 have hb:=h1 { s with piles:=s.piles++[[]] } _ S ((S.length,m.place+1+A.length+1)::G) k1 u1 hr0 hg hu (by dsimp only;rw[hA];exact hca.left)
 dsimp only at hb;rw[hA,hU0] at hb;dsimp only;generalize runS V x.one { s with piles:=s.piles++[[]] }=s1 at hb
 refine Post.after hs (n:=2+coS x.one+coS x.two+Uq s) ?_ (by omega)
 rcases hb with ⟨b1,b2,b3,k,m1,b4,b5,b6,b7,b8⟩ | ⟨b1,b2,b3,k,m1,t,b4,b5,b6,b8⟩ | ⟨b1,b2⟩
 ·rw[if_neg (by rw[b1,b2];simp),if_neg (by rw[b3];simp)]
  have hs2:qa7 P 1 m1=some { m1 with begun:=m1.begun.tail,place:=m.place+1+A.length+1+B.length }:=by
   refine step_ok (i:=⟨16,m.place+1+A.length+1+B.length,0⟩) ?_ b7 rfl b5.fin;rw[b6];exact hca.right.left.one
  have hne:s1.piles.dropLast≠[]:=by
   intro e;have h3:=b5.len;have h4:s1.piles.dropLast.length=0:=by rw[e]<;>rfl
   rw[List.length_dropLast] at h4;simp at h3;omega
  refine Or.inl ⟨b1,b2,b3,k+1,_,qaz b4 hs2,⟨b5.held,b5.left,b5.asks,b5.st,?_,?_,?_,b5.tried,b5.fin,b5.ty⟩,rfl,b7,?_⟩
  ·dsimp only;rw[qlo hne,b5.und,qhw b5.ne]
  ·dsimp only;rw[b5.begun,frames,List.tail_cons];exact qpv (qv4 _ _).symm G
  ·dsimp only;rw[zai hne,List.length_dropLast,b5.len];simp
  ·have hu1:Uq { s1 with piles:=layP s1.piles.dropLast (s1.piles.getLastD []) }=Uq s1:=by
    unfold Uq;dsimp only;rw[qlo hne,← qhw b5.ne]
   rw[hu1];omega
 ·rw[if_neg (by rw[b1,b2];simp),if_pos b3]
  obtain ⟨L,r,e1,e2,e3,e4,e5⟩:=b5.split;have hfl:qbw m1=r.length:=by
   unfold qbw;rw[b5.begun,frames,e5]
  obtain ⟨c1,c2,a,l,o,q,c3⟩:=qu1 P L r m1 { s1 with failed:=false,piles:=s1.piles.dropLast } b6 e1 hfl b5.fin b5.left b5.asks b5.tried b1 b2
  have hund:qb5 { s1 with failed:=false }=qch (L.map (undW P)) { s1 with failed:=false,piles:=s1.piles.dropLast }:=by
   unfold qb5;dsimp only;rw[e2]
  rw[hund];have hUq:Uq s1=3 * L.length+3 * s1.piles.dropLast.flatten.length:=by
   unfold Uq;rw[qhw b5.ne,List.length_append,e4];omega
  generalize qch (L.map (undW P)) { s1 with failed:=false,piles:=s1.piles.dropLast }=s2 at c1 c2 c3
  by_cases hg2:s2.going=true
  ·rw[if_pos hg2];obtain ⟨q1,q2,q3⟩:=qeg.1 hg2;obtain ⟨j,hj,hst⟩:=c2 q1 q2;have hbg:m1.begun=(r.length,S.length,m.place+1+A.length+1)::frames s1.piles.dropLast G:=by rw[b5.begun,frames,e5]
   have hsb:qa7 P 1 { m1 with asks:=s2.asks,left:=s2.left,undos:=r }=some { m1 with asks:=s2.asks,left:=s2.left,undos:=r,qak:=false,begun:=frames s1.piles.dropLast G,st:=S,place:=m.place+1+A.length+1 }:=by
    have h3:=qxd (P:=P) (m:={ m1 with asks:=s2.asks,left:=s2.left,undos:=r }) b6 hbg rfl b5.fin
    rw[h3];dsimp only;congr 2;rw[b5.st,List.length_append,Nat.add_sub_cancel,List.drop_left]
   have hr2:Rel P V s2 { m1 with asks:=s2.asks,left:=s2.left,undos:=r,qak:=false,begun:=frames s1.piles.dropLast G,st:=S,place:=m.place+1+A.length+1 } S G:=by
    refine ⟨?_,rfl,rfl,rfl,?_,?_,?_,b5.tried,b5.fin,?_⟩
    ·rw[c3];exact b5.held
    ·rw[c3];exact e3
    ·rw[c3]
    ·rw[c3];dsimp only;rw[List.length_dropLast,b5.len];simp
    ·rw[c3];exact b5.ty
   have hp:=h2 s2 _ S G k2 u2 hr2 hg2 rfl (by dsimp only;rw[hB];exact hcb)
   dsimp only at hp;rw[hB] at hp;have hU2:Uq s2=3 * s1.piles.dropLast.flatten.length:=by unfold Uq;rw[c3]
   rw[hU2] at hp;exact Post.after (qaz b4 (qaz hst hsb)) hp (by omega)
  ·rw[if_neg hg2];have hnot:s2.over≠0∨s2.stop=true:=by
    by_cases ho:s2.over=0
    ·refine Or.inr ?_;by_cases hs3:s2.stop=true
     ·exact hs3
     ·exact absurd (qeg.2 ⟨ho,by simpa using hs3,by rw[c3]⟩) hg2
    ·exact Or.inl ho
   refine Or.inr (Or.inr ⟨hnot,?_⟩);rw[show s2.held=m1.vars by rw[c3];exact b5.held.symm]
   exact (c1 hnot).after b4 (by omega)
 ·rw[if_pos b1];exact Or.inr (Or.inr ⟨b1,b2.mono (by omega)⟩)
theorem qgq (P:Pg) (V:Vs) (iw iv:ByteArray→Nat) (hiv:∀ w i,qa3 V w=some i→iv w=i) (l:List Sm):SimS P V iw iv l:=by
 match l with
 | [] =>
  intro s m S G _ _ hr hg hu _;rw[qdy,qms,qyi];obtain ⟨q1,q2,q3⟩:=qeg.1 hg;exact Or.inl ⟨q1,q2,q3,0,m,rfl,hr,rfl,hu,by omega⟩
 | ⟨op,word,pl,ex,asw,asPl,undo,n,nPl,one,two⟩::rest =>
  intro s m S G hk hus hr hg hu hc;rw[qh7] at hc;rw[qh7,qci,if_pos hg,zbe];obtain ⟨k1,k2,k3,k4⟩:=qgd.1 hk;obtain ⟨u1,u2,u3,u4⟩:=zbo.1 hus;have hx:SimX P V iw iv ⟨op,word,pl,ex,asw,asPl,undo,n,nPl,one,two⟩:=by
   dsimp only at k1 k2 k3 u1 u2 u3;have k1':=k1;rcases k1 with h | h | h | h | h | h
   ·exact zth P V iw iv hiv _ h.1 k1'
   ·exact zow P V iw iv hiv _ h.1 k1' (u1 h.1)
   ·exact zxf P V iw iv hiv _ h.1 k1' (qgq P V iw iv hiv one) (qgq P V iw iv hiv two) (k2 (Or.inl h.1)) (k3 (Or.inl h.1)) (u2 (Or.inl h.1)) (u3 (Or.inl h.1))
   ·exact zrc P V iw iv _ h (qgq P V iw iv hiv one) (qgq P V iw iv hiv two) (k2 (Or.inr (Or.inl h))) (k3 (Or.inr h)) (u2 (Or.inr (Or.inl h))) (u3 (Or.inr h))
   ·exact zcl P V iw iv _ h.1 h.2 (qgq P V iw iv hiv one) (k2 (Or.inr (Or.inr h.1))) (u2 (Or.inr (Or.inr h.1)))
   ·exact zom P V iw iv _ h
  generalize (⟨op,word,pl,ex,asw,asPl,undo,n,nPl,one,two⟩:Sm)=x at *;have hp:=hx s m S G hr hg hu hc.left;refine Post.seq (S':=[]) (f:=runS V rest) hp (fun h=>qez V rest h) (N:=coX x+coS rest+Uq s) (by omega) ?_
  intro k m' hk' hr' hp' hu' hb' hg';have hc2:=hc.right;rw[← hp'] at hc2
  have:=qgq P V iw iv hiv rest (runX V x s) m' S G k4 u4 hr' hg' hu' (by rw[hp'] at hc2 ⊢;exact hc2)
  rw[hp'] at this;rw[List.length_append,← Nat.add_assoc];exact this.mono (by omega)
theorem zl2 (P:Pg) (V:Vs) (iw iv:ByteArray→Nat) (hiv:∀ w i,qa3 V w=some i→iv w=i) (l:List Sm) (hk:okS V l) (hus:UsS P iw l) (hins:P.ins=mkS iw iv l 0) (hnv:P.nv=V.length) (answers:List Int) (N:Nat) (hN:coS l+2≤N) :
  ∃ m,runM P N ⟨[],List.replicate P.nv 0,[],[],[],answers,0,0,false,0⟩=((play V l answers).over,m)∧m.asks=(play V l answers).asks∧m.vars=(play V l answers).held∧m.fin=(play V l answers).over:=by
 have hr:Rel P V ⟨List.replicate V.length 0,answers,[],[[]],0,false,false⟩ ⟨[],List.replicate P.nv 0,[],[],[],answers,0,0,false,0⟩ [] []:=by
  refine ⟨by rw[hnv],rfl,rfl,rfl,rfl,rfl,rfl,rfl,rfl,⟨by simp,fun i hi _=>Or.inl ?_⟩⟩
  dsimp only;rw[List.getD_eq_getElem?_getD,List.getElem?_replicate];split<;>rfl
 have hc:CodeAt P 0 (mkS iw iv l 0):=fun j _=>by rw[hins,Nat.zero_add]
 have hp:=qgq P V iw iv hiv l _ _ [] [] hk hus hr rfl rfl hc;have hU:Uq ⟨List.replicate V.length 0,answers,[],[[]],0,false,false⟩=0:=rfl;rw[hU] at hp;dsimp only at hp;have ends:∀ {f:Nat} {asks:List Ask} {vars:List Int},EndsM P ⟨[],List.replicate P.nv 0,[],[],[],answers,0,0,false,0⟩ N f asks vars→∃ m,runM P N ⟨[],List.replicate P.nv 0,[],[],[],answers,0,0,false,0⟩=(f,m)∧m.asks=asks∧m.vars=vars∧m.fin=f:=by
  rintro f asks vars ⟨k,m1,m2,e1,e2,e3,e4,e6,e5⟩;refine ⟨m2,?_,e4,e6,e3⟩;rw[qq9 e1 (by omega),zfl e2 (by omega),e3]
 unfold play;generalize runS V l ⟨List.replicate V.length 0,answers,[],[[]],0,false,false⟩=s1 at hp;refine ends ?_;unfold ended;rcases hp with ⟨b1,b2,b3,k,m1,b4,b5,b6,b7,b8⟩ | ⟨b1,b2,b3,k,m1,t,b4,b5,b6,b8⟩ | ⟨b1,b2⟩
 ·rw[if_neg (by rw[b1,b2];simp),if_neg (by rw[b3];simp)]
  refine ⟨k,m1,{ m1 with fin:=1 },b4,?_,rfl,b5.asks,b5.held,by omega⟩
  unfold qbo qa1;have hno:P.ins[m1.place]?=none:=by rw[b6,hins];simp
  rw[if_neg (by simp[b7]),hno]
  all_goals rfl
 ·rw[if_neg (by rw[b1,b2];simp),if_pos b3]
  obtain ⟨L,r,e1,e2,e3,e4,e5⟩:=b5.split;have hlen:=b5.len;simp only[List.length_nil,Nat.zero_add] at hlen;have hdrop:s1.piles.dropLast=[]:=List.length_eq_zero_iff.1 (by rw[List.length_dropLast,hlen])
  have hr0:r=[]:=List.length_eq_zero_iff.1 (by rw[e5,hdrop]<;>rfl)
  subst hr0;have hfl:qbw m1=([]:List (Nat×Int)).length:=by
   unfold qbw;rw[b5.begun]
   all_goals rfl
  obtain ⟨c1,c2,a,l',o,q,c3⟩:=qu1 P L [] m1 { s1 with piles:=s1.piles.dropLast } b6 e1 hfl b5.fin b5.left b5.asks b5.tried b1 b2
  have hund:qb5 s1=qch (L.map (undW P)) { s1 with piles:=s1.piles.dropLast }:=by
   unfold qb5;rw[e2]
  rw[hund];have hUq:Uq s1=3 * L.length:=by
   unfold Uq;rw[qhw b5.ne,hdrop,e4];simp
  generalize qch (L.map (undW P)) { s1 with piles:=s1.piles.dropLast }=s2 at c1 c2 c3
  dsimp only;by_cases hg2:s2.over=0∧s2.stop=false
  ·rw[if_pos hg2];obtain ⟨j,hj,hst⟩:=c2 hg2.1 hg2.2;refine EndsM.after (qaz b4 hst) ⟨0,_,_,rfl,qyb b6 ?_ rfl,rfl,rfl,?_,Nat.le_refl _⟩ (by omega)
   ·dsimp only;rw[b5.begun]<;>rfl
   ·dsimp only;rw[c3];exact b5.held
  ·rw[if_neg hg2];have hnot:s2.over≠0∨s2.stop=true:=by
    by_cases ho:s2.over=0
    ·refine Or.inr ?_;by_cases hs3:s2.stop=true
     ·exact hs3
     ·exact absurd ⟨ho,by simpa using hs3⟩ hg2
    ·exact Or.inl ho
   rw[show s2.held=m1.vars by rw[c3];exact b5.held.symm]
   exact (c1 hnot).after b4 (by omega)
 ·rw[if_pos b1];exact b2.mono (by omega)
def CoE (s:ByteArray) (g:Ps→Except Nat (Ex×Ps)):Prop:=∀ st x st',Tk s st.t→g st=.ok (x,st')→TrE x∧coE x+st.t.a≤st'.t.a∧(0≤st.deep→0≤st'.deep)
theorem qwm (x:Ex) (a:Nat):coE { x with pl:=a }=coE x:=by
 match x with
 | ⟨_,_,_,_,_,none,_⟩=>rfl
 | ⟨_,_,_,_,_,some _,none⟩=>rfl
 | ⟨_,_,_,_,_,some _,some _⟩=>rfl
theorem TrE.place {x:Ex} (h:TrE x) (a:Nat):TrE { x with pl:=a }:=by
 match x with
 | ⟨_,_,_,_,_,none,_⟩=>exact h
 | ⟨_,_,_,_,_,some _,none⟩=>exact h
 | ⟨_,_,_,_,_,some _,some _⟩=>exact h
theorem zi8 {st:Ps} (h:0≤st.deep):0≤(dn st).deep:=by
 show 0≤qdg st.nest st.deep st.t.a
 unfold qdg;split<;>omega
theorem zov {s:ByteArray} {g:Ps→Except Nat (Ex×Ps)} (hg:Goes s g) (hs:CoE s g) (a b:UInt8) (n:Nat):∀ (pl lo:Nat) (e:Ex) (st:Ps) (x:Ex) (st':Ps),Tk s st.t→TrE e→coE e+lo≤st.t.a→chain s g a b n pl e st=.ok (x,st')→TrE x∧coE x+lo≤st'.t.a∧(0≤st.deep→0≤st'.deep):=by
 induction n with
 | zero=>intro pl lo e st x st' _ _ _ h;simp[chain] at h
 | succ n ih =>
  intro pl lo e st x st' ht he hle h;rw[chain] at h;split at h
  ·rename_i ho;have g0:=qaf ht ho;have l0:=g0.lt;cases hp:g (nx s st) with
   | error p=>rw[hp] at h;cases h
   | ok r =>
    obtain ⟨k,st1⟩:=r;rw[hp] at h;have g1:=hg _ _ _ g0.tk hp;obtain ⟨k1,k2,k3⟩:=hs _ _ _ g0.tk hp;obtain ⟨i1,i2,i3⟩:=ih pl lo ⟨a.toNat,0,nowt,pl,st.t.a,some e,some k⟩ _ _ _ g1.tk ⟨he,k1⟩ (by simp only[coE];omega) h
    exact ⟨i1,i2,fun hd=>i3 (k3 hd)⟩
  ·split at h
   ·rename_i ho;have g0:=qaf ht ho;have l0:=g0.lt;cases hp:g (nx s st) with
    | error p=>rw[hp] at h;cases h
    | ok r =>
     obtain ⟨k,st1⟩:=r;rw[hp] at h;have g1:=hg _ _ _ g0.tk hp;obtain ⟨k1,k2,k3⟩:=hs _ _ _ g0.tk hp;obtain ⟨i1,i2,i3⟩:=ih pl lo ⟨b.toNat,0,nowt,pl,st.t.a,some e,some k⟩ _ _ _ g1.tk ⟨he,k1⟩ (by simp only[coE];omega) h
     exact ⟨i1,i2,fun hd=>i3 (k3 hd)⟩
   ·cases h;exact ⟨he,hle,id⟩
theorem zp9 {s:ByteArray} {g:Ps→Except Nat (Ex×Ps)} (hg:Goes s g) (hs:CoE s g) (a b:UInt8):CoE s (row s g a b):=by
 intro st x st' ht h;unfold row at h;cases hp:g st with
 | error p=>rw[hp] at h;cases h
 | ok r =>
  obtain ⟨e,st1⟩:=r;rw[hp] at h;have g1:=hg _ _ _ ht hp;obtain ⟨k1,k2,k3⟩:=hs _ _ _ ht hp;obtain ⟨i1,i2,i3⟩:=zov hg hs _ _ _ _ _ _ _ _ _ g1.tk k1 k2 h;exact ⟨i1,i2,fun hd=>i3 (k3 hd)⟩
theorem zp1 {s:ByteArray} {g:Ps→Except Nat (Ex×Ps)} (hg:Goes s g) (hs:CoE s g):CoE s (sum s g):=zp9 (qgp hg) (zp9 hg hs _ _) _ _
theorem ziw {s:ByteArray} {g:Ps→Except Nat (Ex×Ps)} (hg:Goes s g) (hs:CoE s g):CoE s (expr s g):=by
 intro st x st' ht h;unfold expr at h;cases hp:sum s g st with
 | error p=>rw[hp] at h;cases h
 | ok r =>
  obtain ⟨e,st1⟩:=r;rw[hp] at h;simp only at h;have g1:=qgb hg _ _ _ ht hp;obtain ⟨j1,j2,j3⟩:=zp1 hg hs _ _ _ ht hp;cases hc:qec s st1.t with
  | none=>rw[hc] at h;cases h;exact ⟨j1,j2,j3⟩
  | some o =>
   rw[hc] at h;simp only at h;have hk:=qm5 hc;have g0:Good s st1 (nx s st1):=qe5 g1.tk (by rw[hk];decide) (by rw[hk];decide)
   have l0:=g0.lt;cases hq:sum s g (nx s st1) with
   | error p=>rw[hq] at h;cases h
   | ok r2 =>
    obtain ⟨k,st2⟩:=r2;rw[hq] at h;obtain ⟨i1,i2,i3⟩:=zp1 hg hs _ _ _ g0.tk hq;cases h;exact ⟨⟨j1,i1⟩,by simp only[coE];omega,fun hd=>i3 (j3 hd)⟩
theorem zvc (s:ByteArray) (n:Nat):CoE s (atom s n):=by
 induction n with
 | zero=>intro st x st' _ h;simp[atom] at h
 | succ n ih =>
  intro st x st' ht h;have hgo:=qbj s (n+1) _ _ _ ht h;have hlt:=hgo.lt;rw[atom] at h;split at h
  ·cases h;exact ⟨fun h=>absurd h (by decide),by simp only[leaf,coE];omega,id⟩
  ·split at h
   ·cases h;exact ⟨fun h=>absurd h (by decide),by simp only[leaf,coE];omega,id⟩
   ·split at h
    ·cases h;exact ⟨fun _=>Nat.le_refl _,by simp only[leaf,coE];omega,id⟩
    ·split at h
     ·cases h;exact ⟨fun _=>Nat.zero_le _,by simp only[leaf,coE];omega,id⟩
     ·split at h
      ·rename_i ho;have g0:=qaf ht ho;have l0:=g0.lt;cases hp:atom s n (nx s st) with
       | error p=>rw[hp] at h;cases h
       | ok r =>
        obtain ⟨k,st1⟩:=r;rw[hp] at h;obtain ⟨k1,k2,k3⟩:=ih _ _ _ g0.tk hp;cases h;exact ⟨k1,by simp only[coE];omega,k3⟩
      ·split at h
       ·rename_i ho;have g0:=qaf (st:=dn st) ht ho;have l0:st.t.a < (nx s (dn st)).t.a:=g0.lt;cases hp:expr s (atom s n) (nx s (dn st)) with
        | error p=>rw[hp] at h;cases h
        | ok r =>
         obtain ⟨k,st1⟩:=r;have g1:=qf3 (qbj s n) _ _ _ g0.tk hp;obtain ⟨k1,k2,k3⟩:=ziw (qbj s n) ih _ _ _ g0.tk hp;rw[hp] at h;simp only at h;split at h
         ·rename_i ho2;have g2:=qaf g1.tk ho2;have l3:st1.t.a < (upp (nx s st1)).t.a:=g2.lt;cases h;exact ⟨k1.place _,by rw[qwm];omega,fun hd=>k3 (zi8 hd)⟩
         ·cases h
       ·cases h
theorem qp5 (s:ByteArray):CoE s (qa4 s):=ziw (qbj s _) (zvc s _)
theorem zhs {s:ByteArray} {k:Nat} {st st':Ps} (h:kind s k st=.ok st'):st.t.k=k∧st'=nx s st:=by
 unfold kind at h;split at h
 ·rename_i hk;cases h;exact ⟨hk,rfl⟩
 ·cases h
def kD (d:Nat):Nat:=2 * 9 ^ (4 - d)
theorem qrl {d:Nat} (h:d≤4):(d=0∧kD d=13122∧kD (d+1)=1458)∨(d=1∧kD d=1458∧kD (d+1)=162)∨(d=2∧kD d=162∧kD (d+1)=18)∨(d=3∧kD d=18∧kD (d+1)=2)∨(d=4∧kD d=2):=by
 have:d=0∨d=1∨d=2∨d=3∨d=4:=by omega
 rcases this with rfl | rfl | rfl | rfl | rfl<;>simp[kD]
def TrX (x:Sm):Prop:=(∀ e,x.ex=some e→TrE e)∧TrS x.one∧TrS x.two
def CoS (s:ByteArray) (V:Vs) (g:Ps→Except Nat (Sm×Ps)):Prop:=∀ st x st',Tk s st.t→g st=.ok (x,st')→TrX x∧(0≤st.deep→0≤st'.deep)∧∀ d:Nat,st.nest=d→d≤4→st'.deep < 0→okS V [x]→coX x+kD d * st.t.a≤kD d * st'.t.a
theorem qsj {s:ByteArray} {V:Vs} {g:Ps→Except Nat (Sm×Ps)} (hg:Goes s g) (hs:CoS s V g) (stop:Ps→Bool) (n:Nat):∀ (l:List Sm) (st:Ps) (x:List Sm) (st':Ps),Tk s st.t→stmts s g stop n l st=.ok (x,st')→∃ y,x=l++y∧TrS y∧(0≤st.deep→0≤st'.deep)∧∀ d:Nat,st.nest=d→d≤4→st'.deep < 0→okS V y→coS y+kD d * st.t.a≤kD d * st'.t.a:=by
 induction n with
 | zero=>intro l st x st' _ h;simp[stmts] at h
 | succ n ih =>
  intro l st x st' ht h;rw[stmts] at h;split at h
  ·cases h;exact ⟨[],by simp,qim,id,fun d _ _ _ _=>by rw[qyi];omega⟩
  ·cases hp:g st with
   | error p=>rw[hp] at h;cases h
   | ok r =>
    obtain ⟨y,st1⟩:=r;rw[hp] at h;have g1:=hg _ _ _ ht hp;obtain ⟨m1,m2,m3⟩:=hs _ _ _ ht hp;obtain ⟨z,i1,i2,i3,i4⟩:=ih _ _ _ _ g1.tk h;refine ⟨y::z,by rw[i1,List.append_assoc]<;>rfl,zbp.2 ⟨m1.1,m1.2.1,m1.2.2,i2⟩,fun hd=>i3 (m2 hd),fun d hn hd hdp hok=>?_⟩
    obtain ⟨o1,o2,o3,o4⟩:=qgd.1 hok;have hd1:st1.deep < 0:=by
     rcases Int.lt_or_le st1.deep 0 with h | h
     ·exact h
     ·have:=i3 h;omega
    have a1:=m3 d hn hd hd1 (qgd.2 ⟨o1,o2,o3,zgx V⟩);have a2:=i4 d (by rw[g1.nest];exact hn) hd hdp o4
    rw[zbe];omega
theorem ql9 {s:ByteArray} {V:Vs} {g:Ps→Except Nat (Sm×Ps)} (hg:Goes s g) (hs:CoS s V g) {st:Ps} {x:List Sm} {st':Ps} (ht:Tk s st.t) (h:block s g st=.ok (x,st')):TrS x∧(0≤st.deep→0≤st'.deep)∧∀ d:Nat,st.nest=d→d≤4→st'.deep < 0→okS V x→d < 4∧coS x+kD (d+1) * (st.t.a+2)≤kD (d+1) * st'.t.a:=by
 unfold block at h;split at h
 ·rename_i ho;have g0:=qaf (st:=dn st) ht ho;have l0:st.t.a < (nx s (dn st)).t.a:=g0.lt;cases hp:stmts s g (fun st=>onB s st.t ⟨#[125]⟩) (s.size+1) [] (nx s (dn st)) with
  | error p=>rw[hp] at h;cases h
  | ok r =>
   obtain ⟨l,st1⟩:=r;rw[hp] at h;obtain ⟨y,i1,i2,i3,i4⟩:=qsj hg hs _ _ _ _ _ _ g0.tk hp;obtain ⟨g1,g2⟩:=qcs hg _ _ _ _ _ _ g0.tk hp;have g3:=qaf g1.tk g2;have l3:st1.t.a < (upp (nx s st1)).t.a:=g3.lt;simp only[List.nil_append] at i1;cases h;subst i1;refine ⟨i2,fun hd=>i3 (zi8 hd),fun d hn hd hdp hok=>?_⟩
   have hd1:st1.deep < 0:=hdp;have hd0:(dn st).deep < 0:=by
    rcases Int.lt_or_le (dn st).deep 0 with h | h
    ·exact h
    ·have:0≤st1.deep:=i3 h;omega
   have hlt:d < 4:=by
    have e:(dn st).deep=qdg st.nest st.deep st.t.a:=rfl;rw[e] at hd0;unfold qdg at hd0;split at hd0
    ·omega
    ·rename_i hc;omega
   have a:=i4 (d+1) (by show st.nest+1=((d+1:Nat):Int);omega) (by omega) hd1 hok
   refine ⟨hlt,?_⟩;rcases qrl hd with ⟨_,_,e⟩ | ⟨_,_,e⟩ | ⟨_,_,e⟩ | ⟨_,_,e⟩ | ⟨_,_⟩
   ·rw[e] at a ⊢;omega
   ·rw[e] at a ⊢;omega
   ·rw[e] at a ⊢;omega
   ·rw[e] at a ⊢;omega
   ·omega
 ·cases h
theorem zi7 {st st':Ps} (h:0≤st.deep→0≤st'.deep) (h':st'.deep < 0):st.deep < 0:=by
 rcases Int.lt_or_le st.deep 0 with g | g
 ·exact g
 ·have:=h g;omega
theorem zh0 {d:Nat} (h:d≤4):kD d=13122∨kD d=1458∨kD d=162∨kD d=18∨kD d=2:=by
 rcases qrl h with h | h | h | h | h<;>omega
theorem qnz:∀ e,(none:Option Ex)=some e→TrE e:=fun e h=>by cases h
theorem qny {e:Ex} (h:TrE e):∀ e',some e=some e'→TrE e':=fun e' h'=>by cases h';exact h
theorem ztn (s:ByteArray) (V:Vs):CoS s V (letS s):=by
 intro st x st' ht h;unfold letS at h;cases h1:kind s 119 st with
 | error p=>rw[h1] at h;cases h
 | ok st1 =>
  rw[h1] at h;simp only at h;have g1:=qa6 ht (by decide) (by decide) h1
  have d1:st1.deep=st.deep:=by rw[(zhs h1).2]<;>rfl
  cases h2:need s ⟨#[61]⟩ st1 with
  | error p=>rw[h2] at h;cases h
  | ok st2 =>
   rw[h2] at h;simp only at h;have g2:=qav g1.tk h2;have d2:st2.deep=st1.deep:=by unfold need at h2;split at h2<;>cases h2;rfl
   cases h3:qa4 s st2 with
   | error p=>rw[h3] at h;cases h
   | ok r =>
    obtain ⟨e,st3⟩:=r;rw[h3] at h;simp only at h;have g3:=qbb s _ _ _ g2.tk h3;obtain ⟨e1,e2,e3⟩:=qp5 s _ _ _ g2.tk h3;cases h4:need s ⟨#[59]⟩ st3 with
    | error p=>rw[h4] at h;cases h
    | ok st4 =>
     have g4:=qav g3.tk h4;have d4:st4.deep=st3.deep:=by unfold need at h4;split at h4<;>cases h4;rfl
     rw[h4] at h;cases h;have l1:=g1.lt;have l2:=g2.lt;have l4:=g4.lt;refine ⟨⟨qny e1,qim,qim⟩,fun hd=>by rw[d4];exact e3 (by rw[d2,d1];exact hd),fun d _ hd _ _=>?_⟩
     have hc:coX { qa8 with op:=108,word:=txt s st.t,pl:=st.t.a,ex:=some e }=coE e+1:=rfl
     rw[hc];rcases zh0 hd with k | k | k | k | k<;>rw[k]<;>omega
theorem qht {s x:ByteArray} {st st':Ps} (h:need s x st=.ok st'):st'.deep=st.deep:=by
 unfold need at h;split at h
 ·cases h;rfl
 ·cases h
theorem qjm {s:ByteArray} {k:Nat} {st st':Ps} (h:kind s k st=.ok st'):st'.deep=st.deep:=by rw[(zhs h).2]<;>rfl
theorem zu0 (s:ByteArray) (V:Vs):CoS s V (call s):=by
 intro st x st' ht h;unfold call at h;cases h1:kind s 119 st with
 | error p=>rw[h1] at h;cases h
 | ok st1 =>
  rw[h1] at h;simp only at h;have g1:=qa6 ht (by decide) (by decide) h1
  have d1:=qjm h1;cases h2:need s ⟨#[40]⟩ st1 with
  | error p=>rw[h2] at h;cases h
  | ok st2 =>
   rw[h2] at h;simp only at h;have g2:=qav g1.tk h2;have d2:=qht h2;generalize hz:({ qa8 with op:=99,word:=txt s st.t,pl:=st.t.a,n:=1 }:Sm)=x2 at h
   have z0:x2.op=99∧x2.n=1∧x2.undo.size=0∧x2.ex=none∧x2.one=[]∧x2.two=[]:=by rw[← hz];exact ⟨rfl,rfl,rfl,rfl,rfl,rfl⟩
   cases h3:qaw s x2 st2 with
   | error p=>rw[h3] at h;cases h
   | ok r =>
    obtain ⟨x3,st3⟩:=r;rw[h3] at h;simp only at h;have g3:=qet g2.tk h3;have z3:x3.op=99∧x3.n=1∧x3.undo.size=0∧x3.one=[]∧x3.two=[]∧(∀ e,x3.ex=some e→TrE e)∧coO x3.ex+st2.t.a≤st3.t.a+1∧(0≤st2.deep→0≤st3.deep):=by
     unfold qaw at h3;split at h3
     ·cases h3;exact ⟨z0.1,z0.2.1,z0.2.2.1,z0.2.2.2.2.1,z0.2.2.2.2.2,by rw[z0.2.2.2.1];exact qnz,by rw[z0.2.2.2.1];simp only[coO];omega,id⟩
     ·cases hp:qa4 s st2 with
      | error p=>rw[hp] at h3;cases h3
      | ok r =>
       obtain ⟨e,st3'⟩:=r;rw[hp] at h3;obtain ⟨e1,e2,e3⟩:=qp5 s _ _ _ g2.tk hp;cases h3;exact ⟨z0.1,z0.2.1,z0.2.2.1,z0.2.2.2.2.1,z0.2.2.2.2.2,qny e1,by simp only[coO];omega,e3⟩
    cases h4:need s ⟨#[41]⟩ st3 with
    | error p=>rw[h4] at h;cases h
    | ok st4 =>
     rw[h4] at h;simp only at h;have g4:=qav g3.tk h4;have d4:=qht h4;cases h5:qa9 s x3 st4 with
     | error p=>rw[h5] at h;cases h
     | ok r5 =>
      obtain ⟨x5,st5⟩:=r5;rw[h5] at h;simp only at h;have g5:=qfo g4.tk h5;have z5:x5.op=99∧x5.n=1∧x5.undo.size=0∧x5.one=[]∧x5.two=[]∧x5.ex=x3.ex∧st5.deep=st4.deep:=by
       unfold qa9 at h5;split at h5
       ·cases hp:kind s 119 (nx s st4) with
        | error p=>rw[hp] at h5;cases h5
        | ok st' =>
         rw[hp] at h5
         have:=qjm hp
         cases h5;exact ⟨z3.1,z3.2.1,z3.2.2.1,z3.2.2.2.1,z3.2.2.2.2.1,rfl,this⟩
       ·cases h5;exact ⟨z3.1,z3.2.1,z3.2.2.1,z3.2.2.2.1,z3.2.2.2.2.1,rfl,rfl⟩
      cases h6:qat s x5 st5 with
      | error p=>rw[h6] at h;cases h
      | ok r6 =>
       obtain ⟨x6,st6⟩:=r6;rw[h6] at h;simp only at h;have g6:=qe6 g5.tk h6;have z6:x6.op=99∧x6.n=1∧x6.one=[]∧x6.two=[]∧x6.ex=x5.ex∧st6.deep=st5.deep∧(if x6.undo.size=0 then 0 else 4)+2 * st5.t.a≤2 * st6.t.a:=by
        unfold qat at h6;split at h6
        ·rename_i ho;have g0:=qaf g5.tk ho;have l0:=g0.lt;cases hp:kind s 119 (nx s st5) with
         | error p=>rw[hp] at h6;cases h6
         | ok st' =>
          rw[hp] at h6
          have:=qjm hp
          have l1:=(qa6 g0.tk (by decide) (by decide) hp).lt
          cases h6;exact ⟨z5.1,z5.2.1,z5.2.2.2.1,z5.2.2.2.2.1,rfl,this,by split<;>omega⟩
        ·cases h6;exact ⟨z5.1,z5.2.1,z5.2.2.2.1,z5.2.2.2.2.1,rfl,rfl,by rw[if_pos z5.2.2.1];omega⟩
       cases h7:qas s x6 st6 with
       | error p=>rw[h7] at h;cases h
       | ok r7 =>
        obtain ⟨x7,st7⟩:=r7;rw[h7] at h;simp only at h;have g7:=qeh g6.tk h7;have z7:x7.op=99∧x7.one=[]∧x7.two=[]∧x7.ex=x6.ex∧x7.undo=x6.undo∧st7.deep=st6.deep∧(x7.n≤5→x7.n+2 * st6.t.a≤2 * st7.t.a+1):=by
         unfold qas at h7;split at h7
         ·rename_i ho;have g0:=qaf g6.tk ho;have l0:=g0.lt;cases hp:kind s 110 (nx s st6) with
          | error p=>rw[hp] at h7;cases h7
          | ok st' =>
           rw[hp] at h7
           have:=qjm hp
           have l8:=(qa6 g0.tk (by decide) (by decide) hp).lt
           cases h7;exact ⟨z6.1,z6.2.2.1,z6.2.2.2.1,rfl,rfl,this,fun _=>by simp only at *;omega⟩
         ·cases h7;exact ⟨z6.1,z6.2.2.1,z6.2.2.2.1,rfl,rfl,rfl,fun _=>by rw[z6.2.1];omega⟩
        cases h8:need s ⟨#[59]⟩ st7 with
        | error p=>rw[h8] at h;cases h
        | ok st8 =>
         have g8:=qav g7.tk h8;have d8:=qht h8;rw[h8] at h;cases h;have l1:=g1.lt;have l2:=g2.lt;have l4:=g4.lt;have l8:=g8.lt;have l3:=g3.le;have l5:=g5.le;have l6:=g6.le;have l7:=g7.le;have he:x.ex=x3.ex:=by rw[z7.2.2.2.1,z6.2.2.2.2.1,z5.2.2.2.2.2.1]
         refine ⟨⟨by rw[he];exact z3.2.2.2.2.2.1,by rw[z7.2.1];exact qim,by rw[z7.2.2.1];exact qim⟩,fun hd=>?_,fun d _ hd _ hok=>?_⟩
         ·have:=z3.2.2.2.2.2.2.2 (by rw[d2,d1];exact hd)
          rw[d8,z7.2.2.2.2.2.1,z6.2.2.2.2.2.1,z5.2.2.2.2.2.2,d4];exact this
         ·have hn:x.n≤5:=by
           have:=(qgd.1 hok).1
           have h9:=z7.1;rcases this with h | h | h | h | h | h
           ·omega
           ·exact h.2.2.2.2
           ·omega
           ·omega
           ·omega
           ·omega
          have hco:coX x=coO x.ex+x.n+(if x.undo.size=0 then 0 else 4)+1:=by unfold coX;rw[if_neg (by have:=z7.1;omega),if_pos z7.1]
          rw[hco,he,z7.2.2.2.2.1];have q3:=z3.2.2.2.2.2.2.1;have q6:=z6.2.2.2.2.2.2;have q7:=z7.2.2.2.2.2.2 hn;generalize (if x6.undo.size=0 then 0 else 4)=u at *
          rcases zh0 hd with k | k | k | k | k<;>rw[k]<;>omega
theorem qs7 {V:Vs} {x:Sm} (h:okS V [x]) (ho:x.op=105∨x.op=116∨x.op=114):okS V x.one:=(qgd.1 h).2.1 ho
theorem zgw {V:Vs} {x:Sm} (h:okS V [x]) (ho:x.op=105∨x.op=116):okS V x.two:=(qgd.1 h).2.2.1 ho
theorem zxk {s:ByteArray} {V:Vs} {g:Ps→Except Nat (Sm×Ps)} (hg:Goes s g) (hs:CoS s V g):CoS s V (ifS s g):=by
 intro st x st' ht h;unfold ifS at h;cases h1:qa4 s st with
 | error p=>rw[h1] at h;cases h
 | ok r =>
  obtain ⟨e,st1⟩:=r;rw[h1] at h;simp only at h;have g1:=qbb s _ _ _ ht h1;obtain ⟨e1,e2,e3⟩:=qp5 s _ _ _ ht h1;cases h2:block s g st1 with
  | error p=>rw[h2] at h;cases h
  | ok r =>
   obtain ⟨l,st2⟩:=r;rw[h2] at h;simp only at h;have g2:=qa0 hg _ _ _ g1.tk h2;obtain ⟨m1,m2,m3⟩:=ql9 hg hs g1.tk h2;split at h
   ·rename_i ho;have g3:=qaf g2.tk ho;have l3:=g3.lt;cases h4:block s g (nx s st2) with
    | error p=>rw[h4] at h;cases h
    | ok r =>
     obtain ⟨m,st3⟩:=r;obtain ⟨n1,n2,n3⟩:=ql9 hg hs g3.tk h4;rw[h4] at h;cases h;refine ⟨⟨qny e1,m1,n1⟩,fun hd=>n2 (m2 (e3 hd)),fun d hn hd hdp hok=>?_⟩
     have d2:st2.deep < 0:=zi7 (st:=st2) n2 hdp;have a1:=m3 d (by rw[g1.nest];exact hn) hd d2 (qs7 hok (Or.inl rfl))
     have a2:=n3 d (by show st2.nest=_;rw[g2.nest,g1.nest];exact hn) hd hdp (zgw hok (Or.inl rfl))
     have hc:coX { qa8 with op:=105,ex:=some e,one:=l,two:=m }=coE e+2+coS l+coS m:=rfl
     rw[hc];rcases qrl hd with ⟨_,k,k'⟩ | ⟨_,k,k'⟩ | ⟨_,k,k'⟩ | ⟨_,k,k'⟩ | ⟨_,k⟩
     ·rw[k'] at a1 a2;rw[k];omega
     ·rw[k'] at a1 a2;rw[k];omega
     ·rw[k'] at a1 a2;rw[k];omega
     ·rw[k'] at a1 a2;rw[k];omega
     ·omega
   ·cases h;refine ⟨⟨qny e1,m1,qim⟩,fun hd=>m2 (e3 hd),fun d hn hd hdp hok=>?_⟩
    have a1:=m3 d (by rw[g1.nest];exact hn) hd hdp (qs7 hok (Or.inl rfl))
    have hc:coX { qa8 with op:=105,ex:=some e,one:=l }=coE e+2+coS l+coS []:=rfl
    rw[hc,qyi];rcases qrl hd with ⟨_,k,k'⟩ | ⟨_,k,k'⟩ | ⟨_,k,k'⟩ | ⟨_,k,k'⟩ | ⟨_,k⟩
    ·rw[k'] at a1;rw[k];omega
    ·rw[k'] at a1;rw[k];omega
    ·rw[k'] at a1;rw[k];omega
    ·rw[k'] at a1;rw[k];omega
    ·omega
theorem zri {s:ByteArray} {V:Vs} {g:Ps→Except Nat (Sm×Ps)} (hg:Goes s g) (hs:CoS s V g):CoS s V (tryS s g):=by
 intro st x st' ht h;unfold tryS at h;cases h1:block s g st with
 | error p=>rw[h1] at h;cases h
 | ok r =>
  obtain ⟨l,st1⟩:=r;rw[h1] at h;simp only at h;have g1:=qa0 hg _ _ _ ht h1;obtain ⟨m1,m2,m3⟩:=ql9 hg hs ht h1;cases h2:need s ⟨#[101,108,115,101]⟩ st1 with
  | error p=>rw[h2] at h;cases h
  | ok st2 =>
   rw[h2] at h;simp only at h;have g2:=qav g1.tk h2;have d2:=qht h2;have l2:=g2.lt;cases h3:block s g st2 with
   | error p=>rw[h3] at h;cases h
   | ok r =>
    obtain ⟨m,st3⟩:=r;obtain ⟨n1,n2,n3⟩:=ql9 hg hs g2.tk h3;rw[h3] at h;cases h;refine ⟨⟨qnz,m1,n1⟩,fun hd=>n2 (by rw[d2];exact m2 hd),fun d hn hd hdp hok=>?_⟩
    have dd:st2.deep < 0:=zi7 n2 hdp;have a1:=m3 d hn hd (by rw[← d2];exact dd) (qs7 hok (Or.inr (Or.inl rfl)))
    have a2:=n3 d (by rw[g2.nest,g1.nest];exact hn) hd hdp (zgw hok (Or.inr rfl))
    have hc:coX { qa8 with op:=116,one:=l,two:=m }=3+coS l+coS m:=rfl
    rw[hc];rcases qrl hd with ⟨_,k,k'⟩ | ⟨_,k,k'⟩ | ⟨_,k,k'⟩ | ⟨_,k,k'⟩ | ⟨_,k⟩
    ·rw[k'] at a1 a2;rw[k];omega
    ·rw[k'] at a1 a2;rw[k];omega
    ·rw[k'] at a1 a2;rw[k];omega
    ·rw[k'] at a1 a2;rw[k];omega
    ·omega
theorem zcq {s:ByteArray} {V:Vs} {g:Ps→Except Nat (Sm×Ps)} (hg:Goes s g) (hs:CoS s V g):CoS s V (qbu s g):=by
 intro st x st' ht h;unfold qbu at h;cases h1:kind s 110 st with
 | error p=>rw[h1] at h;cases h
 | ok st1 =>
  rw[h1] at h;simp only at h;have g1:=qa6 ht (by decide) (by decide) h1
  have l1:=g1.lt;have d1:=qjm h1;cases h2:block s g st1 with
  | error p=>rw[h2] at h;cases h
  | ok r =>
   obtain ⟨m,st3⟩:=r;obtain ⟨m1,m2,m3⟩:=ql9 hg hs g1.tk h2;rw[h2] at h;cases h;refine ⟨⟨qnz,m1,qim⟩,fun hd=>m2 (by rw[d1];exact hd),fun d hn hd hdp hok=>?_⟩
   have a1:=m3 d (by rw[g1.nest];exact hn) hd hdp (qs7 hok (Or.inr (Or.inr rfl)))
   have hn9:valOf (txt s st.t).toList≤9:=by
    have h0:=(qgd.1 hok).1;dsimp only at h0;rcases h0 with h | h | h | h | h | h
    ·omega
    ·omega
    ·omega
    ·omega
    ·exact h.2
    ·omega
   have hc:coX { qa8 with op:=114,n:=valOf (txt s st.t).toList,nPl:=st.t.a,one:=m }=2+valOf (txt s st.t).toList * (coS m+2):=rfl
   have hm:valOf (txt s st.t).toList * (coS m+2)≤9 * (coS m+2):=Nat.mul_le_mul_right _ hn9;rw[hc];rcases qrl hd with ⟨_,k,k'⟩ | ⟨_,k,k'⟩ | ⟨_,k,k'⟩ | ⟨_,k,k'⟩ | ⟨_,k⟩
   ·rw[k'] at a1;rw[k];omega
   ·rw[k'] at a1;rw[k];omega
   ·rw[k'] at a1;rw[k];omega
   ·rw[k'] at a1;rw[k];omega
   ·omega
theorem CoS.behind {s:ByteArray} {V:Vs} {st:Ps} {x:Sm} {st':Ps} {g:Ps→Except Nat (Sm×Ps)} (hs:CoS s V g) {w:ByteArray} (ht:Tk s st.t) (ho:onB s st.t w=true) (h:g (nx s st)=.ok (x,st')):TrX x∧(0≤st.deep→0≤st'.deep)∧∀ d:Nat,st.nest=d→d≤4→st'.deep < 0→okS V [x]→coX x+kD d * st.t.a≤kD d * st'.t.a:=by
 have g1:=qaf ht ho;have l1:=g1.lt;obtain ⟨m1,m2,m3⟩:=hs _ _ _ g1.tk h;refine ⟨m1,m2,fun d hn hd hdp hok=>?_⟩
 have:=m3 d hn hd hdp hok
 have h2:kD d * st.t.a≤kD d * (nx s st).t.a:=Nat.mul_le_mul_left _ (Nat.le_of_lt l1);omega
theorem ze3 (s:ByteArray) (V:Vs) (n:Nat):CoS s V (stmt s n):=by
 induction n with
 | zero=>intro st x st' _ h;simp[stmt] at h
 | succ n ih =>
  intro st x st' ht h;have hgo:=qam s (n+1) _ _ _ ht h;have hlt:=hgo.lt;rw[stmt] at h;split at h
  ·rename_i ho;exact (ztn s V).behind ht ho h
  ·split at h
   ·rename_i ho;exact (zu0 s V).behind ht ho h
   ·split at h
    ·rename_i ho;exact (zxk (qam s n) ih).behind ht ho h
    ·split at h
     ·rename_i ho;exact (zri (qam s n) ih).behind ht ho h
     ·split at h
      ·rename_i ho;exact (zcq (qam s n) ih).behind ht ho h
      ·have ho:x={ qa8 with op:=102 }∧st'.deep=st.deep:=by
        unfold qig at h;cases h1:need s ⟨#[102,97,105,108]⟩ st with
        | error p=>rw[h1] at h;cases h
        | ok st1 =>
         rw[h1] at h;simp only at h;have d1:=qht h1;cases h2:need s ⟨#[59]⟩ st1 with
         | error p=>rw[h2] at h;cases h
         | ok st2 =>
          have d2:=qht h2;rw[h2] at h;cases h;exact ⟨rfl,by rw[d2,d1]⟩
       obtain ⟨rfl,hdd⟩:=ho;refine ⟨⟨qnz,qim,qim⟩,fun hd=>by rw[hdd];exact hd,fun d hn hd hdp hok=>?_⟩
       have hc:coX { qa8 with op:=102 }=1:=rfl
       rw[hc];rcases zh0 hd with k | k | k | k | k<;>rw[k]<;>omega
theorem qxq {s:ByteArray} {l:List Sm} (h:read s=.ok l):TrS l∧∀ V,okS V l→coS l≤3936600:=by
 unfold read at h;split at h
 ·cases h
 ·rename_i hz;cases hp:stmts s (stmt s (s.size+1)) (fun st=>st.t.k == 0) (s.size+1) [] ⟨tok s 0,0,-1⟩ with
  | error p=>rw[hp] at h;cases h
  | ok r =>
   obtain ⟨l',st⟩:=r;rw[hp] at h;simp only at h;split at h
   ·cases h
   ·rename_i hdp;cases h;have ht:=(qfv s 0 (Nat.zero_le _)).1;obtain ⟨g2,_⟩:=qcs (qam s _) _ _ _ _ _ _ ht hp;have h1:=g2.tk.ab;have h2:=g2.tk.le;refine ⟨?_,fun V hok=>?_⟩
    ·obtain ⟨y,i1,i2,_⟩:=qsj (V:=[]) (qam s _) (ze3 s [] _) _ _ _ _ _ _ ht hp;rw[i1];exact i2
    ·obtain ⟨y,i1,i2,i3,i4⟩:=qsj (V:=V) (qam s _) (ze3 s V _) _ _ _ _ _ _ ht hp;simp only[List.nil_append] at i1;subst i1
     have:=i4 0 rfl (by omega) (by omega) hok
     have k0:kD 0=13122:=rfl;rw[k0] at this;omega
def hasW:List ByteArray→ByteArray→Bool
 | [],_=>false
 | v::r,w=>v.toList == w.toList || hasW r w
def addW (ws:List ByteArray) (w:ByteArray):List ByteArray:=if hasW ws w then ws else ws++[w]
theorem qoi {a b:ByteArray} (h:(a.toList == b.toList)=true):a=b:=by
 rw[beq_iff_eq,ByteArray.toList_eq,ByteArray.toList_eq] at h;cases a;cases b;congr 1;exact Array.toList_inj.1 h
theorem zof {a b:List ByteArray} {w:ByteArray} (h:hasW a w=true):hasW (a++b) w=true:=by
 induction a with
 | nil=>cases h
 | cons v a ih =>
  rw[hasW,Bool.or_eq_true] at h;rw[List.cons_append,hasW,Bool.or_eq_true];exact h.imp id ih
theorem qhd {a b:List ByteArray} {w:ByteArray} (h:hasW a w=true) (hp:a <+: b):hasW b w=true:=by
 obtain ⟨c,rfl⟩:=hp;exact zof h
theorem qd3 (ws:List ByteArray) (w:ByteArray):hasW (addW ws w) w=true:=by
 unfold addW;split
 ·rename_i h;exact h
 ·rename_i h;clear h;induction ws with
  | nil=>simp[hasW]
  | cons v ws ih=>rw[List.cons_append,hasW,ih,Bool.or_true]
theorem qd6 (ws:List ByteArray) (w:ByteArray):ws <+: addW ws w:=by
 unfold addW;split
 ·exact List.prefix_refl _
 ·exact List.prefix_append _ _
theorem qlv {a b:List ByteArray} {w:ByteArray} (h:hasW a w=true) (hp:a <+: b):idxW b w=idxW a w:=by
 obtain ⟨c,rfl⟩:=hp;induction a with
 | nil=>cases h
 | cons v a ih =>
  rw[List.cons_append,idxW,idxW];split
  ·rfl
  ·rename_i hn;rw[hasW,Bool.or_eq_true] at h;rw[ih (h.resolve_left hn)]
theorem qpt {ws:List ByteArray} {w:ByteArray} (h:hasW ws w=true):idxW ws w < ws.length:=by
 induction ws with
 | nil=>cases h
 | cons v a ih =>
  rw[idxW];split
  ·simp
  ·rename_i hn;rw[hasW,Bool.or_eq_true] at h
   have:=ih (h.resolve_left hn)
   simp;omega
theorem qtr {ws:List ByteArray} {w:ByteArray} (h:hasW ws w=true):ws.getD (idxW ws w) nowt=w:=by
 induction ws with
 | nil=>cases h
 | cons v a ih =>
  rw[idxW];split
  ·rename_i hv;rw[List.getD_cons_zero];exact qoi hv
  ·rename_i hn;rw[hasW,Bool.or_eq_true] at h;rw[List.getD_cons_succ];exact ih (h.resolve_left hn)
theorem zoc {ws:List ByteArray} {w:ByteArray} (h:hasW ws w=false):idxW (ws++[w]) w=ws.length:=by
 induction ws with
 | nil=>simp[idxW]
 | cons v a ih =>
  rw[hasW,Bool.or_eq_false_iff] at h;rw[List.cons_append,idxW,if_neg (by simp[h.1]),ih h.2]
  all_goals rfl
def wsC (word undo:ByteArray) (ws:List ByteArray):List ByteArray:=if undo.size=0 then addW ws word else addW (addW ws word) undo
def wsS:List Sm→List ByteArray→List ByteArray
 | [],ws=>ws
 | ⟨op,word,_,_,_,_,undo,_,_,one,two⟩::rest,ws =>
  wsS rest (if op=99 then wsC word undo ws else if op=105∨op=116 then wsS two (wsS one ws) else if op=114 then wsS one ws else ws)
def wsX (x:Sm) (ws:List ByteArray):List ByteArray:=if x.op=99 then wsC x.word x.undo ws else if x.op=105∨x.op=116 then wsS x.two (wsS x.one ws) else if x.op=114 then wsS x.one ws else ws
theorem qoo (ws:List ByteArray):wsS [] ws=ws:=by rw[wsS]
theorem qhz (x:Sm) (l:List Sm) (ws:List ByteArray):wsS (x::l) ws=wsS l (wsX x ws):=by
 obtain ⟨op,word,pl,ex,asw,asPl,undo,n,nPl,one,two⟩:=x;rw[wsS.eq_def]
 all_goals rfl
def vsE:Ex→List ByteArray→List ByteArray
 | ⟨op,_,word,_,_,none,_⟩,vs=>if op=119 then addW vs word else vs
 | ⟨_,_,_,_,_,some l,none⟩,vs=>vsE l vs
 | ⟨_,_,_,_,_,some l,some r⟩,vs=>vsE r (vsE l vs)
def vsO (x:Option Ex) (vs:List ByteArray):List ByteArray :=
 match x with
 | none=>vs
 | some e=>vsE e vs
def vsS:List Sm→List ByteArray→List ByteArray
 | [],vs=>vs
 | ⟨op,word,_,ex,asw,_,_,_,_,one,two⟩::rest,vs =>
  vsS rest (if op=108 then addW (vsO ex vs) word else if op=99 then (if asw.size=0 then vsO ex vs else addW (vsO ex vs) asw) else if op=105 then vsS two (vsS one (vsO ex vs)) else if op=116 then vsS two (vsS one vs) else if op=114 then vsS one vs else vs)
def vsX (x:Sm) (vs:List ByteArray):List ByteArray:=if x.op=108 then addW (vsO x.ex vs) x.word else if x.op=99 then (if x.asw.size=0 then vsO x.ex vs else addW (vsO x.ex vs) x.asw) else if x.op=105 then vsS x.two (vsS x.one (vsO x.ex vs)) else if x.op=116 then vsS x.two (vsS x.one vs) else if x.op=114 then vsS x.one vs else vs
theorem qsc (vs:List ByteArray):vsS [] vs=vs:=by rw[vsS]
theorem qjx (x:Sm) (l:List Sm) (vs:List ByteArray):vsS (x::l) vs=vsS l (vsX x vs):=by
 obtain ⟨op,word,pl,ex,asw,asPl,undo,n,nPl,one,two⟩:=x;rw[vsS.eq_def]
 all_goals rfl
def pgOf (l:List Sm):Pg:=⟨wsS l [],(vsS l []).length,mkS (idxW (wsS l [])) (idxW (vsS l [])) l 0⟩
theorem zq2 (x:Sm) (h1:∀ ws,ws <+: wsS x.one ws) (h2:∀ ws,ws <+: wsS x.two ws) (ws:List ByteArray):ws <+: wsX x ws:=by
 unfold wsX wsC;split
 ·split
  ·exact qd6 _ _
  ·exact (qd6 _ _).trans (qd6 _ _)
 ·split
  ·exact (h1 _).trans (h2 _)
  ·split
   ·exact h1 _
   ·exact List.prefix_refl _
theorem qgn (l:List Sm):∀ ws,ws <+: wsS l ws:=by
 match l with
 | []=>intro ws;rw[wsS];exact List.prefix_refl _
 | ⟨op,word,pl,ex,asw,asPl,undo,n,nPl,one,two⟩::rest =>
  intro ws;rw[qhz];exact (zq2 ⟨op,word,pl,ex,asw,asPl,undo,n,nPl,one,two⟩ (qgn one) (qgn two) ws).trans (qgn rest _)
theorem qme (x:Ex):∀ vs,vs <+: vsE x vs:=by
 match x with
 | ⟨op,n,word,pl,own,none,_⟩ =>
  intro vs;rw[vsE];split
  ·exact qd6 _ _
  ·exact List.prefix_refl _
 | ⟨op,n,word,pl,own,some l,none⟩=>intro vs;rw[vsE];exact qme l vs
 | ⟨op,n,word,pl,own,some l,some r⟩=>intro vs;rw[vsE];exact (qme l vs).trans (qme r _)
theorem qsd (x:Option Ex) (vs:List ByteArray):vs <+: vsO x vs:=by
 cases x with
 | none=>exact List.prefix_refl _
 | some e=>exact qme e vs
theorem zq4 (x:Sm) (h1:∀ vs,vs <+: vsS x.one vs) (h2:∀ vs,vs <+: vsS x.two vs) (vs:List ByteArray):vs <+: vsX x vs:=by
 unfold vsX;split
 ·exact (qsd _ _).trans (qd6 _ _)
 ·split
  ·split
   ·exact qsd _ _
   ·exact (qsd _ _).trans (qd6 _ _)
  ·split
   ·exact ((qsd _ _).trans (h1 _)).trans (h2 _)
   ·split
    ·exact (h1 _).trans (h2 _)
    ·split
     ·exact h1 _
     ·exact List.prefix_refl _
theorem qf7 (l:List Sm):∀ vs,vs <+: vsS l vs:=by
 match l with
 | []=>intro vs;rw[vsS];exact List.prefix_refl _
 | ⟨op,word,pl,ex,asw,asPl,undo,n,nPl,one,two⟩::rest =>
  intro vs;rw[qjx];exact (zq4 ⟨op,word,pl,ex,asw,asPl,undo,n,nPl,one,two⟩ (qf7 one) (qf7 two) vs).trans (qf7 rest _)
theorem zef (P:Pg) (l:List Sm):∀ ws,wsS l ws <+: P.words→UsS P (idxW P.words) l:=by
 match l with
 | []=>intro ws _;rw[UsS];trivial
 | ⟨op,word,pl,ex,asw,asPl,undo,n,nPl,one,two⟩::rest =>
  intro ws h;rw[qhz] at h;rw[zbo];have hx:=(qgn rest _).trans h;unfold wsX at hx;dsimp only at hx ⊢;refine ⟨fun ho=>?_,fun ho=>?_,fun ho=>?_,zef P rest _ h⟩
  ·rw[if_pos ho] at hx;unfold wsC at hx;by_cases hz:undo.size=0
   ·rw[if_pos hz] at hx;exact ⟨qtr (qhd (qd3 _ _) hx),fun h=>absurd hz h⟩
   ·rw[if_neg hz] at hx;exact ⟨qtr (qhd (qd3 _ _) ((qd6 _ _).trans hx)),fun _=>qtr (qhd (qd3 _ _) hx)⟩
  ·by_cases h2:op=105∨op=116
   ·rw[if_neg (by omega),if_pos h2] at hx
    exact zef P one _ ((qgn two _).trans hx)
   ·rw[if_neg (by omega),if_neg h2,if_pos (by omega)] at hx
    exact zef P one _ hx
  ·rw[if_neg (by omega),if_pos ho] at hx
   exact zef P two _ hx
theorem qwg {V:Vs} {w:ByteArray} {i:Nat} (h:qa3 V w=some i):hasW (V.map Prod.fst) w=true∧idxW (V.map Prod.fst) w=i:=by
 induction V generalizing i with
 | nil=>cases h
 | cons v V ih =>
  obtain ⟨v,k⟩:=v;rw[qa3] at h;rw[List.map_cons,hasW,idxW];split at h
  ·rename_i hv;cases h;exact ⟨by rw[hv,Bool.true_or],by rw[if_pos hv]⟩
  ·rename_i hv;rw[if_neg hv];cases hf:qa3 V w with
   | none=>rw[hf] at h;cases h
   | some j =>
    rw[hf] at h;cases h;obtain ⟨h1,h2⟩:=ih hf;exact ⟨by rw[h1,Bool.or_true],by rw[h2]⟩
theorem zdd {V:Vs} {w:ByteArray} (h:qa3 V w=none):hasW (V.map Prod.fst) w=false:=by
 induction V with
 | nil=>rfl
 | cons v V ih =>
  obtain ⟨v,k⟩:=v;rw[qa3] at h;rw[List.map_cons,hasW];split at h
  ·cases h
  ·rename_i hv;cases hf:qa3 V w with
   | none=>rw[ih hf,Bool.or_false];simpa using hv
   | some j=>rw[hf] at h;cases h
theorem qr2 {V:Vs} {w:ByteArray} {i:Nat} (h:qa3 V w=some i):addW (V.map Prod.fst) w=V.map Prod.fst:=by
 unfold addW;rw[if_pos (qwg h).1]
theorem qux (x:Ex):∀ (c:Lk),(qao x c).2.e=0→WfE x→vsE x (c.vars.map Prod.fst)=c.vars.map Prod.fst:=by
 match x with
 | ⟨op,n,word,pl,own,none,none⟩ =>
  intro c h hw;rw[qao] at h;unfold qpq at h;rw[vsE];by_cases h3:op=119
  ·rw[if_pos h3];rw[if_neg (by omega),if_neg (by omega)] at h
   cases hf:qa3 c.vars word with
   | none=>rw[hf] at h;exact absurd h (qkf (by decide))
   | some i=>exact qr2 hf
  ·rw[if_neg h3]
 | ⟨op,n,word,pl,own,none,some r⟩=>intro c _ hw;exact hw.elim
 | ⟨op,n,word,pl,own,some l,none⟩ =>
  intro c h hw;rw[qao] at h;rw[vsE];refine qux l c ?_ hw.2;unfold notK at h;dsimp only at h;split at h
  ·exact h
  ·exact absurd h (qkf (by decide))
 | ⟨op,n,word,pl,own,some l,some r⟩ =>
  intro c h hw;rw[qao] at h;rw[vsE];have hr0:(qao r (qao l c).2).2.e=0:=by
   unfold binK at h;split at h
   ·dsimp only at h;split at h
    ·exact absurd h (qkf (by decide))
    ·exact h
   ·dsimp only at h;split at h
    ·exact h
    ·exact absurd h (qkf (by decide))
  have hl0:(qao l c).2.e=0:=Decidable.byContradiction fun hn=>qfz r _ hn hr0
  rw[qux l c hl0 hw.2.1];have hv:(qao l c).2.vars=c.vars:=qdj l c
  have:=qux r (qao l c).2 hr0 hw.2.2
  rw[hv] at this;exact this
theorem zee {x:Option Ex} {k:Nat} {c:Lk} (h:(qbq x k c).e=0) (hw:WfO x):vsO x (c.vars.map Prod.fst)=c.vars.map Prod.fst:=by
 cases x with
 | none=>rfl
 | some e =>
  refine qux e c ?_ (hw e rfl);unfold qbq at h;simp only at h;split at h
  ·exact h
  ·exact absurd h (qkf (by decide))
theorem za2 {c:Lk} {w:ByteArray} {p k:Nat} (h:(qc7 w p k c).e=0):addW (c.vars.map Prod.fst) w=(qc7 w p k c).vars.map Prod.fst:=by
 unfold qc7 at h ⊢;cases hf:qa3 c.vars w with
 | none =>
  simp only;unfold addW;rw[if_neg (by rw[zdd hf];simp)]
  simp
 | some i =>
  rw[hf] at h;simp only at h ⊢;rw[qr2 hf];split at h
  ·exact absurd h (qkf (by decide))
  ·rename_i hu;rw[if_neg hu]
theorem qoq (l:List Sm):∀ (c:Lk),WfS l→(qap l c).e=0→vsS l (c.vars.map Prod.fst)=(qap l c).vars.map Prod.fst:=by
 match l with
 | []=>intro c _ _;rw[qap,vsS]
 | ⟨op,word,pl,ex,asw,asPl,undo,n,nPl,one,two⟩::rest =>
  intro c hw h;rw[qmv] at h ⊢;rw[qjx];obtain ⟨⟨hw1,hw2⟩,hwo,hwt,hwr⟩:=qd7.1 hw;dsimp only at hw1 hw2 hwo hwt;have hx:(qmw ⟨op,word,pl,ex,asw,asPl,undo,n,nPl,one,two⟩ c).e=0:=Decidable.byContradiction fun hn=>qb7 rest _ hn h
  have key:vsX ⟨op,word,pl,ex,asw,asPl,undo,n,nPl,one,two⟩ (c.vars.map Prod.fst)=(qmw ⟨op,word,pl,ex,asw,asPl,undo,n,nPl,one,two⟩ c).vars.map Prod.fst:=by
   unfold qmw at hx ⊢;unfold vsX;dsimp only at hx ⊢;by_cases o1:op=108
   ·rw[if_pos o1] at hx ⊢;rw[if_pos o1];cases ex with
    | none=>rcases hw2 with h | h | h | h | h | h<;>first | exact absurd rfl h.2 | omega
    | some e =>
     dsimp only at hx ⊢;have he0:(qao e c).2.e=0:=Decidable.byContradiction fun hn=>qf2 hn _ _ _ hx
     have hv:(qao e c).2.vars=c.vars:=qdj e c;show addW (vsE e _) word=_
     rw[qux e c he0 (hw1 e rfl),← za2 hx,hv]
   ·rw[if_neg o1] at hx ⊢;rw[if_neg o1];by_cases o2:op=99
    ·rw[if_pos o2] at hx ⊢;rw[if_pos o2];have hnn:¬ (n < 1∨5 < n):=fun hn=>by rw[if_pos hn] at hx;exact absurd hx (qkf (by decide))
     rw[if_neg hnn] at hx ⊢;by_cases ha:asw.toList.isEmpty
     ·rw[if_pos ha] at hx ⊢;have hz:asw.size=0:=by
       rw[List.isEmpty_iff,ByteArray.toList_eq] at ha;exact List.length_eq_zero_iff.2 ha
      rw[if_pos hz,zee hx hw1,qfk]
     ·rw[if_neg ha] at hx ⊢;have hz:¬ asw.size=0:=fun hz=>ha (by rw[List.isEmpty_iff,ByteArray.toList_eq];exact List.length_eq_zero_iff.1 hz)
      have hm0:(qbq ex 105 c).e=0:=Decidable.byContradiction fun hn=>qf2 hn _ _ _ hx
      rw[if_neg hz,zee hm0 hw1,← za2 hx,qfk]
    ·rw[if_neg o2] at hx ⊢;rw[if_neg o2];by_cases o3:op=105
     ·rw[if_pos o3] at hx ⊢;rw[if_pos o3];have h1:(qap one (qbq ex 98 c)).e=0:=Decidable.byContradiction fun hn=>qb7 two _ hn hx
      have h0:(qbq ex 98 c).e=0:=Decidable.byContradiction fun hn=>qb7 one _ hn h1
      have a1:=qoq one _ hwo h1;rw[qfk] at a1;rw[zee h0 hw1,a1,qoq two _ hwt hx]
     ·rw[if_neg o3] at hx ⊢;rw[if_neg o3];by_cases o4:op=116
      ·rw[if_pos o4] at hx ⊢;rw[if_pos o4];have h1:(qap one c).e=0:=Decidable.byContradiction fun hn=>qb7 two _ hn hx
       rw[qoq one c hwo h1,qoq two _ hwt hx]
      ·rw[if_neg o4] at hx ⊢;rw[if_neg o4];by_cases o5:op=114
       ·rw[if_pos o5] at hx ⊢;rw[if_pos o5];by_cases hn:9 < n
        ·rw[if_pos hn] at hx;exact absurd hx (qb7 one _ (qca (by decide) _))
        ·rw[if_neg hn] at hx ⊢;exact qoq one c hwo hx
       ·rw[if_neg o5,if_neg o5]
  rw[key];exact qoq rest _ hwr h
theorem qvy {s:ByteArray} {l:List Sm} (hr:read s=.ok l) (hc:check s=(0,0)) (answers:List Int) (N:Nat) (hN:3936602≤N) :
  ∃ m,runM (pgOf l) N ⟨[],List.replicate (pgOf l).nv 0,[],[],[],answers,0,0,false,0⟩=((play (qap l ⟨[],0,0⟩).vars l answers).over,m)∧m.asks=(play (qap l ⟨[],0,0⟩).vars l answers).asks∧m.vars=(play (qap l ⟨[],0,0⟩).vars l answers).held∧m.fin=(play (qap l ⟨[],0,0⟩).vars l answers).over:=by
 have he:(qap l ⟨[],0,0⟩).e=0:=by
  unfold check at hc;rw[hr] at hc;dsimp only at hc;split at hc
  ·rename_i h;exact h
  ·rename_i h;exact absurd (congrArg Prod.fst hc) h
 obtain ⟨wf,_⟩:=qd0 hr;obtain ⟨tr,co⟩:=qxq hr;obtain ⟨_,_,_,ok⟩:=qg9 l ⟨[],0,0⟩ wf tr (fun v hv=>by cases hv) he
 have ok:=ok [];rw[List.append_nil] at ok;have hvs:vsS l []=(qap l ⟨[],0,0⟩).vars.map Prod.fst:=qoq l ⟨[],0,0⟩ wf he;have hiv:∀ w i,qa3 (qap l ⟨[],0,0⟩).vars w=some i→idxW (vsS l []) w=i:=fun w i h=>by rw[hvs];exact (qwg h).2
 have:=co _ ok
 exact zl2 (pgOf l) _ (idxW (wsS l [])) (idxW (vsS l [])) hiv l ok (zef (pgOf l) l [] (List.prefix_refl _)) rfl (by show (vsS l []).length=_;rw[hvs,List.length_map]) answers N (by omega)
def qfb (k:Nat):Nat:=if k=18 then 2 else if k≤2∨(12≤k∧k≤16)∨k=19 then 1 else 0
def b2 (n:Nat):List UInt8:=[UInt8.ofNat (n / 256),UInt8.ofNat n]
structure OkI (i:Ins):Prop where
 k:i.k < 20
 a:i.a < 65536
 b:i.b < 65536
 za:qfb i.k=0→i.a=0
 zb:qfb i.k≠2→i.b=0
end Px
open Go.RowKit
open Go.Shelf
def sortLays_ren:Go.Shelf.Ren:=⟨fun | 6=>15 | 10=>30 | 11=>31 | 12=>32 | 13=>33 | 14=>34 | 24=>62 | 25=>63 | 26=>64 | 27=>65 | 28=>66 | 29=>67 | 30=>68 | 31=>69 | 32=>70 | 33=>71 | 34=>131 | 35=>132 | 36=>133 | 37=>134 | 38=>135 | 39=>174 | n=>n,fun | 20=>20 | 26=>50 | 35=>83 | 0=>0 | 37=>85 | 3=>3 | 41=>88 | 44=>91 | 49=>150 | 51=>152 | 4=>4 | 54=>155 | 53=>154 | 58=>44 | 5=>5 | 9=>9 | 60=>217 | 64=>221 | 66=>283 | 67=>31 | 17=>17 | 32=>80 | 33=>81 | 82=>371 | 12=>12 | 75=>366 | 76=>175 | 77=>367 | 78=>356 | 79=>368 | 80=>369 | n=>n,fun | n=>n⟩
theorem sortLays:Go.Proofs.LaysGg.n6 Tryz.prog sortLays_ren:={
 mixed:=by kernel_rfl
 f6:=Tryz.func15.trans (congrArg some (by kernel_rfl))
 f10:=Tryz.func30.trans (congrArg some (by kernel_rfl))
 f11:=Tryz.func31.trans (congrArg some (by kernel_rfl))
 f12:=Tryz.func32.trans (congrArg some (by kernel_rfl))
 f13:=Tryz.func33.trans (congrArg some (by kernel_rfl))
 f14:=Tryz.func34.trans (congrArg some (by kernel_rfl))
 f24:=Tryz.func62.trans (congrArg some (by kernel_rfl))
 f25:=Tryz.func63.trans (congrArg some (by kernel_rfl))
 f26:=Tryz.func64.trans (congrArg some (by kernel_rfl))
 f27:=Tryz.func65.trans (congrArg some (by kernel_rfl))
 f28:=Tryz.func66.trans (congrArg some (by kernel_rfl))
 f29:=Tryz.func67.trans (congrArg some (by kernel_rfl))
 f30:=Tryz.func68.trans (congrArg some (by kernel_rfl))
 f31:=Tryz.func69.trans (congrArg some (by kernel_rfl))
 f32:=Tryz.func70.trans (congrArg some (by kernel_rfl))
 f33:=Tryz.func71.trans (congrArg some (by kernel_rfl))
 f34:=Tryz.func131.trans (congrArg some (by kernel_rfl))
 f35:=Tryz.func132.trans (congrArg some (by kernel_rfl))
 f36:=Tryz.func133.trans (congrArg some (by kernel_rfl))
 f37:=Tryz.func134.trans (congrArg some (by kernel_rfl))
 f38:=Tryz.func135.trans (congrArg some (by kernel_rfl))
 f39:=Tryz.func174.trans (congrArg some (by kernel_rfl))
 t0:=Tryz.underlying0
 a0:=Tryz.isAgg0
 z0:=Tryz.sizeOf0
 v0:=Tryz.zeroValue0
 i0:=by kernel_rfl
 t3:=Tryz.underlying3
 a3:=Tryz.isAgg3
 z3:=Tryz.sizeOf3
 v3:=Tryz.zeroValue3
 i3:=by kernel_rfl
 t4:=Tryz.underlying4
 a4:=Tryz.isAgg4
 z4:=Tryz.sizeOf4
 v4:=Tryz.zeroValue4
 i4:=by kernel_rfl
 t5:=Tryz.underlying5
 a5:=Tryz.isAgg5
 z5:=Tryz.sizeOf5
 v5:=Tryz.zeroValue5
 i5:=by kernel_rfl
 t9:=Tryz.underlying9
 a9:=Tryz.isAgg9
 z9:=Tryz.sizeOf9
 v9:=Tryz.zeroValue9
 i9:=by kernel_rfl
 t12:=Tryz.underlying12
 a12:=Tryz.isAgg12
 z12:=Tryz.sizeOf12
 v12:=Tryz.zeroValue12
 i12:=by kernel_rfl
 t17:=Tryz.underlying17
 a17:=Tryz.isAgg17
 z17:=Tryz.sizeOf17
 v17:=Tryz.zeroValue17
 i17:=by kernel_rfl
 t20:=Tryz.underlying20
 a20:=Tryz.isAgg20
 z20:=Tryz.sizeOf20
 v20:=Tryz.zeroValue20
 i20:=by kernel_rfl
 t26:=Tryz.underlying50
 a26:=Tryz.isAgg50
 z26:=Tryz.sizeOf50
 v26:=Tryz.zeroValue50
 i26:=by kernel_rfl
 t32:=Tryz.underlying80
 a32:=Tryz.isAgg80
 z32:=Tryz.sizeOf80
 v32:=Tryz.zeroValue80
 i32:=by kernel_rfl
 t33:=Tryz.underlying81
 a33:=Tryz.isAgg81
 z33:=Tryz.sizeOf81
 v33:=Tryz.zeroValue81
 i33:=by kernel_rfl
 t35:=Tryz.underlying83
 a35:=Tryz.isAgg83
 z35:=Tryz.sizeOf83
 v35:=Tryz.zeroValue83
 i35:=by kernel_rfl
 t37:=Tryz.underlying85
 a37:=Tryz.isAgg85
 z37:=Tryz.sizeOf85
 v37:=Tryz.zeroValue85
 i37:=by kernel_rfl
 t41:=Tryz.underlying88
 a41:=Tryz.isAgg88
 z41:=Tryz.sizeOf88
 v41:=Tryz.zeroValue88
 i41:=by kernel_rfl
 t44:=Tryz.underlying91
 a44:=Tryz.isAgg91
 z44:=Tryz.sizeOf91
 v44:=Tryz.zeroValue91
 i44:=by kernel_rfl
 t49:=Tryz.underlying150
 a49:=Tryz.isAgg150
 z49:=Tryz.sizeOf150
 v49:=Tryz.zeroValue150
 i49:=by kernel_rfl
 t51:=Tryz.underlying152
 a51:=Tryz.isAgg152
 z51:=Tryz.sizeOf152
 v51:=Tryz.zeroValue152
 i51:=by kernel_rfl
 t53:=Tryz.underlying154
 a53:=Tryz.isAgg154
 z53:=Tryz.sizeOf154
 v53:=Tryz.zeroValue154
 i53:=by kernel_rfl
 t54:=Tryz.underlying155
 a54:=Tryz.isAgg155
 z54:=Tryz.sizeOf155
 v54:=Tryz.zeroValue155
 i54:=by kernel_rfl
 t58:=Tryz.underlying44
 a58:=Tryz.isAgg44
 z58:=Tryz.sizeOf44
 v58:=Tryz.zeroValue44
 i58:=by kernel_rfl
 t60:=Tryz.underlying217
 a60:=Tryz.isAgg217
 z60:=Tryz.sizeOf217
 v60:=Tryz.zeroValue217
 i60:=by kernel_rfl
 t64:=Tryz.underlying221
 a64:=Tryz.isAgg221
 z64:=Tryz.sizeOf221
 v64:=Tryz.zeroValue221
 i64:=by kernel_rfl
 t66:=Tryz.underlying283
 a66:=Tryz.isAgg283
 z66:=Tryz.sizeOf283
 v66:=Tryz.zeroValue283
 i66:=by kernel_rfl
 t67:=Tryz.underlying31
 a67:=Tryz.isAgg31
 z67:=Tryz.sizeOf31
 v67:=Tryz.zeroValue31
 i67:=by kernel_rfl
 t75:=Tryz.underlying366
 a75:=Tryz.isAgg366
 z75:=Tryz.sizeOf366
 v75:=Tryz.zeroValue366
 i75:=by kernel_rfl
 t76:=Tryz.underlying175
 a76:=Tryz.isAgg175
 z76:=Tryz.sizeOf175
 v76:=Tryz.zeroValue175
 i76:=by kernel_rfl
 t77:=Tryz.underlying367
 a77:=Tryz.isAgg367
 z77:=Tryz.sizeOf367
 v77:=Tryz.zeroValue367
 i77:=by kernel_rfl
 t78:=Tryz.underlying356
 a78:=Tryz.isAgg356
 z78:=Tryz.sizeOf356
 v78:=Tryz.zeroValue356
 i78:=by kernel_rfl
 t79:=Tryz.underlying368
 a79:=Tryz.isAgg368
 z79:=Tryz.sizeOf368
 v79:=Tryz.zeroValue368
 i79:=by kernel_rfl
 t80:=Tryz.underlying369
 a80:=Tryz.isAgg369
 z80:=Tryz.sizeOf369
 v80:=Tryz.zeroValue369
 i80:=by kernel_rfl
 t82:=Tryz.underlying371
 a82:=Tryz.isAgg371
 z82:=Tryz.sizeOf371
 v82:=Tryz.zeroValue371
 i82:=by kernel_rfl }
open Go.Lib Go.Sort
theorem ydd (p:Option Addr) (n c:Nat) (h1:n≤1) (lf:Fn) (la lb:Array Value) (w:World) :
  Calls Tryz.prog 15 #[.iface 40 (.slice p n c),.func lf la lb] w fun e w'=>e=.returned (.tuple #[])∧∃ os,w'=grow w os:=by
 obtain ⟨i,hi⟩:∃ i,Tryz.prog.info? 40=some i:=Option.isSome_iff_exists.1 (by kernel_rfl)
 obtain ⟨ie,hie⟩:∃ i,Tryz.prog.info? 46=some i:=Option.isSome_iff_exists.1 (by kernel_rfl)
 have hd:(Tryz.prog.info? 40).map (fun i=>i.desc)=some (.slice 46):=by kernel_rfl
 rw[hi] at hd;have hn:n=0∨n=1:=by omega
 rcases hn with rfl | rfl
 ·have hK:Lib.swapperK 0 ie 22=1:=by simp[Lib.swapperK]
  exact Any.sort_Slice_tiny sortLays 40 46 i ie hi (Option.some.inj hd) (by kernel_rfl) hie 22 (fun _=>by kernel_rfl) p 0 c h1 53 (by rw[hK];kernel_rfl) lf la lb w
 ·have hK:Lib.swapperK 1 ie 22=2:=by simp[Lib.swapperK]
  exact Any.sort_Slice_tiny sortLays 40 46 i ie hi (Option.some.inj hd) (by kernel_rfl) hie 22 (fun _=>by kernel_rfl) p 1 c h1 54 (by rw[hK];kernel_rfl) lf la lb w
theorem yc5 {α:Type} [Inhabited α] (enc:α→Value) (he:∀ x,(enc x).oneCell'=true) (lt:α→α→Bool) (g:Nat) (lb:Array Value) (eg:∀ args w,(callFunc g args).run Tryz.prog w=.ok (.enter g args) w) (blk c:Nat) (d:Array α) (h2:2≤d.size) (h12:d.size≤12) (w:World) (hless:LessReads Tryz.prog g lb enc lt blk 0 d.size w) (hH:Holds enc w blk 0 d) (hblk:blk < w.heap.size) :
  Calls Tryz.prog 15 #[.iface 40 (.slice (some ⟨blk,0,none⟩) d.size c),.func (.func g) #[] lb] w fun e w'=>e=.returned (.tuple #[])∧∃ n os,w'=grow (putRow enc (Sort.ahead w n) blk 0 (Sort.insertionSort lt d 0 d.size)) os:=by
 obtain ⟨i,hi⟩:∃ i,Tryz.prog.info? 40=some i:=Option.isSome_iff_exists.1 (by kernel_rfl)
 obtain ⟨ie,hie⟩:∃ i,Tryz.prog.info? 46=some i:=Option.isSome_iff_exists.1 (by kernel_rfl)
 have hd:(Tryz.prog.info? 40).map (fun i=>i.desc)=some (.slice 46):=by kernel_rfl
 have hp:(Tryz.prog.info? 46).map (fun i=>(i.hasPointers,i.bytes,i.size))=some (true,8,1):=by kernel_rfl
 rw[hi] at hd;rw[hie] at hp;have hp':=Option.some.inj hp;simp only[Prod.mk.injEq] at hp';obtain ⟨p1,p2,p3⟩:=hp';have hK:Lib.swapperK d.size ie 22=3:=by
  have a:(d.size == 0)=false:=beq_false_of_ne (by omega)
  have b:(d.size == 1)=false:=beq_false_of_ne (by omega)
  simp[Lib.swapperK,a,b,p1,p2]
 exact Any.sort_Slice_small sortLays 40 46 i ie hi (Option.some.inj hd) (by kernel_rfl) hie 22 (fun _=>by kernel_rfl) p3 (fun _=>by kernel_rfl) enc he lt g lb eg blk 0 c d h2 h12 55 (by rw[hK];kernel_rfl) true
  (fun args W=>run_callFunc_extern Tryz.func55 (by kernel_rfl) (by kernel_rfl) (by kernel_rfl) (e:=Extern.ReflectliteSwapper.swap true) (by kernel_rfl) args W) w hless hH hblk
open Go.RowKit
namespace Px
def Ms.more (m:Ms) (r:List Int):Ms:={ m with left:=m.left++r }
def Ms.said (m:Ms) (B:List Ask):Ms:={ m with asks:=B }
theorem qui (P:Pg) (i:Nat) (arg:Int) (most:Nat) (und:Bool) (m:Ms):∃ A,(askM P i arg most und m).2.2.asks=m.asks++A∧A≠[]∧∀ B,askM P i arg most und (m.said B)=((askM P i arg most und m).1,(askM P i arg most und m).2.1,(askM P i arg most und m).2.2.said (B++A)):=by
 refine ⟨[⟨P.words.getD i nowt,arg,m.tried+1,und⟩],?_,by simp,fun B=>?_⟩
 ·unfold askM;split
  ·rfl
  ·split
   ·rfl
   ·split<;>rfl
 ·unfold askM Ms.said;dsimp only;cases m.left with
  | nil=>rfl
  | cons v r =>
   dsimp only;split
   ·rfl
   ·split<;>rfl
def zpl (f:Ms→Nat×Ms):Prop:=∀ m,∃ A,(f m).2.asks=m.asks++A∧∀ B,f (m.said B)=((f m).1,(f m).2.said (B++A))
theorem zcc {f:Ms→Nat×Ms} (h1:∀ m,(f m).2.asks=m.asks) (h2:∀ m B,f (m.said B)=((f m).1,(f m).2.said B)):zpl f:=fun m=>⟨[],by simp[h1],fun B=>by rw[h2,List.append_nil]⟩
theorem zuk (P:Pg) (i:Ins):zpl (doM P i):=by
 by_cases h18:i.k=18
 ·intro m;obtain ⟨A,a1,_,a2⟩:=qui P i.a (m.st.headD 0) i.b false m;have e:∀ m,doM P i m=match askM P i.a (m.st.headD 0) i.b false m with
   | (0,v,m')=>(0,{ m' with st:=v::m'.st.tail })
   | (e,_,m')=>(e,m'):=fun m=>by
   unfold doM;simp only[h18];rfl
  refine ⟨A,?_,fun B=>?_⟩
  ·rw[e];cases hq:askM P i.a (m.st.headD 0) i.b false m with
   | mk e1 q =>
    obtain ⟨v,m'⟩:=q;rw[hq] at a1;match e1 with
    | 0=>exact a1
    | e1+1=>exact a1
  ·rw[e,e]
   have:=a2 B
   have hs:(m.said B).st=m.st:=rfl;rw[hs,this];cases hq:askM P i.a (m.st.headD 0) i.b false m with
   | mk e1 q =>
    obtain ⟨v,m'⟩:=q;match e1 with
    | 0=>rfl
    | e1+1=>rfl
 ·obtain ⟨k,a,b⟩:=i;have key:∀ (m:Ms) (B:List Ask),(doM P ⟨k,a,b⟩ m).2.asks=m.asks∧doM P ⟨k,a,b⟩ (m.said B)=((doM P ⟨k,a,b⟩ m).1,(doM P ⟨k,a,b⟩ m).2.said B):=by
   intro m B;match k,h18 with
   | 0,_=>exact ⟨rfl,rfl⟩
   | 1,_=>exact ⟨rfl,rfl⟩
   | 2,_=>exact ⟨rfl,rfl⟩
   | 3,_=>exact ⟨rfl,rfl⟩
   | 4,_=>exact ⟨rfl,rfl⟩
   | 5,_=>exact ⟨rfl,rfl⟩
   | 6,_=>exact ⟨rfl,rfl⟩
   | 7,_ =>
    have e:∀ m:Ms,doM P ⟨7,a,b⟩ m=if m.st.headD 0=0 then (1,m) else (0,{ m with st:=wrap64 ((m.st.tail.headD 0).tdiv (m.st.headD 0))::m.st.tail.tail }):=fun _=>rfl
    have hs:(m.said B).st=m.st:=rfl;rw[e,e,hs];by_cases h:m.st.headD 0=0
    ·rw[if_pos h,if_pos h];exact ⟨rfl,rfl⟩
    ·rw[if_neg h,if_neg h];exact ⟨rfl,rfl⟩
   | 8,_=>exact ⟨rfl,rfl⟩
   | 9,_=>exact ⟨rfl,rfl⟩
   | 10,_=>exact ⟨rfl,rfl⟩
   | 11,_=>exact ⟨rfl,rfl⟩
   | 12,_=>exact ⟨rfl,rfl⟩
   | 13,_=>exact ⟨rfl,rfl⟩
   | 14,_ =>
    have e:∀ m:Ms,doM P ⟨14,a,b⟩ m=if 0 < m.st.headD 0 then (0,{ m with st:=wrap64 (m.st.headD 0 - 1)::m.st.tail }) else (0,{ m with st:=m.st.tail,place:=a }):=fun _=>rfl
    have hs:(m.said B).st=m.st:=rfl;rw[e,e,hs];by_cases h:0 < m.st.headD 0
    ·rw[if_pos h,if_pos h];exact ⟨rfl,rfl⟩
    ·rw[if_neg h,if_neg h];exact ⟨rfl,rfl⟩
   | 15,_=>exact ⟨rfl,rfl⟩
   | 16,_=>exact ⟨rfl,rfl⟩
   | 17,_=>exact ⟨rfl,rfl⟩
   | 18,h=>exact absurd rfl h
   | k+19,_=>exact ⟨rfl,rfl⟩
  exact zcc (fun m=>(key m []).1) (fun m B=>(key m B).2)
end Px
end Go.Proofs.YtagpnplggopoeaaGreatDoor
