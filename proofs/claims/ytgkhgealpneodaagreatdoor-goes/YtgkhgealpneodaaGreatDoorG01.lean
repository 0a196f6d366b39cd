import Derived.Test.YtgkhgealpneodaaGreatDoorG00
import Derived.Shelf.GgSortFunc.Small
import Derived.Shelf.GgSortFunc.Tiny
set_option maxRecDepth 100000
namespace Go.Proofs.YtgkhgealpneodaaGreatDoor
open Go.RowKit Tryz
namespace Px
def frames:List (List (dX×Int))->List (Nat×Nat)->List (Nat×Nat×Nat)
 |_,[]=>[]
 |ps,g::G=>(ps.dropLast.flatten.length,g.1,g.2)::frames ps.dropLast G
variable{ps:List (List (dX×Int))}
theorem VT{qs:List (List (dX×Int))}(h:ps.dropLast=qs.dropLast)(G:List (Nat×Nat)):frames ps G=frames qs G:=by cases G with| nil=>rfl| cons g G=>rw[frames,frames,h]
theorem VU(ps:List (List (dX×Int)))(x:List (dX×Int)):(jq ps x).dropLast=ps.dropLast:=by unfold jq;rw[List.dropLast_concat]
theorem Gs(h:ps≠[]):ps.flatten=ps.dropLast.flatten++ps.getLastD []:=by obtain⟨qs,q,e⟩:∃qs q,ps=qs++[q]:=⟨_,_,(bM h).symm⟩;subst e;simp[List.getLastD_eq_getLast?]
theorem Mj(h:ps≠[])(x:List (dX×Int)):(jq ps x).flatten=ps.flatten++x:=by unfold jq;rw[Gs h];simp
theorem VW(h:ps≠[])(x:List (dX×Int)):(jq ps x).length=ps.length:=by unfold jq;have:=bR.2 h;simp;omega
structure Rel(P:Pg)(V:Vs)(s:Rs)(m:Ms)(S:List Int)(G:List (Nat×Nat)):Prop where
 held:m.vars=s.held
 left:m.left=s.left
 eY:m.eY=s.eY
 st:m.st=S
 und:(m.fV.map (nA P)).reverse=s.eU.flatten
 fK:m.fK=frames s.eU G
 len:s.eU.length=G.length+1
 fD:m.fD=0
 fin:m.fin=0
 ty:Gr V s.held
variable{P:Pg}{V:Vs}{m:Ms}{S:List Int}{G:List (Nat×Nat)}
theorem Rel.ne{s:Rs}(h:Rel P V s m S G):s.eU≠[]:=fun e=>by have:=h.len;rw[e]at this;simp at this
theorem Rel.Qb{s:Rs}(h:Rel P V s m S G):m.fV.length=s.eU.flatten.length:=by rw[<- h.und];simp
def Uq(s:Rs):Nat:=3*s.eU.flatten.length
def Post(P:Pg)(V:Vs)(S:List Int)(G:List (Nat×Nat))(p n:Nat)(m:Ms)(s:Rs):Prop:=
 (s.over=0/\s.stop=false/\s.failed=false/\∃k m',kH P k m=some m'/\Rel P V s m' S G/\m'.eD=p/\m'.jK=false/\k+Uq s<=n) \/
 (s.over=0/\s.stop=false/\s.failed=true/\∃k m' t,kH P k m=some m'/\Rel P V s m' (t++S) G/\m'.jK=true/\k+Uq s<=n) \/
 ((s.over≠0\/s.stop=true)/\mP P m n s.over s.eY s.held)
theorem Ar{s:Rs}:s.going=true↔s.over=0/\s.stop=false/\s.failed=false:=by unfold Rs.going;rw[bH,bH,beq_iff_eq,dD,dD];exact and_assoc
theorem Post.mono{P:Pg}{V:Vs}{S:List Int}{G:List (Nat×Nat)}{p n N:Nat}{m:Ms}{s:Rs}(h:Post P V S G p n m s)(hn:n<=N):Post P V S G p N m s:=by
 obtain⟨h1,h2,h3,k,m',h4,h5,h6,h7,h8⟩|⟨h1,h2,h3,k,m',t,h4,h5,h6,h8⟩|⟨h1,h2⟩:=h;·exact ak ⟨h1,h2,h3,k,m',h4,h5,h6,h7,by omega⟩
 ·exact aj (ak ⟨h1,h2,h3,k,m',t,h4,h5,h6,by omega⟩)
 exact aj (aj ⟨h1,h2.mono hn⟩)
theorem Post.after{P:Pg}{V:Vs}{S:List Int}{G:List (Nat×Nat)}{p n N k:Nat}{m m1:Ms}{s:Rs}(hk:kH P k m=some m1)(h:Post P V S G p n m1 s)(hn:k+n<=N):Post P V S G p N m s:=by
 obtain⟨h1,h2,h3,j,m',h4,h5,h6,h7,h8⟩|⟨h1,h2,h3,j,m',t,h4,h5,h6,h8⟩|⟨h1,h2⟩:=h;·exact ak ⟨h1,h2,h3,k+j,m',qp hk h4,h5,h6,h7,by omega⟩
 ·exact aj (ak ⟨h1,h2,h3,k+j,m',t,qp hk h4,h5,h6,by omega⟩)
 exact aj (aj ⟨h1,h2.after hk hn⟩)
variable{d i k n p q:Nat}
theorem Post.seq{S':List Int}{N:Nat}{s:Rs}{f:Rs->Rs}(h:Post P V (S'++S) G p n m s)(hi:s.going=false->f s=s)(hn:n<=N)(hf:∀k m',kH P k m=some m'->Rel P V s m' (S'++S) G->m'.eD=p->m'.jK=false->k+Uq s<=n->s.going=true->Post P V S G q (N-k) m' (f s)):Post P V S G q N m (f s):=by
 obtain⟨h1,h2,h3,k,m',h4,h5,h6,h7,h8⟩|⟨h1,h2,h3,k,m',t,h4,h5,h6,h8⟩|⟨h1,h2⟩:=h;·exact Post.after h4 (hf k m' h4 h5 h6 h7 h8 (Ar.2 ⟨h1,h2,h3⟩)) (by omega)
 ·rw[hi (by unfold Rs.going;rw[h3];simp)];refine aj (ak ⟨h1,h2,h3,k,m',t++S',h4,?_,h6,by omega⟩);rw[aM];exact h5
 rw[hi (by
  unfold Rs.going;obtain h1|h1:=h1;·rw[(beq_eq_false_iff_ne).2 h1];simp
  ·rw[h1];simp)]
 exact aj (aj ⟨h1,h2.mono hn⟩)
theorem xB(iv:dX->Nat)(x:Option fG):(mO iv x).length=kC x:=by cases x with| none=>rfl| some e=>exact vU iv e
theorem Qc(P:Pg)(V:Vs)(iv:dX->Nat)(hiv:∀w i,jG V w=some i->iv w=i)(x:Option fG)(k:Nat)(m:Ms)(hk:okO V x k)(hty:Gr V m.vars)(hu:m.jK=false)(hf:m.fin=0)(hc:jT P m.eD (mO iv x)):(∀v,uK V m.vars x=some v->kH P (kC x) m=some {m with st:=v::m.st,eD:=m.eD+kC x}/\(k=98->v=0\/v=1)) /\
  (uK V m.vars x=none->∃n t q,n<=kC x/\kH P n m=some {m with st:=t++m.st,eD:=q,jK:=true}):=by
 cases x with
 |none=>refine⟨fun v hv=>?_,fun h=>(by cases h)⟩;cases hv;exact⟨step_ok hc.one hu rfl hf,fun _=>ak rfl⟩
 |some e=>exact Mi P V iv hiv e k m (hk e rfl) hty hu hf hc
def uL(P:Pg)(iw:dX->Nat):List Sm->Prop
 |[]=>True
 |⟨op,eH,_,_,_,_,undo,_,_,one,two⟩::rest=>(op=99->P.gT.getD (iw eH) iF=eH/\(undo.size≠0->P.gT.getD (iw undo) iF=undo))/\(op=105\/op=116\/op=114->uL P iw one)/\(op=105\/op=116->uL P iw two)/\uL P iw rest
variable{x:Sm}{l:List Sm}
theorem VX{iw:dX->Nat}:uL P iw (x::l)↔(x.op=99->P.gT.getD (iw x.eH) iF=x.eH/\(x.undo.size≠0->P.gT.getD (iw x.undo) iF=x.undo))/\(x.op=105\/x.op=116\/x.op=114->uL P iw x.one)/\(x.op=105\/x.op=116->uL P iw x.two)/\uL P iw l:=by obtain⟨op,eH,pl,ex,gH,gG,undo,n,gZ,one,two⟩:=x;rw[uL]
def vV(P:Pg)(V:Vs)(iw iv:dX->Nat)(l:List Sm):Prop:=∀(s:Rs)(m:Ms)(S:List Int)(G:List (Nat×Nat)),oK V l->uL P iw l->Rel P V s m S G->s.going=true->m.jK=false->jT P m.eD (gL iw iv l m.eD)->Post P V S G (m.eD+(gL iw iv l m.eD).length) (lU l+Uq s) m (ig V l s)
def vW(P:Pg)(V:Vs)(iw iv:dX->Nat)(x:Sm):Prop:=∀(s:Rs)(m:Ms)(S:List Int)(G:List (Nat×Nat)),Rel P V s m S G->s.going=true->m.jK=false->jT P m.eD (lM iw iv x m.eD)->Post P V S G (m.eD+(lM iw iv x m.eD).length) (qI x+Uq s) m (iQ V x s)
theorem Ml{t:List Int}{s:Rs}(hr:Rel P V s m S G)(hg:s.going=true)(h:kH P k m=some {m with st:=t++m.st,eD:=q,jK:=true})(hk:k+Uq s<=n):Post P V S G p n m {s with failed:=true}:=by obtain⟨g1,g2,g3⟩:=Ar.1 hg;refine aj (ak ⟨g1,g2,rfl,k,_,t,h,⟨hr.held,hr.left,hr.eY,?_,hr.und,hr.fK,hr.len,hr.fD,hr.fin,hr.ty⟩,rfl,hk⟩);dsimp only;rw[hr.st]
theorem Gr.set{V:Vs}{held:List Int}(h:Gr V held){i k:Nat}{v:Int}(_hi:i<V.length)(hk:pG V i=k)(hv:k=98->v=0\/v=1):Gr V (held.set i v):=by
 refine⟨by rw[List.length_set];exact h.len,fun j hj hkj=>?_⟩;rw[aL,List.getElem?_set];split
 ·rename_i e;subst e;split;·simp only[Option.getD_some];exact hv (by omega)
  exact ak rfl
 rw[<- aL];exact h.tr j hj hkj
variable{s w:dX}
theorem Mq(h:jG V w=some i)(held:List Int)(v:Int):oz V held w v=held.set i v:=by unfold oz;rw[h]
theorem Ds(P:Pg)(V:Vs)(iw iv:dX->Nat)(hiv:∀w i,jG V w=some i->iv w=i)(x:Sm)(hop:x.op=108)(hk:Bb V x.op x.eH x.ex x.gH x.n):vW P V iw iv x:=by
 intro s m S G hr hg hu hc;obtain⟨e,k,he,hke,⟨i,hi,hki⟩,_⟩:∃e k,x.ex=some e/\nP V e k/\qC V x.eH k/\(k=105\/k=98):=by
  obtain h|h|h|h|h|h:=hk;·exact h.2
  all_goals omega
 have hmk:lM iw iv x m.eD=mO iv x.ex++[⟨2,iv x.eH,0⟩]:=by unfold lM;rw[aA hop]
 have hco:qI x=kC x.ex+1:=by unfold qI;rw[aA hop]
 have hrun:iQ V x s=match uK V s.held x.ex with
  |none=>{s with failed:=true}
  |some v=>{s with held:=oz V s.held x.eH v}:=by unfold iQ;rw[aA hop]<;>rfl
 rw[hmk]at hc |-;rw[hco,hrun];obtain⟨o1,o2⟩:=Qc P V iv hiv x.ex k m (fun e' h'=>by rw[he]at h';cases h';exact hke) (by rw[hr.held];exact hr.ty) hu hr.fin hc.left;rw[hr.held]at o1 o2;obtain⟨g1,g2,g3⟩:=Ar.1 hg;cases hev:uK V s.held x.ex with
 |none=>obtain⟨n',t,q,h1,h2⟩:=o2 hev;rw[<- hr.held]at h2;exact Ml hr hg h2 (by omega)
 |some v=>
 obtain⟨h1,h2⟩:=o1 v hev;have hcr:=hc.right;rw[xB]at hcr;have hst:kH P 1 {m with st:=v::m.st,eD:=m.eD+kC x.ex}=some {m with vars:=m.vars.set (iv x.eH) v,st:=m.st,eD:=m.eD+kC x.ex+1}:=step_ok hcr.one hu rfl hr.fin;have h1':kH P (kC x.ex) m=some {m with st:=v::m.st,eD:=m.eD+kC x.ex}:=by rw[hr.held];exact h1
 refine ak ⟨g1,g2,g3,kC x.ex+1,_,qp h1' hst,⟨?_,hr.left,hr.eY,hr.st,hr.und,hr.fK,hr.len,hr.fD,hr.fin,?_⟩,?_,hu,ay _⟩;·dsimp only;rw[Mq hi,hiv _ _ hi,hr.held]
 ·dsimp only;rw[Mq hi];exact hr.ty.set (wK hi) hki h2
 dsimp only;rw[aC,xB];simp;omega
theorem D0(P:Pg)(V:Vs)(iw iv:dX->Nat)(hiv:∀w i,jG V w=some i->iv w=i)(x:Sm)(hop:x.op=99)(hk:Bb V x.op x.eH x.ex x.gH x.n)(hw:P.gT.getD (iw x.eH) iF=x.eH/\(x.undo.size≠0->P.gT.getD (iw x.undo) iF=x.undo)):vW P V iw iv x:=by
 intro s m S G hr hg hu hc;obtain⟨hke,hka,hn1,Qd⟩:okO V x.ex 105/\(x.gH.size=0\/qC V x.gH 105)/\1<=x.n/\x.n<=5:=by
  obtain h|h|h|h|h|h:=hk;·omega
  ·exact h.2
  all_goals omega
 have hmk:lM iw iv x m.eD=mO iv x.ex++([⟨18,iw x.eH,x.n⟩]++((if x.undo.size=0 then[]else[⟨19,iw x.undo,0⟩])++[if x.gH.size=0 then⟨3,0,0⟩else⟨2,iv x.gH,0⟩])):=by unfold lM;rw[ah (by omega),aA hop]<;>rfl
 have hco:qI x=kC x.ex+x.n+(if x.undo.size=0 then 0 else 4)+1:=by unfold qI;rw[ah (by omega),aA hop]
 have hrun:iQ V x s=uU V x.eH x.ex x.gH x.undo x.n s:=by unfold iQ;rw[ah (by omega),aA hop]
 rw[hmk]at hc |-;rw[hco,hrun];obtain⟨o1,o2⟩:=Qc P V iv hiv x.ex 105 m hke (by rw[hr.held];exact hr.ty) hu hr.fin hc.left;rw[hr.held]at o1 o2;obtain⟨g1,g2,g3⟩:=Ar.1 hg;unfold uU;cases hev:uK V s.held x.ex with
 |none=>obtain⟨n',t,q,h1,h2⟩:=o2 hev;rw[<- hr.held]at h2;exact Ml hr hg h2 (by omega)
 |some arg=>
 obtain⟨h1,_⟩:=o1 arg hev;rw[<- hr.held]at h1;have hcr:=hc.right;rw[xB]at hcr;obtain⟨a1,a2,a3⟩:=C7 P (iw x.eH) x.n x.eH arg hw.1 x.n {m with st:=arg::m.st,eD:=m.eD+kC x.ex} s hcr.left.one hu hr.fin rfl hr.left hr.eY (by dsimp only;rw[hr.fD];omega) (by omega);dsimp only at a1 a2 a3;have ht1:m.fD+1=1:=by rw[hr.fD]
 rw[ht1]at a1 a2 a3;obtain⟨A,L,Q,f1,f2,f3⟩:=VN x.eH arg false x.n 1 s;dsimp only;cases htr:fT x.eH arg false x.n 1 s with
 |mk o s1=>
 rw[htr]at f1 f2 f3 a1 a2 a3;dsimp only at f1 f2 f3 a1 a2 a3;subst f1;match o with
 |none=>simp only;refine aj (aj ⟨aj (f3 rfl),?_⟩);have:=(a1 rfl).after h1 (N:=kC x.ex+x.n+(if x.undo.size=0 then 0 else 4)+1+Uq s) (by omega);dsimp only;rw[g1,<- hr.held];exact this
 |some none=>
  simp only;obtain⟨j,hj,hh⟩:=a2 rfl;rw[f2 (by simp)];refine aj (ak ⟨g1,g2,rfl,kC x.ex+j,_,[arg],qp h1 hh,⟨hr.held,rfl,rfl,?_,hr.und,hr.fK,hr.len,rfl,hr.fin,hr.ty⟩,rfl,?_⟩);·dsimp only;rw[hr.st]<;>rfl
  have:Uq {s with eY:=A,left:=L,failed:=true}=Uq s:=rfl;show kC x.ex+j+Uq s<=_;omega
 |some (some v)=>
 simp only;obtain⟨j,hj,hh⟩:=a3 v rfl;rw[f2 (by simp)];have hA:=qp h1 hh;dsimp only at hA;have Mr:=hcr.right;simp only[aS]at Mr;obtain⟨ju,mu,zm,hsu,rF,Qe,Mt,IX⟩:∃ju mu,ju+3*(if x.undo.size=0 then s.eU else jq s.eU [(x.undo,v)]).flatten.length<=(if x.undo.size=0 then 0 else 4)+Uq s/\kH P ju {m with eY:=A,left:=L,fD:=0,st:=v::m.st,eD:=m.eD+kC x.ex+1}=some mu /\
   Rel P V {s with eY:=A,left:=L,eU:=if x.undo.size=0 then s.eU else jq s.eU [(x.undo,v)]} mu (v::S) G/\mu.eD=m.eD+kC x.ex+1+(if x.undo.size=0 then[]else[(⟨19,iw x.undo,0⟩:fC)]).length/\mu.jK=false/\mu.st=v::S:=by
  by_cases hz:x.undo.size=0
  ·rw[aA hz,aA hz,aA hz];refine⟨0,_,?_,rfl,⟨hr.held,rfl,rfl,?_,hr.und,hr.fK,hr.len,rfl,hr.fin,hr.ty⟩,by simp,hu,?_⟩;·show 0+3*s.eU.flatten.length<=0+Uq s;unfold Uq;omega
   ·dsimp only;rw[hr.st]
   dsimp only;rw[hr.st]
  rw[ah hz,ah hz,ah hz];rw[ah hz]at Mr;have hs1:kH P 1 {m with eY:=A,left:=L,fD:=0,st:=v::m.st,eD:=m.eD+kC x.ex+1}=some {m with eY:=A,left:=L,fD:=0,st:=v::m.st,eD:=m.eD+kC x.ex+1+1,fV:=(iw x.undo,v)::m.fV}:=step_ok Mr.left.one hu rfl hr.fin;refine⟨1,_,?_,hs1,⟨hr.held,rfl,rfl,?_,?_,?_,?_,rfl,hr.fin,hr.ty⟩,by simp,hu,?_⟩;·rw[Mj hr.ne];unfold Uq;simp;omega
  ·dsimp only;rw[hr.st]
  ·dsimp only;rw[Mj hr.ne,dR,dO,hr.und];unfold nA;rw[hw.2 hz]
  ·dsimp only;rw[hr.fK];exact VT (VU _ _).symm G
  ·dsimp only;rw[VW hr.ne];exact hr.len
  dsimp only;rw[hr.st]
 have hB:=qp hA hsu;have hcl:=Mr.right;rw[<- Qe]at hcl;by_cases hz:x.gH.size=0
 ·simp only[aA hz]at hcl |-;have hs2:kH P 1 mu=some {mu with st:=S,eD:=mu.eD+1}:=by refine step_ok hcl.one Mt ?_ rF.fin;show(0,{mu with st:=mu.st.tail,eD:=mu.eD+1})=_;rw[IX]<;>rfl
  refine ak ⟨g1,g2,g3,_,_,qp hB hs2,⟨rF.held,rF.left,rF.eY,rfl,rF.und,rF.fK,rF.len,rF.fD,rF.fin,rF.ty⟩,?_,Mt,?_⟩;·dsimp only;rw[Qe];simp only[aC,xB,aS];omega
  show kC x.ex+j+ju+1+3*(if x.undo.size=0 then s.eU else jq s.eU [(x.undo,v)]).flatten.length<=_;omega
 simp only[ah hz]at hcl |-;obtain⟨i,hi,hki⟩:=hka.resolve_left hz;have hs2:kH P 1 mu=some {mu with vars:=mu.vars.set (iv x.gH) v,st:=S,eD:=mu.eD+1}:=by refine step_ok hcl.one Mt ?_ rF.fin;show(0,{mu with vars:=mu.vars.set (iv x.gH) (mu.st.headD 0),st:=mu.st.tail,eD:=mu.eD+1})=_;rw[IX]<;>rfl
 refine ak ⟨g1,g2,g3,_,_,qp hB hs2,⟨?_,rF.left,rF.eY,rfl,rF.und,rF.fK,rF.len,rF.fD,rF.fin,?_⟩,?_,Mt,?_⟩;·dsimp only;rw[Mq hi,hiv _ _ hi,rF.held]
 ·dsimp only;rw[Mq hi];exact hr.ty.set (wK hi) hki (fun h=>by omega)
 ·dsimp only;rw[Qe];simp only[aC,xB,aS];omega
 show kC x.ex+j+ju+1+3*(if x.undo.size=0 then s.eU else jq s.eU [(x.undo,v)]).flatten.length<=_;omega
theorem Eg(P:Pg)(V:Vs)(iw iv:dX->Nat)(hiv:∀w i,jG V w=some i->iv w=i)(x:Sm)(hop:x.op=105)(hk:Bb V x.op x.eH x.ex x.gH x.n)(h1:vV P V iw iv x.one)(h2:vV P V iw iv x.two)(k1:oK V x.one)(k2:oK V x.two)(u1:uL P iw x.one)(u2:uL P iw x.two):vW P V iw iv x:=by
 intro s m S G hr hg hu hc;obtain⟨e,he,hke⟩:∃e,x.ex=some e/\nP V e 98:=by
  obtain h|h|h|h|h|h:=hk;·omega
  ·omega
  ·exact h.2
  all_goals omega
 have hco:qI x=kC x.ex+2+lU x.one+lU x.two:=by unfold qI;rw[ah (by omega),ah (by omega),aA hop]
 have hrun:iQ V x s=match uK V s.held x.ex with
  |none=>{s with failed:=true}
  |some v=>if v=1 then ig V x.one s else ig V x.two s:=by unfold iQ;rw[ah (by omega),ah (by omega),aA hop]<;>rfl
 have hX:jT P m.eD (mO iv x.ex):=by
  unfold lM at hc;rw[ah (by omega),ah (by omega),aA hop]at hc;dsimp only at hc;split at hc;·exact hc.left
  exact hc.left
 rw[hco,hrun];obtain⟨o1,o2⟩:=Qc P V iv hiv x.ex 98 m (fun e' h'=>by rw[he]at h';cases h';exact hke) (by rw[hr.held];exact hr.ty) hu hr.fin hX;rw[hr.held]at o1 o2;cases hev:uK V s.held x.ex with
 |none=>obtain⟨n',t,q,g1,g2⟩:=o2 hev;rw[<- hr.held]at g2;exact Ml hr hg g2 (by omega)
 |some v=>
 obtain⟨g1,g2⟩:=o1 v hev;rw[<- hr.held]at g1;dsimp only;by_cases El:x.two.isEmpty
 ·have hmk:lM iw iv x m.eD=mO iv x.ex++([⟨13,m.eD+kC x.ex+1+(gL iw iv x.one (m.eD+kC x.ex+1)).length,0⟩]++gL iw iv x.one (m.eD+kC x.ex+1)):=by unfold lM;rw[ah (by omega),ah (by omega),aA hop];dsimp only;rw[aA El,xB]
  rw[hmk]at hc |-;have hcr:=hc.right;rw[xB]at hcr;have hca:=hcr.right;simp only[aS]at hca;obtain rfl|rfl:=g2 rfl;·rw[ah (by decide)];have e2:x.two=[]:=dB.1 El;rw[e2,CP];have hs:kH P 1 {m with st:=0::m.st,eD:=m.eD+kC x.ex}=some {m with st:=m.st,eD:=m.eD+kC x.ex+1+(gL iw iv x.one (m.eD+kC x.ex+1)).length}:=step_ok hcr.left.one hu rfl hr.fin;obtain⟨q1,q2,q3⟩:=Ar.1 hg;refine ak ⟨q1,q2,q3,_,_,qp g1 hs,⟨hr.held,hr.left,hr.eY,hr.st,hr.und,hr.fK,hr.len,hr.fD,hr.fin,hr.ty⟩,?_,hu,by omega⟩;dsimp only;simp only[aC,xB,aS];omega
  rw[aA rfl];have hs:kH P 1 {m with st:=1::m.st,eD:=m.eD+kC x.ex}=some {m with st:=m.st,eD:=m.eD+kC x.ex+1}:=step_ok hcr.left.one hu rfl hr.fin;have hp:=h1 s {m with st:=m.st,eD:=m.eD+kC x.ex+1} S G k1 u1 ⟨hr.held,hr.left,hr.eY,hr.st,hr.und,hr.fK,hr.len,hr.fD,hr.fin,hr.ty⟩ hg hu hca;have:=Post.after (qp g1 hs) hp (N:=kC x.ex+2+lU x.one+lU x.two+Uq s) (by omega);dsimp only at this;have el:m.eD+(mO iv x.ex++([(⟨13,m.eD+kC x.ex+1+(gL iw iv x.one (m.eD+kC x.ex+1)).length,0⟩:fC)]++gL iw iv x.one (m.eD+kC x.ex+1))).length=m.eD+kC x.ex+1+(gL iw iv x.one (m.eD+kC x.ex+1)).length:=by simp only[aC,xB,aS];omega
  rw[el];exact this
 generalize hA:gL iw iv x.one (m.eD+kC x.ex+1)=A;generalize hB:gL iw iv x.two (m.eD+kC x.ex+1+A.length+1)=B;have hmk:lM iw iv x m.eD=mO iv x.ex++([⟨13,m.eD+kC x.ex+1+A.length+1,0⟩]++(A++([⟨12,m.eD+kC x.ex+1+A.length+1+B.length,0⟩]++B))):=by unfold lM;rw[ah (by omega),ah (by omega),aA hop];dsimp only;rw[ah El,xB,hA,hB]
 rw[hmk]at hc |-;have hcr:=hc.right;rw[xB]at hcr;have hca:=hcr.right;simp only[aS]at hca;have el:m.eD+(mO iv x.ex++([(⟨13,m.eD+kC x.ex+1+A.length+1,0⟩:fC)]++(A++([(⟨12,m.eD+kC x.ex+1+A.length+1+B.length,0⟩:fC)]++B)))).length=m.eD+kC x.ex+1+A.length+1+B.length:=by simp only[aC,xB,aS];omega
 rw[el];obtain rfl|rfl:=g2 rfl;·rw[ah (by decide)];have hs:kH P 1 {m with st:=0::m.st,eD:=m.eD+kC x.ex}=some {m with st:=m.st,eD:=m.eD+kC x.ex+1+A.length+1}:=step_ok hcr.left.one hu rfl hr.fin;have hcb:=hca.right.right;simp only[aS]at hcb;have hp:=h2 s {m with st:=m.st,eD:=m.eD+kC x.ex+1+A.length+1} S G k2 u2 ⟨hr.held,hr.left,hr.eY,hr.st,hr.und,hr.fK,hr.len,hr.fD,hr.fin,hr.ty⟩ hg hu (by dsimp only;rw[hB];exact hcb);dsimp only at hp;rw[hB]at hp;exact Post.after (qp g1 hs) hp (by omega)
 rw[aA rfl];have hs:kH P 1 {m with st:=1::m.st,eD:=m.eD+kC x.ex}=some {m with st:=m.st,eD:=m.eD+kC x.ex+1}:=step_ok hcr.left.one hu rfl hr.fin;have hp:=h1 s {m with st:=m.st,eD:=m.eD+kC x.ex+1} S G k1 u1 ⟨hr.held,hr.left,hr.eY,hr.st,hr.und,hr.fK,hr.len,hr.fD,hr.fin,hr.ty⟩ hg hu (by dsimp only;rw[hA];exact hca.left);dsimp only at hp;rw[hA]at hp;refine Post.after (qp g1 hs) (n:=lU x.one+Uq s+1) ?_ (by omega);refine Post.seq (S':=[]) (f:=fun s=>s) hp (fun _=>rfl) (by omega) ?_;intro k m' hk' hr' hp' hu' hb' hg';have hs2:kH P 1 m'=some {m' with eD:=m.eD+kC x.ex+1+A.length+1+B.length}:=by refine step_ok (i:=⟨12,m.eD+kC x.ex+1+A.length+1+B.length,0⟩) ?_ hu' rfl hr'.fin;rw[hp'];exact hca.right.left.one
 obtain⟨q1,q2,q3⟩:=Ar.1 hg';exact ak ⟨q1,q2,q3,1,_,hs2,⟨hr'.held,hr'.left,hr'.eY,hr'.st,hr'.und,hr'.fK,hr'.len,hr'.fD,hr'.fin,hr'.ty⟩,rfl,hu',by omega⟩
theorem Ek(P:Pg)(V:Vs)(iw iv:dX->Nat)(one:List Sm)(h1:vV P V iw iv one)(k1:oK V one)(u1:uL P iw one)(p:Nat)(hc:jT P p ([⟨14,p+1+(gL iw iv one (p+1)).length+1,0⟩]++(gL iw iv one (p+1)++[⟨12,p,0⟩])))(n:Nat):n<=9->∀(s:Rs)(m:Ms)(S:List Int)(G:List (Nat×Nat)),Rel P V s m ((n:Int)::S) G->s.going=true->m.jK=false->m.eD=p ->
  Post P V S G (p+1+(gL iw iv one (p+1)).length+1) (n*(lU one+2)+1+Uq s) m (jE (ig V one) n s):=by
 induction n with
 |zero=>
  intro _ s m S G hr hg hu hp;subst hp;have hs:kH P 1 m=some {m with st:=S,eD:=m.eD+1+(gL iw iv one (m.eD+1)).length+1}:=by refine step_ok hc.left.one hu ?_ hr.fin;unfold jF;simp[hr.st]
  obtain⟨q1,q2,q3⟩:=Ar.1 hg;exact ak ⟨q1,q2,q3,1,_,hs,⟨hr.held,hr.left,hr.eY,rfl,hr.und,hr.fK,hr.len,hr.fD,hr.fin,hr.ty⟩,rfl,hu,by rw[jE];omega⟩
 |succ n ih=>
  intro hn s m S G hr hg hu hp;subst hp;have hs:kH P 1 m=some {m with st:=(n:Int)::S,eD:=m.eD+1}:=by
   refine step_ok hc.left.one hu ?_ hr.fin;have e1:wrap64 ((n:Int)+1-1)=n:=by rw[show(n:Int)+1-1=n by omega];unfold wrap64;omega
   have e2:(0:Int)<(n:Int)+1:=by omega
   show(if 0<m.st.headD 0 then((0:Nat),{m with st:=wrap64 (m.st.headD 0-1)::m.st.tail,eD:=m.eD+1})else(0,{m with st:=m.st.tail,eD:=m.eD+1+(gL iw iv one (m.eD+1)).length+1}))=_;rw[hr.st];have e3:(((n+1:Nat):Int)::S).headD 0=(n:Int)+1:=by simp
   rw[e3,aA e2,e1];all_goals rfl
  have hca:=hc.right;simp only[aS]at hca;have hb:=h1 s {m with st:=(n:Int)::S,eD:=m.eD+1} ((n:Int)::S) G k1 u1 ⟨hr.held,hr.left,hr.eY,rfl,hr.und,hr.fK,hr.len,hr.fD,hr.fin,hr.ty⟩ hg hu hca.left;dsimp only at hb;rw[jE];have en:(n+1)*(lU one+2)=n*(lU one+2)+lU one+2:=by rw[Nat.add_mul];omega
  rw[en];refine Post.after hs (n:=n*(lU one+2)+lU one+2+Uq s) ?_ (by omega);refine Post.seq (S':=[(n:Int)]) (f:=jE (ig V one) n) hb (fun h=>VB (Gm V one h) n) (by omega) ?_;intro k m' hk' hr' hp' hu' hb' hg';have hs2:kH P 1 m'=some {m' with eD:=m.eD}:=by refine step_ok (i:=⟨12,m.eD,0⟩) ?_ hu' rfl hr'.fin;rw[hp'];exact hca.right.one
  have:=ih (by omega) (ig V one s) {m' with eD:=m.eD} S G ⟨hr'.held,hr'.left,hr'.eY,hr'.st,hr'.und,hr'.fK,hr'.len,hr'.fD,hr'.fin,hr'.ty⟩ hg' hu' rfl;exact Post.after hs2 this (by omega)
theorem Ex(P:Pg)(V:Vs)(iw iv:dX->Nat)(x:Sm)(hop:x.op=114)(hn:x.n<=9)(h1:vV P V iw iv x.one)(k1:oK V x.one)(u1:uL P iw x.one):vW P V iw iv x:=by
 intro s m S G hr hg hu hc;have hmk:lM iw iv x m.eD=[⟨0,x.n,0⟩]++([⟨14,m.eD+1+1+(gL iw iv x.one (m.eD+1+1)).length+1,0⟩]++(gL iw iv x.one (m.eD+1+1)++[⟨12,m.eD+1,0⟩])):=by unfold lM;rw[ah (by omega),ah (by omega),ah (by omega),ah (by omega),aA hop]
 have hco:qI x=2+x.n*(lU x.one+2):=by unfold qI;rw[ah (by omega),ah (by omega),ah (by omega),ah (by omega),aA hop]
 have hrun:iQ V x s=jE (ig V x.one) x.n s:=by unfold iQ;rw[ah (by omega),ah (by omega),ah (by omega),ah (by omega),aA hop]
 rw[hmk]at hc |-;rw[hco,hrun];have hs:kH P 1 m=some {m with st:=(x.n:Int)::m.st,eD:=m.eD+1}:=step_ok hc.left.one hu rfl hr.fin;have hcr:=hc.right;simp only[aS]at hcr;have:=Ek P V iw iv x.one h1 k1 u1 (m.eD+1) hcr x.n hn s {m with st:=(x.n:Int)::m.st,eD:=m.eD+1} S G ⟨hr.held,hr.left,hr.eY,by dsimp only;rw[hr.st],hr.und,hr.fK,hr.len,hr.fD,hr.fin,hr.ty⟩ hg hu rfl;have el:m.eD+([(⟨0,x.n,0⟩:fC)]++([(⟨14,m.eD+1+1+(gL iw iv x.one (m.eD+1+1)).length+1,0⟩:fC)]++(gL iw iv x.one (m.eD+1+1)++[(⟨12,m.eD+1,0⟩:fC)]))).length=m.eD+1+1+(gL iw iv x.one (m.eD+1+1)).length+1:=by simp only[aC,aS];omega
 rw[el];exact Post.after hs this (by omega)
theorem E6(P:Pg)(V:Vs)(iw iv:dX->Nat)(x:Sm)(hop:x.op=102):vW P V iw iv x:=by
 intro s m S G hr hg hu hc;have hmk:lM iw iv x m.eD=[⟨17,0,0⟩]:=by unfold lM;rw[ah (by omega),ah (by omega),ah (by omega),ah (by omega),ah (by omega)]
 have hco:qI x=1:=by unfold qI;rw[ah (by omega),ah (by omega),ah (by omega),ah (by omega),ah (by omega)]
 have hrun:iQ V x s={s with failed:=true}:=by unfold iQ;rw[ah (by omega),ah (by omega),ah (by omega),ah (by omega),ah (by omega)]
 rw[hmk]at hc |-;rw[hco,hrun];have hs:kH P 1 m=some {m with st:=[]++m.st,eD:=m.eD,jK:=true}:=VK (m':={m with eD:=m.eD+1}) hc.one hu rfl hr.fin;exact Ml hr hg hs (by omega)
theorem Rel.split{s:Rs}(hr:Rel P V s m S G):∃L r,m.fV=L++r/\L.map (nA P)=(s.eU.getLastD []).reverse/\(r.map (nA P)).reverse=s.eU.dropLast.flatten/\L.length=(s.eU.getLastD []).length/\r.length=s.eU.dropLast.flatten.length:=by
 have h:=hr.und;rw[Gs hr.ne]at h;have h2:m.fV.map (nA P)=(s.eU.getLastD []).reverse++s.eU.dropLast.flatten.reverse:=by rw[<- List.reverse_append,<- h,List.reverse_reverse]
 obtain⟨L,r,e1,e2,e3⟩:=List.map_eq_append_iff.1 h2;refine⟨L,r,e1,e2,by rw[e3,List.reverse_reverse],?_,?_⟩;·have:=congrArg List.length e2;simpa using this
 have:=congrArg List.length e3;simpa using this
theorem Fc(P:Pg)(V:Vs)(iw iv:dX->Nat)(x:Sm)(hop:x.op=116)(h1:vV P V iw iv x.one)(h2:vV P V iw iv x.two)(k1:oK V x.one)(k2:oK V x.two)(u1:uL P iw x.one)(u2:uL P iw x.two):vW P V iw iv x:=by
 intro s m S G hr hg hu hc;generalize hA:gL iw iv x.one (m.eD+1)=A;generalize hB:gL iw iv x.two (m.eD+1+A.length+1)=B;have hmk:lM iw iv x m.eD=[⟨15,m.eD+1+A.length+1,0⟩]++(A++([⟨16,m.eD+1+A.length+1+B.length,0⟩]++B)):=by unfold lM;rw[ah (by omega),ah (by omega),ah (by omega),aA hop];dsimp only;rw[hA,hB]
 have hco:qI x=3+lU x.one+lU x.two:=by unfold qI;rw[ah (by omega),ah (by omega),ah (by omega),aA hop]
 have hrun:iQ V x s=(let s1:=ig V x.one {s with eU:=s.eU++[[]]}
   if s1.over≠0\/s1.stop=true then s1
   else if s1.failed then(let s2:=mM {s1 with failed:=false};if s2.going then ig V x.two s2 else s2)
   else{s1 with eU:=jq s1.eU.dropLast (s1.eU.getLastD [])}):=by unfold iQ;rw[ah (by omega),ah (by omega),ah (by omega),aA hop]
 rw[hmk]at hc |-;rw[hco,hrun];have el:m.eD+([(⟨15,m.eD+1+A.length+1,0⟩:fC)]++(A++([(⟨16,m.eD+1+A.length+1+B.length,0⟩:fC)]++B))).length=m.eD+1+A.length+1+B.length:=by simp only[aC,aS];omega
 rw[el];have hca:=hc.right;simp only[aS]at hca;have hcb:=hca.right.right;simp only[aS]at hcb;have hs:kH P 1 m=some {m with fK:=(m.fV.length,m.st.length,m.eD+1+A.length+1)::m.fK,eD:=m.eD+1}:=step_ok hc.left.one hu rfl hr.fin;have hr0:Rel P V {s with eU:=s.eU++[[]]} {m with fK:=(m.fV.length,m.st.length,m.eD+1+A.length+1)::m.fK,eD:=m.eD+1} S ((S.length,m.eD+1+A.length+1)::G):=by
  refine⟨hr.held,hr.left,hr.eY,hr.st,?_,?_,?_,hr.fD,hr.fin,hr.ty⟩;·dsimp only;rw[hr.und];simp
  ·dsimp only;rw[frames,List.dropLast_concat,hr.fK,hr.Qb,hr.st]
  dsimp only;rw[aC,aG,hr.len]<;>rfl
 have Fd:Uq {s with eU:=s.eU++[[]]}=Uq s:=by unfold Uq;simp
 have hb:=h1 {s with eU:=s.eU++[[]]} _ S ((S.length,m.eD+1+A.length+1)::G) k1 u1 hr0 hg hu (by dsimp only;rw[hA];exact hca.left);dsimp only at hb;rw[hA,Fd]at hb;dsimp only;generalize ig V x.one {s with eU:=s.eU++[[]]}=s1 at hb;refine Post.after hs (n:=2+lU x.one+lU x.two+Uq s) ?_ (by omega);obtain⟨b1,b2,b3,k,m1,b4,b5,b6,b7,b8⟩|⟨b1,b2,b3,k,m1,t,b4,b5,b6,b8⟩|⟨b1,b2⟩:=hb
 ·rw[ah (by rw[b1,b2];simp),ah (by rw[b3];simp)];have hs2:kH P 1 m1=some {m1 with fK:=m1.fK.tail,eD:=m.eD+1+A.length+1+B.length}:=by refine step_ok (i:=⟨16,m.eD+1+A.length+1+B.length,0⟩) ?_ b7 rfl b5.fin;rw[b6];exact hca.right.left.one
  have hne:s1.eU.dropLast≠[]:=by
   intro e;have h3:=b5.len;have h4:s1.eU.dropLast.length=0:=by rw[e]<;>rfl
   rw[cK]at h4;simp at h3;omega
  refine ak ⟨b1,b2,b3,k+1,_,qp b4 hs2,⟨b5.held,b5.left,b5.eY,b5.st,?_,?_,?_,b5.fD,b5.fin,b5.ty⟩,rfl,b7,?_⟩;·dsimp only;rw[Mj hne,b5.und,Gs b5.ne]
  ·dsimp only;rw[b5.fK,frames,dM];exact VT (VU _ _).symm G
  ·dsimp only;rw[VW hne,cK,b5.len];simp
  have hu1:Uq {s1 with eU:=jq s1.eU.dropLast (s1.eU.getLastD [])}=Uq s1:=by unfold Uq;dsimp only;rw[Mj hne,<- Gs b5.ne]
  rw[hu1];omega
 ·rw[ah (by rw[b1,b2];simp),aA b3];obtain⟨L,r,e1,e2,e3,e4,e5⟩:=b5.split;have hfl:nQ m1=r.length:=by unfold nQ;rw[b5.fK,frames,e5]
  obtain⟨c1,c2,a,l,o,q,c3⟩:=VR P L r m1 {s1 with failed:=false,eU:=s1.eU.dropLast} b6 e1 hfl b5.fin b5.left b5.eY b5.fD b1 b2;have rG:mM {s1 with failed:=false}=ny (L.map (nA P)) {s1 with failed:=false,eU:=s1.eU.dropLast}:=by unfold mM;dsimp only;rw[e2]
  rw[rG];have Ff:Uq s1=3*L.length+3*s1.eU.dropLast.flatten.length:=by unfold Uq;rw[Gs b5.ne,aC,e4];omega
  generalize ny (L.map (nA P)) {s1 with failed:=false,eU:=s1.eU.dropLast}=s2 at c1 c2 c3;by_cases hg2:s2.going=true
  ·rw[aA hg2];obtain⟨q1,q2,q3⟩:=Ar.1 hg2;obtain⟨j,hj,hst⟩:=c2 q1 q2;have hbg:m1.fK=(r.length,S.length,m.eD+1+A.length+1)::frames s1.eU.dropLast G:=by rw[b5.fK,frames,e5]
   have hsb:kH P 1 {m1 with eY:=s2.eY,left:=s2.left,fV:=r}=some {m1 with eY:=s2.eY,left:=s2.left,fV:=r,jK:=false,fK:=frames s1.eU.dropLast G,st:=S,eD:=m.eD+1+A.length+1}:=by have h3:=De (P:=P) (m:={m1 with eY:=s2.eY,left:=s2.left,fV:=r}) b6 hbg rfl b5.fin;rw[h3];dsimp only;congr 2;rw[b5.st,aC,Nat.add_sub_cancel,List.drop_left]
   have hr2:Rel P V s2 {m1 with eY:=s2.eY,left:=s2.left,fV:=r,jK:=false,fK:=frames s1.eU.dropLast G,st:=S,eD:=m.eD+1+A.length+1} S G:=by
    refine⟨?_,rfl,rfl,rfl,?_,?_,?_,b5.fD,b5.fin,?_⟩;·rw[c3];exact b5.held
    ·rw[c3];exact e3
    ·rw[c3]
    ·rw[c3];dsimp only;rw[cK,b5.len];simp
    rw[c3];exact b5.ty
   have hp:=h2 s2 _ S G k2 u2 hr2 hg2 rfl (by dsimp only;rw[hB];exact hcb);dsimp only at hp;rw[hB]at hp;have Fk:Uq s2=3*s1.eU.dropLast.flatten.length:=by unfold Uq;rw[c3]
   rw[Fk]at hp;exact Post.after (qp b4 (qp hst hsb)) hp (by omega)
  rw[ah hg2];have hnot:s2.over≠0\/s2.stop=true:=by
   by_cases ho:s2.over=0
   ·refine aj ?_;by_cases hs3:s2.stop=true;·exact hs3
    exact absurd (Ar.2 ⟨ho,by simpa using hs3,by rw[c3]⟩) hg2
   exact ak ho
  refine aj (aj ⟨hnot,?_⟩);rw[show s2.held=m1.vars by rw[c3];exact b5.held.symm];exact(c1 hnot).after b4 (by omega)
 rw[aA b1];exact aj (aj ⟨b1,b2.mono (by omega)⟩)
theorem Em(P:Pg)(V:Vs)(iw iv:dX->Nat)(hiv:∀w i,jG V w=some i->iv w=i)(l:List Sm):vV P V iw iv l:=by
 match l with
 |[]=>intro s m S G _ _ hr hg hu _;rw[CP,Gq,P7];obtain⟨q1,q2,q3⟩:=Ar.1 hg;exact ak ⟨q1,q2,q3,0,m,rfl,hr,rfl,hu,by omega⟩
 |⟨op,eH,pl,ex,gH,gG,undo,n,gZ,one,two⟩::rest=>
 intro s m S G hk Qf hr hg hu hc;rw[Ei]at hc;rw[Ei,Ed,aA hg,VJ];obtain⟨k1,k2,k3,k4⟩:=Bc.1 hk;obtain⟨u1,u2,u3,u4⟩:=VX.1 Qf;have hx:vW P V iw iv ⟨op,eH,pl,ex,gH,gG,undo,n,gZ,one,two⟩:=by
  dsimp only at k1 k2 k3 u1 u2 u3;have k1':=k1;obtain h|h|h|h|h|h:=k1;·exact Ds P V iw iv hiv _ h.1 k1'
  ·exact D0 P V iw iv hiv _ h.1 k1' (u1 h.1)
  ·exact Eg P V iw iv hiv _ h.1 k1' (Em P V iw iv hiv one) (Em P V iw iv hiv two) (k2 (ak h.1)) (k3 (ak h.1)) (u2 (ak h.1)) (u3 (ak h.1))
  ·exact Fc P V iw iv _ h (Em P V iw iv hiv one) (Em P V iw iv hiv two) (k2 (aj (ak h))) (k3 (aj h)) (u2 (aj (ak h))) (u3 (aj h))
  ·exact Ex P V iw iv _ h.1 h.2 (Em P V iw iv hiv one) (k2 (aj (aj h.1))) (u2 (aj (aj h.1)))
  exact E6 P V iw iv _ h
 generalize (⟨op,eH,pl,ex,gH,gG,undo,n,gZ,one,two⟩:Sm)=x at *;have hp:=hx s m S G hr hg hu hc.left;refine Post.seq (S':=[]) (f:=ig V rest) hp (fun h=>Gm V rest h) (N:=qI x+lU rest+Uq s) (by omega) ?_;intro k m' hk' hr' hp' hu' hb' hg';have hc2:=hc.right;rw[<- hp']at hc2;have:=Em P V iw iv hiv rest (iQ V x s) m' S G k4 u4 hr' hg' hu' (by rw[hp']at hc2 |-;exact hc2);rw[hp']at this;rw[aC,<- dL];exact this.mono (by omega)
theorem Fl(P:Pg)(V:Vs)(iw iv:dX->Nat)(hiv:∀w i,jG V w=some i->iv w=i)(l:List Sm)(hk:oK V l)(Qf:uL P iw l)(hins:P.ins=gL iw iv l 0)(Mv:P.nv=V.length)(fU:List Int)(N:Nat)(hN:lU l+2<=N):∃m,gJ P N ⟨[],List.replicate P.nv 0,[],[],[],fU,0,0,false,0⟩=((play V l fU).over,m)/\m.eY=(play V l fU).eY/\m.vars=(play V l fU).held/\m.fin=(play V l fU).over:=by
 have hr:Rel P V ⟨List.replicate V.length 0,fU,[],[[]],0,false,false⟩ ⟨[],List.replicate P.nv 0,[],[],[],fU,0,0,false,0⟩ [] []:=by refine⟨by rw[Mv],rfl,rfl,rfl,rfl,rfl,rfl,rfl,rfl,⟨by simp,fun i hi _=>ak ?_⟩⟩;dsimp only;rw[aL,List.getElem?_replicate];split<;>rfl
 have hc:jT P 0 (gL iw iv l 0):=fun j _=>by rw[hins,cZ]
 have hp:=Em P V iw iv hiv l _ _ [] [] hk Qf hr rfl rfl hc;have hU:Uq ⟨List.replicate V.length 0,fU,[],[[]],0,false,false⟩=0:=rfl;rw[hU]at hp;dsimp only at hp;have ends:∀{f:Nat}{eY:List iL}{vars:List Int},mP P ⟨[],List.replicate P.nv 0,[],[],[],fU,0,0,false,0⟩ N f eY vars->∃m,gJ P N ⟨[],List.replicate P.nv 0,[],[],[],fU,0,0,false,0⟩=(f,m)/\m.eY=eY/\m.vars=vars/\m.fin=f:=by rintro f eY vars ⟨k,m1,m2,e1,e2,e3,e4,e6,e5⟩;refine⟨m2,?_,e4,e6,e3⟩;rw[VI e1 (by omega),Cs e2 (by omega),e3]
 unfold play;generalize ig V l ⟨List.replicate V.length 0,fU,[],[[]],0,false,false⟩=s1 at hp;refine ends ?_;unfold jH;obtain⟨b1,b2,b3,k,m1,b4,b5,b6,b7,b8⟩|⟨b1,b2,b3,k,m1,t,b4,b5,b6,b8⟩|⟨b1,b2⟩:=hp
 ·rw[ah (by rw[b1,b2];simp),ah (by rw[b3];simp)];refine⟨k,m1,{m1 with fin:=1},b4,?_,rfl,b5.eY,b5.held,by omega⟩;unfold kg jB;have hno:P.ins[m1.eD]?=none:=by rw[b6,hins];simp
  rw[ah (by simp[b7]),hno];all_goals rfl
 ·rw[ah (by rw[b1,b2];simp),aA b3];obtain⟨L,r,e1,e2,e3,e4,e5⟩:=b5.split;have hlen:=b5.len;simp only[aV,cZ]at hlen;have hdrop:s1.eU.dropLast=[]:=bA.1 (by rw[cK,hlen]);have hr0:r=[]:=bA.1 (by rw[e5,hdrop]<;>rfl);subst hr0;have hfl:nQ m1=([]:List (Nat×Int)).length:=by unfold nQ;rw[b5.fK];all_goals rfl
  obtain⟨c1,c2,a,l',o,q,c3⟩:=VR P L [] m1 {s1 with eU:=s1.eU.dropLast} b6 e1 hfl b5.fin b5.left b5.eY b5.fD b1 b2;have rG:mM s1=ny (L.map (nA P)) {s1 with eU:=s1.eU.dropLast}:=by unfold mM;rw[e2]
  rw[rG];have Ff:Uq s1=3*L.length:=by unfold Uq;rw[Gs b5.ne,hdrop,e4];simp
  generalize ny (L.map (nA P)) {s1 with eU:=s1.eU.dropLast}=s2 at c1 c2 c3;dsimp only;by_cases hg2:s2.over=0/\s2.stop=false
  ·rw[aA hg2];obtain⟨j,hj,hst⟩:=c2 hg2.1 hg2.2;refine mP.after (qp b4 hst) ⟨0,_,_,rfl,Do b6 ?_ rfl,rfl,rfl,?_,ay _⟩ (by omega);·dsimp only;rw[b5.fK]<;>rfl
   dsimp only;rw[c3];exact b5.held
  rw[ah hg2];have hnot:s2.over≠0\/s2.stop=true:=by
   by_cases ho:s2.over=0
   ·refine aj ?_;by_cases hs3:s2.stop=true;·exact hs3
    exact absurd ⟨ho,by simpa using hs3⟩ hg2
   exact ak ho
  rw[show s2.held=m1.vars by rw[c3];exact b5.held.symm];exact(c1 hnot).after b4 (by omega)
 rw[aA b1];exact b2.mono (by omega)
def Bg(s:dX)(g:eO->Except Nat (fG×eO)):Prop:=∀st x st',Tk s st.t->g st=.ok (x,st')->qo x/\jQ x+st.t.a<=st'.t.a/\(0<=st.fu->0<=st'.fu)
theorem VY(x:fG)(a:Nat):jQ {x with pl:=a}=jQ x:=by match x with| ⟨_,_,_,_,_,none,_⟩=>rfl| ⟨_,_,_,_,_,some _,none⟩=>rfl| ⟨_,_,_,_,_,some _,some _⟩=>rfl
theorem qo.eD{x:fG}(h:qo x)(a:Nat):qo {x with pl:=a}:=by match x with| ⟨_,_,_,_,_,none,_⟩=>exact h| ⟨_,_,_,_,_,some _,none⟩=>exact h| ⟨_,_,_,_,_,some _,some _⟩=>exact h
variable{st st':eO}
theorem VZ(h:0<=st.fu):0<=(dn st).fu:=by show 0<=um st.eP st.fu st.t.a;unfold um;split<;>omega
theorem Fm{g:eO->Except Nat (fG×eO)}(hg:fP s g)(hs:Bg s g)(a b:UInt8)(n:Nat):∀(pl lo:Nat)(e:fG)(st:eO)(x:fG)(st':eO),Tk s st.t->qo e->jQ e+lo<=st.t.a->gQ s g a b n pl e st=.ok (x,st')->qo x/\jQ x+lo<=st'.t.a/\(0<=st.fu->0<=st'.fu):=by
 induction n with| zero=>intro pl lo e st x st' _ _ _ h;simp[gQ]at h| succ n ih=>
 intro pl lo e st x st' ht he hle h;rw[gQ]at h;split at h
 ·rename_i ho;have g0:=jh ht ho;have l0:=g0.lt;cases hp:g (eZ s st)with
  |error p=>rw[hp]at h;cases h
  |ok r=>
  obtain⟨k,st1⟩:=r;rw[hp]at h;have g1:=hg _ _ _ g0.tk hp;obtain⟨k1,k2,k3⟩:=hs _ _ _ g0.tk hp;obtain⟨i1,i2,i3⟩:=ih pl lo ⟨a.toNat,0,iF,pl,st.t.a,some e,some k⟩ _ _ _ g1.tk ⟨he,k1⟩ (by simp only[jQ];omega) h;exact⟨i1,i2,fun hd=>i3 (k3 hd)⟩
 split at h
 ·rename_i ho;have g0:=jh ht ho;have l0:=g0.lt;cases hp:g (eZ s st)with
  |error p=>rw[hp]at h;cases h
  |ok r=>
  obtain⟨k,st1⟩:=r;rw[hp]at h;have g1:=hg _ _ _ g0.tk hp;obtain⟨k1,k2,k3⟩:=hs _ _ _ g0.tk hp;obtain⟨i1,i2,i3⟩:=ih pl lo ⟨b.toNat,0,iF,pl,st.t.a,some e,some k⟩ _ _ _ g1.tk ⟨he,k1⟩ (by simp only[jQ];omega) h;exact⟨i1,i2,fun hd=>i3 (k3 hd)⟩
 cases h;exact⟨he,hle,id⟩
theorem V4{g:eO->Except Nat (fG×eO)}(hg:fP s g)(hs:Bg s g)(a b:UInt8):Bg s (row s g a b):=by
 intro st x st' ht h;unfold row at h;cases hp:g st with
 |error p=>rw[hp]at h;cases h
 |ok r=>
 obtain⟨e,st1⟩:=r;rw[hp]at h;have g1:=hg _ _ _ ht hp;obtain⟨k1,k2,k3⟩:=hs _ _ _ ht hp;obtain⟨i1,i2,i3⟩:=Fm hg hs _ _ _ _ _ _ _ _ _ g1.tk k1 k2 h;exact⟨i1,i2,fun hd=>i3 (k3 hd)⟩
theorem V6{g:eO->Except Nat (fG×eO)}(hg:fP s g)(hs:Bg s g):Bg s (sum s g):=V4 (D7 hg) (V4 hg hs _ _) _ _
theorem V7{g:eO->Except Nat (fG×eO)}(hg:fP s g)(hs:Bg s g):Bg s (expr s g):=by
 intro st x st' ht h;unfold expr at h;cases hp:sum s g st with
 |error p=>rw[hp]at h;cases h
 |ok r=>
 obtain⟨e,st1⟩:=r;rw[hp]at h;simp only at h;have g1:=AY hg _ _ _ ht hp;obtain⟨j1,j2,j3⟩:=V6 hg hs _ _ _ ht hp;cases hc:qU s st1.t with
 |none=>rw[hc]at h;cases h;exact⟨j1,j2,j3⟩
 |some o=>
 rw[hc]at h;simp only at h;have hk:=Gd hc;have g0:iV s st1 (eZ s st1):=wJ g1.tk (by rw[hk];decide) (by rw[hk];decide);have l0:=g0.lt;cases hq:sum s g (eZ s st1)with
 |error p=>rw[hq]at h;cases h
 |ok r2=>
 obtain⟨k,st2⟩:=r2;rw[hq]at h;obtain⟨i1,i2,i3⟩:=V6 hg hs _ _ _ g0.tk hq;cases h;exact⟨⟨j1,i1⟩,by simp only[jQ];omega,fun hd=>i3 (j3 hd)⟩
theorem Fo(s:dX)(n:Nat):Bg s (fH s n):=by
 induction n with| zero=>intro st x st' _ h;simp[fH]at h| succ n ih=>
 intro st x st' ht h;have hgo:=rE s (n+1) _ _ _ ht h;have hlt:=hgo.lt;rw[fH]at h;split at h;·cases h;exact⟨fun h=>absurd h (by decide),by simp only[jo,jQ];omega,id⟩
 split at h;·cases h;exact⟨fun h=>absurd h (by decide),by simp only[jo,jQ];omega,id⟩
 split at h;·cases h;exact⟨fun _=>ay _,by simp only[jo,jQ];omega,id⟩
 split at h;·cases h;exact⟨fun _=>aQ _,by simp only[jo,jQ];omega,id⟩
 split at h
 ·rename_i ho;have g0:=jh ht ho;have l0:=g0.lt;cases hp:fH s n (eZ s st)with
  |error p=>rw[hp]at h;cases h
  |ok r=>
  obtain⟨k,st1⟩:=r;rw[hp]at h;obtain⟨k1,k2,k3⟩:=ih _ _ _ g0.tk hp;cases h;exact⟨k1,by simp only[jQ];omega,k3⟩
 split at h
 ·rename_i ho;have g0:=jh (st:=dn st) ht ho;have l0:st.t.a<(eZ s (dn st)).t.a:=g0.lt;cases hp:expr s (fH s n) (eZ s (dn st))with
  |error p=>rw[hp]at h;cases h
  |ok r=>
  obtain⟨k,st1⟩:=r;have g1:=CJ (rE s n) _ _ _ g0.tk hp;obtain⟨k1,k2,k3⟩:=V7 (rE s n) ih _ _ _ g0.tk hp;rw[hp]at h;simp only at h;split at h;·rename_i ho2;have g2:=jh g1.tk ho2;have l3:st1.t.a<(rC (eZ s st1)).t.a:=g2.lt;cases h;exact⟨k1.eD _,by rw[VY];omega,fun hd=>k3 (VZ hd)⟩
  cases h
 cases h
theorem Qg(s:dX):Bg s (lG s):=V7 (rE s _) (Fo s _)
theorem V8(h:kind s k st=.ok st'):st.t.k=k/\st'=eZ s st:=by
 unfold kind at h;split at h;·rename_i hk;cases h;exact⟨hk,rfl⟩
 cases h
def kD(d:Nat):Nat:=2*9^(4-d)
theorem Gu(h:d<=4):(d=0/\kD d=13122/\kD (d+1)=1458)\/(d=1/\kD d=1458/\kD (d+1)=162)\/(d=2/\kD d=162/\kD (d+1)=18)\/(d=3/\kD d=18/\kD (d+1)=2)\/(d=4/\kD d=2):=by
 have:d=0\/d=1\/d=2\/d=3\/d=4:=by omega
 obtain rfl|rfl|rfl|rfl|rfl:=this<;>simp[kD]
def V9(x:Sm):Prop:=(∀e,x.ex=some e->qo e)/\tX x.one/\tX x.two
def xC(s:dX)(V:Vs)(g:eO->Except Nat (Sm×eO)):Prop:=∀st x st',Tk s st.t->g st=.ok (x,st')->V9 x/\(0<=st.fu->0<=st'.fu)/\∀d:Nat,st.eP=d->d<=4->st'.fu<0->oK V [x]->qI x+kD d*st.t.a<=kD d*st'.t.a
variable{g:eO->Except Nat (Sm×eO)}
theorem Qh(hg:fP s g)(hs:xC s V g)(stop:eO->Bool)(n:Nat):∀(l:List Sm)(st:eO)(x:List Sm)(st':eO),Tk s st.t->gy s g stop n l st=.ok (x,st')->∃y,x=l++y/\tX y/\(0<=st.fu->0<=st'.fu)/\∀d:Nat,st.eP=d->d<=4->st'.fu<0->oK V y->lU y+kD d*st.t.a<=kD d*st'.t.a:=by
 induction n with
 |zero=>intro l st x st' _ h;simp[gy]at h
 |succ n ih=>
 intro l st x st' ht h;rw[gy]at h;split at h;·cases h;exact⟨[],by simp,Bf,id,fun d _ _ _ _=>by rw[P7];omega⟩
 cases hp:g st with
 |error p=>rw[hp]at h;cases h
 |ok r=>
 obtain⟨y,st1⟩:=r;rw[hp]at h;have g1:=hg _ _ _ ht hp;obtain⟨m1,m2,m3⟩:=hs _ _ _ ht hp;obtain⟨z,i1,i2,i3,i4⟩:=ih _ _ _ _ g1.tk h;refine⟨y::z,by rw[i1,aM]<;>rfl,VG.2 ⟨m1.1,m1.2.1,m1.2.2,i2⟩,fun hd=>i3 (m2 hd),fun d hn hd hdp hok=>?_⟩;obtain⟨o1,o2,o3,o4⟩:=Bc.1 hok;have hd1:st1.fu<0:=by
  obtain h|h:=Int.lt_or_le st1.fu 0;·exact h
  have:=i3 h;omega
 have a1:=m3 d hn hd hd1 (Bc.2 ⟨o1,o2,o3,VF V⟩);have a2:=i4 d (by rw[g1.eP];exact hn) hd hdp o4;rw[VJ];omega
theorem IY(hg:fP s g)(hs:xC s V g){x:List Sm}(ht:Tk s st.t)(h:block s g st=.ok (x,st')):tX x/\(0<=st.fu->0<=st'.fu)/\∀d:Nat,st.eP=d->d<=4->st'.fu<0->oK V x->d<4/\lU x+kD (d+1)*(st.t.a+2)<=kD (d+1)*st'.t.a:=by
 unfold block at h;split at h
 ·rename_i ho;have g0:=jh (st:=dn st) ht ho;have l0:st.t.a<(eZ s (dn st)).t.a:=g0.lt;cases hp:gy s g (fun st=>gN s st.t ⟨#[125]⟩) (s.size+1) [] (eZ s (dn st))with
  |error p=>rw[hp]at h;cases h
  |ok r=>
  obtain⟨l,st1⟩:=r;rw[hp]at h;obtain⟨y,i1,i2,i3,i4⟩:=Qh hg hs _ _ _ _ _ _ g0.tk hp;obtain⟨g1,g2⟩:=yt hg _ _ _ _ _ _ g0.tk hp;have g3:=jh g1.tk g2;have l3:st1.t.a<(rC (eZ s st1)).t.a:=g3.lt;simp only[dz]at i1;cases h;subst i1;refine⟨i2,fun hd=>i3 (VZ hd),fun d hn hd hdp hok=>?_⟩;have hd1:st1.fu<0:=hdp;have hd0:(dn st).fu<0:=by
   obtain h|h:=Int.lt_or_le (dn st).fu 0;·exact h
   have:0<=st1.fu:=i3 h;omega
  have hlt:d<4:=by
   have e:(dn st).fu=um st.eP st.fu st.t.a:=rfl;rw[e]at hd0;unfold um at hd0;split at hd0;·omega
   rename_i hc;omega
  have a:=i4 (d+1) (by show st.eP+1=((d+1:Nat):Int);omega) (by omega) hd1 hok;refine⟨hlt,?_⟩;obtain⟨_,_,e⟩|⟨_,_,e⟩|⟨_,_,e⟩|⟨_,_,e⟩|⟨_,_⟩:=Gu hd;·rw[e]at a |-;omega
  ·rw[e]at a |-;omega
  ·rw[e]at a |-;omega
  ·rw[e]at a |-;omega
  omega
 cases h
theorem Wd(h:0<=st.fu->0<=st'.fu)(h':st'.fu<0):st.fu<0:=by
 obtain g|g:=Int.lt_or_le st.fu 0;·exact g
 have:=h g;omega
theorem Qi(h:d<=4):kD d=13122\/kD d=1458\/kD d=162\/kD d=18\/kD d=2:=by obtain h|h|h|h|h:=Gu h<;>omega
theorem Mw:∀e,(none:Option fG)=some e->qo e:=fun e h=>by cases h
theorem Mx{e:fG}(h:qo e):∀e',some e=some e'->qo e':=fun e' h'=>by cases h';exact h
theorem Fs(s:dX)(V:Vs):xC s V (mF s):=by
 intro st x st' ht h;unfold mF at h;cases h1:kind s 119 st with
 |error p=>rw[h1]at h;cases h
 |ok st1=>
 rw[h1]at h;simp only at h;have g1:=qA ht (by decide) (by decide) h1;have d1:st1.fu=st.fu:=by rw[(V8 h1).2]<;>rfl
 cases h2:need s ⟨#[61]⟩ st1 with
 |error p=>rw[h2]at h;cases h
 |ok st2=>
 rw[h2]at h;simp only at h;have g2:=og g1.tk h2;have d2:st2.fu=st1.fu:=by unfold need at h2;split at h2<;>cases h2;rfl
 cases h3:lG s st2 with
 |error p=>rw[h3]at h;cases h
 |ok r=>
 obtain⟨e,jg⟩:=r;rw[h3]at h;simp only at h;have g3:=uJ s _ _ _ g2.tk h3;obtain⟨e1,e2,e3⟩:=Qg s _ _ _ g2.tk h3;cases h4:need s ⟨#[59]⟩ jg with
 |error p=>rw[h4]at h;cases h
 |ok lH=>
 have g4:=og g3.tk h4;have d4:lH.fu=jg.fu:=by unfold need at h4;split at h4<;>cases h4;rfl
 rw[h4]at h;cases h;have l1:=g1.lt;have l2:=g2.lt;have l4:=g4.lt;refine⟨⟨Mx e1,Bf,Bf⟩,fun hd=>by rw[d4];exact e3 (by rw[d2,d1];exact hd),fun d _ hd _ _=>?_⟩;have hc:qI {jY with op:=108,eH:=txt s st.t,pl:=st.t.a,ex:=some e}=jQ e+1:=rfl;rw[hc];obtain k|k|k|k|k:=Qi hd<;>rw[k]<;>omega
theorem Gv{x:dX}(h:need s x st=.ok st'):st'.fu=st.fu:=by
 unfold need at h;split at h;·cases h;rfl
 cases h
theorem IZ(h:kind s k st=.ok st'):st'.fu=st.fu:=by rw[(V8 h).2]<;>rfl
theorem Ft(s:dX)(V:Vs):xC s V (call s):=by
 intro st x st' ht h;unfold call at h;cases h1:kind s 119 st with
 |error p=>rw[h1]at h;cases h
 |ok st1=>
 rw[h1]at h;simp only at h;have g1:=qA ht (by decide) (by decide) h1;have d1:=IZ h1;cases h2:need s ⟨#[40]⟩ st1 with
 |error p=>rw[h2]at h;cases h
 |ok st2=>
 rw[h2]at h;simp only at h;have g2:=og g1.tk h2;have d2:=Gv h2;generalize hz:({jY with op:=99,eH:=txt s st.t,pl:=st.t.a,n:=1}:Sm)=x2 at h;have z0:x2.op=99/\x2.n=1/\x2.undo.size=0/\x2.ex=none/\x2.one=[]/\x2.two=[]:=by rw[<- hz];exact⟨rfl,rfl,rfl,rfl,rfl,rfl⟩
 cases h3:nK s x2 st2 with
 |error p=>rw[h3]at h;cases h
 |ok r=>
 obtain⟨x3,jg⟩:=r;rw[h3]at h;simp only at h;have g3:=IG g2.tk h3;have z3:x3.op=99/\x3.n=1/\x3.undo.size=0/\x3.one=[]/\x3.two=[]/\(∀e,x3.ex=some e->qo e)/\kC x3.ex+st2.t.a<=jg.t.a+1/\(0<=st2.fu->0<=jg.fu):=by
  unfold nK at h3;split at h3;·cases h3;exact⟨z0.1,z0.2.1,z0.2.2.1,z0.2.2.2.2.1,z0.2.2.2.2.2,by rw[z0.2.2.2.1];exact Mw,by rw[z0.2.2.2.1];simp only[kC];omega,id⟩
  cases hp:lG s st2 with
  |error p=>rw[hp]at h3;cases h3
  |ok r=>
  obtain⟨e,Eb⟩:=r;rw[hp]at h3;obtain⟨e1,e2,e3⟩:=Qg s _ _ _ g2.tk hp;cases h3;exact⟨z0.1,z0.2.1,z0.2.2.1,z0.2.2.2.2.1,z0.2.2.2.2.2,Mx e1,by simp only[kC];omega,e3⟩
 cases h4:need s ⟨#[41]⟩ jg with
 |error p=>rw[h4]at h;cases h
 |ok lH=>
 rw[h4]at h;simp only at h;have g4:=og g3.tk h4;have d4:=Gv h4;cases h5:ng s x3 lH with
 |error p=>rw[h5]at h;cases h
 |ok r5=>
 obtain⟨x5,mD⟩:=r5;rw[h5]at h;simp only at h;have g5:=IB g4.tk h5;have z5:x5.op=99/\x5.n=1/\x5.undo.size=0/\x5.one=[]/\x5.two=[]/\x5.ex=x3.ex/\mD.fu=lH.fu:=by
  unfold ng at h5;split at h5
  ·cases hp:kind s 119 (eZ s lH)with
   |error p=>rw[hp]at h5;cases h5
   |ok st'=>
   rw[hp]at h5;have:=IZ hp;cases h5;exact⟨z3.1,z3.2.1,z3.2.2.1,z3.2.2.2.1,z3.2.2.2.2.1,rfl,this⟩
  cases h5;exact⟨z3.1,z3.2.1,z3.2.2.1,z3.2.2.2.1,z3.2.2.2.2.1,rfl,rfl⟩
 cases h6:nT s x5 mD with
 |error p=>rw[h6]at h;cases h
 |ok r6=>
 obtain⟨x6,oq⟩:=r6;rw[h6]at h;simp only at h;have g6:=IC g5.tk h6;have z6:x6.op=99/\x6.n=1/\x6.one=[]/\x6.two=[]/\x6.ex=x5.ex/\oq.fu=mD.fu/\(if x6.undo.size=0 then 0 else 4)+2*mD.t.a<=2*oq.t.a:=by
  unfold nT at h6;split at h6
  ·rename_i ho;have g0:=jh g5.tk ho;have l0:=g0.lt;cases hp:kind s 119 (eZ s mD)with
   |error p=>rw[hp]at h6;cases h6
   |ok st'=>
   rw[hp]at h6;have:=IZ hp;have l1:=(qA g0.tk (by decide) (by decide) hp).lt;cases h6;exact⟨z5.1,z5.2.1,z5.2.2.2.1,z5.2.2.2.2.1,rfl,this,by split<;>omega⟩
  cases h6;exact⟨z5.1,z5.2.1,z5.2.2.2.1,z5.2.2.2.2.1,rfl,rfl,by rw[aA z5.2.2.1];omega⟩
 cases h7:oP s x6 oq with
 |error p=>rw[h7]at h;cases h
 |ok r7=>
 obtain⟨x7,qV⟩:=r7;rw[h7]at h;simp only at h;have g7:=IE g6.tk h7;have z7:x7.op=99/\x7.one=[]/\x7.two=[]/\x7.ex=x6.ex/\x7.undo=x6.undo/\qV.fu=oq.fu/\(x7.n<=5->x7.n+2*oq.t.a<=2*qV.t.a+1):=by
  unfold oP at h7;split at h7
  ·rename_i ho;have g0:=jh g6.tk ho;have l0:=g0.lt;cases hp:kind s 110 (eZ s oq)with
   |error p=>rw[hp]at h7;cases h7
   |ok st'=>
   rw[hp]at h7;have:=IZ hp;have l8:=(qA g0.tk (by decide) (by decide) hp).lt;cases h7;exact⟨z6.1,z6.2.2.1,z6.2.2.2.1,rfl,rfl,this,fun _=>by simp only at *;omega⟩
  cases h7;exact⟨z6.1,z6.2.2.1,z6.2.2.2.1,rfl,rfl,rfl,fun _=>by rw[z6.2.1];omega⟩
 cases h8:need s ⟨#[59]⟩ qV with
 |error p=>rw[h8]at h;cases h
 |ok wH=>
 have g8:=og g7.tk h8;have d8:=Gv h8;rw[h8]at h;cases h;have l1:=g1.lt;have l2:=g2.lt;have l4:=g4.lt;have l8:=g8.lt;have l3:=g3.le;have l5:=g5.le;have l6:=g6.le;have l7:=g7.le;have he:x.ex=x3.ex:=by rw[z7.2.2.2.1,z6.2.2.2.2.1,z5.2.2.2.2.2.1]
 refine⟨⟨by rw[he];exact z3.2.2.2.2.2.1,by rw[z7.2.1];exact Bf,by rw[z7.2.2.1];exact Bf⟩,fun hd=>?_,fun d _ hd _ hok=>?_⟩;·have:=z3.2.2.2.2.2.2.2 (by rw[d2,d1];exact hd);rw[d8,z7.2.2.2.2.2.1,z6.2.2.2.2.2.1,z5.2.2.2.2.2.2,d4];exact this
 have hn:x.n<=5:=by
  have:=(Bc.1 hok).1;have h9:=z7.1;obtain h|h|h|h|h|h:=this;·omega
  ·exact h.2.2.2.2
  ·omega
  ·omega
  ·omega
  omega
 have hco:qI x=kC x.ex+x.n+(if x.undo.size=0 then 0 else 4)+1:=by unfold qI;rw[ah (by have:=z7.1;omega),aA z7.1]
 rw[hco,he,z7.2.2.2.2.1];have q3:=z3.2.2.2.2.2.2.1;have q6:=z6.2.2.2.2.2.2;have q7:=z7.2.2.2.2.2.2 hn;generalize (if x6.undo.size=0 then 0 else 4)=u at *;obtain k|k|k|k|k:=Qi hd<;>rw[k]<;>omega
theorem MB(h:oK V [x])(ho:x.op=105\/x.op=116\/x.op=114):oK V x.one:=(Bc.1 h).2.1 ho
theorem Wh(h:oK V [x])(ho:x.op=105\/x.op=116):oK V x.two:=(Bc.1 h).2.2.1 ho
theorem F2(hg:fP s g)(hs:xC s V g):xC s V (rD s g):=by
 intro st x st' ht h;unfold rD at h;cases h1:lG s st with
 |error p=>rw[h1]at h;cases h
 |ok r=>
 obtain⟨e,st1⟩:=r;rw[h1]at h;simp only at h;have g1:=uJ s _ _ _ ht h1;obtain⟨e1,e2,e3⟩:=Qg s _ _ _ ht h1;cases h2:block s g st1 with
 |error p=>rw[h2]at h;cases h
 |ok r=>
 obtain⟨l,st2⟩:=r;rw[h2]at h;simp only at h;have g2:=qW hg _ _ _ g1.tk h2;obtain⟨m1,m2,m3⟩:=IY hg hs g1.tk h2;split at h
 ·rename_i ho;have g3:=jh g2.tk ho;have l3:=g3.lt;cases h4:block s g (eZ s st2)with
  |error p=>rw[h4]at h;cases h
  |ok r=>
  obtain⟨m,jg⟩:=r;obtain⟨n1,n2,n3⟩:=IY hg hs g3.tk h4;rw[h4]at h;cases h;refine⟨⟨Mx e1,m1,n1⟩,fun hd=>n2 (m2 (e3 hd)),fun d hn hd hdp hok=>?_⟩;have d2:st2.fu<0:=Wd (st:=st2) n2 hdp;have a1:=m3 d (by rw[g1.eP];exact hn) hd d2 (MB hok (ak rfl));have a2:=n3 d (by show st2.eP=_;rw[g2.eP,g1.eP];exact hn) hd hdp (Wh hok (ak rfl));have hc:qI {jY with op:=105,ex:=some e,one:=l,two:=m}=jQ e+2+lU l+lU m:=rfl;rw[hc];obtain⟨_,k,k'⟩|⟨_,k,k'⟩|⟨_,k,k'⟩|⟨_,k,k'⟩|⟨_,k⟩:=Gu hd;·rw[k']at a1 a2;rw[k];omega
  ·rw[k']at a1 a2;rw[k];omega
  ·rw[k']at a1 a2;rw[k];omega
  ·rw[k']at a1 a2;rw[k];omega
  omega
 cases h;refine⟨⟨Mx e1,m1,Bf⟩,fun hd=>m2 (e3 hd),fun d hn hd hdp hok=>?_⟩;have a1:=m3 d (by rw[g1.eP];exact hn) hd hdp (MB hok (ak rfl));have hc:qI {jY with op:=105,ex:=some e,one:=l}=jQ e+2+lU l+lU []:=rfl;rw[hc,P7];obtain⟨_,k,k'⟩|⟨_,k,k'⟩|⟨_,k,k'⟩|⟨_,k,k'⟩|⟨_,k⟩:=Gu hd;·rw[k']at a1;rw[k];omega
 ·rw[k']at a1;rw[k];omega
 ·rw[k']at a1;rw[k];omega
 ·rw[k']at a1;rw[k];omega
 omega
theorem G3(hg:fP s g)(hs:xC s V g):xC s V (mG s g):=by
 intro st x st' ht h;unfold mG at h;cases h1:block s g st with
 |error p=>rw[h1]at h;cases h
 |ok r=>
 obtain⟨l,st1⟩:=r;rw[h1]at h;simp only at h;have g1:=qW hg _ _ _ ht h1;obtain⟨m1,m2,m3⟩:=IY hg hs ht h1;cases h2:need s ⟨#[101,108,115,101]⟩ st1 with
 |error p=>rw[h2]at h;cases h
 |ok st2=>
 rw[h2]at h;simp only at h;have g2:=og g1.tk h2;have d2:=Gv h2;have l2:=g2.lt;cases h3:block s g st2 with
 |error p=>rw[h3]at h;cases h
 |ok r=>
 obtain⟨m,jg⟩:=r;obtain⟨n1,n2,n3⟩:=IY hg hs g2.tk h3;rw[h3]at h;cases h;refine⟨⟨Mw,m1,n1⟩,fun hd=>n2 (by rw[d2];exact m2 hd),fun d hn hd hdp hok=>?_⟩;have dd:st2.fu<0:=Wd n2 hdp;have a1:=m3 d hn hd (by rw[<- d2];exact dd) (MB hok (aj (ak rfl)));have a2:=n3 d (by rw[g2.eP,g1.eP];exact hn) hd hdp (Wh hok (aj rfl));have hc:qI {jY with op:=116,one:=l,two:=m}=3+lU l+lU m:=rfl;rw[hc];obtain⟨_,k,k'⟩|⟨_,k,k'⟩|⟨_,k,k'⟩|⟨_,k,k'⟩|⟨_,k⟩:=Gu hd;·rw[k']at a1 a2;rw[k];omega
 ·rw[k']at a1 a2;rw[k];omega
 ·rw[k']at a1 a2;rw[k];omega
 ·rw[k']at a1 a2;rw[k];omega
 omega
theorem G4(hg:fP s g)(hs:xC s V g):xC s V (sG s g):=by
 intro st x st' ht h;unfold sG at h;cases h1:kind s 110 st with
 |error p=>rw[h1]at h;cases h
 |ok st1=>
 rw[h1]at h;simp only at h;have g1:=qA ht (by decide) (by decide) h1;have l1:=g1.lt;have d1:=IZ h1;cases h2:block s g st1 with
 |error p=>rw[h2]at h;cases h
 |ok r=>
 obtain⟨m,jg⟩:=r;obtain⟨m1,m2,m3⟩:=IY hg hs g1.tk h2;rw[h2]at h;cases h;refine⟨⟨Mw,m1,Bf⟩,fun hd=>m2 (by rw[d1];exact hd),fun d hn hd hdp hok=>?_⟩;have a1:=m3 d (by rw[g1.eP];exact hn) hd hdp (MB hok (aj (aj rfl)));have Wi:iq (txt s st.t).toList<=9:=by
  have h0:=(Bc.1 hok).1;dsimp only at h0;obtain h|h|h|h|h|h:=h0;·omega
  ·omega
  ·omega
  ·omega
  ·exact h.2
  omega
 have hc:qI {jY with op:=114,n:=iq (txt s st.t).toList,gZ:=st.t.a,one:=m}=2+iq (txt s st.t).toList*(lU m+2):=rfl;have hm:iq (txt s st.t).toList*(lU m+2)<=9*(lU m+2):=Nat.mul_le_mul_right _ Wi;rw[hc];obtain⟨_,k,k'⟩|⟨_,k,k'⟩|⟨_,k,k'⟩|⟨_,k,k'⟩|⟨_,k⟩:=Gu hd;·rw[k']at a1;rw[k];omega
 ·rw[k']at a1;rw[k];omega
 ·rw[k']at a1;rw[k];omega
 ·rw[k']at a1;rw[k];omega
 omega
theorem xC.behind(hs:xC s V g)(ht:Tk s st.t)(ho:gN s st.t w=true)(h:g (eZ s st)=.ok (x,st')):V9 x/\(0<=st.fu->0<=st'.fu)/\∀d:Nat,st.eP=d->d<=4->st'.fu<0->oK V [x]->qI x+kD d*st.t.a<=kD d*st'.t.a:=by have g1:=jh ht ho;have l1:=g1.lt;obtain⟨m1,m2,m3⟩:=hs _ _ _ g1.tk h;refine⟨m1,m2,fun d hn hd hdp hok=>?_⟩;have:=m3 d hn hd hdp hok;have h2:kD d*st.t.a<=kD d*(eZ s st).t.a:=Nat.mul_le_mul_left _ (bU l1);omega
theorem Wj(s:dX)(V:Vs)(n:Nat):xC s V (fJ s n):=by
 induction n with| zero=>intro st x st' _ h;simp[fJ]at h| succ n ih=>
 intro st x st' ht h;have hgo:=lQ s (n+1) _ _ _ ht h;have hlt:=hgo.lt;rw[fJ]at h;split at h;·rename_i ho;exact(Fs s V).behind ht ho h
 split at h;·rename_i ho;exact(Ft s V).behind ht ho h
 split at h;·rename_i ho;exact(F2 (lQ s n) ih).behind ht ho h
 split at h;·rename_i ho;exact(G3 (lQ s n) ih).behind ht ho h
 split at h;·rename_i ho;exact(G4 (lQ s n) ih).behind ht ho h
 have ho:x={jY with op:=102}/\st'.fu=st.fu:=by
  unfold vR at h;cases h1:need s ⟨#[102,97,105,108]⟩ st with
  |error p=>rw[h1]at h;cases h
  |ok st1=>
  rw[h1]at h;simp only at h;have d1:=Gv h1;cases h2:need s ⟨#[59]⟩ st1 with
  |error p=>rw[h2]at h;cases h
  |ok st2=>
  have d2:=Gv h2;rw[h2]at h;cases h;exact⟨rfl,by rw[d2,d1]⟩
 obtain⟨rfl,hdd⟩:=ho;refine⟨⟨Mw,Bf,Bf⟩,fun hd=>by rw[hdd];exact hd,fun d hn hd hdp hok=>?_⟩;have hc:qI {jY with op:=102}=1:=rfl;rw[hc];obtain k|k|k|k|k:=Qi hd<;>rw[k]<;>omega
theorem Qj(h:read s=.ok l):tX l/\∀V,oK V l->lU l<=3936600:=by
 unfold read at h;split at h;·cases h
 rename_i hz;cases hp:gy s (fJ s (s.size+1)) (fun st=>st.t.k==0) (s.size+1) [] ⟨gY s 0,0,-1⟩with
 |error p=>rw[hp]at h;cases h
 |ok r=>
 obtain⟨l',st⟩:=r;rw[hp]at h;simp only at h;split at h;·cases h
 rename_i hdp;cases h;have ht:=(wI s 0 (aQ _)).1;obtain⟨g2,_⟩:=yt (lQ s _) _ _ _ _ _ _ ht hp;have h1:=g2.tk.ab;have h2:=g2.tk.le;refine⟨?_,fun V hok=>?_⟩;·obtain⟨y,i1,i2,_⟩:=Qh (V:=[]) (lQ s _) (Wj s [] _) _ _ _ _ _ _ ht hp;rw[i1];exact i2
 obtain⟨y,i1,i2,i3,i4⟩:=Qh (V:=V) (lQ s _) (Wj s V _) _ _ _ _ _ _ ht hp;simp only[dz]at i1;subst i1;have:=i4 0 rfl (by omega) (by omega) hok;have k0:kD 0=13122:=rfl;rw[k0]at this;omega
def iR:List dX->dX->Bool
 |[],_=>false
 |v::r,w=>v.toList==w.toList||iR r w
def iK(ws:List dX)(w:dX):List dX:=if iR ws w then ws else ws++[w]
theorem Qk{a b:dX}(h:(a.toList==b.toList)=true):a=b:=by rw[beq_iff_eq,aP,aP]at h;cases a;cases b;congr 1;exact Array.toList_inj.1 h
variable{a b ws:List dX}
theorem Hh(h:iR a w=true):iR (a++b) w=true:=by
 induction a with
 |nil=>cases h
 |cons v a ih=>
 rw[iR,bY]at h;rw[bJ,iR,bY];exact h.imp id ih
theorem CV(h:iR a w=true)(hp:a <+: b):iR b w=true:=by obtain⟨c,rfl⟩:=hp;exact Hh h
theorem xD(ws:List dX)(w:dX):iR (iK ws w) w=true:=by
 unfold iK;split;·rename_i h;exact h
 rename_i h;clear h;induction ws with| nil=>simp[iR]| cons v ws ih=>rw[bJ,iR,ih,Bool.or_true]
theorem xE(ws:List dX)(w:dX):ws <+: iK ws w:=by
 unfold iK;split;·exact aR _
 exact List.prefix_append _ _
theorem I4(h:iR a w=true)(hp:a <+: b):fF b w=fF a w:=by
 obtain⟨c,rfl⟩:=hp;induction a with
 |nil=>cases h
 |cons v a ih=>
 rw[bJ,fF,fF];split;·rfl
 rename_i hn;rw[iR,bY]at h;rw[ih (h.resolve_left hn)]
theorem I5(h:iR ws w=true):fF ws w<ws.length:=by
 induction ws with
 |nil=>cases h
 |cons v a ih=>
 rw[fF];split;·simp
 rename_i hn;rw[iR,bY]at h;have:=ih (h.resolve_left hn);simp;omega
theorem Ql(h:iR ws w=true):ws.getD (fF ws w) iF=w:=by
 induction ws with
 |nil=>cases h
 |cons v a ih=>
 rw[fF];split;·rename_i hv;rw[List.getD_cons_zero];exact Qk hv
 rename_i hn;rw[iR,bY]at h;rw[List.getD_cons_succ];exact ih (h.resolve_left hn)
theorem Hi(h:iR ws w=false):fF (ws++[w]) w=ws.length:=by
 induction ws with| nil=>simp[fF]| cons v a ih=>
 rw[iR,dK]at h;rw[bJ,fF,ah (by simp[h.1]),ih h.2];all_goals rfl
def xG(eH undo:dX)(ws:List dX):List dX:=if undo.size=0 then iK ws eH else iK (iK ws eH) undo
def kI:List Sm->List dX->List dX
 |[],ws=>ws
 |⟨op,eH,_,_,_,_,undo,_,_,one,two⟩::rest,ws=>kI rest (if op=99 then xG eH undo ws else if op=105\/op=116 then kI two (kI one ws)else if op=114 then kI one ws else ws)
def l9(x:Sm)(ws:List dX):List dX:=if x.op=99 then xG x.eH x.undo ws else if x.op=105\/x.op=116 then kI x.two (kI x.one ws)else if x.op=114 then kI x.one ws else ws
theorem MC(ws:List dX):kI [] ws=ws:=by rw[kI]
theorem Gx(x:Sm)(l:List Sm)(ws:List dX):kI (x::l) ws=kI l (l9 x ws):=by obtain⟨op,eH,pl,ex,gH,gG,undo,n,gZ,one,two⟩:=x;rw[kI.eq_def];all_goals rfl
def kN:fG->List dX->List dX
 |⟨op,_,eH,_,_,none,_⟩,vs=>if op=119 then iK vs eH else vs
 |⟨_,_,_,_,_,some l,none⟩,vs=>kN l vs
 |⟨_,_,_,_,_,some l,some r⟩,vs=>kN r (kN l vs)
def oC(x:Option fG)(vs:List dX):List dX:=
 match x with
 |none=>vs
 |some e=>kN e vs
def jw:List Sm->List dX->List dX
 |[],vs=>vs
 |⟨op,eH,_,ex,gH,_,_,_,_,one,two⟩::rest,vs=>jw rest (if op=108 then iK (oC ex vs) eH else if op=99 then(if gH.size=0 then oC ex vs else iK (oC ex vs) gH)else if op=105 then jw two (jw one (oC ex vs))else if op=116 then jw two (jw one vs)else if op=114 then jw one vs else vs)
def lI(x:Sm)(vs:List dX):List dX:=if x.op=108 then iK (oC x.ex vs) x.eH else if x.op=99 then(if x.gH.size=0 then oC x.ex vs else iK (oC x.ex vs) x.gH)else if x.op=105 then jw x.two (jw x.one (oC x.ex vs))else if x.op=116 then jw x.two (jw x.one vs)else if x.op=114 then jw x.one vs else vs
theorem ME(vs:List dX):jw [] vs=vs:=by rw[jw]
theorem En(x:Sm)(l:List Sm)(vs:List dX):jw (x::l) vs=jw l (lI x vs):=by obtain⟨op,eH,pl,ex,gH,gG,undo,n,gZ,one,two⟩:=x;rw[jw.eq_def];all_goals rfl
def iU(l:List Sm):Pg:=⟨kI l [],(jw l []).length,gL (fF (kI l [])) (fF (jw l [])) l 0⟩
theorem Hj(x:Sm)(h1:∀ws,ws <+: kI x.one ws)(h2:∀ws,ws <+: kI x.two ws)(ws:List dX):ws <+: l9 x ws:=by
 unfold l9 xG;split
 ·split;·exact xE _ _
  exact(xE _ _).trans (xE _ _)
 split;·exact(h1 _).trans (h2 _)
 split;·exact h1 _
 exact aR _
theorem zn(l:List Sm):∀ws,ws <+: kI l ws:=by
 match l with
 |[]=>intro ws;rw[kI];exact aR _
 |⟨op,eH,pl,ex,gH,gG,undo,n,gZ,one,two⟩::rest=>
 intro ws;rw[Gx];exact(Hj ⟨op,eH,pl,ex,gH,gG,undo,n,gZ,one,two⟩ (zn one) (zn two) ws).trans (zn rest _)
theorem Gy(x:fG):∀vs,vs <+: kN x vs:=by
 match x with
 |⟨op,n,eH,pl,own,none,_⟩=>
  intro vs;rw[kN];split;·exact xE _ _
  exact aR _
 |⟨op,n,eH,pl,own,some l,none⟩=>intro vs;rw[kN];exact Gy l vs
 |⟨op,n,eH,pl,own,some l,some r⟩=>intro vs;rw[kN];exact(Gy l vs).trans (Gy r _)
theorem MF(x:Option fG)(vs:List dX):vs <+: oC x vs:=by cases x with| none=>exact aR _| some e=>exact Gy e vs
theorem Hk(x:Sm)(h1:∀vs,vs <+: jw x.one vs)(h2:∀vs,vs <+: jw x.two vs)(vs:List dX):vs <+: lI x vs:=by
 unfold lI;split;·exact(MF _ _).trans (xE _ _)
 split
 ·split;·exact MF _ _
  exact(MF _ _).trans (xE _ _)
 split;·exact((MF _ _).trans (h1 _)).trans (h2 _)
 split;·exact(h1 _).trans (h2 _)
 split;·exact h1 _
 exact aR _
theorem yw(l:List Sm):∀vs,vs <+: jw l vs:=by
 match l with
 |[]=>intro vs;rw[jw];exact aR _
 |⟨op,eH,pl,ex,gH,gG,undo,n,gZ,one,two⟩::rest=>
 intro vs;rw[En];exact(Hk ⟨op,eH,pl,ex,gH,gG,undo,n,gZ,one,two⟩ (yw one) (yw two) vs).trans (yw rest _)
theorem I6(P:Pg)(l:List Sm):∀ws,kI l ws <+: P.gT->uL P (fF P.gT) l:=by
 match l with
 |[]=>intro ws _;rw[uL];trivial
 |⟨op,eH,pl,ex,gH,gG,undo,n,gZ,one,two⟩::rest=>
 intro ws h;rw[Gx]at h;rw[VX];have hx:=(zn rest _).trans h;unfold l9 at hx;dsimp only at hx |-;refine⟨fun ho=>?_,fun ho=>?_,fun ho=>?_,I6 P rest _ h⟩
 ·rw[aA ho]at hx;unfold xG at hx;by_cases hz:undo.size=0;·rw[aA hz]at hx;exact⟨Ql (CV (xD _ _) hx),fun h=>absurd hz h⟩
  rw[ah hz]at hx;exact⟨Ql (CV (xD _ _) ((xE _ _).trans hx)),fun _=>Ql (CV (xD _ _) hx)⟩
 ·by_cases h2:op=105\/op=116;·rw[ah (by omega),aA h2]at hx;exact I6 P one _ ((zn two _).trans hx)
  rw[ah (by omega),ah h2,aA (by omega)]at hx;exact I6 P one _ hx
 rw[ah (by omega),aA ho]at hx;exact I6 P two _ hx
theorem Wm(h:jG V w=some i):iR (V.map Prod.fst) w=true/\fF (V.map Prod.fst) w=i:=by
 induction V generalizing i with
 |nil=>cases h
 |cons v V ih=>
 obtain⟨v,k⟩:=v;rw[jG]at h;rw[dR,iR,fF];split at h;·rename_i hv;cases h;exact⟨by rw[hv,Bool.true_or],by rw[aA hv]⟩
 rename_i hv;rw[ah hv];cases hf:jG V w with
 |none=>rw[hf]at h;cases h
 |some j=>
 rw[hf]at h;cases h;obtain⟨h1,h2⟩:=ih hf;exact⟨by rw[h1,Bool.or_true],by rw[h2]⟩
theorem Hm(h:jG V w=none):iR (V.map Prod.fst) w=false:=by
 induction V with| nil=>rfl| cons v V ih=>
 obtain⟨v,k⟩:=v;rw[jG]at h;rw[dR,iR];split at h;·cases h
 rename_i hv;cases hf:jG V w with| none=>rw[ih hf,Bool.or_false];simpa using hv| some j=>rw[hf]at h;cases h
theorem Wo(h:jG V w=some i):iK (V.map Prod.fst) w=V.map Prod.fst:=by unfold iK;rw[aA (Wm h).1]
theorem I7(x:fG):∀(c:gM),(jr x c).2.e=0->nU x->kN x (c.vars.map Prod.fst)=c.vars.map Prod.fst:=by
 match x with
 |⟨op,n,eH,pl,own,none,none⟩=>
  intro c h hw;rw[jr]at h;unfold Ai at h;rw[kN];by_cases h3:op=119;·rw[aA h3];rw[ah (by omega),ah (by omega)]at h;cases hf:jG c.vars eH with| none=>rw[hf]at h;exact absurd h (vL (by decide))| some i=>exact Wo hf
  rw[ah h3]
 |⟨op,n,eH,pl,own,none,some r⟩=>intro c _ hw;exact hw.elim
 |⟨op,n,eH,pl,own,some l,none⟩=>
  intro c h hw;rw[jr]at h;rw[kN];refine I7 l c ?_ hw.2;unfold sH at h;dsimp only at h;split at h;·exact h
  exact absurd h (vL (by decide))
 |⟨op,n,eH,pl,own,some l,some r⟩=>
 intro c h hw;rw[jr]at h;rw[kN];have hr0:(jr r (jr l c).2).2.e=0:=by
  unfold pI at h;split at h
  ·dsimp only at h;split at h;·exact absurd h (vL (by decide))
   exact h
  dsimp only at h;split at h;·exact h
  exact absurd h (vL (by decide))
 have hl0:(jr l c).2.e=0:=aU fun hn=>Ef r _ hn hr0;rw[I7 l c hl0 hw.2.1];have hv:(jr l c).2.vars=c.vars:=Aq l c;have:=I7 r (jr l c).2 hr0 hw.2.2;rw[hv]at this;exact this
variable{c:gM}
theorem Qm{x:Option fG}(h:(nD x k c).e=0)(hw:Aj x):oC x (c.vars.map Prod.fst)=c.vars.map Prod.fst:=by
 cases x with| none=>rfl| some e=>
 refine I7 e c ?_ (hw e rfl);unfold nD at h;simp only at h;split at h;·exact h
 exact absurd h (vL (by decide))
theorem Wp(h:(oQ w p k c).e=0):iK (c.vars.map Prod.fst) w=(oQ w p k c).vars.map Prod.fst:=by
 unfold oQ at h |-;cases hf:jG c.vars w with| none=>simp only;unfold iK;rw[ah (by rw[Hm hf];simp)];simp| some i=>
 rw[hf]at h;simp only at h |-;rw[Wo hf];split at h;·exact absurd h (vL (by decide))
 rename_i hu;rw[ah hu]
theorem Bh(l:List Sm):∀(c:gM),jZ l->(jv l c).e=0->jw l (c.vars.map Prod.fst)=(jv l c).vars.map Prod.fst:=by
 match l with
 |[]=>intro c _ _;rw[jv,jw]
 |⟨op,eH,pl,ex,gH,gG,undo,n,gZ,one,two⟩::rest=>
 intro c hw h;rw[PW]at h |-;rw[En];obtain⟨⟨hw1,hw2⟩,hwo,hwt,hwr⟩:=Ak.1 hw;dsimp only at hw1 hw2 hwo hwt;have hx:(xq ⟨op,eH,pl,ex,gH,gG,undo,n,gZ,one,two⟩ c).e=0:=aU fun hn=>xw rest _ hn h;have key:lI ⟨op,eH,pl,ex,gH,gG,undo,n,gZ,one,two⟩ (c.vars.map Prod.fst)=(xq ⟨op,eH,pl,ex,gH,gG,undo,n,gZ,one,two⟩ c).vars.map Prod.fst:=by
  unfold xq at hx |-;unfold lI;dsimp only at hx |-;by_cases o1:op=108
  ·rw[aA o1]at hx |-;rw[aA o1];cases ex with
   |none=>obtain h|h|h|h|h|h:=hw2<;>first|exact absurd rfl h.2|omega
   |some e=>
   dsimp only at hx |-;have he0:(jr e c).2.e=0:=aU fun hn=>Eh hn _ _ _ hx;have hv:(jr e c).2.vars=c.vars:=Aq e c;show iK (kN e _) eH=_;rw[I7 e c he0 (hw1 e rfl),<- Wp hx,hv]
  rw[ah o1]at hx |-;rw[ah o1];by_cases o2:op=99
  ·rw[aA o2]at hx |-;rw[aA o2];have hnn:¬(n<1\/5<n):=fun hn=>by rw[aA hn]at hx;exact absurd hx (vL (by decide))
   rw[ah hnn]at hx |-;by_cases ha:gH.toList.isEmpty
   ·rw[aA ha]at hx |-;have hz:gH.size=0:=by rw[dB,aP]at ha;exact bA.2 ha
    rw[aA hz,Qm hx hw1,D9]
   rw[ah ha]at hx |-;have hz:¬gH.size=0:=fun hz=>ha (by rw[dB,aP];exact bA.1 hz);have hm0:(nD ex 105 c).e=0:=aU fun hn=>Eh hn _ _ _ hx;rw[ah hz,Qm hm0 hw1,<- Wp hx,D9]
  rw[ah o2]at hx |-;rw[ah o2];by_cases o3:op=105;·rw[aA o3]at hx |-;rw[aA o3];have h1:(jv one (nD ex 98 c)).e=0:=aU fun hn=>xw two _ hn hx;have h0:(nD ex 98 c).e=0:=aU fun hn=>xw one _ hn h1;have a1:=Bh one _ hwo h1;rw[D9]at a1;rw[Qm h0 hw1,a1,Bh two _ hwt hx]
  rw[ah o3]at hx |-;rw[ah o3];by_cases o4:op=116;·rw[aA o4]at hx |-;rw[aA o4];have h1:(jv one c).e=0:=aU fun hn=>xw two _ hn hx;rw[Bh one c hwo h1,Bh two _ hwt hx]
  rw[ah o4]at hx |-;rw[ah o4];by_cases o5:op=114
  ·rw[aA o5]at hx |-;rw[aA o5];by_cases hn:9<n;·rw[aA hn]at hx;exact absurd hx (xw one _ (zl (by decide) _))
   rw[ah hn]at hx |-;exact Bh one c hwo hx
  rw[ah o5,ah o5]
 rw[key];exact Bh rest _ hwr h
theorem MG(hr:read s=.ok l)(hc:gI s=(0,0))(fU:List Int)(N:Nat)(hN:3936602<=N):∃m,gJ (iU l) N ⟨[],List.replicate (iU l).nv 0,[],[],[],fU,0,0,false,0⟩=((play (jv l ⟨[],0,0⟩).vars l fU).over,m)/\m.eY=(play (jv l ⟨[],0,0⟩).vars l fU).eY/\m.vars=(play (jv l ⟨[],0,0⟩).vars l fU).held/\m.fin=(play (jv l ⟨[],0,0⟩).vars l fU).over:=by
 have he:(jv l ⟨[],0,0⟩).e=0:=by
  unfold gI at hc;rw[hr]at hc;dsimp only at hc;split at hc;·rename_i h;exact h
  rename_i h;exact absurd (congrArg Prod.fst hc) h
 obtain⟨wf,_⟩:=Ao hr;obtain⟨tr,co⟩:=Qj hr;obtain⟨_,_,_,ok⟩:=CS l ⟨[],0,0⟩ wf tr (fun v hv=>by cases hv) he;have ok:=ok [];rw[bQ]at ok;have hvs:jw l []=(jv l ⟨[],0,0⟩).vars.map Prod.fst:=Bh l ⟨[],0,0⟩ wf he;have hiv:∀w i,jG (jv l ⟨[],0,0⟩).vars w=some i->fF (jw l []) w=i:=fun w i h=>by rw[hvs];exact(Wm h).2
 have:=co _ ok;exact Fl (iU l) _ (fF (kI l [])) (fF (jw l [])) hiv l ok (I6 (iU l) l [] (aR _)) rfl (by show(jw l []).length=_;rw[hvs,List.length_map]) fU N (by omega)
def MH(k:Nat):Nat:=if k=18 then 2 else if k<=2\/(12<=k/\k<=16)\/k=19 then 1 else 0
def b2(n:Nat):List UInt8:=[UInt8.ofNat (n/256),UInt8.ofNat n]
structure qX(i:fC):Prop where
 k:i.k<20
 a:i.a<65536
 b:i.b<65536
 za:MH i.k=0->i.a=0
 zb:MH i.k≠2->i.b=0
end Px
open Go.Shelf
def uw:Go.Shelf.Ren:=⟨fun|6=>134|10=>84|11=>173|12=>174|13=>175|14=>176|24=>218|25=>219|26=>220|27=>221|28=>222|29=>223|30=>224|31=>225|32=>226|33=>227|34=>248|35=>249|36=>250|37=>251|38=>252|39=>264|n=>n,fun|20=>20|26=>238|35=>199|0=>0|37=>181|3=>3|41=>301|44=>304|49=>349|51=>351|4=>4|54=>354|53=>353|58=>167|5=>5|9=>9|60=>369|64=>373|66=>382|67=>102|17=>17|32=>196|33=>197|82=>405|12=>12|75=>400|76=>204|77=>401|78=>390|79=>402|80=>403|n=>n,fun|n=>n⟩
theorem uV:Go.Proofs.LaysGg.n6 prog uw:={
 mixed:=by kernel_rfl
 f6:=func134.trans (congrArg some (by kernel_rfl))
 f10:=func84.trans (congrArg some (by kernel_rfl))
 f11:=func173.trans (congrArg some (by kernel_rfl))
 f12:=func174.trans (congrArg some (by kernel_rfl))
 f13:=func175.trans (congrArg some (by kernel_rfl))
 f14:=func176.trans (congrArg some (by kernel_rfl))
 f24:=func218.trans (congrArg some (by kernel_rfl))
 f25:=func219.trans (congrArg some (by kernel_rfl))
 f26:=func220.trans (congrArg some (by kernel_rfl))
 f27:=func221.trans (congrArg some (by kernel_rfl))
 f28:=func222.trans (congrArg some (by kernel_rfl))
 f29:=func223.trans (congrArg some (by kernel_rfl))
 f30:=func224.trans (congrArg some (by kernel_rfl))
 f31:=func225.trans (congrArg some (by kernel_rfl))
 f32:=func226.trans (congrArg some (by kernel_rfl))
 f33:=func227.trans (congrArg some (by kernel_rfl))
 f34:=func248.trans (congrArg some (by kernel_rfl))
 f35:=func249.trans (congrArg some (by kernel_rfl))
 f36:=func250.trans (congrArg some (by kernel_rfl))
 f37:=func251.trans (congrArg some (by kernel_rfl))
 f38:=func252.trans (congrArg some (by kernel_rfl))
 f39:=func264.trans (congrArg some (by kernel_rfl))
 t0:=underlying0
 a0:=Tryz.isAgg0
 z0:=Tryz.sizeOf0
 v0:=Tryz.zeroValue0
 i0:=by kernel_rfl
 t3:=underlying3
 a3:=Tryz.isAgg3
 z3:=Tryz.sizeOf3
 v3:=Tryz.zeroValue3
 i3:=by kernel_rfl
 t4:=underlying4
 a4:=Tryz.isAgg4
 z4:=Tryz.sizeOf4
 v4:=Tryz.zeroValue4
 i4:=by kernel_rfl
 t5:=underlying5
 a5:=Tryz.isAgg5
 z5:=Tryz.sizeOf5
 v5:=Tryz.zeroValue5
 i5:=by kernel_rfl
 t9:=underlying9
 a9:=Tryz.isAgg9
 z9:=Tryz.sizeOf9
 v9:=Tryz.zeroValue9
 i9:=by kernel_rfl
 t12:=underlying12
 a12:=Tryz.isAgg12
 z12:=Tryz.sizeOf12
 v12:=Tryz.zeroValue12
 i12:=by kernel_rfl
 t17:=underlying17
 a17:=Tryz.isAgg17
 z17:=Tryz.sizeOf17
 v17:=Tryz.zeroValue17
 i17:=by kernel_rfl
 t20:=underlying20
 a20:=Tryz.isAgg20
 z20:=Tryz.sizeOf20
 v20:=Tryz.zeroValue20
 i20:=by kernel_rfl
 t26:=underlying238
 a26:=Tryz.isAgg238
 z26:=Tryz.sizeOf238
 v26:=Tryz.zeroValue238
 i26:=by kernel_rfl
 t32:=underlying196
 a32:=Tryz.isAgg196
 z32:=Tryz.sizeOf196
 v32:=Tryz.zeroValue196
 i32:=by kernel_rfl
 t33:=underlying197
 a33:=Tryz.isAgg197
 z33:=Tryz.sizeOf197
 v33:=Tryz.zeroValue197
 i33:=by kernel_rfl
 t35:=underlying199
 a35:=Tryz.isAgg199
 z35:=Tryz.sizeOf199
 v35:=Tryz.zeroValue199
 i35:=by kernel_rfl
 t37:=underlying181
 a37:=Tryz.isAgg181
 z37:=Tryz.sizeOf181
 v37:=Tryz.zeroValue181
 i37:=by kernel_rfl
 t41:=underlying301
 a41:=Tryz.isAgg301
 z41:=Tryz.sizeOf301
 v41:=Tryz.zeroValue301
 i41:=by kernel_rfl
 t44:=underlying304
 a44:=Tryz.isAgg304
 z44:=Tryz.sizeOf304
 v44:=Tryz.zeroValue304
 i44:=by kernel_rfl
 t49:=underlying349
 a49:=Tryz.isAgg349
 z49:=Tryz.sizeOf349
 v49:=Tryz.zeroValue349
 i49:=by kernel_rfl
 t51:=underlying351
 a51:=Tryz.isAgg351
 z51:=Tryz.sizeOf351
 v51:=Tryz.zeroValue351
 i51:=by kernel_rfl
 t53:=underlying353
 a53:=Tryz.isAgg353
 z53:=Tryz.sizeOf353
 v53:=Tryz.zeroValue353
 i53:=by kernel_rfl
 t54:=underlying354
 a54:=Tryz.isAgg354
 z54:=Tryz.sizeOf354
 v54:=Tryz.zeroValue354
 i54:=by kernel_rfl
 t58:=underlying167
 a58:=Tryz.isAgg167
 z58:=Tryz.sizeOf167
 v58:=Tryz.zeroValue167
 i58:=by kernel_rfl
 t60:=underlying369
 a60:=Tryz.isAgg369
 z60:=Tryz.sizeOf369
 v60:=Tryz.zeroValue369
 i60:=by kernel_rfl
 t64:=underlying373
 a64:=Tryz.isAgg373
 z64:=Tryz.sizeOf373
 v64:=Tryz.zeroValue373
 i64:=by kernel_rfl
 t66:=underlying382
 a66:=Tryz.isAgg382
 z66:=Tryz.sizeOf382
 v66:=Tryz.zeroValue382
 i66:=by kernel_rfl
 t67:=underlying102
 a67:=Tryz.isAgg102
 z67:=Tryz.sizeOf102
 v67:=Tryz.zeroValue102
 i67:=by kernel_rfl
 t75:=underlying400
 a75:=Tryz.isAgg400
 z75:=Tryz.sizeOf400
 v75:=Tryz.zeroValue400
 i75:=by kernel_rfl
 t76:=underlying204
 a76:=Tryz.isAgg204
 z76:=Tryz.sizeOf204
 v76:=Tryz.zeroValue204
 i76:=by kernel_rfl
 t77:=underlying401
 a77:=Tryz.isAgg401
 z77:=Tryz.sizeOf401
 v77:=Tryz.zeroValue401
 i77:=by kernel_rfl
 t78:=underlying390
 a78:=Tryz.isAgg390
 z78:=Tryz.sizeOf390
 v78:=Tryz.zeroValue390
 i78:=by kernel_rfl
 t79:=underlying402
 a79:=Tryz.isAgg402
 z79:=Tryz.sizeOf402
 v79:=Tryz.zeroValue402
 i79:=by kernel_rfl
 t80:=underlying403
 a80:=Tryz.isAgg403
 z80:=Tryz.sizeOf403
 v80:=Tryz.zeroValue403
 i80:=by kernel_rfl
 t82:=underlying405
 a82:=Tryz.isAgg405
 z82:=Tryz.sizeOf405
 v82:=Tryz.zeroValue405
 i82:=by kernel_rfl}
open Go.Lib Go.Sort
theorem Hn(p:Option Addr)(n c:Nat)(h1:n<=1)(lf:Fn)(la lb:Array dZ)(w:dY):fI 134 #[.iface 51 (.slice p n c),.func lf la lb] w fun e w'=>e=fM (.tuple #[])/\∃os,w'=grow w os:=by
 obtain⟨i,hi⟩:∃i,prog.info? 51=some i:=Option.isSome_iff_exists.1 (by kernel_rfl);obtain⟨ie,hie⟩:∃i,prog.info? 159=some i:=Option.isSome_iff_exists.1 (by kernel_rfl);have hd:(prog.info? 51).map (fun i=>i.desc)=some (.slice 159):=by kernel_rfl
 rw[hi]at hd;have hn:n=0\/n=1:=by omega
 obtain rfl|rfl:=hn
 ·have hK:Lib.swapperK 0 ie 22=1:=by simp[Lib.swapperK]
  exact Any.sort_Slice_tiny uV 51 159 i ie hi (Option.some.inj hd) (by kernel_rfl) hie 22 (fun _=>by kernel_rfl) p 0 c h1 209 (by rw[hK];kernel_rfl) lf la lb w
 have hK:Lib.swapperK 1 ie 22=2:=by simp[Lib.swapperK]
 exact Any.sort_Slice_tiny uV 51 159 i ie hi (Option.some.inj hd) (by kernel_rfl) hie 22 (fun _=>by kernel_rfl) p 1 c h1 210 (by rw[hK];kernel_rfl) lf la lb w
namespace Px
def Ms.more(m:Ms)(r:List Int):Ms:={m with left:=m.left++r}
def Ms.said(m:Ms)(B:List iL):Ms:={m with eY:=B}
theorem Qn(P:Pg)(i:Nat)(arg:Int)(most:Nat)(und:Bool)(m:Ms):∃A,(iI P i arg most und m).2.2.eY=m.eY++A/\A≠[]/\∀B,iI P i arg most und (m.said B)=((iI P i arg most und m).1,(iI P i arg most und m).2.1,(iI P i arg most und m).2.2.said (B++A)):=by
 refine⟨[⟨P.gT.getD i iF,arg,m.fD+1,und⟩],?_,by simp,fun B=>?_⟩
 ·unfold iI;split;·rfl
  split;·rfl
  split<;>rfl
 unfold iI Ms.said;dsimp only;cases m.left with| nil=>rfl| cons v r=>
 dsimp only;split;·rfl
 split<;>rfl
def MI(f:Ms->Nat×Ms):Prop:=∀m,∃A,(f m).2.eY=m.eY++A/\∀B,f (m.said B)=((f m).1,(f m).2.said (B++A))
theorem Hp{f:Ms->Nat×Ms}(h1:∀m,(f m).2.eY=m.eY)(h2:∀m B,f (m.said B)=((f m).1,(f m).2.said B)):MI f:=fun m=>⟨[],by simp[h1],fun B=>by rw[h2,bQ]⟩
theorem Hs(P:Pg)(i:fC):MI (jF P i):=by
 by_cases h18:i.k=18
 ·intro m;obtain⟨A,a1,_,a2⟩:=Qn P i.a (m.st.headD 0) i.b false m;have e:∀m,jF P i m=match iI P i.a (m.st.headD 0) i.b false m with
   |(0,v,m')=>(0,{m' with st:=v::m'.st.tail})
   |(e,_,m')=>(e,m'):=fun m=>by
   unfold jF;simp only[h18];rfl
  refine⟨A,?_,fun B=>?_⟩
  ·rw[e];cases hq:iI P i.a (m.st.headD 0) i.b false m with| mk e1 q=>
   obtain⟨v,m'⟩:=q;rw[hq]at a1;match e1 with| 0=>exact a1| e1+1=>exact a1
  rw[e,e];have:=a2 B;have hs:(m.said B).st=m.st:=rfl;rw[hs,this];cases hq:iI P i.a (m.st.headD 0) i.b false m with| mk e1 q=>
  obtain⟨v,m'⟩:=q;match e1 with| 0=>rfl| e1+1=>rfl
 obtain⟨k,a,b⟩:=i;have key:∀(m:Ms)(B:List iL),(jF P ⟨k,a,b⟩ m).2.eY=m.eY/\jF P ⟨k,a,b⟩ (m.said B)=((jF P ⟨k,a,b⟩ m).1,(jF P ⟨k,a,b⟩ m).2.said B):=by
  intro m B;match k,h18 with
  |0,_=>exact⟨rfl,rfl⟩
  |1,_=>exact⟨rfl,rfl⟩
  |2,_=>exact⟨rfl,rfl⟩
  |3,_=>exact⟨rfl,rfl⟩
  |4,_=>exact⟨rfl,rfl⟩
  |5,_=>exact⟨rfl,rfl⟩
  |6,_=>exact⟨rfl,rfl⟩
  |7,_=>
   have e:∀m:Ms,jF P ⟨7,a,b⟩ m=if m.st.headD 0=0 then(1,m)else(0,{m with st:=wrap64 ((m.st.tail.headD 0).tdiv (m.st.headD 0))::m.st.tail.tail}):=fun _=>rfl;have hs:(m.said B).st=m.st:=rfl;rw[e,e,hs];by_cases h:m.st.headD 0=0;·rw[aA h,aA h];exact⟨rfl,rfl⟩
   rw[ah h,ah h];exact⟨rfl,rfl⟩
  |8,_=>exact⟨rfl,rfl⟩
  |9,_=>exact⟨rfl,rfl⟩
  |10,_=>exact⟨rfl,rfl⟩
  |11,_=>exact⟨rfl,rfl⟩
  |12,_=>exact⟨rfl,rfl⟩
  |13,_=>exact⟨rfl,rfl⟩
  |14,_=>
   have e:∀m:Ms,jF P ⟨14,a,b⟩ m=if 0<m.st.headD 0 then(0,{m with st:=wrap64 (m.st.headD 0-1)::m.st.tail})else(0,{m with st:=m.st.tail,eD:=a}):=fun _=>rfl;have hs:(m.said B).st=m.st:=rfl;rw[e,e,hs];by_cases h:0<m.st.headD 0;·rw[aA h,aA h];exact⟨rfl,rfl⟩
   rw[ah h,ah h];exact⟨rfl,rfl⟩
  |15,_=>exact⟨rfl,rfl⟩
  |16,_=>exact⟨rfl,rfl⟩
  |17,_=>exact⟨rfl,rfl⟩
  |18,h=>exact absurd rfl h
  |k+19,_=>exact⟨rfl,rfl⟩
 exact Hp (fun m=>(key m []).1) (fun m B=>(key m B).2)
theorem Hv(P:Pg):MI (jC P):=by
 intro m;have hb:(jC.behind m).2.eY=m.eY/\∀B,jC.behind (m.said B)=((jC.behind m).1,(jC.behind m).2.said B):=by unfold jC.behind Ms.said;dsimp only;cases m.fK with| nil=>exact⟨rfl,fun B=>rfl⟩| cons b r=>exact⟨rfl,fun B=>rfl⟩
 have hf:∀B,nQ (m.said B)=nQ m:=fun B=>rfl;have hu:∀B,(m.said B).fV=m.fV:=fun B=>rfl;cases hm:m.fV with
 |nil=>
  have e:jC P m=jC.behind m:=by unfold jC;rw[hm]
  have e2:∀B,jC P (m.said B)=jC.behind (m.said B):=fun B=>by unfold jC;rw[hu,hm]
  refine⟨[],by rw[e,hb.1];simp,fun B=>?_⟩;rw[e2,e,hb.2 B,bQ]
 |cons u r=>
 by_cases hl:m.fV.length=nQ m;·have e:jC P m=jC.behind m:=Ej hl;have e2:∀B,jC P (m.said B)=jC.behind (m.said B):=fun B=>Ej (by rw[hu,hf];exact hl);refine⟨[],by rw[e,hb.1];simp,fun B=>?_⟩;rw[e2,e,hb.2 B,bQ]
 obtain⟨A,a1,_,a2⟩:=Qn P u.1 u.2 3 true m;have e:∀B,jC P (m.said B)=match iI P u.1 u.2 3 true (m.said B)with
   |(0,_,m')=>(0,{m' with fV:=r})
   |(1,_,m')=>(4,m')
   |(e,_,m')=>(e,m'):=fun B=>by
  have hl':¬(u::r).length=nQ (m.said B):=by rw[hf,<- hm];exact hl
  unfold jC;rw[hu,hm];simp only;rw[ah hl'];all_goals rfl
 have e0:jC P m=match iI P u.1 u.2 3 true m with
   |(0,_,m')=>(0,{m' with fV:=r})
   |(1,_,m')=>(4,m')
   |(e,_,m')=>(e,m'):=e m.eY
 refine⟨A,?_,fun B=>?_⟩
 ·rw[e0];cases hq:iI P u.1 u.2 3 true m with| mk e1 q=>
  obtain⟨v,m'⟩:=q;rw[hq]at a1;match e1 with| 0=>exact a1| 1=>exact a1| e1+2=>exact a1
 rw[e B,e0,a2 B];cases hq:iI P u.1 u.2 3 true m with| mk e1 q=>
 obtain⟨v,m'⟩:=q;match e1 with| 0=>rfl| 1=>rfl| e1+2=>rfl
theorem Hx(P:Pg):MI (jB P):=by
 intro m;by_cases hu:m.jK=true
 ·have e:∀B,jB P (m.said B)=jC P (m.said B):=fun B=>by unfold jB;rw[aA (show(m.said B).jK=true from hu)]
  have e0:jB P m=jC P m:=e m.eY;obtain⟨A,a1,a2⟩:=Hv P m;exact⟨A,by rw[e0];exact a1,fun B=>by rw[e B,e0];exact a2 B⟩
 cases hi:P.ins[m.eD]? with
 |none=>
  have e:∀B,jB P (m.said B)=(0,{m.said B with fin:=1}):=fun B=>by unfold jB;rw[ah (show ¬(m.said B).jK=true from hu),show P.ins[(m.said B).eD]?=none from hi]
  have e0:jB P m=(0,{m with fin:=1}):=e m.eY;exact⟨[],by rw[e0];simp,fun B=>by rw[e B,e0,bQ]<;>rfl⟩
 |some i=>
 have e:∀B,jB P (m.said B)=match jF P i ({m with eD:=m.eD+1}.said B)with
   |(0,m')=>(0,m')
   |(e,m')=>(e,{m' with eD:=m.eD}):=fun B=>by
  unfold jB;rw[ah (show ¬(m.said B).jK=true from hu),show P.ins[(m.said B).eD]?=some i from hi];all_goals rfl
 have e0:jB P m=match jF P i {m with eD:=m.eD+1}with
   |(0,m')=>(0,m')
   |(e,m')=>(e,{m' with eD:=m.eD}):=e m.eY
 obtain⟨A,a1,a2⟩:=Hs P i {m with eD:=m.eD+1};refine⟨A,?_,fun B=>?_⟩
 ·rw[e0];cases hq:jF P i {m with eD:=m.eD+1}with| mk e1 m'=>
  rw[hq]at a1;match e1 with| 0=>exact a1| e1+1=>exact a1
 rw[e B,e0,a2 B];cases hq:jF P i {m with eD:=m.eD+1}with| mk e1 m'=>
 match e1 with| 0=>rfl| e1+1=>rfl
theorem Is(P:Pg)(m:Ms):∃A,(kg P m).2.eY=m.eY++A/\∀B,kg P (m.said B)=((kg P m).1,(kg P m).2.said (B++A)):=by
 obtain⟨A,a1,a2⟩:=Hx P m;refine⟨A,?_,fun B=>?_⟩
 ·unfold kg;cases hq:jB P m with| mk e1 m'=>
  rw[hq]at a1;match e1 with| 0=>exact a1| 1=>exact a1| 2=>exact a1| 3=>exact a1| e1+4=>exact a1
 unfold kg;rw[a2 B];cases hq:jB P m with| mk e1 m'=>
 match e1 with| 0=>rfl| 1=>rfl| 2=>rfl| 3=>rfl| e1+4=>rfl
theorem It(P:Pg)(n:Nat):∀m,∃A,(gJ P n m).2.eY=m.eY++A/\(∀B,gJ P n (m.said B)=((gJ P n m).1,(gJ P n m).2.said (B++A)))/\(0<n->(kg P m).2.eY≠m.eY->A≠[]):=by
 induction n with| zero=>intro m;exact⟨[],by simp[gJ],fun B=>by simp[gJ],fun h=>absurd h (by omega)⟩| succ n ih=>
 intro m;obtain⟨A,a1,a2⟩:=Is P m;have hA:(kg P m).2.eY≠m.eY->A≠[]:=fun h e=>h (by rw[a1,e,bQ]);by_cases hs:(kg P m).1=true
 ·refine⟨A,?_,fun B=>?_,fun _=>hA⟩;·rw[gJ,aA hs];exact a1
  rw[gJ,gJ,aA hs,a2 B];dsimp only;rw[aA hs];all_goals rfl
 obtain⟨A',b1,b2,_⟩:=ih (kg P m).2;refine⟨A++A',?_,fun B=>?_,fun _ h e=>hA h (List.append_eq_nil_iff.1 e).1⟩;·rw[gJ,ah hs,b1,a1,aM]
 rw[gJ,gJ,ah hs,a2 B];dsimp only;rw[ah hs,b2,aM]
theorem Wq(P:Pg)(i:Nat)(arg:Int)(most:Nat)(und:Bool)(m:Ms)(r:List Int)(h:(iI P i arg most und m).1≠2):iI P i arg most und (m.more r)=((iI P i arg most und m).1,(iI P i arg most und m).2.1,(iI P i arg most und m).2.2.more r):=by
 unfold iI at h |-;unfold Ms.more;dsimp only;cases hl:m.left with| nil=>rw[hl]at h;exact absurd rfl h| cons v q=>
 dsimp only[List.cons_append];split;·rfl
 split<;>rfl
theorem Iv(P:Pg)(i:fC)(m:Ms)(r:List Int)(h:(jF P i m).1≠2):jF P i (m.more r)=((jF P i m).1,(jF P i m).2.more r):=by
 obtain⟨k,a,b⟩:=i;match k with
 |0=>rfl
 |1=>rfl
 |2=>rfl
 |3=>rfl
 |4=>rfl
 |5=>rfl
 |6=>rfl
 |7=>
  have e:∀m:Ms,jF P ⟨7,a,b⟩ m=if m.st.headD 0=0 then(1,m)else(0,{m with st:=wrap64 ((m.st.tail.headD 0).tdiv (m.st.headD 0))::m.st.tail.tail}):=fun _=>rfl;have hs:(m.more r).st=m.st:=rfl;rw[e,e,hs];by_cases h:m.st.headD 0=0;·rw[aA h,aA h]
  rw[ah h,ah h]<;>rfl
 |8=>rfl
 |9=>rfl
 |10=>rfl
 |11=>rfl
 |12=>rfl
 |13=>rfl
 |14=>
  have e:∀m:Ms,jF P ⟨14,a,b⟩ m=if 0<m.st.headD 0 then(0,{m with st:=wrap64 (m.st.headD 0-1)::m.st.tail})else(0,{m with st:=m.st.tail,eD:=a}):=fun _=>rfl;have hs:(m.more r).st=m.st:=rfl;rw[e,e,hs];by_cases h:0<m.st.headD 0;·rw[aA h,aA h]<;>rfl
  rw[ah h,ah h]<;>rfl
 |15=>rfl
 |16=>rfl
 |17=>rfl
 |18=>
  rw[IW]at h |-;rw[IW];have hs:(m.more r).st=m.st:=rfl;cases hq:iI P a (m.st.headD 0) b false m with| mk e1 q=>
  obtain⟨v,m'⟩:=q;have h2:(iI P a (m.st.headD 0) b false m).1≠2:=by intro e;rw[hq]at h e;dsimp only at e;subst e;exact h rfl
  rw[hs,Wq P a (m.st.headD 0) b false m r h2,hq];match e1 with| 0=>rfl| e1+1=>rfl
 |k+19=>rfl
theorem Ix(P:Pg)(m:Ms)(r:List Int)(h:(jC P m).1≠2):jC P (m.more r)=((jC P m).1,(jC P m).2.more r):=by
 have hb:jC.behind (m.more r)=((jC.behind m).1,(jC.behind m).2.more r):=by unfold jC.behind Ms.more;dsimp only;cases m.fK with| nil=>rfl| cons b q=>rfl
 have hf:nQ (m.more r)=nQ m:=rfl;have hu:(m.more r).fV=m.fV:=rfl;cases hm:m.fV with
 |nil=>
  have e:jC P m=jC.behind m:=by unfold jC;rw[hm]
  have e2:jC P (m.more r)=jC.behind (m.more r):=by unfold jC;rw[hu,hm]
  rw[e2,e,hb]
 |cons u q=>
 by_cases hl:m.fV.length=nQ m;·rw[Ej (by rw[hu,hf];exact hl),Ej hl,hb]
 have e:∀m':Ms,m'.fV=u::q->¬m'.fV.length=nQ m'->jC P m'=match iI P u.1 u.2 3 true m' with
   |(0,_,m')=>(0,{m' with fV:=q})
   |(1,_,m')=>(4,m')
   |(e,_,m')=>(e,m'):=fun m' h1 h2=>by
  rw[h1]at h2;unfold jC;rw[h1];simp only;rw[ah h2];all_goals rfl
 rw[e m hm hl]at h |-;rw[e (m.more r) (hu.trans hm) (by rw[hu,hf];exact hl)];cases hq:iI P u.1 u.2 3 true m with| mk e1 p=>
 obtain⟨v,m'⟩:=p;have h2:(iI P u.1 u.2 3 true m).1≠2:=by intro e;rw[hq]at h e;dsimp only at e;subst e;exact h rfl
 rw[Wq P u.1 u.2 3 true m r h2,hq];match e1 with| 0=>rfl| 1=>rfl| e1+2=>rfl
theorem I0(P:Pg)(m:Ms)(r:List Int)(h:(jB P m).1≠2):jB P (m.more r)=((jB P m).1,(jB P m).2.more r):=by
 by_cases hu:m.jK=true
 ·have e:∀m':Ms,m'.jK=true->jB P m'=jC P m':=fun m' h=>by unfold jB;rw[aA h]
  rw[e m hu]at h |-;rw[e (m.more r) hu];exact Ix P m r h
 cases hi:P.ins[m.eD]? with
 |none=>
  have e:∀m':Ms,¬m'.jK=true->m'.eD=m.eD->jB P m'=(0,{m' with fin:=1}):=fun m' h1 h2=>by unfold jB;rw[ah h1,h2,hi]
  rw[e m hu rfl,e (m.more r) hu rfl];all_goals rfl
 |some i=>
 have e:∀m':Ms,¬m'.jK=true->m'.eD=m.eD->jB P m'=match jF P i {m' with eD:=m'.eD+1}with
   |(0,x)=>(0,x)
   |(e,x)=>(e,{x with eD:=m'.eD}):=fun m' h1 h2=>by unfold jB;rw[ah h1,h2,hi]<;>rfl
 rw[e m hu rfl]at h |-;rw[e (m.more r) hu rfl];have hm:({m.more r with eD:=(m.more r).eD+1}:Ms)=({m with eD:=m.eD+1}:Ms).more r:=rfl;rw[hm];cases hq:jF P i {m with eD:=m.eD+1}with| mk e1 m'=>
 have h2:(jF P i {m with eD:=m.eD+1}).1≠2:=by intro e;rw[hq]at h e;dsimp only at e;subst e;exact h rfl
 rw[Iv P i _ r h2,hq];match e1 with| 0=>rfl| e1+1=>rfl
theorem I1(P:Pg)(m:Ms)(r:List Int)(h:(jB P m).1≠2):kg P (m.more r)=((kg P m).1,(kg P m).2.more r):=by
 unfold kg;rw[I0 P m r h];cases hq:jB P m with| mk e1 m'=>
 rw[hq]at h;match e1 with| 0=>rfl| 1=>rfl| 2=>exact absurd rfl h| 3=>rfl| e1+4=>rfl
variable{P:Pg}{m m2:Ms}
theorem I2(h:(kg P m).1=false):(jB P m).1≠2:=by
 intro e;unfold kg at h;cases hq:jB P m with| mk e1 m'=>
 rw[hq]at h e;dsimp only at e;subst e;cases h
theorem Jx(P:Pg)(r:List Int)(k:Nat):∀{m m1:Ms},kH P k m=some m1->kH P k (m.more r)=some (m1.more r):=by
 induction k with
 |zero=>intro m m1 h;cases h;rfl
 |succ k ih=>
 intro m m1 h;rw[kH]at h;split at h;·cases h
 rename_i hn;have hn':(kg P m).1=false:=by simpa using hn
 rw[kH,I1 P m r (I2 hn')];dsimp only;rw[ah hn];exact ih h
theorem Ws(h:jB P m=(2,m2)):m.left=[]/\(∃q,m2=m.said (m.eY++[q]))/\∀r,(kg P (m.more r)).2.eY≠m.eY:=by
 have am:∀(i:Nat)(arg:Int)(most:Nat)(und:Bool)(m:Ms),(iI P i arg most und m).1=2->m.left=[]/\(iI P i arg most und m).2.2=m.said (m.eY++[⟨P.gT.getD i iF,arg,m.fD+1,und⟩]):=fun i arg most und m h=>by
  cases hl:m.left with| nil=>exact⟨rfl,by rw[P9 hl]<;>rfl⟩| cons v q=>
  unfold iI at h;rw[hl]at h;dsimp only at h;split at h;·cases h
  split at h<;>cases h
 have aa:∀(i:Nat)(arg:Int)(most:Nat)(und:Bool)(m:Ms),(iI P i arg most und m).2.2.eY≠m.eY:=fun i arg most und m=>by obtain⟨A,a1,a2,_⟩:=Qn P i arg most und m;rw[a1];intro e;exact a2 (by simpa using e)
 have na:∀m':Ms,(jB P m').2.eY≠m.eY->(kg P m').2.eY≠m.eY:=fun m' h=>by
  unfold kg;cases hq:jB P m' with| mk e1 x=>
  rw[hq]at h;match e1 with| 0=>exact h| 1=>exact h| 2=>exact h| 3=>exact h| e1+4=>exact h
 by_cases hu:m.jK=true
 ·have e:∀m':Ms,m'.jK=true->jB P m'=jC P m':=fun m' h=>by unfold jB;rw[aA h]
  rw[e m hu]at h;have hbn:∀m':Ms,(jC.behind m').1≠2:=fun m'=>by unfold jC.behind;cases m'.fK<;>simp
  cases hm:m.fV with
  |nil=>
   have:jC P m=jC.behind m:=by unfold jC;rw[hm]
   rw[this]at h;exact absurd (congrArg Prod.fst h) (hbn m)
  |cons u q=>
  by_cases hl:m.fV.length=nQ m;·rw[Ej hl]at h;exact absurd (congrArg Prod.fst h) (hbn m)
  have e2:∀m':Ms,m'.fV=u::q->¬m'.fV.length=nQ m'->jC P m'=match iI P u.1 u.2 3 true m' with
    |(0,_,m')=>(0,{m' with fV:=q})
    |(1,_,m')=>(4,m')
    |(e,_,m')=>(e,m'):=fun m' h1 h2=>by
   rw[h1]at h2;unfold jC;rw[h1];simp only;rw[ah h2];all_goals rfl
  rw[e2 m hm hl]at h;have h2:(iI P u.1 u.2 3 true m).1=2/\(iI P u.1 u.2 3 true m).2.2=m2:=by
   cases hq:iI P u.1 u.2 3 true m with
   |mk e1 p=>
   obtain⟨v,m'⟩:=p;rw[hq]at h;match e1,h with
   |0,h=>cases h
   |1,h=>cases h
   |e1+2,h=>simp only[Prod.mk.injEq]at h;exact⟨h.1,h.2⟩
  obtain⟨k1,k2⟩:=am _ _ _ _ m h2.1;refine⟨k1,⟨_,by rw[<- h2.2,k2]⟩,fun r=>na _ ?_⟩;rw[e (m.more r) hu,e2 (m.more r) hm hl];have:=aa u.1 u.2 3 true (m.more r);cases hq:iI P u.1 u.2 3 true (m.more r)with| mk e1 p=>
  obtain⟨v,m'⟩:=p;rw[hq]at this;match e1 with| 0=>exact this| 1=>exact this| e1+2=>exact this
 cases hi:P.ins[m.eD]? with
 |none=>unfold jB at h;rw[ah hu,hi]at h;cases h
 |some i=>
 have e:∀m':Ms,¬m'.jK=true->m'.eD=m.eD->jB P m'=match jF P i {m' with eD:=m'.eD+1}with
   |(0,x)=>(0,x)
   |(e,x)=>(e,{x with eD:=m'.eD}):=fun m' h1 h2=>by unfold jB;rw[ah h1,h2,hi]<;>rfl
 rw[e m hu rfl]at h;have hd:(jF P i {m with eD:=m.eD+1}).1=2/\m2={(jF P i {m with eD:=m.eD+1}).2 with eD:=m.eD}:=by
  cases hq:jF P i {m with eD:=m.eD+1}with
  |mk e1 x=>
  rw[hq]at h;match e1,h with
  |0,h=>cases h
  |e1+1,h=>simp only[Prod.mk.injEq]at h;exact⟨h.1,h.2.symm⟩
 by_cases h18:i.k=18
 ·obtain⟨k,a,b⟩:=i;dsimp only at h18;subst h18;rw[IW]at hd;have h2:(iI P a (({m with eD:=m.eD+1}:Ms).st.headD 0) b false {m with eD:=m.eD+1}).1=2/\m2={(iI P a (({m with eD:=m.eD+1}:Ms).st.headD 0) b false {m with eD:=m.eD+1}).2.2 with eD:=m.eD}:=by
   cases hq:iI P a (({m with eD:=m.eD+1}:Ms).st.headD 0) b false {m with eD:=m.eD+1}with| mk e1 p=>
   obtain⟨v,m'⟩:=p;rw[hq]at hd;match e1,hd with| 0,hd=>exact absurd hd.1 (by simp)| e1+1,hd=>exact hd
  obtain⟨k1,k2⟩:=am _ _ _ _ _ h2.1;refine⟨k1,⟨_,by rw[h2.2,k2]<;>rfl⟩,fun r=>na _ ?_⟩;rw[e (m.more r) hu rfl,IW];have:=aa a (({m.more r with eD:=(m.more r).eD+1}:Ms).st.headD 0) b false {m.more r with eD:=(m.more r).eD+1};cases hq:iI P a (({m.more r with eD:=(m.more r).eD+1}:Ms).st.headD 0) b false {m.more r with eD:=(m.more r).eD+1}with| mk e1 p=>
  obtain⟨v,m'⟩:=p;rw[hq]at this;match e1 with| 0=>exact this| e1+1=>exact this
 exfalso;have:∀m':Ms,(jF P i m').1≠2:=fun m'=>by
  obtain⟨k,a,b⟩:=i;match k,h18 with
  |0,_=>exact fun h=>by cases h
  |1,_=>exact fun h=>by cases h
  |2,_=>exact fun h=>by cases h
  |3,_=>exact fun h=>by cases h
  |4,_=>exact fun h=>by cases h
  |5,_=>exact fun h=>by cases h
  |6,_=>exact fun h=>by cases h
  |7,_=>have e:jF P ⟨7,a,b⟩ m'=if m'.st.headD 0=0 then(1,m')else(0,{m' with st:=wrap64 ((m'.st.tail.headD 0).tdiv (m'.st.headD 0))::m'.st.tail.tail}):=rfl;rw[e];split<;>simp
  |8,_=>exact fun h=>by cases h
  |9,_=>exact fun h=>by cases h
  |10,_=>exact fun h=>by cases h
  |11,_=>exact fun h=>by cases h
  |12,_=>exact fun h=>by cases h
  |13,_=>exact fun h=>by cases h
  |14,_=>have e:jF P ⟨14,a,b⟩ m'=if 0<m'.st.headD 0 then(0,{m' with st:=wrap64 (m'.st.headD 0-1)::m'.st.tail})else(0,{m' with st:=m'.st.tail,eD:=a}):=rfl;rw[e];split<;>simp
  |15,_=>exact fun h=>by cases h
  |16,_=>exact fun h=>by cases h
  |17,_=>exact fun h=>by cases h
  |18,h=>exact absurd rfl h
  |k+19,_=>exact fun h=>by cases h
 exact this _ hd.1
theorem Wt(P:Pg)(n:Nat):∀{m m2:Ms},gJ P n m=(0,m2)->∃k m1,k<n/\kH P k m=some m1/\jB P m1=(2,m2):=by
 induction n with
 |zero=>intro m m2 h;cases h
 |succ n ih=>
 intro m m2 h;rw[gJ]at h;by_cases hs:(kg P m).1=true
 ·rw[aA hs]at h;have hf:(kg P m).2.fin=0:=congrArg Prod.fst h;have h2:(kg P m).2=m2:=congrArg Prod.snd h;refine⟨0,m,by omega,rfl,?_⟩;unfold kg at hs hf h2;cases hq:jB P m with| mk e1 x=>
  rw[hq]at hs hf h2;match e1,hs,hf,h2 with| 0,hs,hf,h2=>simp only at hs hf;simp[hf]at hs| 1,hs,hf,h2=>simp only at hs hf;simp[hf]at hs| 2,hs,hf,h2=>simp only at h2;rw[h2]| 3,hs,hf,h2=>simp only at hs hf;simp[hf]at hs| e1+4,hs,hf,h2=>cases hf
 rw[ah hs]at h;obtain⟨k,m1,h1,h2,h3⟩:=ih h;exact⟨k+1,m1,by omega,by rw[kH,ah hs];exact h2,h3⟩
theorem J0(P:Pg)(n:Nat):∀{m:Ms},(gJ P n m).1≠4->∀n',n<=n'->gJ P n' m=gJ P n m:=by
 induction n with| zero=>intro m h;exact absurd rfl h| succ n ih=>
 intro m h n' hn;obtain⟨n',rfl⟩:∃k,n'=k+1:=⟨n'-1,by omega⟩;rw[gJ]at h |-;rw[gJ];by_cases hs:(kg P m).1=true;·rw[aA hs,aA hs]
 rw[ah hs]at h |-;rw[ah hs];exact ih h n' (by omega)
theorem resume{N:Nat}(h:gJ P N m=(0,m2))(r:List Int)(h4:(gJ P N (m.more r)).1≠4)(B:List iL):∃C,gJ P N ({m2 with left:=r}.said B)=((gJ P N (m.more r)).1,(gJ P N (m.more r)).2.said C)/\C.getLast?=(gJ P N (m.more r)).2.eY.getLast?:=by
 obtain⟨k,m1,hk,hs,hw⟩:=Wt P N h;obtain⟨w1,⟨q,w2⟩,w3⟩:=Ws hw;have hg:=Jx P r k hs;have e1:({m2 with left:=r}:Ms).said B=(m1.more r).said B:=by rw[w2];unfold Ms.said Ms.more;dsimp only;rw[w1];all_goals rfl
 have e2:gJ P N (m.more r)=gJ P (N-k) (m1.more r):=VI hg (by omega);rw[e2]at h4 |-;have e3:gJ P N (m1.more r)=gJ P (N-k) (m1.more r):=J0 P (N-k) h4 N (by omega);obtain⟨A,a1,a2,a3⟩:=It P N (m1.more r);have hA:A≠[]:=a3 (by omega) (w3 r);rw[e1,a2 B,e3];rw[e3]at a1;refine⟨B++A,rfl,?_⟩;rw[a1,List.getLast?_append,List.getLast?_append];obtain⟨x,hx⟩:∃x,A.getLast?=some x:=⟨A.getLast hA,List.getLast?_eq_some_getLast hA⟩;rw[hx];all_goals rfl
theorem Wu(ps:List (List (dX×Int))):ps.dropLast.flatten.length<=ps.flatten.length:=by
 by_cases h:ps=[];·subst h;simp
 obtain⟨qs,q,e⟩:∃qs q,ps=qs++[q]:=⟨_,_,(bM h).symm⟩;subst e;simp
theorem J1(ps:List (List (dX×Int))):(jq ps.dropLast (ps.getLastD [])).flatten.length<=ps.flatten.length:=by
 by_cases h:ps=[];·subst h;simp[jq]
 obtain⟨qs,q,e⟩:∃qs q,ps=qs++[q]:=⟨_,_,(bM h).symm⟩;subst e;rw[List.dropLast_concat];by_cases h2:qs=[];·subst h2;simp[jq,List.getLastD_eq_getLast?]
 obtain⟨rs,r,e⟩:∃rs r,qs=rs++[r]:=⟨_,_,(bM h2).symm⟩;subst e;simp[jq,List.getLastD_eq_getLast?]
variable{ps:List (List (dX×Int))}
theorem Wv(h:ps≠[])(x:dX×Int):(jq ps [x]).flatten.length=ps.flatten.length+1/\(jq ps [x]).length=ps.length/\jq ps [x]≠[]:=by obtain⟨qs,q,e⟩:∃qs q,ps=qs++[q]:=⟨_,_,(bM h).symm⟩;subst e;simp[jq,List.getLastD_eq_getLast?];omega
theorem Kb(h:2<=ps.length)(x:List (dX×Int)):(jq ps.dropLast x).length=ps.length-1:=by unfold jq;simp;omega
theorem MJ(w:dX)(v:Int)(u:Bool)(k:Nat):∀t s,(fT w v u k t s).2.held=s.held/\(fT w v u k t s).2.eU=s.eU/\(fT w v u k t s).2.over=s.over/\(fT w v u k t s).2.failed=s.failed/\s.eY.length<=(fT w v u k t s).2.eY.length/\(∀x,(fT w v u k t s).1=some (some x)->s.eY.length+1<=(fT w v u k t s).2.eY.length):=by
 induction k with| zero=>intro t s;exact⟨rfl,rfl,rfl,rfl,ay _,fun x h=>by cases h⟩| succ k ih=>
 intro t s;unfold fT ask;cases hl:s.left with| nil=>exact⟨rfl,rfl,rfl,rfl,by simp,fun x h=>by cases h⟩| cons x r=>
 simp only;split;·exact⟨rfl,rfl,rfl,rfl,by simp,fun _ _=>by simp⟩
 obtain⟨h1,h2,h3,h4,h5,h6⟩:=ih (t+1) {s with eY:=s.eY++[⟨w,v,t,u⟩],left:=r};simp only[aC,aS]at h5 h6;exact⟨h1,h2,h3,h4,by omega,fun x hx=>by have:=h6 x hx;omega⟩
theorem ML(L:List (dX×Int)):∀s,(ny L s).held=s.held/\(ny L s).eU=s.eU/\(ny L s).failed=s.failed/\s.eY.length<=(ny L s).eY.length:=by
 induction L with
 |nil=>intro s;exact⟨rfl,rfl,rfl,ay _⟩
 |cons a L ih=>
 intro s;obtain⟨w,v⟩:=a;obtain⟨h1,h2,h3,h4,h5,_⟩:=MJ w v true 3 1 s;rw[ny];cases ht:fT w v true 3 1 s with
 |mk o s1=>
 rw[ht]at h1 h2 h4 h5;dsimp only at h1 h2 h4 h5;match o with
 |none=>exact⟨h1,h2,h4,h5⟩
 |some none=>exact⟨h1,h2,h4,h5⟩
 |some (some _)=>
 obtain⟨g1,g2,g3,g4⟩:=ih s1;exact⟨g1.trans h1,g2.trans h2,g3.trans h4,aK h5 g4⟩
def I3(f:Rs->Rs):Prop:=∀s,s.eU≠[]->s.eU.flatten.length<=s.eY.length->(f s).held.length=s.held.length/\(f s).eU.flatten.length<=(f s).eY.length/\((f s).over=0->(f s).stop=false->(f s).eU.length=s.eU.length)
variable{f:Rs->Rs}
theorem I3.ne(h:I3 f){s:Rs}(h1:s.eU≠[])(h2:s.eU.flatten.length<=s.eY.length)(h3:(f s).over=0)(h4:(f s).stop=false):(f s).eU≠[]:=fun e=>by have:=(h s h1 h2).2.2 h3 h4;rw[e]at this;exact h1 (bA.1 this.symm)
theorem Ww(V:Vs)(held:List Int)(w:dX)(v:Int):(oz V held w v).length=held.length:=by
 unfold oz;split;·rfl
 simp
theorem Kd(V:Vs)(eH:dX)(ex:Option fG)(gH undo:dX)(n:Nat):I3 (uU V eH ex gH undo n):=by
 intro s hp hf;unfold uU;split;·exact⟨rfl,hf,fun _ _=>rfl⟩
 rename_i arg _;obtain⟨h1,h2,h3,h4,h5,h6⟩:=MJ eH arg false n 1 s;cases ht:fT eH arg false n 1 s with
 |mk o s1=>
 rw[ht]at h1 h2 h3 h5 h6;dsimp only at h1 h2 h3 h5 h6;match o with
 |none=>simp only;exact⟨by rw[h1],by rw[h2];omega,fun _ _=>by rw[h2]⟩
 |some none=>simp only;exact⟨by rw[h1],by rw[h2];omega,fun _ _=>by rw[h2]⟩
 |some (some v)=>
 have h7:=h6 v rfl;simp only;have hp1:s1.eU≠[]:=by rw[h2];exact hp
 refine⟨?_,?_,fun _ _=>?_⟩
 ·split;·rw[h1]
  rw[Ww,h1]
 ·split;·rw[h2];omega
  rw[(Wv hp1 _).1,h2];omega
 split;·rw[h2]
 rw[(Wv hp1 _).2.1,h2]
theorem Kf(h:I3 f)(hi:∀s,s.going=false->f s=s)(n:Nat):I3 (jE f n):=by
 induction n with| zero=>intro s _ hf;exact⟨rfl,hf,fun _ _=>rfl⟩| succ n ih=>
 intro s hp hf;rw[jE];obtain⟨h1,h2,h3⟩:=h s hp hf;by_cases hg:(f s).over=0/\(f s).stop=false;·obtain⟨g1,g2,g3⟩:=ih (f s) (h.ne hp hf hg.1 hg.2) h2;exact⟨g1.trans h1,g2,fun a b=>(g3 a b).trans (h3 hg.1 hg.2)⟩
 have hno:(f s).going=false:=by
  cases hh:(f s).going with| false=>rfl| true=>
  exfalso;unfold Rs.going at hh;rw[bH,bH,beq_iff_eq,dD,dD]at hh;exact hg hh.1
 rw[VB (hi _ hno)];exact⟨h1,h2,h3⟩
theorem Wx(V:Vs)(x:Sm)(h1:I3 (ig V x.one))(h2:I3 (ig V x.two)):I3 (iQ V x):=by
 intro s hp hf;unfold iQ;split
 ·split;·exact⟨rfl,hf,fun _ _=>rfl⟩
  exact⟨Ww _ _ _ _,hf,fun _ _=>rfl⟩
 split;·exact Kd V _ _ _ _ _ s hp hf
 split
 ·split;·exact⟨rfl,hf,fun _ _=>rfl⟩
  split;·exact h1 s hp hf
  exact h2 s hp hf
 split
 ·obtain⟨a1,a2,a3⟩:=h1 {s with eU:=s.eU++[[]]} (by simp) (by simpa using hf);dsimp only at a1 a2 a3 |-;generalize ig V x.one {s with eU:=s.eU++[[]]}=s1 at a1 a2 a3;have hpos:=bR.2 hp;split
  ·rename_i hc;refine⟨a1,a2,fun b1 b2=>?_⟩;obtain hc|hc:=hc;·exact absurd b1 hc
   rw[b2]at hc;cases hc
  rename_i hc;have hc1:s1.over=0:=aU fun h=>hc (ak h);have hc2:s1.stop=false:=by cases hh:s1.stop with| false=>rfl| true=>exact absurd (aj hh) hc
  have hl:=a3 hc1 hc2;rw[aC,aS]at hl;split
  ·obtain⟨u1,u2,u3,u4⟩:=ML (s1.eU.getLastD []).reverse {s1 with failed:=false,eU:=s1.eU.dropLast};have hu:mM {s1 with failed:=false}=ny (s1.eU.getLastD []).reverse {s1 with failed:=false,eU:=s1.eU.dropLast}:=rfl;rw[hu];generalize ny (s1.eU.getLastD []).reverse {s1 with failed:=false,eU:=s1.eU.dropLast}=s2 at u1 u2 u3 u4;dsimp only at u1 u2 u4;have hd:s1.eU.dropLast.length=s.eU.length:=by rw[cK,hl];omega
   have hf2:s2.eU.flatten.length<=s2.eY.length:=by rw[u2];have:=Wu s1.eU;omega
   split;·obtain⟨b1,b2,b3⟩:=h2 s2 (fun e=>by rw[u2]at e;rw[e]at hd;simp at hd;omega) hf2;exact⟨b1.trans ((congrArg List.length u1).trans a1),b2,fun c1 c2=>(b3 c1 c2).trans (by rw[u2,hd])⟩
   exact⟨(congrArg List.length u1).trans a1,hf2,fun _ _=>by rw[u2,hd]⟩
  refine⟨a1,?_,fun _ _=>?_⟩;·have:=J1 s1.eU;dsimp only;omega
  dsimp only;rw[Kb (by omega)];omega
 split;·exact Kf h1 (fun s h=>Gm V _ h) _ s hp hf
 exact⟨rfl,hf,fun _ _=>rfl⟩
theorem Bj(V:Vs)(l:List Sm):I3 (ig V l):=by
 match l with
 |[]=>intro s _ hf;rw[CP];exact⟨rfl,hf,fun _ _=>rfl⟩
 |⟨op,eH,pl,ex,gH,gG,undo,n,gZ,one,two⟩::rest=>
 intro s hp hf;rw[Ed];split
 ·have hx:=Wx V ⟨op,eH,pl,ex,gH,gG,undo,n,gZ,one,two⟩ (Bj V one) (Bj V two);obtain⟨h1,h2,h3⟩:=hx s hp hf;generalize hz:iQ V ⟨op,eH,pl,ex,gH,gG,undo,n,gZ,one,two⟩ s=z at h1 h2 h3;by_cases hg:z.over=0/\z.stop=false
  ·have hne:z.eU≠[]:=by rw[<- hz]at hg |-;exact hx.ne hp hf hg.1 hg.2
   obtain⟨g1,g2,g3⟩:=Bj V rest z hne h2;exact⟨g1.trans h1,g2,fun a b=>(g3 a b).trans (h3 hg.1 hg.2)⟩
  have hno:z.going=false:=by
   cases hh:z.going with| false=>rfl| true=>
   exfalso;unfold Rs.going at hh;rw[bH,bH,beq_iff_eq,dD,dD]at hh;exact hg hh.1
  rw[Gm V rest hno];exact⟨h1,h2,h3⟩
 rename_i hg;rw[Gm V rest (by simpa using hg)];exact⟨rfl,hf,fun _ _=>rfl⟩
def O3(f:Rs->Rs):Prop:=∀s,s.over<=3->(f s).over<=3
theorem Ks(L:List (dX×Int)):O3 (ny L):=by
 induction L with| nil=>intro s h;exact h| cons a L ih=>
 intro s h;obtain⟨w,v⟩:=a;obtain⟨_,_,k3,_⟩:=MJ w v true 3 1 s;rw[ny];cases ht:fT w v true 3 1 s with| mk o s1=>
 rw[ht]at k3;dsimp only at k3;match o with| none=>show s1.over<=3;omega| some none=>exact ay 3| some (some _)=>exact ih s1 (by omega)
theorem Wy:O3 mM:=fun s h=>Ks _ {s with eU:=s.eU.dropLast} h
theorem Kx(V:Vs)(eH:dX)(ex:Option fG)(gH undo:dX)(n:Nat):O3 (uU V eH ex gH undo n):=by
 intro s h;unfold uU;cases uK V s.held ex with| none=>exact h| some arg=>
 obtain⟨_,_,k3,_⟩:=MJ eH arg false n 1 s;dsimp only;cases ht:fT eH arg false n 1 s with| mk o s1=>
 rw[ht]at k3;dsimp only at k3;match o with| none=>show s1.over<=3;omega| some none=>show s1.over<=3;omega| some (some _)=>show s1.over<=3;omega
theorem Lk(h:O3 f)(n:Nat):O3 (jE f n):=by induction n with| zero=>intro s h;exact h| succ n ih=>intro s hs;exact ih _ (h s hs)
theorem Ln(V:Vs)(x:Sm)(h1:O3 (ig V x.one))(h2:O3 (ig V x.two)):O3 (iQ V x):=by
 intro s h0;unfold iQ;by_cases o1:x.op=108;·simp only[aA o1];cases uK V s.held x.ex<;>exact h0
 simp only[ah o1];by_cases o2:x.op=99;·simp only[aA o2];exact Kx V x.eH x.ex x.gH x.undo x.n s h0
 simp only[ah o2];by_cases o3:x.op=105
 ·simp only[aA o3];cases uK V s.held x.ex with| none=>exact h0| some v=>
  dsimp only;by_cases hv:v=1;·rw[aA hv];exact h1 s h0
  rw[ah hv];exact h2 s h0
 simp only[ah o3];by_cases o4:x.op=116
 ·simp only[aA o4];have q1:(ig V x.one {s with eU:=s.eU++[[]]}).over<=3:=h1 {s with eU:=s.eU++[[]]} h0;generalize ig V x.one {s with eU:=s.eU++[[]]}=s1 at q1 |-;by_cases hb:s1.over≠0\/s1.stop=true;·rw[aA hb];exact q1
  rw[ah hb];by_cases hf:s1.failed=true
  ·rw[aA hf];have q2:(mM {s1 with failed:=false}).over<=3:=Wy {s1 with failed:=false} q1;generalize mM {s1 with failed:=false}=s2 at q2 |-;by_cases hg:s2.going=true;·rw[aA hg];exact h2 s2 q2
   rw[ah hg];exact q2
  rw[ah hf];exact q1
 simp only[ah o4];by_cases o5:x.op=114;·simp only[aA o5];exact Lk h1 x.n s h0
 simp only[ah o5];exact h0
theorem MN(V:Vs)(l:List Sm):O3 (ig V l):=by
 match l with
 |[]=>intro s h;rw[CP];exact h
 |⟨op,eH,pl,ex,gH,gG,undo,n,gZ,one,two⟩::rest=>
 intro s h;rw[Ed];refine MN V rest _ ?_;split;·exact Ln V ⟨op,eH,pl,ex,gH,gG,undo,n,gZ,one,two⟩ (MN V one) (MN V two) s h
 exact h
theorem Lo(V:Vs)(l:List Sm)(a:List Int):(play V l a).over<=3:=by
 have q:=MN V l ⟨List.replicate V.length 0,a,[],[[]],0,false,false⟩ (aQ _);unfold play;generalize ig V l ⟨List.replicate V.length 0,a,[],[[]],0,false,false⟩=s at q |-;unfold jH;by_cases hb:s.over≠0\/s.stop=true;·rw[aA hb];exact q
 rw[ah hb];by_cases hf:s.failed=true
 ·rw[aA hf];have q2:=Wy s q;generalize mM s=s2 at q2 |-;by_cases hg:s2.over=0/\s2.stop=false;·rw[aA hg];show 2<=3;decide
  rw[ah hg];exact q2
 rw[ah hf];show 1<=3;decide
theorem Qo{s:dX}{l:List Sm}(hr:read s=.ok l)(hc:gI s=(0,0)):(jv l ⟨[],0,0⟩).e=0:=by
 unfold gI at hc;rw[hr]at hc;simp only at hc;split at hc;·assumption
 rename_i hne;simp at hc;exact absurd hc.1 hne
end Px
namespace Ref
open Px
theorem _root_.Go.Proofs.YtgkhgealpneodaaGreatDoor.Px.Wz(P:Pg)(i:Nat)(arg:Int)(most:Nat)(und:Bool)(m:Ms):(iI P i arg most und m).2.2.eY.length=m.eY.length+1:=by
 unfold iI;split;·simp
 split;·simp
 split<;>simp
theorem Lq(r:Nat×Int×Ms)(n:Nat)(h:r.2.2.eY.length=n):(match r with
  |(0,v,m')=>((0:Nat),{m' with st:=v::m'.st.tail})
  |(e,_,m')=>(e,m')).2.eY.length=n:=by
 obtain⟨e,v,m'⟩:=r;cases e<;>exact h
theorem Lt(r:Nat×Int×Ms)(n:Nat)(u:List (Nat×Int))(h:r.2.2.eY.length=n):(match r with
   |(0,_,m')=>((0:Nat),{m' with fV:=u})
   |(1,_,m')=>(4,m')
   |(e,_,m')=>(e,m')).2.eY.length=n:=by
 obtain⟨e,v,m'⟩:=r;match e with
 |0=>exact h
 |1=>exact h
 |e+2=>exact h
theorem Ly(r:Nat×Ms)(n p:Nat)(h:r.2.eY.length<=n):(match r with
   |(0,m')=>((0:Nat),m')
   |(e,m')=>(e,{m' with eD:=p})).2.eY.length<=n:=by
 obtain⟨e,m'⟩:=r;cases e<;>exact h
theorem Lz(r:Nat×Ms)(n:Nat)(h:r.2.eY.length<=n):(match r with
 |(0,m')=>(decide (m'.fin≠0),m')
 |(1,m')=>(decide (m'.fin≠0),{m' with jK:=true})
 |(2,m')=>(true,m')
 |(3,m')=>(decide (m'.fin≠0),m')
 |(_,m')=>(true,{m' with fin:=3})).2.eY.length<=n:=by
 obtain⟨e,m'⟩:=r;match e with
 |0=>exact h
 |1=>exact h
 |2=>exact h
 |3=>exact h
 |e+4=>exact h
theorem _root_.Go.Proofs.YtgkhgealpneodaaGreatDoor.Px.Mb(P:Pg)(i:fC)(m:Ms):(jF P i m).2.eY.length<=m.eY.length+1:=by
 unfold jF;by_cases h0:i.k=0;·rw[aA h0];exact bF _
 rw[ah h0];by_cases h1:i.k=1;·rw[aA h1];exact bF _
 rw[ah h1];by_cases h2:i.k=2;·rw[aA h2];exact bF _
 rw[ah h2];by_cases h3:i.k=3;·rw[aA h3];exact bF _
 rw[ah h3];by_cases h4:i.k=7
 ·rw[aA h4];by_cases hh:m.st.headD 0=0;·rw[aA hh];exact bF _
  rw[ah hh];exact bF _
 rw[ah h4];by_cases h5:i.k<=10;·rw[aA h5];exact bF _
 rw[ah h5];by_cases h6:i.k=11;·rw[aA h6];exact bF _
 rw[ah h6];by_cases h7:i.k=12;·rw[aA h7];exact bF _
 rw[ah h7];by_cases h8:i.k=13;·rw[aA h8];exact bF _
 rw[ah h8];by_cases h9:i.k=14
 ·rw[aA h9];by_cases hh:0<m.st.headD 0;·rw[aA hh];exact bF _
  rw[ah hh];exact bF _
 rw[ah h9];by_cases h10:i.k=15;·rw[aA h10];exact bF _
 rw[ah h10];by_cases h11:i.k=16;·rw[aA h11];exact bF _
 rw[ah h11];by_cases h12:i.k=17;·rw[aA h12];exact bF _
 rw[ah h12];by_cases WA:i.k=18;·rw[aA WA];exact Nat.le_of_eq (Lq _ _ (Px.Wz P i.a (m.st.headD 0) i.b false m))
 rw[ah WA];exact bF _
theorem _root_.Go.Proofs.YtgkhgealpneodaaGreatDoor.Px.Mm(P:Pg)(m:Ms):(jC P m).2.eY.length<=m.eY.length+1:=by
 have hb:(jC.behind m).2.eY.length=m.eY.length:=by unfold jC.behind;split<;>rfl
 unfold jC;split;·omega
 rename_i u r hu;split;·omega
 exact Nat.le_of_eq (Lt _ _ _ (Px.Wz P u.1 u.2 3 true m))
theorem _root_.Go.Proofs.YtgkhgealpneodaaGreatDoor.Px.Mn(P:Pg)(m:Ms):(kg P m).2.eY.length<=m.eY.length+1:=by
 have hs:(jB P m).2.eY.length<=m.eY.length+1:=by
  unfold jB;split;·exact Px.Mm P m
  split;·exact bF _
  rename_i i hi;exact Ly _ _ _ (Px.Mb P i {m with eD:=m.eD+1})
 exact Lz _ _ hs
theorem _root_.Go.Proofs.YtgkhgealpneodaaGreatDoor.Px.Mo(P:Pg)(n:Nat):∀m:Ms,(gJ P n m).2.eY.length<=m.eY.length+n:=by
 induction n with| zero=>intro m;exact ay _| succ n ih=>
 intro m;rw[gJ];have h1:=Px.Mn P m;split;·dsimp only;omega
 have h2:=ih (kg P m).2;omega
end Ref
namespace Px
def SA(s:Rs):Prop:=s.stop=true->s.eY≠[]
theorem WB(w:dX)(a:Int)(u:Bool)(k:Nat):∀t s,SA s->SA (fT w a u k t s).2:=by
 induction k with| zero=>intro t s h;rw[fT];exact h| succ k ih=>
 intro t s h;rw[fT];have hq:(ask ⟨w,a,t,u⟩ s).2.eY≠[]:=by unfold ask;split<;>simp
 generalize ask ⟨w,a,t,u⟩ s=p at hq |-;obtain⟨_|v,s1⟩:=p;·exact fun _=>hq
 dsimp only;split;·exact fun _=>hq
 exact ih _ _ fun _=>hq
theorem WC(L:List (dX×Int)):∀s,SA s->SA (ny L s):=by
 induction L with
 |nil=>exact fun s h=>h
 |cons a L ih=>
 intro s h;rw[ny];have q:=WB a.1 a.2 true 3 1 s h;generalize fT a.1 a.2 true 3 1 s=p at q |-;obtain⟨_|_|_,s1⟩:=p;·exact q
 ·exact q
 exact ih _ q
theorem Mp(V:Vs)(eH:dX)(ex:Option fG)(gH undo:dX)(n:Nat)(s:Rs)(h:SA s):SA (uU V eH ex gH undo n s):=by
 unfold uU;split;·exact h
 rename_i arg _;have q:=WB eH arg false n 1 s h;generalize fT eH arg false n 1 s=p at q |-;obtain⟨_|_|_,s1⟩:=p<;>exact q
theorem Mu{f:Rs->Rs}(h:∀s,SA s->SA (f s))(n:Nat):∀s,SA s->SA (jE f n s):=by
 induction n with
 |zero=>exact fun s h=>h
 |succ n ih=>exact fun s hs=>ih _ (h _ hs)
theorem My(V:Vs)(x:Sm)(h1:∀s,SA s->SA (ig V x.one s))(h2:∀s,SA s->SA (ig V x.two s))(s:Rs)(h:SA s):SA (iQ V x s):=by
 have q1:=h1 {s with eU:=s.eU++[[]]} h;unfold iQ;dsimp only;generalize ig V x.one {s with eU:=s.eU++[[]]}=s1 at q1 |-;have q3:SA (mM {s1 with failed:=false}):=WC _ _ q1
 repeat' split
 all_goals first|exact h|exact Mp _ _ _ _ _ _ s h|exact h1 _ h|exact h2 _ h|exact q1|exact q3|exact h2 _ q3|exact Mu h1 _ _ h
theorem MO(V:Vs)(l:List Sm):∀s,SA s->SA (ig V l s):=by
 match l with
 |[]=>intro s h;rw[CP];exact h
 |⟨op,eH,pl,ex,gH,gG,undo,n,gZ,one,two⟩::rest=>
 intro s h;rw[Ed];refine MO V rest _ ?_;split;·exact My V _ (MO V one) (MO V two) s h
 exact h
theorem Mz(V:Vs)(l:List Sm)(a:List Int)(h:(play V l a).over=0):(play V l a).eY≠[]:=by
 have q:=MO V l ⟨List.replicate V.length 0,a,[],[[]],0,false,false⟩ fun h=>by cases h
 unfold play at h |-;generalize ig V l ⟨List.replicate V.length 0,a,[],[[]],0,false,false⟩=s at q h |-;have q2:SA (mM s):=WC _ _ q;unfold jH at h |-;dsimp only at h |-;split at h;·rename_i hb;rw[aA hb];exact q (hb.resolve_left fun hn=>hn h)
 rename_i hb;rw[ah hb];split at h
 ·rename_i hf;rw[aA hf];split at h;·cases h
  rename_i hg;rw[ah hg];refine q2 ?_;cases hs:(mM s).stop;·exact absurd ⟨h,hs⟩ hg
  rfl
 cases h
