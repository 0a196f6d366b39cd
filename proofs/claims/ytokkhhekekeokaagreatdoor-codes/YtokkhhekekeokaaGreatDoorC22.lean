import Derived.Test.YtokkhhekekeokaaGreatDoorC21
set_option maxRecDepth 100000
namespace Go.Proofs.YtokkhhekekeokaaGreatDoor
open Go.RowKit
namespace Px
def Rj (P:Pg)(S:List (Option iB)):List (Nat×Nat×Nat)->Option Nat->Prop
 | [],t=>t=none
 | b::r,t=>∃ q i s,t=some q/\P.ins[q]?=some i/\i.k=15/\gW S q=some s/\b.2.1=s.1/\b.2.2=i.a/\Rj P S r s.2
def F4:List (Nat×Nat×Nat)->Nat->Prop
 | [],_=>True
 | b::r,n=>b.1<=n/\F4 r b.1
theorem F4.le {l:List (Nat×Nat×Nat)}{n n':Nat}(h:F4 l n)(hn:n<=n'):F4 l n':=by
 cases l with
 | nil=>trivial
 | cons b r=>exact ⟨aP h.1 hn,h.2⟩
def nA (v:Int):Prop:=-9223372036854775808<=v/\v<=9223372036854775807
theorem Rk (v:Int):nA (wrap64 v):=by unfold nA wrap64;omega
theorem Yp (b:Bool):nA (truth b):=by cases b<;>exact ⟨by decide,by decide⟩
theorem zpm:nA 0:=⟨by decide,by decide⟩
structure je (P:Pg)(S:List (Option iB))(c:Nat)(m:Ms):Prop where
 vars:m.vars.length=P.nv
 rD:∀ v∈m.st,nA v
 lW:∀ v∈m.vars,nA v
 jR:∀ v∈m.left,nA v
 qh:∀ u∈m.fU,nA u.2/\u.1 < P.fT.length
 fl:F4 m.fP m.fU.length
 fJ:m.fJ < 65536
 at_:∃ t,Rj P S m.fP t/\lV S t<=m.st.length/\(m.iZ=false->gW S m.fE=some (m.st.length,t))
 pl:m.fE<=P.ins.length
 fin:m.fin=0
 c1:m.st.length<=c
 c2:m.fU.length<=c
 c3:m.fP.length<=c
 c4:m.fI.length<=c
variable {P:Pg}{S:List (Option iB)}{a c e h most p:Nat}{m m':Ms}
theorem je.up {c':Nat}(h:je P S c m)(hc:c<=c'):je P S c' m :=
 ⟨h.vars,h.rD,h.lW,h.jR,h.qh,h.fl,h.fJ,h.at_,h.pl,h.fin,aP h.c1 hc,aP h.c2 hc,aP h.c3 hc,aP h.c4 hc⟩
variable {arg v:Int}{und:Bool}
theorem BP {i:Nat}(h:iU P i arg most und m=(e,v,m')) :
  ∃ a l t,m'={ m with fI:=m.fI++[a],left:=l,fJ:=t }/\(∀ x∈l,x∈m.left)/\(t<=m.fJ\/t < most)/\(e=0->v∈m.left/\0<=v)/\(e≠0->v=0)/\e<=3:=by
 unfold iU at h;split at h
 ·rename_i hl;cases h;exact ⟨_,m.left,m.fJ,rfl,fun _ h=>h,ak (aj _),(fun h=>by cases h),fun _=>rfl,by decide⟩
 ·rename_i v0 r hl;have hr:∀ x∈r,x∈m.left:=fun x hx=>by rw[hl];exact List.mem_cons_of_mem _ hx
  split at h
  ·rename_i hc;cases h;exact ⟨_,r,_,rfl,hr,ah hc.2,(fun h=>by cases h),fun _=>rfl,by decide⟩
  ·split at h
   ·cases h;exact ⟨_,r,0,rfl,hr,ak (aK _),(fun h=>by cases h),fun _=>rfl,by decide⟩
   ·rename_i hv;cases h;exact ⟨_,r,0,rfl,hr,ak (aK _),fun _=>⟨by rw[hl];exact dK,by omega⟩,fun h=>absurd rfl h,by decide⟩
theorem je.ask (h:je P S c m){i:Nat}(he:iU P i arg most und m=(e,v,m'))(hm:most<=65536):je P S (c+1) m':=by
 obtain ⟨a,l,t,rfl,h1,h2,_⟩:=BP he
 have:=h.fJ
 exact ⟨h.vars,h.rD,h.lW,fun v hv=>h.jR v (h1 v hv),h.qh,h.fl,by show t < 65536;omega,h.at_,h.pl,h.fin,bf h.c1,bf h.c2,bf h.c3,by have:=h.c4;simp;omega⟩
variable {t:Option Nat}
theorem je.yB (h:je P S c m)(hS:xD P S){st:List Int}(hr:∀ v∈st,nA v)(hl:st.length<=c+1)(hc:Rj P S m.fP t)(hs:gW S p=some (st.length,t))(hp:p<=P.ins.length):je P S (c+1) { m with st:=st,fE:=p } :=
 ⟨h.vars,hr,h.lW,h.jR,h.qh,h.fl,h.fJ,⟨t,hc,(xC hS.AL (rC.refl _) hs).2,fun _=>hs⟩,hp,h.fin,hl,bf h.c2,bf h.c3,bf h.c4⟩
variable {i:Ins}
theorem Jm (h:jW P i=true)(h1:12<=i.k)(h2:i.k<=16):i.a<=P.ins.length:=by
 unfold jW at h;rw[if_neg (by omega),if_neg (by omega),if_pos ⟨h1,h2⟩] at h
 have:=of_decide_eq_true h
 omega
theorem Rl (h:jW P i=true)(h1:i.k=1\/i.k=2):i.a < P.nv:=by
 unfold jW at h;rw[if_pos h1] at h;exact of_decide_eq_true h
theorem Yq (h:jW P i=true)(h1:i.k=18\/i.k=19):i.a < P.fT.length:=by
 unfold jW at h;rw[if_neg (by omega),if_pos h1] at h
 exact of_decide_eq_true h
theorem Yr {l:List Int}(h:0 < l.length):l.headD 0∈l:=by
 cases l with
 | nil=>simp at h
 | cons a l=>simp
structure jX (P:Pg)(i:Ins)(m:Ms):Prop where
 k:i.k < 20
 a:i.a < 65536
 b:i.b < 65536
 st:iX i.k<=m.st.length
 fit:jW P i=true
 keep:i.k=16->m.fP≠[]
theorem je.can (h:je P S c m)(hS:xD P S)(ho:∀ i∈P.ins,ni i)(hu:m.iZ=false)(hi:P.ins[m.fE]?=some i):jX P i m:=by
 obtain ⟨t,h1,h2,h3⟩:=h.at_;obtain ⟨now,e1,e2,e3,e4⟩:=hS.ok _ _ hi;rw[h3 hu] at e1;cases e1;have ok:=ho i (bJ hi);refine ⟨ok.k,ok.a,ok.b,by show _<=m.st.length;exact aP (Nat.le_add_right _ _) e3,e2,fun hk hb=>?_⟩
 obtain ⟨q,s,g1,_⟩:=e4.2.2.2.2.1 hk;rw[hb] at h1
 replace h1:t=none:=h1
 rw[h1] at g1;cases g1
theorem zxw (h:je P S c m)(hS:xD P S)(ho:∀ i∈P.ins,ni i)(hu:m.iZ=false)(hi:P.ins[m.fE]?=some i)(he:jh P i { m with fE:=m.fE+1 }=(e,m')) :
  (e=0->je P S (c+1) m')/\(e≠0->je P S (c+1) { m' with fE:=m.fE }):=by
 have hcan:=h.can hS ho hu hi;have hpl:m.fE < P.ins.length:=(aU.1 hi).1;obtain ⟨t,h1,h2,h3⟩:=h.at_;obtain ⟨now,e1,e2,e3,e4⟩:=hS.ok _ _ hi;have h3:=h3 hu;rw[h3] at e1;cases e1;obtain ⟨l12,l13,l14,l15,l16,lo⟩:=e4;have hk:=hcan.k;have hst:=hcan.st;have hc1:=h.c1;have rt:∀ v∈m.st.tail,nA v:=fun v hv=>h.rD v (List.mem_of_mem_tail hv)
 have Yt:∀ v∈m.st.tail.tail,nA v:=fun v hv=>rt v (List.mem_of_mem_tail hv)
 have cons:∀ {v:Int} {l:List Int},nA v->(∀ x∈l,nA x)->∀ x∈v::l,nA x:=fun hv hl x hx=>by
  rw[bY] at hx;rcases hx with rfl | hx
  ·exact hv
  ·exact hl x hx
 have none0:∀ {x:Ms},e=0->je P S (c+1) x->((0:Nat)=0->je P S (c+1) x):=fun _ h _=>h
 unfold jh at he;by_cases k0:i.k=0
 ·rw[if_pos k0] at he;cases he;refine ⟨fun _=>?_,fun h=>absurd rfl h⟩
  have hn:=lo (by omega)
  rw[show kX i.k=1 by rw[k0]<;>rfl,show iX i.k=0 by rw[k0]<;>rfl] at hn
  exact h.yB hS (cons ⟨by omega,by have:=hcan.a;omega⟩ h.rD) (by simp;omega) h1 (by simpa using hn) hpl
 rw[if_neg k0] at he;by_cases k1:i.k=1
 ·rw[if_pos k1] at he;cases he;refine ⟨fun _=>?_,fun h=>absurd rfl h⟩
  have hn:=lo (by omega)
  rw[show kX i.k=1 by rw[k1]<;>rfl,show iX i.k=0 by rw[k1]<;>rfl] at hn
  have hv:=Rl e2 (ak k1);refine h.yB hS (cons ?_ h.rD) (by simp;omega) h1 (by simpa using hn) hpl
  have:i.a < m.vars.length:=by rw[h.vars];exact hv
  show nA (m.vars.getD i.a 0)
  rw[aX,bD this];exact h.lW _ (dV this)
 rw[if_neg k1] at he;by_cases k2:i.k=2
 ·rw[if_pos k2] at he;cases he;refine ⟨fun _=>?_,fun h=>absurd rfl h⟩
  have hn:=lo (by omega)
  rw[show kX i.k=0 by rw[k2]<;>rfl,show iX i.k=1 by rw[k2]<;>rfl] at hn
  rw[show iX i.k=1 by rw[k2]<;>rfl] at hst
  have:=h.yB (st:=m.st.tail) (p:=m.fE+1) hS rt (by simp;omega) h1 (by rw[dz];exact hn) hpl
  refine ⟨by simpa using h.vars,this.rD,fun v hv=>?_,this.jR,this.qh,this.fl,this.fJ,this.at_,this.pl,this.fin,this.c1,this.c2,this.c3,this.c4⟩
  rcases List.mem_or_eq_of_mem_set hv with hv | rfl
  ·exact h.lW v hv
  ·exact h.rD _ (Yr hst)
 rw[if_neg k2] at he;by_cases k3:i.k=3
 ·rw[if_pos k3] at he;cases he;refine ⟨fun _=>?_,fun h=>absurd rfl h⟩
  have hn:=lo (by omega)
  rw[show kX i.k=0 by rw[k3]<;>rfl,show iX i.k=1 by rw[k3]<;>rfl] at hn
  exact h.yB hS rt (by simp;omega) h1 (by rw[dz];exact hn) hpl
 rw[if_neg k3] at he;by_cases k7:i.k=7
 ·rw[if_pos k7] at he;have hn:=lo (by omega)
  rw[show kX i.k=1 by rw[k7]<;>rfl,show iX i.k=2 by rw[k7]<;>rfl] at hn
  rw[show iX i.k=2 by rw[k7]<;>rfl] at hst
  split at he
  ·cases he;exact ⟨(fun h=>by cases h),fun _=>h.up (bP c)⟩
  ·cases he;exact ⟨fun _=>h.yB hS (cons (Rk _) Yt) (by simp;omega) h1 (by simp only[aC,dz];rw[show m.st.length - 1 - 1+1=m.st.length+1 - 2 by omega];exact hn) hpl,fun h=>absurd rfl h⟩
 rw[if_neg k7] at he;by_cases k10:i.k<=10
 ·rw[if_pos k10] at he;cases he;refine ⟨fun _=>?_,fun h=>absurd rfl h⟩
  have hn:=lo (by omega)
  have g1:kX i.k=1:=by unfold kX;rw[if_neg (by omega),if_neg (by omega),if_pos (by omega)]
  have g2:iX i.k=2:=by unfold iX;rw[if_neg (by omega),if_neg (by omega),if_pos (by omega)]
  rw[g1,g2] at hn;rw[g2] at hst;refine h.yB hS (cons ?_ Yt) (by simp;omega) h1 (by simp only[aC,dz];rw[show m.st.length - 1 - 1+1=m.st.length+1 - 2 by omega];exact hn) hpl
  unfold vW
  repeat' split
  all_goals first | exact Rk _ | exact Yp _
 rw[if_neg k10] at he;by_cases k11:i.k=11
 ·rw[if_pos k11] at he;cases he;refine ⟨fun _=>?_,fun h=>absurd rfl h⟩
  have hn:=lo (by omega)
  rw[show kX i.k=1 by rw[k11]<;>rfl,show iX i.k=1 by rw[k11]<;>rfl] at hn
  rw[show iX i.k=1 by rw[k11]<;>rfl] at hst
  exact h.yB hS (cons (Yp _) rt) (by simp;omega) h1 (by simp only[aC,dz];rw[show m.st.length - 1+1=m.st.length+1 - 1 by omega];exact hn) hpl
 rw[if_neg k11] at he;by_cases k12:i.k=12
 ·rw[if_pos k12] at he;cases he;exact ⟨fun _=>h.yB hS h.rD (bf hc1) h1 (l12 k12) (Jm e2 (by omega) (by omega)),fun h=>absurd rfl h⟩
 rw[if_neg k12] at he;by_cases k13:i.k=13
 ·rw[if_pos k13] at he;cases he;refine ⟨fun _=>?_,fun h=>absurd rfl h⟩
  obtain ⟨a1,a2⟩:=l13 k13;refine h.yB hS rt (by simp;omega) h1 ?_ ?_
  ·rw[dz];split
   ·exact a1
   ·exact a2
  ·have:=Jm e2 (by omega) (by omega)
   split
   ·exact this
   ·exact hpl
 rw[if_neg k13] at he;by_cases k14:i.k=14
 ·rw[if_pos k14] at he;obtain ⟨a1,a2⟩:=l14 k14;rw[show iX i.k=1 by rw[k14]<;>rfl] at hst
  split at he
  ·cases he;refine ⟨fun _=>h.yB hS (cons (Rk _) rt) (by simp;omega) h1 ?_ hpl,fun h=>absurd rfl h⟩
   simp only[aC,dz];rw[show m.st.length - 1+1=m.st.length by omega]
   exact a2
  ·cases he;exact ⟨fun _=>h.yB hS rt (by simp;omega) h1 (by rw[dz];exact a1) (Jm e2 (by omega) (by omega)),fun h=>absurd rfl h⟩
 rw[if_neg k14] at he;by_cases k15:i.k=15
 ·rw[if_pos k15] at he;cases he;obtain ⟨a1,a2⟩:=l15 k15
  have:=h.c3
  exact ⟨fun _=>⟨h.vars,h.rD,h.lW,h.jR,h.qh,⟨aj _,h.fl⟩,h.fJ,⟨some m.fE,⟨m.fE,i,_,rfl,hi,k15,h3,rfl,rfl,h1⟩,(xC hS.AL (rC.refl _) a2).2,fun _=>a2⟩,hpl,h.fin,bf h.c1,bf h.c2,by simpa using this,bf h.c4⟩,fun h=>absurd rfl h⟩
 rw[if_neg k15] at he;by_cases k16:i.k=16
 ·rw[if_pos k16] at he;cases he;obtain ⟨q,s,b1,b2,b3,b4⟩:=l16 k16
  replace b1:t=some q:=b1
  replace b3:m.st.length=s.1:=b3
  refine ⟨fun _=>?_,fun h=>absurd rfl h⟩
  subst b1;cases hb:m.fP with
  | nil=>rw[hb] at h1;cases h1
  | cons b r =>
   rw[hb] at h1;obtain ⟨q',i',s',x1,x2,x3,x4,x5,x6,x7⟩:=h1;cases x1;rw[b2] at x4;cases x4;have b4':gW S i.a=some (m.st.length,s.2):=by rw[b4,b3]
   have hfl:=h.fl;rw[hb] at hfl;have hc3:=h.c3;rw[hb,aC] at hc3;exact ⟨h.vars,h.rD,h.lW,h.jR,h.qh,hfl.2.le hfl.1,h.fJ,⟨s.2,x7,(xC hS.AL (rC.refl _) b4').2,fun _=>b4'⟩,Jm e2 (by omega) (by omega),h.fin,bf h.c1,bf h.c2,by show r.length<=_;omega,bf h.c4⟩
 rw[if_neg k16] at he;by_cases k17:i.k=17
 ·rw[if_pos k17] at he;cases he;exact ⟨(fun h=>by cases h),fun _=>h.up (bP c)⟩
 rw[if_neg k17] at he;by_cases k18:i.k=18
 ·rw[if_pos k18] at he;have hn:=lo (by omega)
  rw[show kX i.k=1 by rw[k18]<;>rfl,show iX i.k=1 by rw[k18]<;>rfl] at hn
  rw[show iX i.k=1 by rw[k18]<;>rfl] at hst
  cases ha:iU P i.a (m.st.headD 0) i.b false { m with fE:=m.fE+1 } with
  | mk ea va =>
   obtain ⟨va,ma⟩:=va;obtain ⟨a,l,t',rfl,g1,g2,g3,g4,g5⟩:=BP ha;have hbb:=hcan.b;have htr:=h.fJ;have hc4:=h.c4
   replace g2:t'<=m.fJ\/t' < i.b:=g2
   have key:∀ (st:List Int) (p:Nat),(∀ v∈st,nA v)->st.length=m.st.length->(p=m.fE\/p=m.fE+1)->je P S (c+1) { m with st:=st,fE:=p,fI:=m.fI++[a],left:=l,fJ:=t' }:=by
    intro st p hr hl hp;have hs:gW S p=some (st.length,t):=by
     rw[hl];rcases hp with rfl | rfl
     ·exact h3
     ·exact hn
    exact ⟨h.vars,hr,h.lW,fun v hv=>h.jR v (g1 v hv),h.qh,h.fl,by show t' < 65536;omega,⟨t,h1,by show lV S t<=st.length;omega,fun _=>hs⟩,by show p<=_;omega,h.fin,by show st.length<=_;omega,bf h.c2,bf h.c3,by simp;omega⟩
   rw[show iU P i.a (({ m with fE:=m.fE+1 }:Ms).st.headD 0) i.b false { m with fE:=m.fE+1 }=(ea,va,{ m with fE:=m.fE+1,fI:=m.fI++[a],left:=l,fJ:=t' }) from ha] at he
   by_cases hz:ea=0
   ·subst hz;cases he;refine ⟨fun _=>?_,fun h=>absurd rfl h⟩
    exact key (va::m.st.tail) (m.fE+1) (cons (h.jR _ (g3 rfl).1) rt) (by simp;omega) (ah rfl)
   ·have he':((ea,{ m with fE:=m.fE+1,fI:=m.fI++[a],left:=l,fJ:=t' }):Nat×Ms)=(e,m'):=by
     rw[<- he];cases ea with
     | zero=>exact absurd rfl hz
     | succ n=>rfl
    cases he';exact ⟨fun h=>absurd h hz,fun _=>key m.st m.fE h.rD rfl (ak rfl)⟩
 rw[if_neg k18] at he;cases he;have AO:i.k=19:=by omega
 have hn:=lo (by omega)
 rw[show kX i.k=1 by rw[AO]<;>rfl,show iX i.k=1 by rw[AO]<;>rfl] at hn
 rw[show iX i.k=1 by rw[AO]<;>rfl] at hst
 refine ⟨fun _=>?_,fun h=>absurd rfl h⟩
 have hn':gW S (m.fE+1)=some (m.st.length,t):=hn
 have:=h.c2
 refine ⟨h.vars,h.rD,h.lW,h.jR,fun u hu=>?_,h.fl.le (by simp),h.fJ,⟨t,h1,h2,fun _=>hn'⟩,hpl,h.fin,bf h.c1,by simp;omega,bf h.c3,bf h.c4⟩
 rw[bY] at hu;rcases hu with rfl | hu
 ·exact ⟨h.rD _ (Yr hst),Yq e2 (ah AO)⟩
 ·exact h.qh u hu
theorem Yu (h:je P S c m)(hS:xD P S){b:Nat×Nat×Nat}{r:List (Nat×Nat×Nat)}(hb:m.fP=b::r) :
  b.2.1<=m.st.length/\je P S (c+1) { m with iZ:=false,fP:=r,st:=m.st.drop (m.st.length - b.2.1),fE:=b.2.2 }:=by
 obtain ⟨t,h1,h2,_⟩:=h.at_;have hfl:=h.fl;have hc3:=h.c3;have hc1:=h.c1;rw[hb] at h1 hfl hc3;rw[aC] at hc3;obtain ⟨q,i,s,rfl,x2,x3,x4,x5,x6,x7⟩:=h1;have hfs:s.1<=m.st.length:=by
  unfold lV at h2;simp only[x4] at h2;exact h2
 obtain ⟨now,e1,e2,e3,e4⟩:=hS.ok _ _ x2;rw[x4] at e1;cases e1;have hat:=(e4.2.2.2.1 x3).1;have hl:(m.st.drop (m.st.length - b.2.1)).length=s.1:=by rw[List.length_drop,x5];omega
 have hat':gW S b.2.2=some ((m.st.drop (m.st.length - b.2.1)).length,s.2):=by rw[hl,x6];exact hat
 refine ⟨by omega,h.vars,fun v hv=>h.rD v (List.mem_of_mem_drop hv),h.lW,h.jR,h.qh,hfl.2.le hfl.1,h.fJ,⟨s.2,x7,(xC hS.AL (rC.refl _) hat').2,fun _=>hat'⟩,?_,h.fin,by show (m.st.drop (m.st.length - b.2.1)).length<=_;omega,bf h.c2,by show r.length<=_;omega,bf h.c4⟩
 show b.2.2<=_
 rw[x6];exact Jm e2 (by omega) (by omega)
theorem Yv (h:je P S c m):pG m<=m.fU.length:=by
 have hfl:=h.fl;unfold pG;cases hb:m.fP with
 | nil=>exact aK _
 | cons b r=>rw[hb] at hfl;exact hfl.1
theorem zku (h:je P S c m)(hS:xD P S)(_hu:m.iZ=true)(he:kU P m=(e,m'))(hf:m'.fin=0):je P S (c+1) m':=by
 have hbe:∀ e m',kU.behind m=(e,m')->m'.fin=0->je P S (c+1) m':=by
  intro e m' hb hf;unfold kU.behind at hb;split at hb
  ·cases hb;cases hf
  ·rename_i b r hbb;cases hb;exact (Yu h hS hbb).2
 unfold kU at he;split at he
 ·exact hbe _ _ he hf
 ·rename_i u r hur;split at he
  ·exact hbe _ _ he hf
  ·rename_i hne;cases ha:iU P u.1 u.2 3 true m with
   | mk ea va =>
    obtain ⟨va,ma⟩:=va;rw[ha] at he;have hI:=h.ask ha (by decide)
    obtain ⟨a,l,t',rfl,_⟩:=BP ha;have hfl:=Yv h;match ea,he with
    | 0,he =>
     cases he;refine ⟨hI.vars,hI.rD,hI.lW,hI.jR,fun x hx=>h.qh x (by rw[hur];exact List.mem_cons_of_mem _ hx),?_,hI.fJ,hI.at_,hI.pl,hI.fin,hI.c1,?_,hI.c3,hI.c4⟩
     ·show F4 m.fP r.length
      have hf2:=h.fl;rw[hur,aC] at hne hfl;unfold pG at hne hfl;cases hb:m.fP with
      | nil=>trivial
      | cons b r' =>
       rw[hb] at hne hfl hf2;exact ⟨by simp only at hne hfl;omega,hf2.2⟩
     ·have:=h.c2
      rw[hur,aC] at this;show r.length<=_
      omega
    | 1,he=>cases he;exact hI
    | 2,he=>cases he;exact hI
    | n+3,he=>cases he;exact hI
theorem Ni (h:je P S c m)(hS:xD P S)(ho:∀ i∈P.ins,ni i)(he:jE P m=(e,m'))(hf:m'.fin=0):je P S (c+1) m':=by
 unfold jE at he;split at he
 ·rename_i hu;exact zku h hS hu he hf
 ·rename_i hu;have hu:m.iZ=false:=by simpa using hu
  split at he
  ·cases he;cases hf
  ·rename_i i hi;cases hd:jh P i { m with fE:=m.fE+1 } with
   | mk ea ma =>
    rw[hd] at he;obtain ⟨i1,i2⟩:=zxw h hS ho hu hi hd;match ea,he with
    | 0,he=>cases he;exact i1 rfl
    | n+1,he=>cases he;exact i2 (by omega)
theorem zms (h:je P S c m)(hS:xD P S)(ho:∀ i∈P.ins,ni i)(hf:(mP P m).2.fin=0):je P S (c+1) (mP P m).2:=by
 unfold mP at hf |-;cases hs:jE P m with
 | mk e m' =>
  rw[hs] at hf;match e,hs,hf with
  | 0,hs,hf=>exact Ni h hS ho hs hf
  | 1,hs,hf =>
   have:=Ni h hS ho hs hf
   obtain ⟨t,a,b,d⟩:=this.at_;exact ⟨this.vars,this.rD,this.lW,this.jR,this.qh,this.fl,this.fJ,⟨t,a,b,(fun h=>by cases h)⟩,this.pl,this.fin,this.c1,this.c2,this.c3,this.c4⟩
  | 2,hs,hf=>exact Ni h hS ho hs hf
  | 3,hs,hf=>exact Ni h hS ho hs hf
  | n+4,hs,hf=>cases hf
def yC (P:Pg)(fK:List Int):Ms:=⟨[],List.replicate P.nv 0,[],[],[],fK,0,0,false,0⟩
theorem zfa (hS:xD P S){fK:List Int}(hr:∀ v∈fK,nA v):je P S 0 (yC P fK) :=
 ⟨by simp[yC],(fun v h=>by cases h),fun v h=>by rw[List.eq_of_mem_replicate h];exact zpm,hr,(fun u h=>by cases h),trivial,by show 0 < 65536;decide,⟨none,rfl,aK _,fun _=>hS.start⟩,aK _,rfl,aj _,aj _,aj _,aj _⟩
variable {s:iB}
theorem Yw (h0:gW S p=some s)(hf:a < P.ins.length+1)(h1:lV S s.2<=s.1):mD P S p ⟨12,a,0⟩=iN S a s:=by
 unfold mD;rw[h0];simp only;rw[tV (i:=⟨12,a,0⟩) (fun h=>by rcases h with h | h<;>cases h) (fun h=>by rcases h with h | h<;>cases h) (fun _=>hf),if_neg (by simp),if_neg (by show ¬ s.1 < 0+_;omega),if_neg (by simp)]
 rfl
theorem Yx (h0:gW S p=some (h+1,t))(hf:a < P.ins.length+1)(h1:lV S t<=h):mD P S p ⟨13,a,0⟩=(iN S a (h,t)).bind fun S=>iN S (p+1) (h,t):=by
 unfold mD;rw[h0];simp only;rw[tV (i:=⟨13,a,0⟩) (fun h=>by rcases h with h | h<;>cases h) (fun h=>by rcases h with h | h<;>cases h) (fun _=>hf),if_neg (by simp),if_neg (by show ¬ h+1 < 1+_;omega),if_neg (by simp)]
 rfl
theorem zw5 (h0:gW S p=some (h+1,t))(hf:a < P.ins.length+1)(h1:lV S t<=h):mD P S p ⟨14,a,0⟩=(iN S a (h,t)).bind fun S=>iN S (p+1) (h+1,t):=by
 unfold mD;rw[h0];simp only;rw[tV (i:=⟨14,a,0⟩) (fun h=>by rcases h with h | h<;>cases h) (fun h=>by rcases h with h | h<;>cases h) (fun _=>hf),if_neg (by simp),if_neg (by show ¬ h+1 < 1+_;omega),if_neg (by simp)]
 rfl
theorem zw4 (h0:gW S p=some (h,t))(hf:a < P.ins.length+1)(h1:lV S t<=h):mD P S p ⟨15,a,0⟩=(iN S a (h,t)).bind fun S=>iN S (p+1) (h,some p):=by
 unfold mD;rw[h0];simp only;rw[tV (i:=⟨15,a,0⟩) (fun h=>by rcases h with h | h<;>cases h) (fun h=>by rcases h with h | h<;>cases h) (fun _=>hf),if_neg (by simp),if_neg (by show ¬ h < 0+_;omega),if_neg (by simp)]
 rfl
theorem zw3 {q:Nat}(h0:gW S p=some (h,some q))(hq:gW S q=some (h,t))(hf:a < P.ins.length+1):mD P S p ⟨16,a,0⟩=iN S a (h,t):=by
 have hfl:lV S (some q)=h:=by unfold lV;simp only;rw[hq]
 unfold mD;rw[h0];simp only;rw[tV (i:=⟨16,a,0⟩) (fun h=>by rcases h with h | h<;>cases h) (fun h=>by rcases h with h | h<;>cases h) (fun _=>hf),if_neg (by simp),if_neg (by rw[hfl];show ¬ h < 0+_;omega),if_neg (by rw[hfl];simp)]
 unfold oK;simp only;rw[if_neg (by decide),if_neg (by decide),if_neg (by decide),if_neg (by decide),if_pos trivial]
 show iN S a ((gW S q).getD (0,none))=_
 rw[hq]
 all_goals rfl
theorem Nj (P:Pg)(S:List (Option iB))(p:Nat)(i:Ins)(l:List Ins):mM P S p ([i]++l)=(mD P S p i).bind fun S=>mM P S (p+1) l:=rfl
theorem zob {a:List Ins}(p:Nat)(ha:gQ P h a (p+1) (h,t) (h,t)):gQ P h ([⟨13,p+1+a.length,0⟩]++a) p (h+1,t) (h,t):=by
 intro S hS hp h0 h1 hq h2 h3;have hl:([(⟨13,p+1+a.length,0⟩:Ins)]++a).length=1+a.length:=ay;rw[hl] at hp h2 h3 |-;have h3':=h3 (by simp)
 rw[<- dN] at h3';obtain ⟨S1,e1,l1,f1⟩:=AB (S:=S) (p:=p+1+a.length) (s:=(h,t)) (by omega) h3'
 obtain ⟨S2,e2,l2,f2⟩:=AB (S:=S1) (p:=p+1) (s:=(h,t)) (by omega) (by
  rw[f1];by_cases hz:p+1=p+1+a.length
  ·rw[if_pos hz];exact ah rfl
  ·rw[if_neg hz];exact ak (h2 _ (by omega) (by omega)))
 have k2:gW S2 (p+1)=some (h,t):=by rw[f2,if_pos rfl]
 have g2:∀ q,q<=p->gW S2 q=gW S q:=fun q g=>by rw[f2,if_neg (by omega),f1,if_neg (by omega)]
 obtain ⟨S3,e3,l3,k3,f3⟩:=ha S2 (by omega) (by omega) k2 (by rw[D8 hq g2];exact h1) (fun q g=>by have:=hq q g;omega) (fun q g1 g3=>by rw[f2,if_neg (by omega),f1,if_neg (by omega)];exact h2 q (by omega) (by omega)) (fun _=>by
  rw[f2,f1];by_cases hz:p+1+a.length=p+1
  ·rw[if_pos hz];exact ah rfl
  ·rw[if_neg hz,if_pos rfl];exact ah rfl)
 refine ⟨S3,?_,by omega,by rw[<- dN];exact k3,?_⟩
 ·rw[Nj,Yx h0 (by omega) h1,e1]
  show (iN S1 (p+1) (h,t)).bind (fun S=>mM P S (p+1) a)=_
  rw[e2];exact e3
 ·intro q hq';rw[f3 q (by omega),f2,if_neg (by omega),f1,if_neg (by omega)]
theorem Yy {a b:List Ins}{j:Ins}{u:iB}(p:Nat)(hut:u.1=h/\(u.2=t\/(u.2=some p/\s.1=h)))(hi:∀ S:List (Option iB),gW S p=some s->lV S t<=h->(p+1+a.length+1) < P.ins.length+1->mD P S p i=(iN S (p+1+a.length+1) (h,t)).bind fun S=>iN S (p+1) u)(hj:∀ S:List (Option iB),gW S (p+1+a.length)=some u->gW S p=some s->lV S t<=h->(p+1+a.length+1+b.length) < P.ins.length+1->mD P S (p+1+a.length) j=iN S (p+1+a.length+1+b.length) (h,t))(hs:s.2=t)(ha:gQ P h a (p+1) u u)(hb:gQ P h b (p+1+a.length+1) (h,t) (h,t)):gQ P h ([i]++(a++([j]++b))) p s (h,t):=by
 intro S hS hp h0 h1 hq h2 h3;rw[hs] at h1 hq;have hl:([i]++(a++([j]++b))).length=1+a.length+1+b.length:=by simp;omega
 rw[hl] at hp h2 h3 |-;have h3':=h3 (by simp)
 rw[show p+(1+a.length+1+b.length)=p+1+a.length+1+b.length by omega] at h3' h2 |-
 obtain ⟨S1,e1,l1,f1⟩:=AB (S:=S) (p:=p+1+a.length+1) (s:=(h,t)) (by omega) (by
  by_cases hz:b.length=0
  ·rw[show p+1+a.length+1=p+1+a.length+1+b.length by omega];exact h3'
  ·exact ak (h2 _ (by omega) (by omega)))
 obtain ⟨S2,e2,l2,f2⟩:=AB (S:=S1) (p:=p+1) (s:=u) (by omega) (by rw[f1,if_neg (by omega)];exact ak (h2 _ (by omega) (by omega)))
 have k2:gW S2 (p+1)=some u:=by rw[f2,if_pos rfl]
 have g2:∀ q,q<=p->gW S2 q=gW S q:=fun q g=>by rw[f2,if_neg (by omega),f1,if_neg (by omega)]
 have Yz:lV S2 t<=h:=by rw[D8 hq g2];exact h1
 obtain ⟨S3,e3,l3,k3,f3⟩:=ha S2 (by omega) (by omega) k2 (by
   rcases hut.2 with hu | ⟨hu,hsu⟩
   ·rw[hu];exact Yz
   ·rw[hu];unfold lV;simp only;rw[g2 p (aj _),h0];show s.1<=h;rw[hsu];exact aj _)
  (fun q g=>by
   rcases hut.2 with hu | ⟨hu,_⟩
   ·have:=hq q (by rw[<- hu];exact g);omega
   ·rw[hu] at g;cases g;omega)
  (fun q g1 g3=>by rw[f2,if_neg (by omega),f1,if_neg (by omega)];exact h2 q (by omega) (by omega))
  (fun hne=>by
   have:=bV.2 hne
   rw[f2,if_neg (by omega),f1,if_neg (by omega)];exact ak (h2 _ (by omega) (by omega)))
 have g3:∀ q,q<=p->gW S3 q=gW S q:=fun q g=>by rw[f3 q (by omega)];exact g2 q g
 have YA:lV S3 t<=h:=by rw[D8 hq g3];exact h1
 have q3:gW S3 (p+1+a.length+1)=some (h,t):=by rw[f3 _ (by omega),f2,if_neg (by omega),f1,if_pos rfl]
 obtain ⟨S4,e4,l4,f4⟩:=AB (S:=S3) (p:=p+1+a.length+1+b.length) (s:=(h,t)) (by omega) (by
  by_cases hz:b.length=0
  ·rw[hz];exact ah q3
  ·rw[f3 _ (by omega),f2,if_neg (by omega),f1,if_neg (by omega)];exact h3')
 have q4:gW S4 (p+1+a.length+1)=some (h,t):=by
  rw[f4];split
  ·rfl
  ·exact q3
 have g4:∀ q,q<=p->gW S4 q=gW S q:=fun q g=>by rw[f4,if_neg (by omega)];exact g3 q g
 obtain ⟨S5,e5,l5,k5,f5⟩:=hb S4 (by omega) (by omega) q4 (by rw[D8 hq g4];exact h1) (fun q g=>by have:=hq q g;omega)
  (fun q g1 g2'=>by rw[f4,if_neg (by omega),f3 q (by omega),f2,if_neg (by omega),f1,if_neg (by omega)];exact h2 q (by omega) (by omega))
  (fun _=>by rw[f4,if_pos rfl];exact ah rfl)
 refine ⟨S5,?_,by omega,k5,?_⟩
 ·rw[Nj,hi S h0 h1 (by omega),e1]
  show (iN S1 (p+1) u).bind (fun S=>mM P S (p+1) (a++([j]++b)))=_
  rw[e2];show mM P S2 (p+1) (a++([j]++b))=_
  rw[Jk,e3];show mM P S3 (p+1+a.length) ([j]++b)=_
  rw[Nj,hj S3 k3 (by rw[g3 p (aj _)];exact h0) YA (by omega),e4]
  exact e5
 ·intro q hq';rw[f5 q (by omega),f4,if_neg (by omega),f3 q (by omega),f2,if_neg (by omega),f1,if_neg (by omega)]
theorem zlu {a:List Ins}(p:Nat)(ha:gQ P (h+1) a (p+1) (h+1,t) (h+1,t)):gQ P h ([⟨14,p+1+a.length+1,0⟩]++(a++[⟨12,p,0⟩])) p (h+1,t) (h,t):=by
 intro S hS hp h0 h1 hq h2 h3;have hl:([(⟨14,p+1+a.length+1,0⟩:Ins)]++(a++[(⟨12,p,0⟩:Ins)])).length=1+a.length+1:=by simp;omega
 rw[hl] at hp h2 h3 |-;have h3':=h3 (by simp)
 rw[show p+(1+a.length+1)=p+1+a.length+1 by omega] at h3' h2 |-
 obtain ⟨S1,e1,l1,f1⟩:=AB (S:=S) (p:=p+1+a.length+1) (s:=(h,t)) (by omega) h3'
 obtain ⟨S2,e2,l2,f2⟩:=AB (S:=S1) (p:=p+1) (s:=(h+1,t)) (by omega) (by rw[f1,if_neg (by omega)];exact ak (h2 _ (by omega) (by omega)))
 have k2:gW S2 (p+1)=some (h+1,t):=by rw[f2,if_pos rfl]
 have g2:∀ q,q<=p->gW S2 q=gW S q:=fun q g=>by rw[f2,if_neg (by omega),f1,if_neg (by omega)]
 have Yz:lV S2 t<=h:=by rw[D8 hq g2];exact h1
 obtain ⟨S3,e3,l3,k3,f3⟩:=ha S2 (by omega) (by omega) k2 (by show lV S2 t<=h+1;omega) (fun q g=>by have:=hq q g;omega)
  (fun q g1 g3=>by rw[f2,if_neg (by omega),f1,if_neg (by omega)];exact h2 q (by omega) (by omega))
  (fun hne=>by
   have:=bV.2 hne
   rw[f2,if_neg (by omega),f1,if_neg (by omega)];exact ak (h2 _ (by omega) (by omega)))
 have g3:∀ q,q<=p->gW S3 q=gW S q:=fun q g=>by rw[f3 q (by omega)];exact g2 q g
 have YA:lV S3 t<=h:=by rw[D8 hq g3];exact h1
 obtain ⟨S4,e4,l4,f4⟩:=AB (S:=S3) (p:=p) (s:=(h+1,t)) (by omega) (by rw[g3 p (aj _)];exact ah h0)
 refine ⟨S4,?_,by omega,?_,?_⟩
 ·rw[Nj,zw5 h0 (by omega) h1,e1]
  show (iN S1 (p+1) (h+1,t)).bind (fun S=>mM P S (p+1) (a++[⟨12,p,0⟩]))=_
  rw[e2];show mM P S2 (p+1) (a++[⟨12,p,0⟩])=_
  rw[Jk,e3];show (mD P S3 (p+1+a.length) ⟨12,p,0⟩).bind (fun S=>some S)=_
  rw[Yw k3 (by omega) (by show lV S3 t<=h+1;omega),e4]
  rfl
 ·rw[f4,if_neg (by omega),f3 _ (by omega),f2,if_neg (by omega),f1,if_pos rfl]
 ·intro q hq';rw[f4];by_cases hz:q=p
  ·rw[if_pos hz,hz,h0]
  ·rw[if_neg hz,f3 q (by omega),f2,if_neg (by omega),f1,if_neg (by omega)]
def Nk (V:List fq)(x:Option Ex):Prop:=∀ e,x=some e->xB V e
def uU (W V:List fq):List Sm->Prop
 | []=>True
 | ⟨op,fD,_,ex,gu,_,undo,_,_,one,two⟩::rest=>(op=108\/op=99\/op=105->Nk V ex)/\(op=108->iH V fD=true)/\(op=99->iH W fD=true/\(undo.size≠0->iH W undo=true)/\(gu.size≠0->iH V gu=true))/\(op=105\/op=116\/op=114->uU W V one)/\(op=105\/op=116->uU W V two)/\uU W V rest
def Nl (W V:List fq)(x:Sm):Prop:=(x.op=108\/x.op=99\/x.op=105->Nk V x.ex)/\(x.op=108->iH V x.fD=true)/\(x.op=99->iH W x.fD=true/\(x.undo.size≠0->iH W x.undo=true)/\(x.gu.size≠0->iH V x.gu=true))/\(x.op=105\/x.op=116\/x.op=114->uU W V x.one)/\(x.op=105\/x.op=116->uU W V x.two)
variable {V W:List fq}
theorem YB {x:Sm}{l:List Sm}:uU W V (x::l)↔Nl W V x/\uU W V l:=by
 obtain ⟨op,fD,pl,ex,gu,fZ,undo,n,gG,one,two⟩:=x;rw[uU];unfold Nl;simp only[and_assoc]
theorem Nn {V:List fq}(x:Ex):∀ vs,jU x vs <+: V->xB V x:=by
 match x with
 | ⟨op,n,fD,pl,own,none,r⟩ =>
  intro vs h;rw[xB];intro ho;rw[jU,if_pos ho] at h;exact Bj (vZ _ _) h
 | ⟨op,n,fD,pl,own,some l,none⟩=>intro vs h;rw[xB];rw[jU] at h;exact Nn l vs h
 | ⟨op,n,fD,pl,own,some l,some r⟩ =>
  intro vs h;rw[xB];rw[jU] at h;exact ⟨Nn l vs ((EU r _).trans h),Nn r _ h⟩
theorem Rm (x:Option Ex)(vs:List fq)(h:nM x vs <+: V):Nk V x:=by
 intro e he;subst he;exact Nn e vs h
theorem zxe (x:Sm)(h1:∀ ws vs,jq x.one ws <+: W->iV x.one vs <+: V->uU W V x.one)(h2:∀ ws vs,jq x.two ws <+: W->iV x.two vs <+: V->uU W V x.two)(ws vs:List fq)(hW:kM x ws <+: W)(hV:kF x vs <+: V):Nl W V x:=by
 by_cases o1:x.op=108
 ·have ev:kF x vs=gN (nM x.ex vs) x.fD:=by unfold kF;rw[if_pos o1]
  rw[ev] at hV;exact ⟨fun _=>Rm _ _ ((wh _ _).trans hV),fun _=>Bj (vZ _ _) hV,fun h=>absurd h (by omega),fun h=>absurd h (by omega),fun h=>absurd h (by omega)⟩
 ·by_cases o2:x.op=99
  ·have ev:kF x vs=if x.gu.size=0 then nM x.ex vs else gN (nM x.ex vs) x.gu:=by unfold kF;rw[if_neg o1,if_pos o2]
   have ew:kM x ws=vB x.fD x.undo ws:=by unfold kM;rw[if_pos o2]
   rw[ev] at hV;rw[ew] at hW;unfold vB at hW;refine ⟨fun _=>Rm _ vs ?_,fun h=>absurd h o1,fun _=>⟨?_,fun hu=>?_,fun ha=>?_⟩,fun h=>absurd h (by omega),fun h=>absurd h (by omega)⟩
   ·refine List.IsPrefix.trans ?_ hV;split
    ·exact aO _
    ·exact wh _ _
   ·refine Bj (vZ ws x.fD) (List.IsPrefix.trans ?_ hW);split
    ·exact aO _
    ·exact wh _ _
   ·rw[if_neg hu] at hW;exact Bj (vZ _ _) hW
   ·rw[if_neg ha] at hV;exact Bj (vZ _ _) hV
  ·by_cases o3:x.op=105
   ·have ev:kF x vs=iV x.two (iV x.one (nM x.ex vs)):=by unfold kF;rw[if_neg o1,if_neg o2,if_pos o3]
    have ew:kM x ws=jq x.two (jq x.one ws):=by unfold kM;rw[if_neg o2,if_pos (ak o3)]
    rw[ev] at hV;rw[ew] at hW;exact ⟨fun _=>Rm _ vs ((wT _ _).trans ((wT _ _).trans hV)),fun h=>absurd h o1,fun h=>absurd h o2,fun _=>h1 _ _ ((xW _ _).trans hW) ((wT _ _).trans hV),fun _=>h2 _ _ hW hV⟩
   ·by_cases o4:x.op=116
    ·have ev:kF x vs=iV x.two (iV x.one vs):=by unfold kF;rw[if_neg o1,if_neg o2,if_neg o3,if_pos o4]
     have ew:kM x ws=jq x.two (jq x.one ws):=by unfold kM;rw[if_neg o2,if_pos (ah o4)]
     rw[ev] at hV;rw[ew] at hW;exact ⟨fun h=>absurd h (by omega),fun h=>absurd h o1,fun h=>absurd h o2,fun _=>h1 _ _ ((xW _ _).trans hW) ((wT _ _).trans hV),fun _=>h2 _ _ hW hV⟩
    ·by_cases o5:x.op=114
     ·have ev:kF x vs=iV x.one vs:=by unfold kF;rw[if_neg o1,if_neg o2,if_neg o3,if_neg o4,if_pos o5]
      have ew:kM x ws=jq x.one ws:=by unfold kM;rw[if_neg o2,if_neg (by omega),if_pos o5]
      rw[ev] at hV;rw[ew] at hW;exact ⟨fun h=>absurd h (by omega),fun h=>absurd h o1,fun h=>absurd h o2,fun _=>h1 _ _ hW hV,fun h=>absurd h (by omega)⟩
     ·exact ⟨fun h=>absurd h (by omega),fun h=>absurd h o1,fun h=>absurd h o2,fun h=>absurd h (by omega),fun h=>absurd h (by omega)⟩
theorem Np {W V:List fq}(l:List Sm):∀ ws vs,jq l ws <+: W->iV l vs <+: V->uU W V l:=by
 match l with
 | []=>intro ws vs _ _;rw[uU];trivial
 | ⟨op,fD,pl,ex,gu,fZ,undo,n,gG,one,two⟩::rest =>
  intro ws vs hW hV;rw[CV] at hW;rw[ET] at hV;exact YB.2 ⟨zxe _ (Np one) (Np two) ws vs ((xW _ _).trans hW) ((wT _ _).trans hV),Np rest _ _ hW hV⟩
theorem Ro (hV:V.length=P.nv)(F h:Nat)(t:Option Nat)(hF:F<=h)(x:Option Ex)(hx:Nk V x)(p:Nat):gQ P F (lu (fM V) x) p (h,t) (h+1,t):=by
 cases x with
 | none=>exact gQ.one (i:=⟨0,0,0⟩) (s:=(h,t)) (ak (by show 0 < 12;decide)) (tV (fun h=>by rcases h with h | h<;>cases h) (fun h=>by rcases h with h | h<;>cases h) (fun h=>absurd h (by show ¬ (12<=0/\0<=16);decide))) (by show 0+F<=h;omega)
 | some e=>exact Ng hV F h t hF e (hx e rfl) p
theorem zm1 (hW:W.length=P.fT.length)(hV:V.length=P.nv)(x:Sm)(hx:Nl W V x)(h1:uU W V x.one->∀ h t p,gQ P h (mkS (fM W) (fM V) x.one p) p (h,t) (h,t))(h2:uU W V x.two->∀ h t p,gQ P h (mkS (fM W) (fM V) x.two p) p (h,t) (h,t))(h:Nat)(t:Option Nat)(p:Nat):gQ P h (kE (fM W) (fM V) x p) p (h,t) (h,t):=by
 obtain ⟨i1,i2,i3,i4,i5⟩:=hx;unfold kE;split
 ·rename_i o;have hv:=GV (i2 o);exact gQ.app (t:=(h+1,t)) (Ro hV h h t (aj _) x.ex (i1 (ak o)) p) (gQ.one (i:=⟨2,fM V x.fD,0⟩) (s:=(h+1,t)) (ak (by show 2 < 12;decide)) (tV (fun _=>by show fM V x.fD < P.nv;omega) (fun h=>by rcases h with h | h<;>cases h) (fun h=>absurd h (by show ¬ (12<=2/\2<=16);decide))) (by show 1+h<=h+1;omega)) rfl (fun h=>by cases h)
 ·split
  ·rename_i o;obtain ⟨w1,w2,w3⟩:=i3 o;have hw:=GV w1;unfold wS;refine gQ.app (t:=(h+1,t)) (Ro hV h h t (aj _) x.ex (i1 (ah (ak o))) p) ?_ rfl (fun h=>by cases h)
   refine gQ.app (t:=(h+1,t)) (gQ.one (i:=⟨18,fM W x.fD,x.n⟩) (s:=(h+1,t)) (ah (by show 16 < 18;decide)) (tV (fun h=>by rcases h with h | h<;>cases h) (fun _=>by show fM W x.fD < P.fT.length;omega) (fun h=>absurd h (by show ¬ (12<=18/\18<=16);decide))) (by show 1+h<=h+1;omega)) ?_ rfl (fun h=>by exfalso;revert h;split<;>simp)
   refine gQ.app (t:=(h+1,t)) ?_ ?_ rfl (fun h=>by cases h)
   ·split
    ·exact gQ.nil P h _ _
    ·rename_i hu;have hw2:=GV (w2 hu);exact gQ.one (i:=⟨19,fM W x.undo,0⟩) (s:=(h+1,t)) (ah (by show 16 < 19;decide)) (tV (fun h=>by rcases h with h | h<;>cases h) (fun _=>by show fM W x.undo < P.fT.length;omega) (fun h=>absurd h (by show ¬ (12<=19/\19<=16);decide))) (by show 1+h<=h+1;omega)
   ·split
    ·exact gQ.one (i:=⟨3,0,0⟩) (s:=(h+1,t)) (ak (by show 3 < 12;decide)) (tV (fun h=>by rcases h with h | h<;>cases h) (fun h=>by rcases h with h | h<;>cases h) (fun h=>absurd h (by show ¬ (12<=3/\3<=16);decide))) (by show 1+h<=h+1;omega)
    ·rename_i ha;have hv:=GV (w3 ha);exact gQ.one (i:=⟨2,fM V x.gu,0⟩) (s:=(h+1,t)) (ak (by show 2 < 12;decide)) (tV (fun _=>by show fM V x.gu < P.nv;omega) (fun h=>by rcases h with h | h<;>cases h) (fun h=>absurd h (by show ¬ (12<=2/\2<=16);decide))) (by show 1+h<=h+1;omega)
  ·split
   ·rename_i o;have ho:=Ro hV h h t (aj _) x.ex (i1 (ah (ah o))) p;have g1:=h1 (i4 (ak o)) h t (p+(lu (fM V) x.ex).length+1);dsimp only;split
    ·exact gQ.app (t:=(h+1,t)) ho (zob _ g1) rfl (fun h=>by cases h)
    ·have g2:=h2 (i5 (ak o)) h t (p+(lu (fM V) x.ex).length+1+(mkS (fM W) (fM V) x.one (p+(lu (fM V) x.ex).length+1)).length+1);refine gQ.app (t:=(h+1,t)) ho ?_ rfl (fun h=>by cases h)
     exact Yy (s:=(h+1,t)) (u:=(h,t)) _ ⟨rfl,ak rfl⟩ (fun S a b c=>Yx a c b) (fun S a _ b c=>Yw a c b) rfl g1 g2
   ·split
    ·rename_i o;have g1:=h1 (i4 (ah (ak o))) h (some p) (p+1);have g2:=h2 (i5 (ah o)) h t (p+1+(mkS (fM W) (fM V) x.one (p+1)).length+1);exact Yy (s:=(h,t)) (u:=(h,some p)) _ ⟨rfl,ah ⟨rfl,rfl⟩⟩ (fun S a b c=>zw4 a c b) (fun S a b _ c=>zw3 a b c) rfl g1 g2
    ·split
     ·rename_i o;have g1:=h1 (i4 (ah (ah o))) (h+1) t (p+2);refine gQ.app (t:=(h+1,t)) (gQ.one (i:=⟨0,x.n,0⟩) (s:=(h,t)) (ak (by show 0 < 12;decide)) (tV (fun h=>by rcases h with h | h<;>cases h) (fun h=>by rcases h with h | h<;>cases h) (fun h=>absurd h (by show ¬ (12<=0/\0<=16);decide))) (by show 0+h<=h;omega)) ?_ rfl (fun h=>by cases h)
      have:=zlu (P:=P) (h:=h) (t:=t) (p+1) g1
      rw[show p+1+1=p+2 by omega] at this
      exact this
     ·exact gQ.one (i:=⟨17,0,0⟩) (s:=(h,t)) (ah (by show 16 < 17;decide)) (tV (fun h=>by rcases h with h | h<;>cases h) (fun h=>by rcases h with h | h<;>cases h) (fun h=>absurd h (by show ¬ (12<=17/\17<=16);decide))) (by show 0+h<=h;omega)
theorem Nq {P:Pg}{W V:List fq}(hW:W.length=P.fT.length)(hV:V.length=P.nv)(l:List Sm):uU W V l->∀ h t p,gQ P h (mkS (fM W) (fM V) l p) p (h,t) (h,t):=by
 match l with
 | []=>intro _ h t p;rw[EL];exact gQ.nil P h p _
 | ⟨op,fD,pl,ex,gu,fZ,undo,n,gG,one,two⟩::rest =>
  intro hl h t p;obtain ⟨a1,a2⟩:=YB.1 hl;rw[CK];exact gQ.app (zm1 hW hV _ a1 (Nq hW hV one) (Nq hW hV two) h t p) (Nq hW hV rest a2 h t _) rfl (fun _=>rfl)
theorem Rp (n q:Nat):gW (nX n) q=if q=0 then some (0,none) else none:=by
 unfold gW nX;cases q with
 | zero=>rfl
 | succ q =>
  rw[if_neg (by omega),List.getD_cons_succ,aX,dH]
  split<;>rfl
theorem YC (l:List Sm):lF (iL l)=true:=by
 have hg:=Nq (P:=iL l) (W:=jq l []) (V:=iV l []) rfl rfl l (Np l [] [] (aO _) (aO _)) 0 none 0;obtain ⟨S',e1,e2,e3,e4⟩:=hg (nX (iL l).ins.length) (by simp[nX]) (by rw[bX];exact aj _) (by rw[Rp]<;>rfl) (aj _) (fun q h=>by cases h) (fun q h _=>by rw[Rp,if_neg (by omega)]) (fun hne=>by
  have:=bV.2 hne
  rw[Rp,if_neg (by omega)];exact ak rfl)
 have e1':mM (iL l) (nX (iL l).ins.length) 0 (iL l).ins=some S':=e1;have e3':gW S' (iL l).ins.length=some (0,none):=by
  rw[bX] at e3;exact e3
 unfold lF;rw[e1'];simp only;rw[e3']
 all_goals rfl
