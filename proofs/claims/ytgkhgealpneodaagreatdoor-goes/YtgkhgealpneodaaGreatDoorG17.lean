import Derived.Test.YtgkhgealpneodaaGreatDoorG12
import Derived.Test.YtgkhgealpneodaaGreatDoorG01
import Derived.Test.YtgkhgealpneodaaGreatDoorG13
import Derived.Test.YtgkhgealpneodaaGreatDoorG05
import Derived.Test.YtgkhgealpneodaaGreatDoorRows
import Derived.OpenShut
import Derived.Deep.Slices
set_option maxRecDepth 100000
namespace Go.Proofs.YtgkhgealpneodaaGreatDoor
namespace Px
open Ref
theorem Sy{c:gM}(h:V3 c)(e p:Nat):V3 (qB e p c):=by unfold V3;rw[N7];exact h
variable{F c e k most p:Nat}
theorem YO{c:gM}(h:V3 c){w:dX}(hk:K3 k):V3 (uo w p k c):=by
 unfold uo;split
 ·intro v hv;obtain h1|h1:=bT.1 hv;·exact h v h1
  rw[bD]at h1;rw[h1];exact hk
 split;·exact h
 exact Sy h _ _
theorem Oa{c:gM}(h:V3 c)(x:fG)(k:Nat):V3 (uq x k c):=by
 unfold uq;split;·exact Hu h
 exact Sy (Hu h) _ _
theorem YP{c:gM}(h:V3 c)(x:Option fG):V3 (ou x c):=by cases x with| none=>exact h| some x=>exact Oa h x 105
theorem zyb{c:gM}(h:V3 c)(w:dX)(p:Nat):V3 (tV w p c):=by
 unfold tV;split;·exact h
 exact YO h (ak rfl)
theorem SB{c:gM}(h:V3 c)(n p a b:Nat):V3 (iP n p a b c):=by
 unfold iP;split;·exact Sy h _ _
 exact h
theorem BP(l:List Sm):∀c,V3 c->V3 (kV l c):=by
 match l with
 |[]=>intro c h;rw[IL];exact h
 |⟨op,eH,pl,ex,gH,gG,undo,n,gZ,one,two⟩::rest=>
 intro c h;rw[IQ];refine BP rest _ ?_;unfold sJ;simp only;split;·cases ex with| none=>exact h| some e=>exact YO (Hu h) (Hw e c h)
 split;·exact SB (zyb (YP h _) _ _) _ _ _ _
 split;·cases ex with| none=>exact h| some e=>exact BP two _ (BP one _ (Oa h e 98))
 split;·exact BP two _ (BP one _ h)
 split;·exact BP one _ (SB h _ _ _ _)
 exact h
theorem znd(x:Sm)(c:gM)(h:V3 c):V3 (sJ x c):=by have:=BP [x] c h;rw[IQ,IL]at this;exact this
def E4(c:gM):Prop:=c.e=0\/c.e=4\/c.e=5\/c.e=6
theorem Ib{c:gM}(h:E4 c)(he:e=4\/e=5\/e=6)(p:Nat):E4 (qB e p c):=by
 unfold qB;split;·exact aj he
 exact h
theorem BQ(x:fG):∀c,E4 c->E4 (jM x c).2:=by
 match x with
 |⟨op,n,eH,pl,own,none,_⟩=>
  intro c h;simp only[jM,CO];split;·exact h
  split;·exact h
  split;·exact Ib h (by omega) _
  exact h
 |⟨op,n,eH,pl,own,some l,none⟩=>
  intro c h;simp only[jM,oU];split;·exact BQ l c h
  exact Ib (BQ l c h) (by omega) _
 |⟨op,n,eH,pl,own,some l,some r⟩=>
 intro c h;simp only[jM,vT];split;·exact BQ r _ (BQ l c h)
 exact Ib (BQ r _ (BQ l c h)) (by omega) _
theorem YQ{c:gM}(h:E4 c)(w:dX)(p k:Nat):E4 (uo w p k c):=by
 unfold uo;split;·exact h
 split;·exact h
 exact Ib h (by omega) _
theorem YR{c:gM}(h:E4 c)(x:fG)(k:Nat):E4 (uq x k c):=by
 unfold uq;split;·exact BQ x c h
 exact Ib (BQ x c h) (by omega) _
theorem zye{c:gM}(h:E4 c)(x:Option fG):E4 (ou x c):=by cases x with| none=>exact h| some x=>exact YR h x 105
theorem J9{c:gM}(h:E4 c)(w:dX)(p:Nat):E4 (tV w p c):=by
 unfold tV;split;·exact h
 exact YQ h _ _ _
theorem YS{c:gM}(h:E4 c)(n p a b:Nat):E4 (iP n p a b c):=by
 unfold iP;split;·exact Ib h (by omega) _
 exact h
theorem FD(l:List Sm):∀c,E4 c->E4 (kV l c):=by
 match l with
 |[]=>intro c h;rw[IL];exact h
 |⟨op,eH,pl,ex,gH,gG,undo,n,gZ,one,two⟩::rest=>
 intro c h;rw[IQ];refine FD rest _ ?_;unfold sJ;simp only;split;·cases ex with| none=>exact h| some e=>exact YQ (BQ e c h) _ _ _
 split;·exact YS (J9 (zye h _) _ _) _ _ _ _
 split;·cases ex with| none=>exact h| some e=>exact FD two _ (FD one _ (YR h e 98))
 split;·exact FD two _ (FD one _ h)
 split;·exact FD one _ (YS h _ _ _ _)
 exact h
variable{s:dX}
theorem qsw(hs:s.size<=300)(h:read s=.error (c,p)):c=2\/c=3:=by
 unfold read at h;rw[ah (by omega)]at h;split at h;·cases h;exact ak rfl
 split at h;·cases h;exact aj rfl
 cases h
variable{l x:List Sm}
theorem SE(h:read s=.ok l):gI s=(if(kV l ⟨[],0,0⟩).e=0 then(0,0)else((kV l ⟨[],0,0⟩).e,(kV l ⟨[],0,0⟩).pl)):=by unfold gI;rw[h];simp only;rw[B5 h]
theorem YT{r:Nat×Nat}(h:read s=.error r):gI s=r:=by unfold gI;rw[h]
theorem SF{t:iy}(h:Tk s t)(hk:t.k=110):iq (txt s t).toList<=9999:=by
 obtain⟨h1,h2⟩:=Qx h hk;have h3:=Qs (txt s t).toList 0 (by intro c hc;rw[aP]at hc;obtain⟨i,hi,rfl⟩:=dQ hc;have:=h2 i hi;unfold lT at this;simp at this;have h5:((txt s t).data.toList[i]).toNat=((s.extract t.a t.b)[i]'hi).toNat:=rfl;omega);have h4:(txt s t).toList.length<=4:=by rw[aP];exact h1
 have h6:10^(txt s t).toList.length<=10^4:=Nat.pow_le_pow_right (by decide) h4;unfold iq;omega
def nI:fG->Nat
 |⟨_,n,eH,_,_,none,_⟩=>eH.size+n+12
 |⟨_,_,_,_,_,some l,none⟩=>nI l+12
 |⟨_,_,_,_,_,some l,some r⟩=>nI l+nI r+12
def uM:fG->Prop
 |⟨op,n,eH,_,_,none,_⟩=>(op=119->0<eH.size)/\n<=9999
 |⟨_,_,_,_,_,some l,none⟩=>uM l
 |⟨_,_,_,_,_,some l,some r⟩=>uM l/\uM r
theorem zez(x:fG)(a:Nat):nI {x with pl:=a}=nI x:=by match x with| ⟨_,_,_,_,_,none,_⟩=>rfl| ⟨_,_,_,_,_,some _,none⟩=>rfl| ⟨_,_,_,_,_,some _,some _⟩=>rfl
theorem uM.eD{x:fG}(h:uM x)(a:Nat):uM {x with pl:=a}:=by match x with| ⟨_,_,_,_,_,none,_⟩=>exact h| ⟨_,_,_,_,_,some _,none⟩=>exact h| ⟨_,_,_,_,_,some _,some _⟩=>exact h
def Sz(s:dX)(g:eO->Except Nat (fG×eO)):Prop:=∀st x st',Tk s st.t->g st=.ok (x,st')->uM x/\nI x+12000*st.t.a<=12000*st'.t.a
theorem zos{g:eO->Except Nat (fG×eO)}(hg:fP s g)(hs:Sz s g)(a b:UInt8)(n:Nat):∀(pl lo:Nat)(e:fG)(st:eO)(x:fG)(st':eO),Tk s st.t->uM e->nI e+12000*lo<=12000*st.t.a->gQ s g a b n pl e st=.ok (x,st')->uM x/\nI x+12000*lo<=12000*st'.t.a:=by
 induction n with| zero=>intro pl lo e st x st' _ _ _ h;simp[gQ]at h| succ n ih=>
 intro pl lo e st x st' ht he hle h;rw[gQ]at h;split at h
 ·rename_i ho;have g0:=jh ht ho;have l0:=g0.lt;cases hp:g (eZ s st)with
  |error p=>rw[hp]at h;cases h
  |ok r=>
  obtain⟨k,st1⟩:=r;rw[hp]at h;have g1:=hg _ _ _ g0.tk hp;obtain⟨k1,k2⟩:=hs _ _ _ g0.tk hp;exact ih pl lo ⟨a.toNat,0,iF,pl,st.t.a,some e,some k⟩ _ _ _ g1.tk ⟨he,k1⟩ (by simp only[nI];omega) h
 split at h
 ·rename_i ho;have g0:=jh ht ho;have l0:=g0.lt;cases hp:g (eZ s st)with
  |error p=>rw[hp]at h;cases h
  |ok r=>
  obtain⟨k,st1⟩:=r;rw[hp]at h;have g1:=hg _ _ _ g0.tk hp;obtain⟨k1,k2⟩:=hs _ _ _ g0.tk hp;exact ih pl lo ⟨b.toNat,0,iF,pl,st.t.a,some e,some k⟩ _ _ _ g1.tk ⟨he,k1⟩ (by simp only[nI];omega) h
 cases h;exact⟨he,hle⟩
theorem YU{g:eO->Except Nat (fG×eO)}(hg:fP s g)(hs:Sz s g)(a b:UInt8):Sz s (row s g a b):=by
 intro st x st' ht h;unfold row at h;cases hp:g st with
 |error p=>rw[hp]at h;cases h
 |ok r=>
 obtain⟨e,st1⟩:=r;rw[hp]at h;have g1:=hg _ _ _ ht hp;obtain⟨k1,k2⟩:=hs _ _ _ ht hp;exact zos hg hs _ _ _ _ _ _ _ _ _ g1.tk k1 k2 h
theorem YV{g:eO->Except Nat (fG×eO)}(hg:fP s g)(hs:Sz s g):Sz s (sum s g):=YU (D7 hg) (YU hg hs _ _) _ _
theorem YW{g:eO->Except Nat (fG×eO)}(hg:fP s g)(hs:Sz s g):Sz s (expr s g):=by
 intro st x st' ht h;unfold expr at h;cases hp:sum s g st with
 |error p=>rw[hp]at h;cases h
 |ok r=>
 obtain⟨e,st1⟩:=r;rw[hp]at h;simp only at h;have g1:=AY hg _ _ _ ht hp;obtain⟨j1,j2⟩:=YV hg hs _ _ _ ht hp;cases hc:qU s st1.t with
 |none=>rw[hc]at h;cases h;exact⟨j1,j2⟩
 |some o=>
 rw[hc]at h;simp only at h;have hk:=Gd hc;have g0:iV s st1 (eZ s st1):=wJ g1.tk (by rw[hk];decide) (by rw[hk];decide);have l0:=g0.lt;cases hq:sum s g (eZ s st1)with
 |error p=>rw[hq]at h;cases h
 |ok r2=>
 obtain⟨k,st2⟩:=r2;rw[hq]at h;obtain⟨i1,i2⟩:=YV hg hs _ _ _ g0.tk hq;cases h;exact⟨⟨j1,i1⟩,by simp only[nI];omega⟩
theorem zu8(s:dX)(n:Nat):Sz s (fH s n):=by
 induction n with| zero=>intro st x st' _ h;simp[fH]at h| succ n ih=>
 intro st x st' ht h;have hgo:=rE s (n+1) _ _ _ ht h;have hlt:=hgo.lt;rw[fH]at h;split at h;·rename_i hk;cases h;have:=SF ht hk;refine⟨⟨fun h=>absurd h (by decide),this⟩,?_⟩;simp only[jo,nI];have:iF.size=0:=rfl;omega
 split at h
 ·rename_i hk;cases h;have h1:=ht.lt (by rw[hk];decide) (by rw[hk];decide);have h2:=ht.le;have h3:=(wI s st.t.b h2).2;have h4:(txt s st.t).size=st.t.b-st.t.a:=by unfold txt;rw[dW];omega
  refine⟨⟨fun _=>by rw[h4];omega,aQ _⟩,?_⟩;simp only[jo,nI];rw[h4];have:st.t.b<=(eZ s st).t.a:=h3;omega
 split at h;·cases h;refine⟨⟨fun h=>absurd h (by decide),by decide⟩,?_⟩;simp only[jo,nI];have:iF.size=0:=rfl;omega
 split at h;·cases h;refine⟨⟨fun h=>absurd h (by decide),by decide⟩,?_⟩;simp only[jo,nI];have:iF.size=0:=rfl;omega
 split at h
 ·rename_i ho;have g0:=jh ht ho;have l0:=g0.lt;cases hp:fH s n (eZ s st)with
  |error p=>rw[hp]at h;cases h
  |ok r=>
  obtain⟨k,st1⟩:=r;rw[hp]at h;obtain⟨k1,k2⟩:=ih _ _ _ g0.tk hp;cases h;exact⟨k1,by simp only[nI];omega⟩
 split at h
 ·rename_i ho;have g0:=jh (st:=dn st) ht ho;have l0:st.t.a<(eZ s (dn st)).t.a:=g0.lt;cases hp:expr s (fH s n) (eZ s (dn st))with
  |error p=>rw[hp]at h;cases h
  |ok r=>
  obtain⟨k,st1⟩:=r;have g1:=CJ (rE s n) _ _ _ g0.tk hp;obtain⟨k1,k2⟩:=YW (rE s n) ih _ _ _ g0.tk hp;rw[hp]at h;simp only at h;split at h;·rename_i ho2;have g2:=jh g1.tk ho2;have l2:=g2.lt;have l3:st1.t.a<(rC (eZ s st1)).t.a:=l2;cases h;exact⟨k1.eD _,by rw[zez];omega⟩
  cases h
 cases h
theorem SG(s:dX):Sz s (lG s):=YW (rE s _) (zu8 s _)
def wB(x:Option fG):Nat:=
 match x with
 |none=>0
 |some e=>nI e
def FE(x:Option fG):Prop:=∀e,x=some e->uM e
def mY:List Sm->Nat
 |[]=>0
 |⟨_,eH,_,ex,gH,_,undo,n,_,one,two⟩::rest=>eH.size+wB ex+gH.size+undo.size+n+100+mY one+mY two+mY rest
def sU:List Sm->Prop
 |[]=>True
 |⟨op,eH,_,ex,_,_,_,n,_,one,two⟩::rest=>(op=108\/op=99->0<eH.size)/\n<=9999/\FE ex/\sU one/\sU two/\sU rest
def lZ(x:Sm):Nat:=x.eH.size+wB x.ex+x.gH.size+x.undo.size+x.n+100+mY x.one+mY x.two
def yK(x:Sm):Prop:=(x.op=108\/x.op=99->0<x.eH.size)/\x.n<=9999/\FE x.ex/\sU x.one/\sU x.two
theorem BR:mY []=0:=by rw[mY]
theorem FH(x:Sm)(l:List Sm):mY (x::l)=lZ x+mY l:=by obtain⟨op,eH,pl,ex,gH,gG,undo,n,gZ,one,two⟩:=x;rw[mY]<;>rfl
theorem sV:sU []:=by rw[sU];trivial
theorem Ka{x:Sm}:sU (x::l)↔yK x/\sU l:=by
 obtain⟨op,eH,pl,ex,gH,gG,undo,n,gZ,one,two⟩:=x;rw[sU];unfold yK;constructor;·rintro⟨h1,h2,h3,h4,h5,h6⟩;exact⟨⟨h1,h2,h3,h4,h5⟩,h6⟩
 rintro⟨⟨h1,h2,h3,h4,h5⟩,h6⟩;exact⟨h1,h2,h3,h4,h5,h6⟩
theorem zla(l:List Sm)(x:Sm):mY (l++[x])=mY l+lZ x:=by induction l with| nil=>rw[dz,FH,BR];omega| cons y l ih=>rw[bJ,FH,FH,ih];omega
theorem YX{x:Sm}(h:sU l)(hx:yK x):sU (l++[x]):=by induction l with| nil=>exact Ka.2 ⟨hx,sV⟩| cons y l ih=>exact Ka.2 ⟨(Ka.1 h).1,ih (Ka.1 h).2⟩
def Dq(s:dX)(g:eO->Except Nat (Sm×eO)):Prop:=∀st x st',Tk s st.t->g st=.ok (x,st')->yK x/\lZ x+12000*st.t.a<=12000*st'.t.a
variable{g:eO->Except Nat (Sm×eO)}
theorem YZ(hg:fP s g)(hs:Dq s g)(stop:eO->Bool)(n:Nat):∀(l:List Sm)(st:eO)(x:List Sm)(st':eO),Tk s st.t->sU l->gy s g stop n l st=.ok (x,st')->sU x/\mY x+12000*st.t.a<=12000*st'.t.a+mY l:=by
 induction n with
 |zero=>intro l st x st' _ _ h;simp[gy]at h
 |succ n ih=>
 intro l st x st' ht hl h;rw[gy]at h;split at h;·cases h;exact⟨hl,by omega⟩
 cases hp:g st with
 |error p=>rw[hp]at h;cases h
 |ok r=>
 obtain⟨y,st1⟩:=r;rw[hp]at h;have g1:=hg _ _ _ ht hp;obtain⟨m1,m2⟩:=hs _ _ _ ht hp;obtain⟨i1,i2⟩:=ih _ _ _ _ g1.tk (YX hl m1) h;rw[zla]at i2;exact⟨i1,by omega⟩
variable{st st':eO}
theorem Kc(hg:fP s g)(hs:Dq s g)(ht:Tk s st.t)(h:block s g st=.ok (x,st')):sU x/\mY x+12000*st.t.a<=12000*st'.t.a:=by
 unfold block at h;split at h
 ·rename_i ho;have g0:=jh (st:=dn st) ht ho;have l0:st.t.a<(eZ s (dn st)).t.a:=g0.lt;cases hp:gy s g (fun st=>gN s st.t ⟨#[125]⟩) (s.size+1) [] (eZ s (dn st))with
  |error p=>rw[hp]at h;cases h
  |ok r=>
  obtain⟨l,st1⟩:=r;rw[hp]at h;obtain⟨i1,i2⟩:=YZ hg hs _ _ _ _ _ _ g0.tk sV hp;obtain⟨g1,g2⟩:=yt hg _ _ _ _ _ _ g0.tk hp;have g3:=jh g1.tk g2;have l3:st1.t.a<(rC (eZ s st1)).t.a:=g3.lt;rw[BR]at i2;cases h;exact⟨i1,by omega⟩
 cases h
theorem Y0(h:kind s k st=.ok st'):st.t.k=k/\st'=eZ s st:=by
 unfold kind at h;split at h;·rename_i hk;cases h;exact⟨hk,rfl⟩
 cases h
theorem Dt(ht:Tk s st.t)(h:kind s 119 st=.ok st'):0<(txt s st.t).size/\(txt s st.t).size+st.t.a<=st'.t.a:=by
 obtain⟨hk,rfl⟩:=Y0 h;have h1:=ht.lt (by rw[hk];decide) (by rw[hk];decide);have h2:=ht.le;have h3:st.t.b<=(eZ s st).t.a:=(wI s st.t.b h2).2;have h4:(txt s st.t).size=st.t.b-st.t.a:=by unfold txt;rw[dW];omega
 rw[h4];omega
theorem Ob(ht:Tk s st.t)(h:kind s 110 st=.ok st'):iq (txt s st.t).toList<=9999:=SF ht (Y0 h).1
theorem Dv:FE none:=fun e h=>by cases h
theorem Dw{e:fG}(h:uM e):FE (some e):=fun e' h'=>by cases h';exact h
theorem ztk(s:dX):Dq s (mF s):=by
 intro st x st' ht h;unfold mF at h;cases h1:kind s 119 st with
 |error p=>rw[h1]at h;cases h
 |ok st1=>
 rw[h1]at h;simp only at h;have g1:=qA ht (by decide) (by decide) h1;obtain⟨w1,w2⟩:=Dt ht h1;cases h2:need s ⟨#[61]⟩ st1 with
 |error p=>rw[h2]at h;cases h
 |ok st2=>
 rw[h2]at h;simp only at h;have g2:=og g1.tk h2;cases h3:lG s st2 with
 |error p=>rw[h3]at h;cases h
 |ok r=>
 obtain⟨e,jg⟩:=r;rw[h3]at h;simp only at h;have g3:=uJ s _ _ _ g2.tk h3;obtain⟨e1,e2⟩:=SG s _ _ _ g2.tk h3;cases h4:need s ⟨#[59]⟩ jg with
 |error p=>rw[h4]at h;cases h
 |ok lH=>
 have g4:=og g3.tk h4;rw[h4]at h;cases h;have l2:=g2.lt;have l4:=g4.lt;refine⟨⟨fun _=>w1,aQ _,Dw e1,sV,sV⟩,?_⟩;unfold lZ;simp only[jY,BR,wB];have:iF.size=0:=rfl;omega
theorem zux(s:dX):Dq s (call s):=by
 intro st x st' ht h;unfold call at h;cases h1:kind s 119 st with
 |error p=>rw[h1]at h;cases h
 |ok st1=>
 rw[h1]at h;simp only at h;have g1:=qA ht (by decide) (by decide) h1;obtain⟨w1,w2⟩:=Dt ht h1;cases h2:need s ⟨#[40]⟩ st1 with
 |error p=>rw[h2]at h;cases h
 |ok st2=>
 rw[h2]at h;simp only at h;have g2:=og g1.tk h2;generalize hz:({jY with op:=99,eH:=txt s st.t,pl:=st.t.a,n:=1}:Sm)=x2 at h;have z0:x2.eH=txt s st.t/\x2.n=1/\x2.gH.size=0/\x2.undo.size=0/\x2.ex=none/\x2.one=[]/\x2.two=[]:=by rw[<- hz];exact⟨rfl,rfl,rfl,rfl,rfl,rfl,rfl⟩
 cases h3:nK s x2 st2 with
 |error p=>rw[h3]at h;cases h
 |ok r=>
 obtain⟨x3,jg⟩:=r;rw[h3]at h;simp only at h;have g3:=IG g2.tk h3;have z3:x3.eH=txt s st.t/\x3.n=1/\x3.gH.size=0/\x3.undo.size=0/\x3.one=[]/\x3.two=[]/\FE x3.ex/\wB x3.ex+12000*st2.t.a<=12000*jg.t.a:=by
  unfold nK at h3;split at h3;·cases h3;exact⟨z0.1,z0.2.1,z0.2.2.1,z0.2.2.2.1,z0.2.2.2.2.2.1,z0.2.2.2.2.2.2,by rw[z0.2.2.2.2.1];exact Dv,by rw[z0.2.2.2.2.1];simp[wB]⟩
  cases hp:lG s st2 with
  |error p=>rw[hp]at h3;cases h3
  |ok r=>
  obtain⟨e,Eb⟩:=r;rw[hp]at h3;obtain⟨e1,e2⟩:=SG s _ _ _ g2.tk hp;cases h3;exact⟨z0.1,z0.2.1,z0.2.2.1,z0.2.2.2.1,z0.2.2.2.2.2.1,z0.2.2.2.2.2.2,Dw e1,e2⟩
 cases h4:need s ⟨#[41]⟩ jg with
 |error p=>rw[h4]at h;cases h
 |ok lH=>
 rw[h4]at h;simp only at h;have g4:=og g3.tk h4;cases h5:ng s x3 lH with
 |error p=>rw[h5]at h;cases h
 |ok r5=>
 obtain⟨x5,mD⟩:=r5;rw[h5]at h;simp only at h;have g5:=IB g4.tk h5;have z5:x5.eH=x3.eH/\x5.n=1/\x5.undo.size=0/\x5.one=[]/\x5.two=[]/\x5.ex=x3.ex/\x5.gH.size+12000*lH.t.a<=12000*mD.t.a:=by
  unfold ng at h5;split at h5
  ·rename_i ho;have g0:=jh g4.tk ho;have l0:=g0.lt;cases hp:kind s 119 (eZ s lH)with
   |error p=>rw[hp]at h5;cases h5
   |ok st'=>
   rw[hp]at h5;obtain⟨v1,v2⟩:=Dt g0.tk hp;cases h5;exact⟨rfl,z3.2.1,z3.2.2.2.1,z3.2.2.2.2.1,z3.2.2.2.2.2.1,rfl,by simp only;omega⟩
  cases h5;exact⟨rfl,z3.2.1,z3.2.2.2.1,z3.2.2.2.2.1,z3.2.2.2.2.2.1,rfl,by rw[z3.2.2.1];omega⟩
 cases h6:nT s x5 mD with
 |error p=>rw[h6]at h;cases h
 |ok r6=>
 obtain⟨x6,oq⟩:=r6;rw[h6]at h;simp only at h;have g6:=IC g5.tk h6;have z6:x6.eH=x5.eH/\x6.n=1/\x6.one=[]/\x6.two=[]/\x6.ex=x5.ex/\x6.gH=x5.gH/\x6.undo.size+12000*mD.t.a<=12000*oq.t.a:=by
  unfold nT at h6;split at h6
  ·rename_i ho;have g0:=jh g5.tk ho;have l0:=g0.lt;cases hp:kind s 119 (eZ s mD)with
   |error p=>rw[hp]at h6;cases h6
   |ok st'=>
   rw[hp]at h6;obtain⟨v1,v2⟩:=Dt g0.tk hp;cases h6;exact⟨rfl,z5.2.1,z5.2.2.2.1,z5.2.2.2.2.1,rfl,rfl,by simp only;omega⟩
  cases h6;exact⟨rfl,z5.2.1,z5.2.2.2.1,z5.2.2.2.2.1,rfl,rfl,by rw[z5.2.2.1];omega⟩
 cases h7:oP s x6 oq with
 |error p=>rw[h7]at h;cases h
 |ok r7=>
 obtain⟨x7,qV⟩:=r7;rw[h7]at h;simp only at h;have g7:=IE g6.tk h7;have z7:x7.eH=x6.eH/\x7.one=[]/\x7.two=[]/\x7.ex=x6.ex/\x7.gH=x6.gH/\x7.undo=x6.undo/\x7.n<=9999/\x7.n+12000*oq.t.a<=12000*qV.t.a+1:=by
  unfold oP at h7;split at h7
  ·rename_i ho;have g0:=jh g6.tk ho;have l0:=g0.lt;cases hp:kind s 110 (eZ s oq)with
   |error p=>rw[hp]at h7;cases h7
   |ok st'=>
   rw[hp]at h7;have v1:=Ob g0.tk hp;have g8:=qA g0.tk (by decide) (by decide) hp;have l8:=g8.lt;cases h7;exact⟨rfl,z6.2.2.1,z6.2.2.2.1,rfl,rfl,rfl,v1,by simp only;omega⟩
  cases h7;exact⟨rfl,z6.2.2.1,z6.2.2.2.1,rfl,rfl,rfl,by rw[z6.2.1];decide,by rw[z6.2.1];omega⟩
 cases h8:need s ⟨#[59]⟩ qV with
 |error p=>rw[h8]at h;cases h
 |ok wH=>
 have g8:=og g7.tk h8;rw[h8]at h;cases h;have l1:=g1.lt;have l2:=g2.lt;have l4:=g4.lt;have l8:=g8.lt;have hw:x.eH=txt s st.t:=by rw[z7.1,z6.1,z5.1,z3.1]
 have he:x.ex=x3.ex:=by rw[z7.2.2.2.1,z6.2.2.2.2.1,z5.2.2.2.2.2.1]
 refine⟨⟨fun _=>by rw[hw];exact w1,z7.2.2.2.2.2.2.1,by rw[he];exact z3.2.2.2.2.2.2.1,by rw[z7.2.1];exact sV,by rw[z7.2.2.1];exact sV⟩,?_⟩;unfold lZ;rw[hw,he,z7.2.1,z7.2.2.1,BR,z7.2.2.2.2.1,z7.2.2.2.2.2.1,z6.2.2.2.2.2.1];have q3:=z3.2.2.2.2.2.2.2;have q5:=z5.2.2.2.2.2.2;have q6:=z6.2.2.2.2.2.2;have q7:=z7.2.2.2.2.2.2.2;omega
theorem zxh(hg:fP s g)(hs:Dq s g):∀st x st',Tk s st.t->rD s g st=.ok (x,st')->yK x/\lZ x+12000*st.t.a<=12000*st'.t.a+100:=by
 intro st x st' ht h;unfold rD at h;cases h1:lG s st with
 |error p=>rw[h1]at h;cases h
 |ok r=>
 obtain⟨e,st1⟩:=r;rw[h1]at h;simp only at h;have g1:=uJ s _ _ _ ht h1;obtain⟨e1,e2⟩:=SG s _ _ _ ht h1;cases h2:block s g st1 with
 |error p=>rw[h2]at h;cases h
 |ok r=>
 obtain⟨l,st2⟩:=r;rw[h2]at h;simp only at h;have g2:=qW hg _ _ _ g1.tk h2;obtain⟨m1,m2⟩:=Kc hg hs g1.tk h2;split at h
 ·rename_i ho;have g3:=jh g2.tk ho;have l3:=g3.lt;cases h4:block s g (eZ s st2)with
  |error p=>rw[h4]at h;cases h
  |ok r=>
  obtain⟨m,jg⟩:=r;obtain⟨m3,m4⟩:=Kc hg hs g3.tk h4;rw[h4]at h;cases h;refine⟨⟨fun h=>absurd h (by show ¬((105:Nat)=108\/(105:Nat)=99);decide),aQ _,Dw e1,m1,m3⟩,?_⟩;unfold lZ;simp only[jY,wB];have:iF.size=0:=rfl;omega
 cases h;refine⟨⟨fun h=>absurd h (by show ¬((105:Nat)=108\/(105:Nat)=99);decide),aQ _,Dw e1,m1,sV⟩,?_⟩;unfold lZ;simp only[jY,wB,BR];have:iF.size=0:=rfl;omega
theorem zrf(hg:fP s g)(hs:Dq s g):∀st x st',Tk s st.t->mG s g st=.ok (x,st')->yK x/\lZ x+12000*st.t.a<=12000*st'.t.a+100:=by
 intro st x st' ht h;unfold mG at h;cases h1:block s g st with
 |error p=>rw[h1]at h;cases h
 |ok r=>
 obtain⟨l,st1⟩:=r;rw[h1]at h;simp only at h;have g1:=qW hg _ _ _ ht h1;obtain⟨m1,m2⟩:=Kc hg hs ht h1;cases h2:need s ⟨#[101,108,115,101]⟩ st1 with
 |error p=>rw[h2]at h;cases h
 |ok st2=>
 rw[h2]at h;simp only at h;have g2:=og g1.tk h2;have l2:=g2.lt;cases h3:block s g st2 with
 |error p=>rw[h3]at h;cases h
 |ok r=>
 obtain⟨m,jg⟩:=r;obtain⟨m3,m4⟩:=Kc hg hs g2.tk h3;rw[h3]at h;cases h;refine⟨⟨fun h=>absurd h (by show ¬((116:Nat)=108\/(116:Nat)=99);decide),aQ _,Dv,m1,m3⟩,?_⟩;unfold lZ;simp only[jY,wB];have:iF.size=0:=rfl;omega
theorem zcn(hg:fP s g)(hs:Dq s g):∀st x st',Tk s st.t->sG s g st=.ok (x,st')->yK x/\lZ x+12000*st.t.a<=12000*st'.t.a+100:=by
 intro st x st' ht h;unfold sG at h;cases h1:kind s 110 st with
 |error p=>rw[h1]at h;cases h
 |ok st1=>
 rw[h1]at h;simp only at h;have g1:=qA ht (by decide) (by decide) h1;have l1:=g1.lt;have v1:=Ob ht h1;cases h2:block s g st1 with
 |error p=>rw[h2]at h;cases h
 |ok r=>
 obtain⟨m,jg⟩:=r;obtain⟨m1,m2⟩:=Kc hg hs g1.tk h2;rw[h2]at h;cases h;refine⟨⟨fun h=>absurd h (by show ¬((114:Nat)=108\/(114:Nat)=99);decide),v1,Dv,m1,sV⟩,?_⟩;unfold lZ;simp only[jY,wB,BR];have:iF.size=0:=rfl;omega
theorem zrq(s:dX)(n:Nat):Dq s (fJ s n):=by
 induction n with| zero=>intro st x st' _ h;simp[fJ]at h| succ n ih=>
 intro st x st' ht h;have hgo:=lQ s (n+1) _ _ _ ht h;have hlt:=hgo.lt;rw[fJ]at h;split at h;·rename_i ho;have g1:=jh ht ho;have l1:=g1.lt;obtain⟨m1,m2⟩:=ztk s _ _ _ g1.tk h;exact⟨m1,by omega⟩
 split at h;·rename_i ho;have g1:=jh ht ho;have l1:=g1.lt;obtain⟨m1,m2⟩:=zux s _ _ _ g1.tk h;exact⟨m1,by omega⟩
 split at h;·rename_i ho;have g1:=jh ht ho;have l1:=g1.lt;obtain⟨m1,m2⟩:=zxh (lQ s n) ih _ _ _ g1.tk h;exact⟨m1,by omega⟩
 split at h;·rename_i ho;have g1:=jh ht ho;have l1:=g1.lt;obtain⟨m1,m2⟩:=zrf (lQ s n) ih _ _ _ g1.tk h;exact⟨m1,by omega⟩
 split at h;·rename_i ho;have g1:=jh ht ho;have l1:=g1.lt;obtain⟨m1,m2⟩:=zcn (lQ s n) ih _ _ _ g1.tk h;exact⟨m1,by omega⟩
 have ho:x={jY with op:=102}:=by
  unfold vR at h;cases h1:need s ⟨#[102,97,105,108]⟩ st with
  |error p=>rw[h1]at h;cases h
  |ok st1=>
  rw[h1]at h;simp only at h;cases h2:need s ⟨#[59]⟩ st1 with
  |error p=>rw[h2]at h;cases h
  |ok st2=>rw[h2]at h;cases h;rfl
 rw[ho];refine⟨⟨fun h=>absurd h (by decide),aQ _,Dv,sV,sV⟩,?_⟩;unfold lZ;simp only[jY,wB,BR];have:iF.size=0:=rfl;omega
theorem qxo(h:read s=.ok l):sU l/\mY l<=3600000:=by
 unfold read at h;split at h;·cases h
 rename_i hz;cases hp:gy s (fJ s (s.size+1)) (fun st=>st.t.k==0) (s.size+1) [] ⟨gY s 0,0,-1⟩with
 |error p=>rw[hp]at h;cases h
 |ok r=>
 obtain⟨l',st⟩:=r;rw[hp]at h;simp only at h;split at h;·cases h
 cases h;have ht:=(wI s 0 (aQ _)).1;obtain⟨i1,i2⟩:=YZ (lQ s _) (zrq s _) _ _ _ _ _ _ ht sV hp;obtain⟨g2,_⟩:=yt (lQ s _) _ _ _ _ _ _ ht hp;have h1:=g2.tk.ab;have h2:=g2.tk.le;rw[BR]at i2;exact⟨i1,by omega⟩
def xU(x:Option fG):Nat:=
 match x with
 |none=>0
 |some e=>jQ e
def qd:List Sm->Nat
 |[]=>0
 |⟨_,_,_,ex,_,_,_,_,_,one,two⟩::rest=>xU ex+4+qd one+qd two+qd rest
def sW(x:Sm):Nat:=xU x.ex+4+qd x.one+qd x.two
theorem BS:qd []=0:=by rw[qd]
theorem FI(x:Sm)(l:List Sm):qd (x::l)=sW x+qd l:=by obtain⟨op,eH,pl,ex,gH,gG,undo,n,gZ,one,two⟩:=x;rw[qd]<;>rfl
theorem zng(l:List Sm)(x:Sm):qd (l++[x])=qd l+sW x:=by induction l with| nil=>rw[dz,FI,BS];omega| cons y l ih=>rw[bJ,FI,FI,ih];omega
def BU(s:dX)(g:eO->Except Nat (fG×eO)):Prop:=∀st x st',Tk s st.t->g st=.ok (x,st')->uM x/\jQ x+4*st.t.a<=4*st'.t.a
theorem zou{g:eO->Except Nat (fG×eO)}(hg:fP s g)(hs:BU s g)(a b:UInt8)(n:Nat):∀(pl lo:Nat)(e:fG)(st:eO)(x:fG)(st':eO),Tk s st.t->uM e->jQ e+4*lo<=4*st.t.a->gQ s g a b n pl e st=.ok (x,st')->uM x/\jQ x+4*lo<=4*st'.t.a:=by
 induction n with| zero=>intro pl lo e st x st' _ _ _ h;simp[gQ]at h| succ n ih=>
 intro pl lo e st x st' ht he hle h;rw[gQ]at h;split at h
 ·rename_i ho;have g0:=jh ht ho;have l0:=g0.lt;cases hp:g (eZ s st)with
  |error p=>rw[hp]at h;cases h
  |ok r=>
  obtain⟨k,st1⟩:=r;rw[hp]at h;have g1:=hg _ _ _ g0.tk hp;obtain⟨k1,k2⟩:=hs _ _ _ g0.tk hp;exact ih pl lo ⟨a.toNat,0,iF,pl,st.t.a,some e,some k⟩ _ _ _ g1.tk ⟨he,k1⟩ (by simp only[jQ];omega) h
 split at h
 ·rename_i ho;have g0:=jh ht ho;have l0:=g0.lt;cases hp:g (eZ s st)with
  |error p=>rw[hp]at h;cases h
  |ok r=>
  obtain⟨k,st1⟩:=r;rw[hp]at h;have g1:=hg _ _ _ g0.tk hp;obtain⟨k1,k2⟩:=hs _ _ _ g0.tk hp;exact ih pl lo ⟨b.toNat,0,iF,pl,st.t.a,some e,some k⟩ _ _ _ g1.tk ⟨he,k1⟩ (by simp only[jQ];omega) h
 cases h;exact⟨he,hle⟩
theorem Y1{g:eO->Except Nat (fG×eO)}(hg:fP s g)(hs:BU s g)(a b:UInt8):BU s (row s g a b):=by
 intro st x st' ht h;unfold row at h;cases hp:g st with
 |error p=>rw[hp]at h;cases h
 |ok r=>
 obtain⟨e,st1⟩:=r;rw[hp]at h;have g1:=hg _ _ _ ht hp;obtain⟨k1,k2⟩:=hs _ _ _ ht hp;exact zou hg hs _ _ _ _ _ _ _ _ _ g1.tk k1 k2 h
theorem Y2{g:eO->Except Nat (fG×eO)}(hg:fP s g)(hs:BU s g):BU s (sum s g):=Y1 (D7 hg) (Y1 hg hs _ _) _ _
theorem Y3{g:eO->Except Nat (fG×eO)}(hg:fP s g)(hs:BU s g):BU s (expr s g):=by
 intro st x st' ht h;unfold expr at h;cases hp:sum s g st with
 |error p=>rw[hp]at h;cases h
 |ok r=>
 obtain⟨e,st1⟩:=r;rw[hp]at h;simp only at h;have g1:=AY hg _ _ _ ht hp;obtain⟨j1,j2⟩:=Y2 hg hs _ _ _ ht hp;cases hc:qU s st1.t with
 |none=>rw[hc]at h;cases h;exact⟨j1,j2⟩
 |some o=>
 rw[hc]at h;simp only at h;have hk:=Gd hc;have g0:iV s st1 (eZ s st1):=wJ g1.tk (by rw[hk];decide) (by rw[hk];decide);have l0:=g0.lt;cases hq:sum s g (eZ s st1)with
 |error p=>rw[hq]at h;cases h
 |ok r2=>
 obtain⟨k,st2⟩:=r2;rw[hq]at h;obtain⟨i1,i2⟩:=Y2 hg hs _ _ _ g0.tk hq;cases h;exact⟨⟨j1,i1⟩,by simp only[jQ];omega⟩
theorem zvb(s:dX)(n:Nat):BU s (fH s n):=by
 induction n with| zero=>intro st x st' _ h;simp[fH]at h| succ n ih=>
 intro st x st' ht h;have hgo:=rE s (n+1) _ _ _ ht h;have hlt:=hgo.lt;rw[fH]at h;split at h;·rename_i hk;cases h;have:=SF ht hk;refine⟨⟨fun h=>absurd h (by decide),this⟩,?_⟩;simp only[jo,jQ];have:iF.size=0:=rfl;omega
 split at h
 ·rename_i hk;cases h;have h1:=ht.lt (by rw[hk];decide) (by rw[hk];decide);have h2:=ht.le;have h3:=(wI s st.t.b h2).2;have h4:(txt s st.t).size=st.t.b-st.t.a:=by unfold txt;rw[dW];omega
  refine⟨⟨fun _=>by rw[h4];omega,aQ _⟩,?_⟩;simp only[jo,jQ];omega
 split at h;·cases h;refine⟨⟨fun h=>absurd h (by decide),by decide⟩,?_⟩;simp only[jo,jQ];have:iF.size=0:=rfl;omega
 split at h;·cases h;refine⟨⟨fun h=>absurd h (by decide),by decide⟩,?_⟩;simp only[jo,jQ];have:iF.size=0:=rfl;omega
 split at h
 ·rename_i ho;have g0:=jh ht ho;have l0:=g0.lt;cases hp:fH s n (eZ s st)with
  |error p=>rw[hp]at h;cases h
  |ok r=>
  obtain⟨k,st1⟩:=r;rw[hp]at h;obtain⟨k1,k2⟩:=ih _ _ _ g0.tk hp;cases h;exact⟨k1,by simp only[jQ];omega⟩
 split at h
 ·rename_i ho;have g0:=jh (st:=dn st) ht ho;have l0:st.t.a<(eZ s (dn st)).t.a:=g0.lt;cases hp:expr s (fH s n) (eZ s (dn st))with
  |error p=>rw[hp]at h;cases h
  |ok r=>
  obtain⟨k,st1⟩:=r;have g1:=CJ (rE s n) _ _ _ g0.tk hp;obtain⟨k1,k2⟩:=Y3 (rE s n) ih _ _ _ g0.tk hp;rw[hp]at h;simp only at h;split at h;·rename_i ho2;have g2:=jh g1.tk ho2;have l2:=g2.lt;have l3:st1.t.a<(rC (eZ s st1)).t.a:=l2;cases h;exact⟨k1.eD _,by rw[VY];omega⟩
  cases h
 cases h
theorem SH(s:dX):BU s (lG s):=Y3 (rE s _) (zvb s _)
def Dx(s:dX)(g:eO->Except Nat (Sm×eO)):Prop:=∀st x st',Tk s st.t->g st=.ok (x,st')->yK x/\sW x+4*st.t.a<=4*st'.t.a
theorem Y4(hg:fP s g)(hs:Dx s g)(stop:eO->Bool)(n:Nat):∀(l:List Sm)(st:eO)(x:List Sm)(st':eO),Tk s st.t->sU l->gy s g stop n l st=.ok (x,st')->sU x/\qd x+4*st.t.a<=4*st'.t.a+qd l:=by
 induction n with
 |zero=>intro l st x st' _ _ h;simp[gy]at h
 |succ n ih=>
 intro l st x st' ht hl h;rw[gy]at h;split at h;·cases h;exact⟨hl,by omega⟩
 cases hp:g st with
 |error p=>rw[hp]at h;cases h
 |ok r=>
 obtain⟨y,st1⟩:=r;rw[hp]at h;have g1:=hg _ _ _ ht hp;obtain⟨m1,m2⟩:=hs _ _ _ ht hp;obtain⟨i1,i2⟩:=ih _ _ _ _ g1.tk (YX hl m1) h;rw[zng]at i2;exact⟨i1,by omega⟩
theorem Ke(hg:fP s g)(hs:Dx s g)(ht:Tk s st.t)(h:block s g st=.ok (x,st')):sU x/\qd x+4*st.t.a<=4*st'.t.a:=by
 unfold block at h;split at h
 ·rename_i ho;have g0:=jh (st:=dn st) ht ho;have l0:st.t.a<(eZ s (dn st)).t.a:=g0.lt;cases hp:gy s g (fun st=>gN s st.t ⟨#[125]⟩) (s.size+1) [] (eZ s (dn st))with
  |error p=>rw[hp]at h;cases h
  |ok r=>
  obtain⟨l,st1⟩:=r;rw[hp]at h;obtain⟨i1,i2⟩:=Y4 hg hs _ _ _ _ _ _ g0.tk sV hp;obtain⟨g1,g2⟩:=yt hg _ _ _ _ _ _ g0.tk hp;have g3:=jh g1.tk g2;have l3:st1.t.a<(rC (eZ s st1)).t.a:=g3.lt;rw[BS]at i2;cases h;exact⟨i1,by omega⟩
 cases h
theorem ztm(s:dX):Dx s (mF s):=by
 intro st x st' ht h;unfold mF at h;cases h1:kind s 119 st with
 |error p=>rw[h1]at h;cases h
 |ok st1=>
 rw[h1]at h;simp only at h;have g1:=qA ht (by decide) (by decide) h1;obtain⟨w1,w2⟩:=Dt ht h1;cases h2:need s ⟨#[61]⟩ st1 with
 |error p=>rw[h2]at h;cases h
 |ok st2=>
 rw[h2]at h;simp only at h;have g2:=og g1.tk h2;cases h3:lG s st2 with
 |error p=>rw[h3]at h;cases h
 |ok r=>
 obtain⟨e,jg⟩:=r;rw[h3]at h;simp only at h;have g3:=uJ s _ _ _ g2.tk h3;obtain⟨e1,e2⟩:=SH s _ _ _ g2.tk h3;cases h4:need s ⟨#[59]⟩ jg with
 |error p=>rw[h4]at h;cases h
 |ok lH=>
 have g4:=og g3.tk h4;rw[h4]at h;cases h;have l2:=g2.lt;have l4:=g4.lt;refine⟨⟨fun _=>w1,aQ _,Dw e1,sV,sV⟩,?_⟩;unfold sW;simp only[jY,BS,xU];have:iF.size=0:=rfl;omega
theorem zuz(s:dX):Dx s (call s):=by
 intro st x st' ht h;unfold call at h;cases h1:kind s 119 st with
 |error p=>rw[h1]at h;cases h
 |ok st1=>
 rw[h1]at h;simp only at h;have g1:=qA ht (by decide) (by decide) h1;obtain⟨w1,w2⟩:=Dt ht h1;cases h2:need s ⟨#[40]⟩ st1 with
 |error p=>rw[h2]at h;cases h
 |ok st2=>
 rw[h2]at h;simp only at h;have g2:=og g1.tk h2;generalize hz:({jY with op:=99,eH:=txt s st.t,pl:=st.t.a,n:=1}:Sm)=x2 at h;have z0:x2.eH=txt s st.t/\x2.n=1/\x2.gH.size=0/\x2.undo.size=0/\x2.ex=none/\x2.one=[]/\x2.two=[]:=by rw[<- hz];exact⟨rfl,rfl,rfl,rfl,rfl,rfl,rfl⟩
 cases h3:nK s x2 st2 with
 |error p=>rw[h3]at h;cases h
 |ok r=>
 obtain⟨x3,jg⟩:=r;rw[h3]at h;simp only at h;have g3:=IG g2.tk h3;have z3:x3.eH=txt s st.t/\x3.n=1/\x3.gH.size=0/\x3.undo.size=0/\x3.one=[]/\x3.two=[]/\FE x3.ex/\xU x3.ex+4*st2.t.a<=4*jg.t.a:=by
  unfold nK at h3;split at h3;·cases h3;exact⟨z0.1,z0.2.1,z0.2.2.1,z0.2.2.2.1,z0.2.2.2.2.2.1,z0.2.2.2.2.2.2,by rw[z0.2.2.2.2.1];exact Dv,by rw[z0.2.2.2.2.1];simp[xU]⟩
  cases hp:lG s st2 with
  |error p=>rw[hp]at h3;cases h3
  |ok r=>
  obtain⟨e,Eb⟩:=r;rw[hp]at h3;obtain⟨e1,e2⟩:=SH s _ _ _ g2.tk hp;cases h3;exact⟨z0.1,z0.2.1,z0.2.2.1,z0.2.2.2.1,z0.2.2.2.2.2.1,z0.2.2.2.2.2.2,Dw e1,e2⟩
 cases h4:need s ⟨#[41]⟩ jg with
 |error p=>rw[h4]at h;cases h
 |ok lH=>
 rw[h4]at h;simp only at h;have g4:=og g3.tk h4;cases h5:ng s x3 lH with
 |error p=>rw[h5]at h;cases h
 |ok r5=>
 obtain⟨x5,mD⟩:=r5;rw[h5]at h;simp only at h;have g5:=IB g4.tk h5;have z5:x5.eH=x3.eH/\x5.n=1/\x5.undo.size=0/\x5.one=[]/\x5.two=[]/\x5.ex=x3.ex/\x5.gH.size+4*lH.t.a<=4*mD.t.a:=by
  unfold ng at h5;split at h5
  ·rename_i ho;have g0:=jh g4.tk ho;have l0:=g0.lt;cases hp:kind s 119 (eZ s lH)with
   |error p=>rw[hp]at h5;cases h5
   |ok st'=>
   rw[hp]at h5;obtain⟨v1,v2⟩:=Dt g0.tk hp;cases h5;exact⟨rfl,z3.2.1,z3.2.2.2.1,z3.2.2.2.2.1,z3.2.2.2.2.2.1,rfl,by simp only;omega⟩
  cases h5;exact⟨rfl,z3.2.1,z3.2.2.2.1,z3.2.2.2.2.1,z3.2.2.2.2.2.1,rfl,by rw[z3.2.2.1];omega⟩
 cases h6:nT s x5 mD with
 |error p=>rw[h6]at h;cases h
 |ok r6=>
 obtain⟨x6,oq⟩:=r6;rw[h6]at h;simp only at h;have g6:=IC g5.tk h6;have z6:x6.eH=x5.eH/\x6.n=1/\x6.one=[]/\x6.two=[]/\x6.ex=x5.ex/\x6.gH=x5.gH/\x6.undo.size+4*mD.t.a<=4*oq.t.a:=by
  unfold nT at h6;split at h6
  ·rename_i ho;have g0:=jh g5.tk ho;have l0:=g0.lt;cases hp:kind s 119 (eZ s mD)with
   |error p=>rw[hp]at h6;cases h6
   |ok st'=>
   rw[hp]at h6;obtain⟨v1,v2⟩:=Dt g0.tk hp;cases h6;exact⟨rfl,z5.2.1,z5.2.2.2.1,z5.2.2.2.2.1,rfl,rfl,by simp only;omega⟩
  cases h6;exact⟨rfl,z5.2.1,z5.2.2.2.1,z5.2.2.2.2.1,rfl,rfl,by rw[z5.2.2.1];omega⟩
 cases h7:oP s x6 oq with
 |error p=>rw[h7]at h;cases h
 |ok r7=>
 obtain⟨x7,qV⟩:=r7;rw[h7]at h;simp only at h;have g7:=IE g6.tk h7;have z7:x7.eH=x6.eH/\x7.one=[]/\x7.two=[]/\x7.ex=x6.ex/\x7.gH=x6.gH/\x7.undo=x6.undo/\x7.n<=9999/\4*oq.t.a<=4*qV.t.a:=by
  unfold oP at h7;split at h7
  ·rename_i ho;have g0:=jh g6.tk ho;have l0:=g0.lt;cases hp:kind s 110 (eZ s oq)with
   |error p=>rw[hp]at h7;cases h7
   |ok st'=>
   rw[hp]at h7;have v1:=Ob g0.tk hp;have g8:=qA g0.tk (by decide) (by decide) hp;have l8:=g8.lt;cases h7;exact⟨rfl,z6.2.2.1,z6.2.2.2.1,rfl,rfl,rfl,v1,by omega⟩
  cases h7;exact⟨rfl,z6.2.2.1,z6.2.2.2.1,rfl,rfl,rfl,by rw[z6.2.1];decide,ay _⟩
 cases h8:need s ⟨#[59]⟩ qV with
 |error p=>rw[h8]at h;cases h
 |ok wH=>
 have g8:=og g7.tk h8;rw[h8]at h;cases h;have l1:=g1.lt;have l2:=g2.lt;have l4:=g4.lt;have l8:=g8.lt;have hw:x.eH=txt s st.t:=by rw[z7.1,z6.1,z5.1,z3.1]
 have he:x.ex=x3.ex:=by rw[z7.2.2.2.1,z6.2.2.2.2.1,z5.2.2.2.2.2.1]
 refine⟨⟨fun _=>by rw[hw];exact w1,z7.2.2.2.2.2.2.1,by rw[he];exact z3.2.2.2.2.2.2.1,by rw[z7.2.1];exact sV,by rw[z7.2.2.1];exact sV⟩,?_⟩;unfold sW;rw[he,z7.2.1,z7.2.2.1,BS];have q3:=z3.2.2.2.2.2.2.2;have q5:=z5.2.2.2.2.2.2;have q6:=z6.2.2.2.2.2.2;have q7:=z7.2.2.2.2.2.2.2;omega
theorem zxj(hg:fP s g)(hs:Dx s g):∀st x st',Tk s st.t->rD s g st=.ok (x,st')->yK x/\sW x+4*st.t.a<=4*st'.t.a+4:=by
 intro st x st' ht h;unfold rD at h;cases h1:lG s st with
 |error p=>rw[h1]at h;cases h
 |ok r=>
 obtain⟨e,st1⟩:=r;rw[h1]at h;simp only at h;have g1:=uJ s _ _ _ ht h1;obtain⟨e1,e2⟩:=SH s _ _ _ ht h1;cases h2:block s g st1 with
 |error p=>rw[h2]at h;cases h
 |ok r=>
 obtain⟨l,st2⟩:=r;rw[h2]at h;simp only at h;have g2:=qW hg _ _ _ g1.tk h2;obtain⟨m1,m2⟩:=Ke hg hs g1.tk h2;split at h
 ·rename_i ho;have g3:=jh g2.tk ho;have l3:=g3.lt;cases h4:block s g (eZ s st2)with
  |error p=>rw[h4]at h;cases h
  |ok r=>
  obtain⟨m,jg⟩:=r;obtain⟨m3,m4⟩:=Ke hg hs g3.tk h4;rw[h4]at h;cases h;refine⟨⟨fun h=>absurd h (by show ¬((105:Nat)=108\/(105:Nat)=99);decide),aQ _,Dw e1,m1,m3⟩,?_⟩;unfold sW;simp only[xU];have:iF.size=0:=rfl;omega
 cases h;refine⟨⟨fun h=>absurd h (by show ¬((105:Nat)=108\/(105:Nat)=99);decide),aQ _,Dw e1,m1,sV⟩,?_⟩;unfold sW;simp only[jY,xU,BS];have:iF.size=0:=rfl;omega
theorem zrh(hg:fP s g)(hs:Dx s g):∀st x st',Tk s st.t->mG s g st=.ok (x,st')->yK x/\sW x+4*st.t.a<=4*st'.t.a+4:=by
 intro st x st' ht h;unfold mG at h;cases h1:block s g st with
 |error p=>rw[h1]at h;cases h
 |ok r=>
 obtain⟨l,st1⟩:=r;rw[h1]at h;simp only at h;have g1:=qW hg _ _ _ ht h1;obtain⟨m1,m2⟩:=Ke hg hs ht h1;cases h2:need s ⟨#[101,108,115,101]⟩ st1 with
 |error p=>rw[h2]at h;cases h
 |ok st2=>
 rw[h2]at h;simp only at h;have g2:=og g1.tk h2;have l2:=g2.lt;cases h3:block s g st2 with
 |error p=>rw[h3]at h;cases h
 |ok r=>
 obtain⟨m,jg⟩:=r;obtain⟨m3,m4⟩:=Ke hg hs g2.tk h3;rw[h3]at h;cases h;refine⟨⟨fun h=>absurd h (by show ¬((116:Nat)=108\/(116:Nat)=99);decide),aQ _,Dv,m1,m3⟩,?_⟩;unfold sW;simp only[jY,xU];have:iF.size=0:=rfl;omega
theorem zcp(hg:fP s g)(hs:Dx s g):∀st x st',Tk s st.t->sG s g st=.ok (x,st')->yK x/\sW x+4*st.t.a<=4*st'.t.a+4:=by
 intro st x st' ht h;unfold sG at h;cases h1:kind s 110 st with
 |error p=>rw[h1]at h;cases h
 |ok st1=>
 rw[h1]at h;simp only at h;have g1:=qA ht (by decide) (by decide) h1;have l1:=g1.lt;have v1:=Ob ht h1;cases h2:block s g st1 with
 |error p=>rw[h2]at h;cases h
 |ok r=>
 obtain⟨m,jg⟩:=r;obtain⟨m1,m2⟩:=Ke hg hs g1.tk h2;rw[h2]at h;cases h;refine⟨⟨fun h=>absurd h (by show ¬((114:Nat)=108\/(114:Nat)=99);decide),v1,Dv,m1,sV⟩,?_⟩;unfold sW;simp only[jY,xU,BS];have:iF.size=0:=rfl;omega
theorem zru(s:dX)(n:Nat):Dx s (fJ s n):=by
 induction n with| zero=>intro st x st' _ h;simp[fJ]at h| succ n ih=>
 intro st x st' ht h;have hgo:=lQ s (n+1) _ _ _ ht h;have hlt:=hgo.lt;rw[fJ]at h;split at h;·rename_i ho;have g1:=jh ht ho;have l1:=g1.lt;obtain⟨m1,m2⟩:=ztm s _ _ _ g1.tk h;exact⟨m1,by omega⟩
 split at h;·rename_i ho;have g1:=jh ht ho;have l1:=g1.lt;obtain⟨m1,m2⟩:=zuz s _ _ _ g1.tk h;exact⟨m1,by omega⟩
 split at h;·rename_i ho;have g1:=jh ht ho;have l1:=g1.lt;obtain⟨m1,m2⟩:=zxj (lQ s n) ih _ _ _ g1.tk h;exact⟨m1,by omega⟩
 split at h;·rename_i ho;have g1:=jh ht ho;have l1:=g1.lt;obtain⟨m1,m2⟩:=zrh (lQ s n) ih _ _ _ g1.tk h;exact⟨m1,by omega⟩
 split at h;·rename_i ho;have g1:=jh ht ho;have l1:=g1.lt;obtain⟨m1,m2⟩:=zcp (lQ s n) ih _ _ _ g1.tk h;exact⟨m1,by omega⟩
 have ho:x={jY with op:=102}:=by
  unfold vR at h;cases h1:need s ⟨#[102,97,105,108]⟩ st with
  |error p=>rw[h1]at h;cases h
  |ok st1=>
  rw[h1]at h;simp only at h;cases h2:need s ⟨#[59]⟩ st1 with
  |error p=>rw[h2]at h;cases h
  |ok st2=>rw[h2]at h;cases h;rfl
 rw[ho];refine⟨⟨fun h=>absurd h (by decide),aQ _,Dv,sV,sV⟩,?_⟩;unfold sW;simp only[jY,xU,BS];have:iF.size=0:=rfl;omega
theorem qxp(h:read s=.ok l):sU l/\qd l<=1200:=by
 unfold read at h;split at h;·cases h
 rename_i hz;cases hp:gy s (fJ s (s.size+1)) (fun st=>st.t.k==0) (s.size+1) [] ⟨gY s 0,0,-1⟩with
 |error p=>rw[hp]at h;cases h
 |ok r=>
 obtain⟨l',st⟩:=r;rw[hp]at h;simp only at h;split at h;·cases h
 cases h;have ht:=(wI s 0 (aQ _)).1;obtain⟨i1,i2⟩:=Y4 (lQ s _) (zru s _) _ _ _ _ _ _ ht sV hp;obtain⟨g2,_⟩:=yt (lQ s _) _ _ _ _ _ _ ht hp;have h1:=g2.tk.ab;have h2:=g2.tk.le;rw[BS]at i2;exact⟨i1,by omega⟩
theorem Y5(iv:dX->Nat)(x:Option fG):(mO iv x).length<=xU x+1:=by rw[xB];cases x with| none=>exact ay _| some e=>show jQ e<=jQ e+1;omega
theorem Y6(iw iv:dX->Nat)(x:Sm)(h1:∀p,(gL iw iv x.one p).length<=qd x.one)(h2:∀p,(gL iw iv x.two p).length<=qd x.two)(p:Nat):(lM iw iv x p).length<=sW x:=by
 have e1:=Y5 iv x.ex;have e2:(yu iw iv x.eH x.ex x.gH x.undo x.n).length<=xU x.ex+4:=by unfold yu;split<;>simp<;>omega
 unfold lM sW;split;·simp;omega
 split;·omega
 split
 ·have a1:=h1 (p+(mO iv x.ex).length+1);have a2:=h2 (p+(mO iv x.ex).length+1+(gL iw iv x.one (p+(mO iv x.ex).length+1)).length+1);dsimp only;split;·simp only[aC,aG,aV];omega
  simp only[aC,aG,aV];omega
 split;·have a1:=h1 (p+1);have a2:=h2 (p+1+(gL iw iv x.one (p+1)).length+1);simp only[aC,aG,aV];omega
 split;·have a1:=h1 (p+2);simp only[aC,aG,aV];omega
 simp only[aG,aV];omega
theorem zH(iw iv:dX->Nat)(l:List Sm):∀p,(gL iw iv l p).length<=qd l:=by
 match l with
 |[]=>intro p;rw[Gq,BS];exact ay _
 |⟨op,eH,pl,ex,gH,gG,undo,n,gZ,one,two⟩::rest=>
 intro p;rw[Ei,FI,aC];have:=Y6 iw iv ⟨op,eH,pl,ex,gH,gG,undo,n,gZ,one,two⟩ (zH iw iv one) (zH iw iv two) p;have:=zH iw iv rest (p+(lM iw iv ⟨op,eH,pl,ex,gH,gG,undo,n,gZ,one,two⟩ p).length);omega
theorem Kg(ws:List dX)(x:dX):(iK ws x).length<=ws.length+1:=by unfold iK;split<;>simp
theorem Y7(ws:List dX)(x:dX):fF ws x<=ws.length:=by
 induction ws with| nil=>rw[fF];exact ay _| cons v r ih=>
 rw[fF];split;·exact aQ _
 rw[aG];omega
theorem Oc(x:fG)(vs:List dX):(kN x vs).length<=vs.length+jQ x:=by
 match x with
 |⟨op,n,eH,pl,own,none,r⟩=>have:=Kg vs eH;rw[kN,jQ];split<;>omega
 |⟨op,n,eH,pl,own,some l,none⟩=>have:=Oc l vs;rw[kN,jQ];omega
 |⟨op,n,eH,pl,own,some l,some r⟩=>
 have h1:=Oc l vs;have:=Oc r (kN l vs);rw[kN,jQ];omega
theorem zv0(x:Option fG)(vs:List dX):(oC x vs).length<=vs.length+xU x:=by cases x with| none=>exact ay _| some e=>exact Oc e vs
theorem zvv(x:Sm)(h1:∀ws,(kI x.one ws).length<=ws.length+qd x.one)(h2:∀ws,(kI x.two ws).length<=ws.length+qd x.two)(ws:List dX):(l9 x ws).length<=ws.length+sW x:=by
 have b1:=Kg ws x.eH;have b2:=Kg (iK ws x.eH) x.undo;have a1:=h1 ws;have a2:=h2 (kI x.one ws);unfold l9 xG sW
 repeat' split
 all_goals omega
theorem Od(l:List Sm):∀ws,(kI l ws).length<=ws.length+qd l:=by
 match l with
 |[]=>intro ws;rw[MC];omega
 |⟨op,eH,pl,ex,gH,gG,undo,n,gZ,one,two⟩::rest=>
 intro ws;rw[Gx,FI];have:=zvv ⟨op,eH,pl,ex,gH,gG,undo,n,gZ,one,two⟩ (Od one) (Od two) ws;have:=Od rest (l9 ⟨op,eH,pl,ex,gH,gG,undo,n,gZ,one,two⟩ ws);omega
theorem zvz(x:Sm)(h1:∀ws,(jw x.one ws).length<=ws.length+qd x.one)(h2:∀ws,(jw x.two ws).length<=ws.length+qd x.two)(vs:List dX):(lI x vs).length<=vs.length+sW x:=by
 have a0:=zv0 x.ex vs;have a1:=Kg (oC x.ex vs) x.eH;have a2:=Kg (oC x.ex vs) x.gH;have b1:=h1 vs;have b2:=h2 (jw x.one vs);have b3:=h1 (oC x.ex vs);have b4:=h2 (jw x.one (oC x.ex vs));unfold lI sW
 repeat' split
 all_goals omega
theorem Oe(l:List Sm):∀vs,(jw l vs).length<=vs.length+qd l:=by
 match l with
 |[]=>intro ws;rw[ME];omega
 |⟨op,eH,pl,ex,gH,gG,undo,n,gZ,one,two⟩::rest=>
 intro ws;rw[En,FI];have:=zvz ⟨op,eH,pl,ex,gH,gG,undo,n,gZ,one,two⟩ (Oe one) (Oe two) ws;have:=Oe rest (lI ⟨op,eH,pl,ex,gH,gG,undo,n,gZ,one,two⟩ ws);omega
theorem BX(k:Nat)(hk:k<20):qX ⟨k,0,0⟩:=⟨hk,by show 0<65536;decide,by show 0<65536;decide,fun _=>rfl,fun _=>rfl⟩
theorem pV(k a:Nat)(hk:k<20)(hn:MH k=1)(ha:a<65536):qX ⟨k,a,0⟩:=⟨hk,ha,by show 0<65536;decide,(fun h=>by rw[show MH k=1 from hn]at h;cases h),fun _=>rfl⟩
theorem SI(a b:Nat)(ha:a<65536)(hb:b<65536):qX ⟨18,a,b⟩:=⟨by show 18<20;decide,ha,hb,(fun h=>by cases h),fun h=>absurd rfl h⟩
theorem zhu(op:Nat):qH op<20:=by
 unfold qH
 repeat' split
 all_goals decide
theorem Og{iv:dX->Nat}(hv:∀w,iv w<65536)(x:fG)(hg:uM x):∀i∈ko iv x,qX i:=by
 match x,hg with
 |⟨op,n,eH,pl,own,none,r⟩,hg=>
  rw[uM]at hg;rw[ko];split;·intro i hi;rw[bD.1 hi];exact pV 1 _ (by decide) rfl (hv _)
  intro i hi;rw[bD.1 hi];exact pV 0 _ (by decide) rfl (by omega)
 |⟨op,n,eH,pl,own,some l,none⟩,hg=>
  rw[uM]at hg;rw[ko];intro i hi;obtain hi|hi:=bT.1 hi;·exact Og hv l hg i hi
  rw[bD.1 hi];exact BX 11 (by decide)
 |⟨op,n,eH,pl,own,some l,some r⟩,hg=>
 rw[uM]at hg;rw[ko];intro i hi;obtain hi|hi:=bT.1 hi
 ·obtain hi|hi:=bT.1 hi;·exact Og hv l hg.1 i hi
  exact Og hv r hg.2 i hi
 rw[bD.1 hi];exact BX _ (zhu op)
variable{iv:dX->Nat}
theorem ztc(hv:∀w,iv w<65536)(x:Option fG)(hg:FE x):∀i∈mO iv x,qX i:=by cases x with| none=>intro i hi;rw[bD.1 hi];exact pV 0 _ (by decide) rfl (by decide)| some e=>exact Og hv e (hg e rfl)
variable{a b:List fC}
theorem vF(ha:∀i∈a,qX i)(hb:∀i∈b,qX i):∀i∈a++b,qX i:=fun i hi=>(bT.1 hi).elim (ha i) (hb i)
theorem xV{j:fC}(h:qX j):∀i∈[j],qX i:=fun i hi=>by rw[bD.1 hi];exact h
theorem ztb{iw:dX->Nat}(hw:∀w,iw w<65536)(hv:∀w,iv w<65536)(x:Sm)(hg:yK x)(h1:∀p,p+qd x.one<65536->∀i∈gL iw iv x.one p,qX i)(h2:∀p,p+qd x.two<65536->∀i∈gL iw iv x.two p,qX i)(p:Nat)(hp:p+sW x<65536):∀i∈lM iw iv x p,qX i:=by
 have e1:=Y5 iv x.ex;have o:=ztc hv x.ex hg.2.2.1;have hn:=hg.2.1;unfold sW at hp;unfold lM;split;·exact vF o (xV (pV 2 _ (by decide) rfl (hv _)))
 split
 ·unfold yu;refine vF o (vF (xV (SI _ _ (hw _) (by omega))) (vF ?_ (xV ?_)))
  ·split;·intro i hi;cases hi
   exact xV (pV 19 _ (by decide) rfl (hw _))
  split;·exact BX 3 (by decide)
  exact pV 2 _ (by decide) rfl (hv _)
 split
 ·have a1:=zH iw iv x.one (p+(mO iv x.ex).length+1);have a2:=zH iw iv x.two (p+(mO iv x.ex).length+1+(gL iw iv x.one (p+(mO iv x.ex).length+1)).length+1);dsimp only;split;·exact vF o (vF (xV (pV 13 _ (by decide) rfl (by omega))) (h1 _ (by omega)))
  exact vF o (vF (xV (pV 13 _ (by decide) rfl (by omega))) (vF (h1 _ (by omega)) (vF (xV (pV 12 _ (by decide) rfl (by omega))) (h2 _ (by omega)))))
 split;·have a1:=zH iw iv x.one (p+1);have a2:=zH iw iv x.two (p+1+(gL iw iv x.one (p+1)).length+1);exact vF (xV (pV 15 _ (by decide) rfl (by omega))) (vF (h1 _ (by omega)) (vF (xV (pV 16 _ (by decide) rfl (by omega))) (h2 _ (by omega))))
 split;·have a1:=zH iw iv x.one (p+2);exact vF (xV (pV 0 _ (by decide) rfl (by omega))) (vF (xV (pV 14 _ (by decide) rfl (by omega))) (vF (h1 _ (by omega)) (xV (pV 12 _ (by decide) rfl (by omega)))))
 exact xV (BX 17 (by decide))
theorem Oh{iw iv:dX->Nat}(hw:∀w,iw w<65536)(hv:∀w,iv w<65536)(l:List Sm)(hg:sU l):∀p,p+qd l<65536->∀i∈gL iw iv l p,qX i:=by
 match l,hg with
 |[],_=>intro p _ i hi;rw[Gq]at hi;cases hi
 |⟨op,eH,pl,ex,gH,gG,undo,n,gZ,one,two⟩::rest,hg=>
 intro p hp;obtain⟨g1,g2⟩:=Ka.1 hg;rw[FI]at hp;rw[Ei];have a1:=Y6 iw iv ⟨op,eH,pl,ex,gH,gG,undo,n,gZ,one,two⟩ (zH iw iv one) (zH iw iv two) p;exact vF (ztb hw hv _ g1 (Oh hw hv one g1.2.2.2.1) (Oh hw hv two g1.2.2.2.2) p (by omega)) (Oh hw hv rest g2 _ (by omega))
abbrev kZ:=Nat×Option Nat
def mH(k:Nat):Nat:=if k<2 then 0 else if k<4 then 1 else if k<11 then 2 else if k=11 then 1 else if k=13\/k=14\/k=18\/k=19 then 1 else 0
def qN(k:Nat):Nat:=if k<2 then 1 else if k<4 then 0 else if k<12 then 1 else if k=14\/k=18\/k=19 then 1 else 0
def pW(P:Pg)(i:fC):Bool:=if i.k=1\/i.k=2 then i.a<P.nv else if i.k=18\/i.k=19 then i.a<P.gT.length else if 12<=i.k/\i.k<=16 then i.a<P.ins.length+1 else true
def jA(S:List (Option kZ))(p:Nat):Option kZ:=S.getD p none
def oN(S:List (Option kZ))(t:Option Nat):Nat:=
 match t with
 |none=>0
 |some q=>(match jA S q with
  |none=>0
  |some s=>s.1)
def nO(S:List (Option kZ))(p:Nat)(s:kZ):Option (List (Option kZ)):=
 match jA S p with
 |none=>some (S.set p (some s))
 |some t=>if t=s then some S else none
def Oi(S:List (Option kZ))(at_:Nat)(i:fC)(now:kZ):Option (List (Option kZ)):=
 let next:kZ:=(now.1+qN i.k-mH i.k,now.2)
 if i.k=12 then nO S i.a next
 else if i.k=13 then(nO S i.a next).bind fun S=>nO S (at_+1) next
 else if i.k=14 then(nO S i.a (next.1-1,next.2)).bind fun S=>nO S (at_+1) next
 else if i.k=15 then(nO S i.a now).bind fun S=>nO S (at_+1) (next.1,some at_)
 else if i.k=16 then nO S i.a ((jA S (now.2.getD 0)).getD (0,none))
 else nO S (at_+1) next
def sZ(P:Pg)(S:List (Option kZ))(at_:Nat)(i:fC):Option (List (Option kZ)):=
 match jA S at_ with
 |none=>none
 |some now=>
  if !pW P i then none
  else if now.1<mH i.k+oN S now.2 then none
  else if i.k=16/\(now.2=none\/now.1≠oN S now.2)then none
  else Oi S at_ i now
def rP(P:Pg):List (Option kZ)->Nat->List fC->Option (List (Option kZ))
 |S,_,[]=>some S
 |S,p,i::l=>(sZ P S p i).bind fun S=>rP P S (p+1) l
def zI(n:Nat):List (Option kZ):=some (0,none)::List.replicate n none
def BZ(P:Pg):Bool:=
 match rP P (zI P.ins.length) 0 P.ins with
 |none=>false
 |some S=>(match jA S P.ins.length with
  |none=>true
  |some s=>s==(0,none))
theorem SK(P:Pg)(a b:List fC):∀(S:List (Option kZ))(p:Nat),rP P S p (a++b)=(rP P S p a).bind fun S=>rP P S (p+a.length) b:=by
 induction a with| nil=>intro S p;rfl| cons i a ih=>
 intro S p;rw[bJ,rP,rP];cases h:sZ P S p i with| none=>rfl| some S1=>
 show rP P S1 (p+1) (a++b)=(rP P S1 (p+1) a).bind _;rw[ih S1 (p+1),aG,show p+1+a.length=p+(a.length+1) by omega]
theorem Oj(S:List (Option kZ))(p q:Nat)(s:kZ)(hp:p<S.length):jA (S.set p (some s)) q=if q=p then some s else jA S q:=by
 unfold jA;rw[aL,aL,List.getElem?_set];by_cases h:p=q;·rw[aA h,aA h.symm,aA (by omega)]<;>rfl
 rw[ah h,ah (fun e=>h e.symm)]
variable{S S':List (Option kZ)}
theorem Cb{s:kZ}(hp:p<S.length)(h:jA S p=none\/jA S p=some s):∃S',nO S p s=some S'/\S'.length=S.length/\∀q,jA S' q=if q=p then some s else jA S q:=by
 unfold nO;obtain h|h:=h;·rw[h];exact⟨_,rfl,List.length_set,fun q=>Oj S p q s hp⟩
 rw[h];simp only[if_true];refine⟨S,rfl,rfl,fun q=>?_⟩;by_cases hq:q=p;·rw[aA hq,hq,h]
 rw[ah hq]
def iO(P:Pg)(F:Nat)(l:List fC)(p:Nat)(s t:kZ):Prop:=∀S:List (Option kZ),S.length=P.ins.length+1->p+l.length<=P.ins.length->jA S p=some s->oN S s.2<=F->(∀q,s.2=some q->q<p) ->
 (∀q,p<q->q<p+l.length->jA S q=none)->(l≠[]->jA S (p+l.length)=none\/jA S (p+l.length)=some t) ->
 ∃S',rP P S p l=some S'/\S'.length=S.length/\jA S' (p+l.length)=some t/\∀q,q<=p\/p+l.length<q->jA S' q=jA S q
theorem iO.nil(P:Pg)(F p:Nat)(s:kZ):iO P F [] p s s:=by intro S hS hp h0 h1 _ h2 h3;exact⟨S,rfl,rfl,h0,fun _ _=>rfl⟩
variable{t:Option Nat}
theorem FK(ht:∀q,t=some q->q<p)(h:∀q,q<=p->jA S' q=jA S q):oN S' t=oN S t:=by
 cases t with| none=>rfl| some q=>
 unfold oN;simp only;rw[h q (by have:=ht q rfl;omega)]
variable{P:Pg}
theorem iO.app{s t u:kZ}(ha:iO P F a p s t)(hb:iO P F b (p+a.length) t u)(hst:t.2=s.2)(hbe:b=[]->t=u):iO P F (a++b) p s u:=by
 by_cases hne:a=[];·subst hne;intro S hS hp h0 h1 hq h2 h3;obtain⟨S1,e1,l1,k1,f1⟩:=ha S hS (by simp;omega) h0 h1 hq (fun q g1 g2=>absurd g2 (by simp;omega)) (fun h=>absurd rfl h);cases e1;have k2:jA S p=some t:=k1;exact hb S hS hp k2 (by rw[hst];exact h1) (fun q g=>hq q (by rw[<- hst];exact g)) h2 h3
 by_cases hnb:b=[];·have:=hbe hnb;subst hnb this;rw[bQ];exact ha
 intro S hS hp h0 h1 hq h2 h3;rw[aC]at hp h2 h3;have la:0<a.length:=bR.2 hne;have lb:0<b.length:=bR.2 hnb;obtain⟨S1,e1,l1,k1,f1⟩:=ha S hS (by omega) h0 h1 hq (fun q g1 g2=>h2 q g1 (by omega)) (fun _=>ak (h2 _ (by omega) (by omega)));obtain⟨S2,e2,l2,k2,f2⟩:=hb S1 (by omega) (by omega) k1 (by rw[hst,FK hq (fun q g=>f1 q (ak g))];omega) (fun q g=>by have:=hq q (by rw[<- hst];exact g);omega) (fun q g1 g2=>by rw[f1 q (aj g1)];exact h2 q (by omega) (by omega)) (fun _=>by rw[f1 _ (aj (by omega)),show p+a.length+b.length=p+(a.length+b.length) by omega];exact h3 (by simp[hne]));refine⟨S2,by rw[SK,e1];exact e2,by omega,?_,?_⟩;·rw[aC,<- dL];exact k2
 intro q hq';rw[aC]at hq';rw[f2 q (by omega),f1 q (by omega)]
variable{i:fC}
theorem iO.one{s:kZ}(hk:i.k<12\/16<i.k)(hf:pW P i=true)(hh:mH i.k+F<=s.1):iO P F [i] p s (s.1+qN i.k-mH i.k,s.2):=by
 intro S hS hp h0 h1 hq h2 h3;have hp':p+1<=P.ins.length:=hp;obtain⟨S',e1,e2,e3⟩:=Cb (S:=S) (p:=p+1) (s:=(s.1+qN i.k-mH i.k,s.2)) (by omega) (h3 (by simp));refine⟨S',?_,e2,?_,?_⟩;·show(sZ P S p i).bind (fun S=>rP P S (p+1) [])=some S';unfold sZ;rw[h0];simp only;rw[hf,ah (by simp),ah (by omega),ah (by omega)];unfold Oi;simp only;rw[ah (by omega),ah (by omega),ah (by omega),ah (by omega),ah (by omega),e1];all_goals rfl
 ·show jA S' (p+1)=_;rw[e3,aA rfl]
 intro q hq';have:q≠p+1:=by have:[i].length=1:=rfl;omega
 rw[e3,ah this]
theorem vG(h1:i.k=1\/i.k=2->i.a<P.nv)(h2:i.k=18\/i.k=19->i.a<P.gT.length)(h3:12<=i.k/\i.k<=16->i.a<P.ins.length+1):pW P i=true:=by
 unfold pW;split;·rename_i h;simpa using h1 h
 split;·rename_i h;simpa using h2 h
 split;·rename_i h;simpa using h3 h
 rfl
theorem zht(op:Nat):4<=qH op/\qH op<=10:=by
 unfold qH
 repeat' split
 all_goals omega
def yL(V:List dX):fG->Prop
 |⟨op,_,eH,_,_,none,_⟩=>op=119->iR V eH=true
 |⟨_,_,_,_,_,some l,none⟩=>yL V l
 |⟨_,_,_,_,_,some l,some r⟩=>yL V l/\yL V r
theorem Ol{P:Pg}{V:List dX}(hV:V.length=P.nv)(F h:Nat)(t:Option Nat)(hF:F<=h)(x:fG)(hx:yL V x):∀p,iO P F (ko (fF V) x) p (h,t) (h+1,t):=by
 match x,hx with
 |⟨op,n,eH,pl,own,none,r⟩,hx=>
  intro p;rw[yL]at hx;rw[ko];split;·rename_i ho;have:=I5 (hx ho);exact iO.one (i:=⟨1,fF V eH,0⟩) (s:=(h,t)) (ak (by show 1<12;decide)) (vG (fun _=>by show fF V eH<P.nv;omega) (fun h=>by obtain h|h:=h<;>cases h) (fun h=>absurd h (by show ¬(12<=1/\1<=16);decide))) (by show 0+F<=h;omega)
  exact iO.one (i:=⟨0,n,0⟩) (s:=(h,t)) (ak (by show 0<12;decide)) (vG (fun h=>by obtain h|h:=h<;>cases h) (fun h=>by obtain h|h:=h<;>cases h) (fun h=>absurd h (by show ¬(12<=0/\0<=16);decide))) (by show 0+F<=h;omega)
 |⟨op,n,eH,pl,own,some l,none⟩,hx=>intro p;rw[yL]at hx;rw[ko];refine iO.app (t:=(h+1,t)) (Ol hV F h t hF l hx p) ?_ rfl (fun h=>by cases h);exact iO.one (i:=⟨11,0,0⟩) (s:=(h+1,t)) (ak (by show 11<12;decide)) (vG (fun h=>by obtain h|h:=h<;>cases h) (fun h=>by obtain h|h:=h<;>cases h) (fun h=>absurd h (by show ¬(12<=11/\11<=16);decide))) (by show 1+F<=h+1;omega)
 |⟨op,n,eH,pl,own,some l,some r⟩,hx=>
 intro p;rw[yL]at hx;rw[ko];have hr:=zht op;have e1:mH (qH op)=2:=by unfold mH;rw[ah (by omega),ah (by omega),aA (by omega)]
 have e2:qN (qH op)=1:=by unfold qN;rw[ah (by omega),ah (by omega),aA (by omega)]
 refine iO.app (t:=(h+2,t)) (iO.app (t:=(h+1,t)) (Ol hV F h t hF l hx.1 p) (Ol hV F (h+1) t (by omega) r hx.2 _) rfl (fun e=>?_)) ?_ rfl (fun h=>by cases h)
 ·exfalso;have:=vU (fF V) r;rw[e]at this;have:0<jQ r:=by match r with| ⟨_,_,_,_,_,none,_⟩=>rw[jQ];decide| ⟨_,_,_,_,_,some l,none⟩=>rw[jQ];omega| ⟨_,_,_,_,_,some l,some r⟩=>rw[jQ];omega
  simp at *;omega
 have:=iO.one (P:=P) (F:=F) (i:=⟨qH op,0,0⟩) (p:=p+(ko (fF V) l++ko (fF V) r).length) (s:=(h+2,t)) (ak (by show qH op<12;omega)) (vG (fun h=>by show _<_;exfalso;simp at h;omega) (fun h=>by exfalso;simp at h;omega) (fun h=>by exfalso;simp at h;omega)) (by show mH (qH op)+F<=h+2;omega);have e3:((h+2,t).1+qN (qH op)-mH (qH op),(h+2,t).2)=(h+1,t):=by rw[e1,e2]<;>rfl
 rw[e3]at this;exact this
structure tq(S S':List (Option kZ)):Prop where
 len:S'.length=S.length
 keep:∀q s,jA S q=some s->jA S' q=some s
theorem tq.refl(S:List (Option kZ)):tq S S:=⟨rfl,fun _ _ h=>h⟩
theorem tq.trans{S S1 S2:List (Option kZ)}(h:tq S S1)(k:tq S1 S2):tq S S2:=⟨k.len.trans h.len,fun q s e=>k.keep q s (h.keep q s e)⟩
theorem zfv{s:kZ}(h:nO S p s=some S')(hp:p<S.length):tq S S'/\jA S' p=some s/\∀q t,jA S' q=some t->jA S q=some t\/t=s:=by
 unfold nO at h;split at h
 ·rename_i hn;cases h;refine⟨⟨List.length_set,fun q t e=>?_⟩,by rw[Oj S p p s hp,aA rfl],fun q t e=>?_⟩
  ·rw[Oj S p q s hp];by_cases hq:q=p;·subst hq;rw[hn]at e;cases e
   rw[ah hq];exact e
  rw[Oj S p q s hp]at e;by_cases hq:q=p;·rw[aA hq]at e;cases e;exact aj rfl
  rw[ah hq]at e;exact ak e
 rename_i t hn;split at h;·rename_i ht;cases h;exact⟨tq.refl _,by rw[hn,ht],fun q t e=>ak e⟩
 cases h
def qO(P:Pg)(S:List (Option kZ)):Prop:=∀p h q,jA S p=some (h,some q)->(∃i,P.ins[q]?=some i/\i.k=15)/\∃s,jA S q=some s/\s.1<=h
theorem qO.add(h:qO P S)(hl:tq S S'){s:kZ}(hs:∀q,s.2=some q->(∃i,P.ins[q]?=some i/\i.k=15)/\∃t,jA S q=some t/\t.1<=s.1)(hn:∀q t,jA S' q=some t->jA S q=some t\/t=s):qO P S':=by
 intro p h' q e;obtain g|g:=hn p _ e;·obtain⟨a,t,b,c⟩:=h p h' q g;exact⟨a,t,hl.keep _ _ b,c⟩
 subst g;obtain⟨a,t,b,c⟩:=hs q rfl;exact⟨a,t,hl.keep _ _ b,c⟩
variable{now:kZ}
theorem yM(h:qO P S)(hl:tq S S')(e:jA S p=some now):oN S' now.2=oN S now.2/\oN S now.2<=now.1:=by
 obtain⟨h0,t⟩:=now;cases t with| none=>exact⟨rfl,aQ _⟩| some q=>
 obtain⟨_,s,b,c⟩:=h p h0 q e;unfold oN;simp only;rw[b,hl.keep _ _ b];exact⟨rfl,c⟩
def uG(S:List (Option kZ))(p:Nat)(i:fC)(now:kZ):Prop:=
 (i.k=12->jA S i.a=some now) /\
 (i.k=13->jA S i.a=some (now.1-1,now.2)/\jA S (p+1)=some (now.1-1,now.2)) /\
 (i.k=14->jA S i.a=some (now.1-1,now.2)/\jA S (p+1)=some now) /\
 (i.k=15->jA S i.a=some now/\jA S (p+1)=some (now.1,some p)) /\
 (i.k=16->∃q s,now.2=some q/\jA S q=some s/\now.1=s.1/\jA S i.a=some s) /\
 (i.k<12\/16<i.k->jA S (p+1)=some (now.1+qN i.k-mH i.k,now.2))
def Ic(P:Pg)(S:List (Option kZ))(p:Nat)(i:fC):Prop:=∃now,jA S p=some now/\pW P i=true/\mH i.k+oN S now.2<=now.1/\uG S p i now
theorem uG.le(hl:tq S S')(h:uG S p i now):uG S' p i now:=by obtain⟨a,b,c,d,e,f⟩:=h;refine⟨fun k=>hl.keep _ _ (a k),fun k=>⟨hl.keep _ _ (b k).1,hl.keep _ _ (b k).2⟩,fun k=>⟨hl.keep _ _ (c k).1,hl.keep _ _ (c k).2⟩,fun k=>⟨hl.keep _ _ (d k).1,hl.keep _ _ (d k).2⟩,fun k=>?_,fun k=>hl.keep _ _ (f k)⟩;obtain⟨q,s,e1,e2,e3,e4⟩:=e k;exact⟨q,s,e1,hl.keep _ _ e2,e3,hl.keep _ _ e4⟩
theorem Ic.le{P:Pg}{S S':List (Option kZ)}(hT:qO P S)(hl:tq S S'){p:Nat}{i:fC}(h:Ic P S p i):Ic P S' p i:=by obtain⟨now,a,b,c,d⟩:=h;exact⟨now,hl.keep _ _ a,b,by rw[(yM hT hl a).1];exact c,d.le hl⟩
def oO(S:List (Option kZ))(c:Nat):Prop:=∀q s,jA S q=some s->s.1<=c
theorem oO.add(h:oO S c){s:kZ}(hs:s.1<=c)(hn:∀q t,jA S' q=some t->jA S q=some t\/t=s):oO S' c:=by
 intro q t e;obtain g|g:=hn q t e;·exact h q t g
 rw[g];exact hs
theorem zoh(k:Nat):qN k<=1:=by
 unfold qN
 repeat' split
 all_goals omega
theorem Cc{s:kZ}(h:nO S p s=some S')(hp:p<S.length)(hT:qO P S)(hH:oO S c)(hs:∀q,s.2=some q->(∃i,P.ins[q]?=some i/\i.k=15)/\∃t,jA S q=some t/\t.1<=s.1)(hc:s.1<=c):tq S S'/\jA S' p=some s/\qO P S'/\oO S' c:=by obtain⟨a,b,d⟩:=zfv h hp;exact⟨a,b,hT.add a hs d,hH.add hc d⟩
theorem look_ok(h:sZ P S p i=some S')(hS:S.length=P.ins.length+1)(hp:P.ins[p]?=some i)(hT:qO P S)(hH:oO S p):tq S S'/\Ic P S' p i/\qO P S'/\oO S' (p+1):=by
 have hpl:p<P.ins.length:=(aT.1 hp).1;have hH1:oO S (p+1):=fun q s e=>by have:=hH q s e;omega
 unfold sZ at h;split at h;·cases h
 rename_i now nZ;have hn1:=hH p now nZ;split at h;·cases h
 rename_i hf;have hf:pW P i=true:=by simpa using hf
 split at h;·cases h
 rename_i ht;split at h;·cases h
 rename_i hk;have hfl:=yM hT (tq.refl S) nZ;have htr:∀x:Nat,oN S now.2<=x->∀q,now.2=some q->(∃i,P.ins[q]?=some i/\i.k=15)/\∃t,jA S q=some t/\t.1<=x:=by intro x hx q hq;obtain⟨h0,t⟩:=now;subst hq;obtain⟨g1,s,g2,g3⟩:=hT p h0 q nZ;refine⟨g1,s,g2,?_⟩;unfold oN at hx;simp only[g2]at hx;exact hx
 have hfa:12<=i.k/\i.k<=16->i.a<S.length:=by intro hr;unfold pW at hf;rw[ah (by omega),ah (by omega),aA hr]at hf;have:=of_decide_eq_true hf;omega
 unfold Oi at h;simp only at h;split at h
 ·rename_i k;have e1:qN i.k=0:=by rw[k]<;>rfl
  have e2:mH i.k=0:=by rw[k]<;>rfl
  rw[e1,e2]at h;obtain⟨a,b,c,d⟩:=Cc h (hfa (by omega)) hT hH1 (htr _ (by show _<=now.1+0-0;omega)) (by show now.1+0-0<=_;omega);refine⟨a,⟨now,a.keep _ _ nZ,hf,by rw[(yM hT a nZ).1];omega,fun _=>b,by omega,by omega,by omega,by omega,by omega⟩,c,d⟩
 split at h
 ·rename_i k;have e1:qN i.k=0:=by rw[k]<;>rfl
  have e2:mH i.k=1:=by rw[k]<;>rfl
  rw[e2]at ht;rw[e1,e2]at h;cases h1:nO S i.a (now.1+0-1,now.2)with
  |none=>rw[h1]at h;cases h
  |some S1=>
  rw[h1]at h;replace h:nO S1 (p+1) (now.1+0-1,now.2)=some S':=h;obtain⟨a,b,c,d⟩:=Cc h1 (hfa (by omega)) hT hH1 (htr _ (by show _<=now.1+0-1;omega)) (by show now.1+0-1<=_;omega);obtain⟨a',b',c',d'⟩:=Cc h (by rw[a.len];omega) c d (fun q hq=>by obtain⟨u,s,v,x⟩:=htr _ (by show _<=now.1+0-1;omega) q hq;exact⟨u,s,a.keep _ _ v,x⟩) (by show now.1+0-1<=_;omega);have aa:=a.trans a';refine⟨aa,⟨now,aa.keep _ _ nZ,hf,by rw[(yM hT aa nZ).1,e2];omega,by omega,fun _=>⟨a'.keep _ _ b,b'⟩,by omega,by omega,by omega,by omega⟩,c',d'⟩
 split at h
 ·rename_i k;have e1:qN i.k=1:=by rw[k]<;>rfl
  have e2:mH i.k=1:=by rw[k]<;>rfl
  rw[e2]at ht;rw[e1,e2]at h;cases h1:nO S i.a (now.1+1-1-1,now.2)with
  |none=>rw[h1]at h;cases h
  |some S1=>
  rw[h1]at h;replace h:nO S1 (p+1) (now.1+1-1,now.2)=some S':=h;obtain⟨a,b,c,d⟩:=Cc h1 (hfa (by omega)) hT hH1 (htr _ (by show _<=now.1+1-1-1;omega)) (by show now.1+1-1-1<=_;omega);obtain⟨a',b',c',d'⟩:=Cc h (by rw[a.len];omega) c d (fun q hq=>by obtain⟨u,s,v,x⟩:=htr _ (by show _<=now.1+1-1;omega) q hq;exact⟨u,s,a.keep _ _ v,x⟩) (by show now.1+1-1<=_;omega);have aa:=a.trans a';refine⟨aa,⟨now,aa.keep _ _ nZ,hf,by rw[(yM hT aa nZ).1,e2];omega,by omega,by omega,fun _=>⟨a'.keep _ _ b,b'⟩,by omega,by omega,by omega⟩,c',d'⟩
 split at h
 ·rename_i k;have e1:qN i.k=0:=by rw[k]<;>rfl
  have e2:mH i.k=0:=by rw[k]<;>rfl
  rw[e1,e2]at h;cases h1:nO S i.a now with
  |none=>rw[h1]at h;cases h
  |some S1=>
  rw[h1]at h;replace h:nO S1 (p+1) (now.1+0-0,some p)=some S':=h;obtain⟨a,b,c,d⟩:=Cc h1 (hfa (by omega)) hT hH1 (htr _ hfl.2) (by omega);obtain⟨a',b',c',d'⟩:=Cc h (by rw[a.len];omega) c d (fun q hq=>by cases hq;exact⟨⟨i,hp,k⟩,now,a.keep _ _ nZ,by show now.1<=now.1+0-0;omega⟩) (by show now.1+0-0<=_;omega);have aa:=a.trans a';refine⟨aa,⟨now,aa.keep _ _ nZ,hf,by rw[(yM hT aa nZ).1,e2];omega,by omega,by omega,by omega,fun _=>⟨a'.keep _ _ b,b'⟩,by omega,by omega⟩,c',d'⟩
 split at h
 ·rename_i k;obtain⟨h0,t⟩:=now;cases t with| none=>exact absurd ⟨k,ak rfl⟩ hk| some q=>
  obtain⟨g1,s,g2,g3⟩:=hT p h0 q nZ;have hs0:h0=s.1:=by
   by_cases e:h0=s.1;·exact e
   exact absurd ⟨k,aj (by unfold oN;simp only[g2];exact e)⟩ hk
  replace h:nO S i.a ((jA S q).getD (0,none))=some S':=h;rw[g2]at h;replace h:nO S i.a s=some S':=h;obtain⟨a,b,c,d⟩:=Cc h (hfa (by omega)) hT hH1 (fun r hr=>by obtain⟨s1,s2⟩:=s;subst hr;exact hT q s1 r g2) (by have:=hH q s g2;omega);have ht':=(yM hT a nZ).1;exact⟨a,⟨(h0,some q),a.keep _ _ nZ,hf,by rw[ht'];omega,by omega,by omega,by omega,by omega,fun _=>⟨q,s,rfl,a.keep _ _ g2,hs0,b⟩,by omega⟩,c,d⟩
 have hg:=zoh i.k;obtain⟨a,b,c,d⟩:=Cc h (by omega) hT hH1 (htr _ (by show _<=now.1+qN i.k-mH i.k;omega)) (by show now.1+qN i.k-mH i.k<=_;omega);exact⟨a,⟨now,a.keep _ _ nZ,hf,by rw[(yM hT a nZ).1];omega,by omega,by omega,by omega,by omega,by omega,fun _=>b⟩,c,d⟩
theorem JC:∀(l:List fC)(S S':List (Option kZ))(p:Nat),rP P S p l=some S'->S.length=P.ins.length+1->(∀j,l[j]?=P.ins[p+j]?)->qO P S->oO S p->tq S S'/\(∀j i,l[j]?=some i->Ic P S' (p+j) i)/\qO P S'/\oO S' (p+l.length):=by
 intro l;induction l with
 |nil=>intro S S' p h hS _ hT hH;cases h;exact⟨tq.refl _,fun j i e=>by simp at e,hT,hH⟩
 |cons i l ih=>
 intro S S' p h hS hl hT hH;rw[rP]at h;cases h1:sZ P S p i with
 |none=>rw[h1]at h;cases h
 |some S1=>
 rw[h1]at h;replace h:rP P S1 (p+1) l=some S':=h;obtain⟨a,b,c,d⟩:=look_ok h1 hS (by have:=hl 0;simpa using this.symm) hT hH;obtain⟨a',b',c',d'⟩:=ih S1 S' (p+1) h (by rw[a.len];exact hS) (fun j=>by have:=hl (j+1);rw[bC]at this;rw[this];congr 1;omega) c d;refine⟨a.trans a',fun j i' e=>?_,c',by rw[aG,show p+(l.length+1)=p+1+l.length by omega];exact d'⟩;cases j with| zero=>simp at e;subst e;exact b.le c a'| succ j=>rw[show p+(j+1)=p+1+j by omega];exact b' j i' (by simpa using e)
structure wU(P:Pg)(S:List (Option kZ)):Prop where
 len:S.length=P.ins.length+1
 ok:∀p i,P.ins[p]?=some i->Ic P S p i
 Ce:qO P S
 high:∀q s,jA S q=some s->s.1<=P.ins.length
 start:jA S 0=some (0,none)
 fin:∀s,jA S P.ins.length=some s->s=(0,none)
theorem Y8(h:BZ P=true):∃S,wU P S:=by
 unfold BZ at h;split at h;·cases h
 rename_i S hS;have h0:jA (zI P.ins.length) 0=some (0,none):=rfl;have hs:∀q s,jA (zI P.ins.length) q=some s->s=(0,none):=by
  intro q s e;unfold jA zI at e;cases q with| zero=>simp at e;exact e.symm| succ q=>
  rw[aL,bC,List.getElem?_replicate]at e;split at e<;>cases e
 obtain⟨a,b,c,d⟩:=JC P.ins _ S 0 hS (by simp[zI]) (fun j=>by rw[cZ]) (fun p h q e=>by have:=hs _ _ e;cases this) (fun q s e=>by rw[hs _ _ e];exact ay _);refine⟨S,by rw[a.len];simp[zI],fun p i e=>by have:=b p i e;rwa [cZ]at this,c,fun q s e=>by have:=d q s e;omega,a.keep _ _ h0,fun s e=>?_⟩;rw[e]at h;exact beq_iff_eq.1 h
open Go.RowKit
def SL(P:Pg)(S:List (Option kZ)):List (Nat×Nat×Nat)->Option Nat->Prop
 |[],t=>t=none
 |b::r,t=>∃q i s,t=some q/\P.ins[q]?=some i/\i.k=15/\jA S q=some s/\b.2.1=s.1/\b.2.2=i.a/\SL P S r s.2
def Ie:List (Nat×Nat×Nat)->Nat->Prop
 |[],_=>True
 |b::r,n=>b.1<=n/\Ie r b.1
theorem Ie.le{l:List (Nat×Nat×Nat)}{n n':Nat}(h:Ie l n)(hn:n<=n'):Ie l n':=by cases l with| nil=>trivial| cons b r=>exact⟨aK h.1 hn,h.2⟩
def mZ(v:Int):Prop:=-9223372036854775808<=v/\v<=9223372036854775807
theorem SN(v:Int):mZ (wrap64 v):=by unfold mZ wrap64;omega
theorem Y9(b:Bool):mZ (iY b):=by cases b<;>exact⟨by decide,by decide⟩
theorem zpm:mZ 0:=⟨by decide,by decide⟩
structure jR(P:Pg)(S:List (Option kZ))(c:Nat)(m:Ms):Prop where
 vars:m.vars.length=P.nv
 sw:∀v∈m.st,mZ v
 mV:∀v∈m.vars,mZ v
 kY:∀v∈m.left,mZ v
 qy:∀u∈m.fV,mZ u.2/\u.1<P.gT.length
 fl:Ie m.fK m.fV.length
 fD:m.fD<65536
 at_:∃t,SL P S m.fK t/\oN S t<=m.st.length/\(m.jK=false->jA S m.eD=some (m.st.length,t))
 pl:m.eD<=P.ins.length
 fin:m.fin=0
 c1:m.st.length<=c
 c2:m.fV.length<=c
 c3:m.fK.length<=c
 c4:m.eY.length<=c
variable{m m':Ms}
theorem jR.up{c':Nat}(h:jR P S c m)(hc:c<=c'):jR P S c' m:=⟨h.vars,h.sw,h.mV,h.kY,h.qy,h.fl,h.fD,h.at_,h.pl,h.fin,aK h.c1 hc,aK h.c2 hc,aK h.c3 hc,aK h.c4 hc⟩
variable{arg v:Int}{und:Bool}
theorem Dy{i:Nat}(h:iI P i arg most und m=(e,v,m')):∃a l t,m'={m with eY:=m.eY++[a],left:=l,fD:=t}/\(∀x∈l,x∈m.left)/\(t<=m.fD\/t<most)/\(e=0->v∈m.left/\0<=v)/\(e≠0->v=0)/\e<=3:=by
 unfold iI at h;split at h;·rename_i hl;cases h;exact⟨_,m.left,m.fD,rfl,fun _ h=>h,ak (ay _),(fun h=>by cases h),fun _=>rfl,by decide⟩
 rename_i v0 r hl;have hr:∀x∈r,x∈m.left:=fun x hx=>by rw[hl];exact List.mem_cons_of_mem _ hx
 split at h;·rename_i hc;cases h;exact⟨_,r,_,rfl,hr,aj hc.2,(fun h=>by cases h),fun _=>rfl,by decide⟩
 split at h;·cases h;exact⟨_,r,0,rfl,hr,ak (aQ _),(fun h=>by cases h),fun _=>rfl,by decide⟩
 rename_i hv;cases h;exact⟨_,r,0,rfl,hr,ak (aQ _),fun _=>⟨by rw[hl];exact dA,by omega⟩,fun h=>absurd rfl h,by decide⟩
theorem jR.ask(h:jR P S c m){i:Nat}(he:iI P i arg most und m=(e,v,m'))(hm:most<=65536):jR P S (c+1) m':=by obtain⟨a,l,t,rfl,h1,h2,_⟩:=Dy he;have:=h.fD;exact⟨h.vars,h.sw,h.mV,fun v hv=>h.kY v (h1 v hv),h.qy,h.fl,by show t<65536;omega,h.at_,h.pl,h.fin,bq h.c1,bq h.c2,bq h.c3,by have:=h.c4;simp;omega⟩
theorem jR.zJ(h:jR P S c m)(hS:wU P S){st:List Int}(hr:∀v∈st,mZ v)(hl:st.length<=c+1)(hc:SL P S m.fK t)(hs:jA S p=some (st.length,t))(hp:p<=P.ins.length):jR P S (c+1) {m with st:=st,eD:=p}:=⟨h.vars,hr,h.mV,h.kY,h.qy,h.fl,h.fD,⟨t,hc,(yM hS.Ce (tq.refl _) hs).2,fun _=>hs⟩,hp,h.fin,hl,bq h.c2,bq h.c3,bq h.c4⟩
theorem Kh(h:pW P i=true)(h1:12<=i.k)(h2:i.k<=16):i.a<=P.ins.length:=by unfold pW at h;rw[ah (by omega),ah (by omega),aA ⟨h1,h2⟩]at h;have:=of_decide_eq_true h;omega
theorem SQ(h:pW P i=true)(h1:i.k=1\/i.k=2):i.a<P.nv:=by unfold pW at h;rw[aA h1]at h;exact of_decide_eq_true h
theorem Za(h:pW P i=true)(h1:i.k=18\/i.k=19):i.a<P.gT.length:=by unfold pW at h;rw[ah (by omega),aA h1]at h;exact of_decide_eq_true h
theorem Zb{l:List Int}(h:0<l.length):l.headD 0∈l:=by cases l with| nil=>simp at h| cons a l=>simp
structure mW(P:Pg)(i:fC)(m:Ms):Prop where
 k:i.k<20
 a:i.a<65536
 b:i.b<65536
 st:mH i.k<=m.st.length
 fit:pW P i=true
 keep:i.k=16->m.fK≠[]
theorem jR.can(h:jR P S c m)(hS:wU P S)(ho:∀i∈P.ins,qX i)(hu:m.jK=false)(hi:P.ins[m.eD]?=some i):mW P i m:=by obtain⟨t,h1,h2,h3⟩:=h.at_;obtain⟨now,e1,e2,e3,e4⟩:=hS.ok _ _ hi;rw[h3 hu]at e1;cases e1;have ok:=ho i (bL hi);refine⟨ok.k,ok.a,ok.b,by show _<=m.st.length;exact aK (Nat.le_add_right _ _) e3,e2,fun hk hb=>?_⟩;obtain⟨q,s,g1,_⟩:=e4.2.2.2.2.1 hk;rw[hb]at h1;replace h1:t=none:=h1;rw[h1]at g1;cases g1
theorem zxw(h:jR P S c m)(hS:wU P S)(ho:∀i∈P.ins,qX i)(hu:m.jK=false)(hi:P.ins[m.eD]?=some i)(he:jF P i {m with eD:=m.eD+1}=(e,m')):(e=0->jR P S (c+1) m')/\(e≠0->jR P S (c+1) {m' with eD:=m.eD}):=by
 have hcan:=h.can hS ho hu hi;have hpl:m.eD<P.ins.length:=(aT.1 hi).1;obtain⟨t,h1,h2,h3⟩:=h.at_;obtain⟨now,e1,e2,e3,e4⟩:=hS.ok _ _ hi;have h3:=h3 hu;rw[h3]at e1;cases e1;obtain⟨l12,l13,l14,l15,l16,lo⟩:=e4;have hk:=hcan.k;have hst:=hcan.st;have hc1:=h.c1;have rt:∀v∈m.st.tail,mZ v:=fun v hv=>h.sw v (List.mem_of_mem_tail hv);have Zc:∀v∈m.st.tail.tail,mZ v:=fun v hv=>rt v (List.mem_of_mem_tail hv);have cons:∀{v:Int}{l:List Int},mZ v->(∀x∈l,mZ x)->∀x∈v::l,mZ x:=fun hv hl x hx=>by
  rw[bn]at hx;obtain rfl|hx:=hx;·exact hv
  exact hl x hx
 have none0:∀{x:Ms},e=0->jR P S (c+1) x->((0:Nat)=0->jR P S (c+1) x):=fun _ h _=>h;unfold jF at he;by_cases k0:i.k=0;·rw[aA k0]at he;cases he;refine⟨fun _=>?_,fun h=>absurd rfl h⟩;have hn:=lo (by omega);rw[show qN i.k=1 by rw[k0]<;>rfl,show mH i.k=0 by rw[k0]<;>rfl]at hn;exact h.zJ hS (cons ⟨by omega,by have:=hcan.a;omega⟩ h.sw) (by simp;omega) h1 (by simpa using hn) hpl
 rw[ah k0]at he;by_cases k1:i.k=1
 ·rw[aA k1]at he;cases he;refine⟨fun _=>?_,fun h=>absurd rfl h⟩;have hn:=lo (by omega);rw[show qN i.k=1 by rw[k1]<;>rfl,show mH i.k=0 by rw[k1]<;>rfl]at hn;have hv:=SQ e2 (ak k1);refine h.zJ hS (cons ?_ h.sw) (by simp;omega) h1 (by simpa using hn) hpl;have:i.a<m.vars.length:=by rw[h.vars];exact hv
  show mZ (m.vars.getD i.a 0);rw[aL,bN this];exact h.mV _ (List.getElem_mem this)
 rw[ah k1]at he;by_cases k2:i.k=2
 ·rw[aA k2]at he;cases he;refine⟨fun _=>?_,fun h=>absurd rfl h⟩;have hn:=lo (by omega);rw[show qN i.k=0 by rw[k2]<;>rfl,show mH i.k=1 by rw[k2]<;>rfl]at hn;rw[show mH i.k=1 by rw[k2]<;>rfl]at hst;have:=h.zJ (st:=m.st.tail) (p:=m.eD+1) hS rt (by simp;omega) h1 (by rw[dI];exact hn) hpl;refine⟨by simpa using h.vars,this.sw,fun v hv=>?_,this.kY,this.qy,this.fl,this.fD,this.at_,this.pl,this.fin,this.c1,this.c2,this.c3,this.c4⟩;obtain hv|rfl:=List.mem_or_eq_of_mem_set hv;·exact h.mV v hv
  exact h.sw _ (Zb hst)
 rw[ah k2]at he;by_cases k3:i.k=3;·rw[aA k3]at he;cases he;refine⟨fun _=>?_,fun h=>absurd rfl h⟩;have hn:=lo (by omega);rw[show qN i.k=0 by rw[k3]<;>rfl,show mH i.k=1 by rw[k3]<;>rfl]at hn;exact h.zJ hS rt (by simp;omega) h1 (by rw[dI];exact hn) hpl
 rw[ah k3]at he;by_cases k7:i.k=7
 ·rw[aA k7]at he;have hn:=lo (by omega);rw[show qN i.k=1 by rw[k7]<;>rfl,show mH i.k=2 by rw[k7]<;>rfl]at hn;rw[show mH i.k=2 by rw[k7]<;>rfl]at hst;split at he;·cases he;exact⟨(fun h=>by cases h),fun _=>h.up (bF c)⟩
  cases he;exact⟨fun _=>h.zJ hS (cons (SN _) Zc) (by simp;omega) h1 (by simp only[aG,dI];rw[show m.st.length-1-1+1=m.st.length+1-2 by omega];exact hn) hpl,fun h=>absurd rfl h⟩
 rw[ah k7]at he;by_cases k10:i.k<=10
 ·rw[aA k10]at he;cases he;refine⟨fun _=>?_,fun h=>absurd rfl h⟩;have hn:=lo (by omega);have g1:qN i.k=1:=by unfold qN;rw[ah (by omega),ah (by omega),aA (by omega)]
  have g2:mH i.k=2:=by unfold mH;rw[ah (by omega),ah (by omega),aA (by omega)]
  rw[g1,g2]at hn;rw[g2]at hst;refine h.zJ hS (cons ?_ Zc) (by simp;omega) h1 (by simp only[aG,dI];rw[show m.st.length-1-1+1=m.st.length+1-2 by omega];exact hn) hpl;unfold xA
  repeat' split
  all_goals first|exact SN _|exact Y9 _
 rw[ah k10]at he;by_cases k11:i.k=11;·rw[aA k11]at he;cases he;refine⟨fun _=>?_,fun h=>absurd rfl h⟩;have hn:=lo (by omega);rw[show qN i.k=1 by rw[k11]<;>rfl,show mH i.k=1 by rw[k11]<;>rfl]at hn;rw[show mH i.k=1 by rw[k11]<;>rfl]at hst;exact h.zJ hS (cons (Y9 _) rt) (by simp;omega) h1 (by simp only[aG,dI];rw[show m.st.length-1+1=m.st.length+1-1 by omega];exact hn) hpl
 rw[ah k11]at he;by_cases k12:i.k=12;·rw[aA k12]at he;cases he;exact⟨fun _=>h.zJ hS h.sw (bq hc1) h1 (l12 k12) (Kh e2 (by omega) (by omega)),fun h=>absurd rfl h⟩
 rw[ah k12]at he;by_cases k13:i.k=13
 ·rw[aA k13]at he;cases he;refine⟨fun _=>?_,fun h=>absurd rfl h⟩;obtain⟨a1,a2⟩:=l13 k13;refine h.zJ hS rt (by simp;omega) h1 ?_ ?_
  ·rw[dI];split;·exact a1
   exact a2
  have:=Kh e2 (by omega) (by omega);split;·exact this
  exact hpl
 rw[ah k13]at he;by_cases k14:i.k=14
 ·rw[aA k14]at he;obtain⟨a1,a2⟩:=l14 k14;rw[show mH i.k=1 by rw[k14]<;>rfl]at hst;split at he;·cases he;refine⟨fun _=>h.zJ hS (cons (SN _) rt) (by simp;omega) h1 ?_ hpl,fun h=>absurd rfl h⟩;simp only[aG,dI];rw[show m.st.length-1+1=m.st.length by omega];exact a2
  cases he;exact⟨fun _=>h.zJ hS rt (by simp;omega) h1 (by rw[dI];exact a1) (Kh e2 (by omega) (by omega)),fun h=>absurd rfl h⟩
 rw[ah k14]at he;by_cases k15:i.k=15;·rw[aA k15]at he;cases he;obtain⟨a1,a2⟩:=l15 k15;have:=h.c3;exact⟨fun _=>⟨h.vars,h.sw,h.mV,h.kY,h.qy,⟨ay _,h.fl⟩,h.fD,⟨some m.eD,⟨m.eD,i,_,rfl,hi,k15,h3,rfl,rfl,h1⟩,(yM hS.Ce (tq.refl _) a2).2,fun _=>a2⟩,hpl,h.fin,bq h.c1,bq h.c2,by simpa using this,bq h.c4⟩,fun h=>absurd rfl h⟩
 rw[ah k15]at he;by_cases k16:i.k=16
 ·rw[aA k16]at he;cases he;obtain⟨q,s,b1,b2,b3,b4⟩:=l16 k16;replace b1:t=some q:=b1;replace b3:m.st.length=s.1:=b3;refine⟨fun _=>?_,fun h=>absurd rfl h⟩;subst b1;cases hb:m.fK with
  |nil=>rw[hb]at h1;cases h1
  |cons b r=>
  rw[hb]at h1;obtain⟨q',i',s',x1,x2,x3,x4,x5,x6,x7⟩:=h1;cases x1;rw[b2]at x4;cases x4;have b4':jA S i.a=some (m.st.length,s.2):=by rw[b4,b3]
  have hfl:=h.fl;rw[hb]at hfl;have hc3:=h.c3;rw[hb,aG]at hc3;exact⟨h.vars,h.sw,h.mV,h.kY,h.qy,hfl.2.le hfl.1,h.fD,⟨s.2,x7,(yM hS.Ce (tq.refl _) b4').2,fun _=>b4'⟩,Kh e2 (by omega) (by omega),h.fin,bq h.c1,bq h.c2,by show r.length<=_;omega,bq h.c4⟩
 rw[ah k16]at he;by_cases k17:i.k=17;·rw[aA k17]at he;cases he;exact⟨(fun h=>by cases h),fun _=>h.up (bF c)⟩
 rw[ah k17]at he;by_cases k18:i.k=18
 ·rw[aA k18]at he;have hn:=lo (by omega);rw[show qN i.k=1 by rw[k18]<;>rfl,show mH i.k=1 by rw[k18]<;>rfl]at hn;rw[show mH i.k=1 by rw[k18]<;>rfl]at hst;cases ha:iI P i.a (m.st.headD 0) i.b false {m with eD:=m.eD+1}with| mk ea va=>
  obtain⟨va,ma⟩:=va;obtain⟨a,l,t',rfl,g1,g2,g3,g4,g5⟩:=Dy ha;have hbb:=hcan.b;have htr:=h.fD;have hc4:=h.c4;replace g2:t'<=m.fD\/t'<i.b:=g2;have key:∀(st:List Int)(p:Nat),(∀v∈st,mZ v)->st.length=m.st.length->(p=m.eD\/p=m.eD+1)->jR P S (c+1) {m with st:=st,eD:=p,eY:=m.eY++[a],left:=l,fD:=t'}:=by
   intro st p hr hl hp;have hs:jA S p=some (st.length,t):=by
    rw[hl];obtain rfl|rfl:=hp;·exact h3
    exact hn
   exact⟨h.vars,hr,h.mV,fun v hv=>h.kY v (g1 v hv),h.qy,h.fl,by show t'<65536;omega,⟨t,h1,by show oN S t<=st.length;omega,fun _=>hs⟩,by show p<=_;omega,h.fin,by show st.length<=_;omega,bq h.c2,bq h.c3,by simp;omega⟩
  rw[show iI P i.a (({m with eD:=m.eD+1}:Ms).st.headD 0) i.b false {m with eD:=m.eD+1}=(ea,va,{m with eD:=m.eD+1,eY:=m.eY++[a],left:=l,fD:=t'})from ha]at he;by_cases hz:ea=0;·subst hz;cases he;refine⟨fun _=>?_,fun h=>absurd rfl h⟩;exact key (va::m.st.tail) (m.eD+1) (cons (h.kY _ (g3 rfl).1) rt) (by simp;omega) (aj rfl)
  have he':((ea,{m with eD:=m.eD+1,eY:=m.eY++[a],left:=l,fD:=t'}):Nat×Ms)=(e,m'):=by rw[<- he];cases ea with| zero=>exact absurd rfl hz| succ n=>rfl
  cases he';exact⟨fun h=>absurd h hz,fun _=>key m.st m.eD h.sw rfl (ak rfl)⟩
 rw[ah k18]at he;cases he;have Cg:i.k=19:=by omega
 have hn:=lo (by omega);rw[show qN i.k=1 by rw[Cg]<;>rfl,show mH i.k=1 by rw[Cg]<;>rfl]at hn;rw[show mH i.k=1 by rw[Cg]<;>rfl]at hst;refine⟨fun _=>?_,fun h=>absurd rfl h⟩;have hn':jA S (m.eD+1)=some (m.st.length,t):=hn;have:=h.c2;refine⟨h.vars,h.sw,h.mV,h.kY,fun u hu=>?_,h.fl.le (by simp),h.fD,⟨t,h1,h2,fun _=>hn'⟩,hpl,h.fin,bq h.c1,by simp;omega,bq h.c3,bq h.c4⟩;rw[bn]at hu;obtain rfl|hu:=hu;·exact⟨h.sw _ (Zb hst),Za e2 (aj Cg)⟩
 exact h.qy u hu
theorem Zd(h:jR P S c m)(hS:wU P S){b:Nat×Nat×Nat}{r:List (Nat×Nat×Nat)}(hb:m.fK=b::r):b.2.1<=m.st.length/\jR P S (c+1) {m with jK:=false,fK:=r,st:=m.st.drop (m.st.length-b.2.1),eD:=b.2.2}:=by
 obtain⟨t,h1,h2,_⟩:=h.at_;have hfl:=h.fl;have hc3:=h.c3;have hc1:=h.c1;rw[hb]at h1 hfl hc3;rw[aG]at hc3;obtain⟨q,i,s,rfl,x2,x3,x4,x5,x6,x7⟩:=h1;have hfs:s.1<=m.st.length:=by unfold oN at h2;simp only[x4]at h2;exact h2
 obtain⟨now,e1,e2,e3,e4⟩:=hS.ok _ _ x2;rw[x4]at e1;cases e1;have hat:=(e4.2.2.2.1 x3).1;have hl:(m.st.drop (m.st.length-b.2.1)).length=s.1:=by rw[List.length_drop,x5];omega
 have hat':jA S b.2.2=some ((m.st.drop (m.st.length-b.2.1)).length,s.2):=by rw[hl,x6];exact hat
 refine⟨by omega,h.vars,fun v hv=>h.sw v (List.mem_of_mem_drop hv),h.mV,h.kY,h.qy,hfl.2.le hfl.1,h.fD,⟨s.2,x7,(yM hS.Ce (tq.refl _) hat').2,fun _=>hat'⟩,?_,h.fin,by show(m.st.drop (m.st.length-b.2.1)).length<=_;omega,bq h.c2,by show r.length<=_;omega,bq h.c4⟩;show b.2.2<=_;rw[x6];exact Kh e2 (by omega) (by omega)
theorem Ze(h:jR P S c m):nQ m<=m.fV.length:=by have hfl:=h.fl;unfold nQ;cases hb:m.fK with| nil=>exact aQ _| cons b r=>rw[hb]at hfl;exact hfl.1
theorem zku(h:jR P S c m)(hS:wU P S)(_hu:m.jK=true)(he:jC P m=(e,m'))(hf:m'.fin=0):jR P S (c+1) m':=by
 have hbe:∀e m',jC.behind m=(e,m')->m'.fin=0->jR P S (c+1) m':=by
  intro e m' hb hf;unfold jC.behind at hb;split at hb;·cases hb;cases hf
  rename_i b r hbb;cases hb;exact(Zd h hS hbb).2
 unfold jC at he;split at he;·exact hbe _ _ he hf
 rename_i u r hur;split at he;·exact hbe _ _ he hf
 rename_i hne;cases ha:iI P u.1 u.2 3 true m with
 |mk ea va=>
 obtain⟨va,ma⟩:=va;rw[ha]at he;have hI:=h.ask ha (by decide);obtain⟨a,l,t',rfl,_⟩:=Dy ha;have hfl:=Ze h;match ea,he with
 |0,he=>
  cases he;refine⟨hI.vars,hI.sw,hI.mV,hI.kY,fun x hx=>h.qy x (by rw[hur];exact List.mem_cons_of_mem _ hx),?_,hI.fD,hI.at_,hI.pl,hI.fin,hI.c1,?_,hI.c3,hI.c4⟩
  ·show Ie m.fK r.length;have hf2:=h.fl;rw[hur,aG]at hne hfl;unfold nQ at hne hfl;cases hb:m.fK with| nil=>trivial| cons b r'=>
   rw[hb]at hne hfl hf2;exact⟨by simp only at hne hfl;omega,hf2.2⟩
  have:=h.c2;rw[hur,aG]at this;show r.length<=_;omega
 |1,he=>cases he;exact hI
 |2,he=>cases he;exact hI
 |n+3,he=>cases he;exact hI
theorem Om(h:jR P S c m)(hS:wU P S)(ho:∀i∈P.ins,qX i)(he:jB P m=(e,m'))(hf:m'.fin=0):jR P S (c+1) m':=by
 unfold jB at he;split at he;·rename_i hu;exact zku h hS hu he hf
 rename_i hu;have hu:m.jK=false:=by simpa using hu
 split at he;·cases he;cases hf
 rename_i i hi;cases hd:jF P i {m with eD:=m.eD+1}with
 |mk ea ma=>
 rw[hd]at he;obtain⟨i1,i2⟩:=zxw h hS ho hu hi hd;match ea,he with
 |0,he=>cases he;exact i1 rfl
 |n+1,he=>cases he;exact i2 (by omega)
theorem Zf(h:jR P S c m)(hS:wU P S)(ho:∀i∈P.ins,qX i)(hf:(kg P m).2.fin=0):jR P S (c+1) (kg P m).2:=by
 unfold kg at hf |-;cases hs:jB P m with
 |mk e m'=>
 rw[hs]at hf;match e,hs,hf with
 |0,hs,hf=>exact Om h hS ho hs hf
 |1,hs,hf=>have:=Om h hS ho hs hf;obtain⟨t,a,b,d⟩:=this.at_;exact⟨this.vars,this.sw,this.mV,this.kY,this.qy,this.fl,this.fD,⟨t,a,b,(fun h=>by cases h)⟩,this.pl,this.fin,this.c1,this.c2,this.c3,this.c4⟩
 |2,hs,hf=>exact Om h hS ho hs hf
 |3,hs,hf=>exact Om h hS ho hs hf
 |n+4,hs,hf=>cases hf
def vH(P:Pg)(fU:List Int):Ms:=⟨[],List.replicate P.nv 0,[],[],[],fU,0,0,false,0⟩
theorem Zg(hS:wU P S){fU:List Int}(hr:∀v∈fU,mZ v):jR P S 0 (vH P fU):=⟨by simp[vH],(fun v h=>by cases h),fun v h=>by rw[List.eq_of_mem_replicate h];exact zpm,hr,(fun u h=>by cases h),trivial,by show 0<65536;decide,⟨none,rfl,aQ _,fun _=>hS.start⟩,aQ _,rfl,ay _,ay _,ay _,ay _⟩
end Px
open Go.RowKit Go.Extern.Stop Go.Stop Go.Extern
namespace Jn
open Lg
theorem SS(v:dZ)(xT:TypeId)(w:dY):(Instr.typeAssert (.iface 120 v) xT 272 true).run Tryz.prog w=.ok (.tuple #[.nilIface,.bool false]) w:=run_typeAssert_lacksB Tryz.underlying272 (by kernel_rfl) (by kernel_rfl) v xT w
theorem Oo(v:dZ)(xT:TypeId)(w:dY):(Instr.typeAssert (.iface 120 v) xT 265 true).run Tryz.prog w=.ok (.tuple #[.iface 120 v,.bool true]) w:=run_typeAssert_hasB Tryz.underlying265 (by kernel_rfl) v xT w
theorem Oq(v:dZ)(w:dY):(Go.method 534 120 v "Unwrap").run Tryz.prog w=.ok (297,v) w:=by kernel_rfl
theorem Zh(f:Nat)(b:Addr)(w:dY)(h1:w.cell? ⟨f,1,none⟩=some (.iface 393 (.pointer (some b)))):fI 47 #[.iface 120 (fq f),.iface 393 (.pointer (some b))] w fun e w'=>e=fM (.bool true)/\w'=w:=by obtain⟨i,hi,hcmp⟩:=bG.1 Fq;obtain⟨j,hj,hjs⟩:=bG.1 Fv;have h8:=Ia;have h32:=xR;have tT:=Lg.BO;have cT:=Fj;have mR:=Fp;have nE:=Hz;have uE:=Lg.Dm;have vE:=Lg.Dn;have nW:=SS;have uW:=Oo;have mU:=Oq;have heq:=run_eql_iface_ptr_same (P:=Tryz.prog) w b Tryz.underlying63 Tryz.underlying393 hi hcmp hj;have hty:=run_eql_iface_types (P:=Tryz.prog) 120 393 (fq f) (.pointer (some b)) Tryz.underlying63 (by decide) w;go_enter Tryz.func47,Tryz.ntmps47;go_wp2;refine wp_loop_rounds 2 ?_;rw[rounds_succ];go_wp2;rw[rounds_succ];go_wp2;go_ret;exact⟨rfl,rfl⟩
theorem ye4(f g:Nat)(b:Addr)(w:dY)(h0:w.cell? ⟨f,1,none⟩=some (.iface 120 (fq g)))(h1:w.cell? ⟨g,1,none⟩=some (.iface 393 (.pointer (some b)))):fI 47 #[.iface 120 (fq f),.iface 393 (.pointer (some b))] w fun e w'=>e=fM (.bool true)/\w'=w:=by obtain⟨i,hi,hcmp⟩:=bG.1 Fq;obtain⟨j,hj,hjs⟩:=bG.1 Fv;have h8:=Ia;have h32:=xR;have tT:=Lg.BO;have cT:=Fj;have mR:=Fp;have nE:=Hz;have uE:=Lg.Dm;have vE:=Lg.Dn;have nW:=SS;have uW:=Oo;have mU:=Oq;have heq:=run_eql_iface_ptr_same (P:=Tryz.prog) w b Tryz.underlying63 Tryz.underlying393 hi hcmp hj;have hty:=run_eql_iface_types (P:=Tryz.prog) 120 393 (fq f) (.pointer (some b)) Tryz.underlying63 (by decide) w;have hty2:=run_eql_iface_types (P:=Tryz.prog) 120 393 (fq g) (.pointer (some b)) Tryz.underlying63 (by decide) w;go_enter Tryz.func47,Tryz.ntmps47;go_wp2;refine wp_loop_rounds 3 ?_;rw[rounds_succ];go_wp2;rw[rounds_succ];go_wp2;rw[rounds_succ];go_wp2;go_ret;exact⟨rfl,rfl⟩
theorem Zi(f:Nat)(b a:Addr)(ca cb:Array dZ)(ta tb:TypeId)(w:dY)(h1:w.cell? ⟨f,1,none⟩=some (.iface 393 (.pointer (some a))))(hne:a≠b)(ha:w.heap[a.block]?=some (.cells ca ta (0,0)))(hb:w.heap[b.block]?=some (.cells cb tb (0,0))):fI 47 #[.iface 120 (fq f),.iface 393 (.pointer (some b))] w fun e w'=>e=fM (.bool false)/\w'=w:=by obtain⟨i,hi,hcmp⟩:=bG.1 Fq;obtain⟨j,hj,hjs⟩:=bG.1 Fv;have h8:=Ia;have h32:=xR;have tT:=Lg.BO;have cT:=Fj;have mR:=Fp;have nE:=Hz;have uE:=Lg.Dm;have vE:=Lg.Dn;have nW:=SS;have uW:=Oo;have mU:=Oq;have heq:=run_eql_iface_ptr_other (P:=Tryz.prog) w Tryz.underlying63 Tryz.underlying393 hi hcmp hj (by rw[hjs];decide) hne ha hb;have hty:=run_eql_iface_types (P:=Tryz.prog) 120 393 (fq f) (.pointer (some b)) Tryz.underlying63 (by decide) w;go_enter Tryz.func47,Tryz.ntmps47;go_wp2;refine wp_loop_rounds 2 ?_;rw[rounds_succ];go_wp2;rw[rounds_succ];go_wp2;go_ret;exact⟨rfl,rfl⟩
end Jn
namespace Px
variable{P:Pg}
theorem yex{m:Ms}(h:(kg P m).1=false):(kg P m).2.fin=0:=by
 unfold kg at h |-;cases hq:jB P m with
 |mk e m'=>
 rw[hq]at h;match e,h with
 |0,h=>simpa using h
 |1,h=>simpa using h
 |2,h=>cases h
 |3,h=>simpa using h
 |e+4,h=>cases h
variable{S:List (Option kZ)}
theorem yeb(hS:wU P S)(ho:∀i∈P.ins,qX i)(k:Nat):∀{c:Nat}{m m1:Ms},jR P S c m->kH P k m=some m1->jR P S (c+k) m1:=by
 induction k with
 |zero=>intro c m m1 h e;cases e;exact h
 |succ k ih=>
 intro c m m1 h e;rw[kH]at e;split at e;·cases e
 rename_i hn;have hn':(kg P m).1=false:=by simpa using hn
 have:=ih (Zf h hS ho (yex hn')) e;rw[show c+(k+1)=c+1+k by omega];exact this
variable{a h p:Nat}{s:kZ}
theorem Zj(h0:jA S p=some s)(hf:a<P.ins.length+1)(h1:oN S s.2<=s.1):sZ P S p ⟨12,a,0⟩=nO S a s:=by unfold sZ;rw[h0];simp only;rw[vG (i:=⟨12,a,0⟩) (fun h=>by obtain h|h:=h<;>cases h) (fun h=>by obtain h|h:=h<;>cases h) (fun _=>hf),ah (by simp),ah (by show ¬s.1<0+_;omega),ah (by simp)];rfl
variable{t:Option Nat}
theorem Zk(h0:jA S p=some (h+1,t))(hf:a<P.ins.length+1)(h1:oN S t<=h):sZ P S p ⟨13,a,0⟩=(nO S a (h,t)).bind fun S=>nO S (p+1) (h,t):=by unfold sZ;rw[h0];simp only;rw[vG (i:=⟨13,a,0⟩) (fun h=>by obtain h|h:=h<;>cases h) (fun h=>by obtain h|h:=h<;>cases h) (fun _=>hf),ah (by simp),ah (by show ¬h+1<1+_;omega),ah (by simp)];rfl
theorem zw5(h0:jA S p=some (h+1,t))(hf:a<P.ins.length+1)(h1:oN S t<=h):sZ P S p ⟨14,a,0⟩=(nO S a (h,t)).bind fun S=>nO S (p+1) (h+1,t):=by unfold sZ;rw[h0];simp only;rw[vG (i:=⟨14,a,0⟩) (fun h=>by obtain h|h:=h<;>cases h) (fun h=>by obtain h|h:=h<;>cases h) (fun _=>hf),ah (by simp),ah (by show ¬h+1<1+_;omega),ah (by simp)];rfl
theorem zw4(h0:jA S p=some (h,t))(hf:a<P.ins.length+1)(h1:oN S t<=h):sZ P S p ⟨15,a,0⟩=(nO S a (h,t)).bind fun S=>nO S (p+1) (h,some p):=by unfold sZ;rw[h0];simp only;rw[vG (i:=⟨15,a,0⟩) (fun h=>by obtain h|h:=h<;>cases h) (fun h=>by obtain h|h:=h<;>cases h) (fun _=>hf),ah (by simp),ah (by show ¬h<0+_;omega),ah (by simp)];rfl
theorem zw3{q:Nat}(h0:jA S p=some (h,some q))(hq:jA S q=some (h,t))(hf:a<P.ins.length+1):sZ P S p ⟨16,a,0⟩=nO S a (h,t):=by
 have hfl:oN S (some q)=h:=by unfold oN;simp only;rw[hq]
 unfold sZ;rw[h0];simp only;rw[vG (i:=⟨16,a,0⟩) (fun h=>by obtain h|h:=h<;>cases h) (fun h=>by obtain h|h:=h<;>cases h) (fun _=>hf),ah (by simp),ah (by rw[hfl];show ¬h<0+_;omega),ah (by rw[hfl];simp)];unfold Oi;simp only;rw[ah (by decide),ah (by decide),ah (by decide),ah (by decide),aA trivial];show nO S a ((jA S q).getD (0,none))=_;rw[hq];all_goals rfl
theorem Ot(P:Pg)(S:List (Option kZ))(p:Nat)(i:fC)(l:List fC):rP P S p ([i]++l)=(sZ P S p i).bind fun S=>rP P S (p+1) l:=rfl
theorem zob{a:List fC}(p:Nat)(ha:iO P h a (p+1) (h,t) (h,t)):iO P h ([⟨13,p+1+a.length,0⟩]++a) p (h+1,t) (h,t):=by
 intro S hS hp h0 h1 hq h2 h3;have hl:([(⟨13,p+1+a.length,0⟩:fC)]++a).length=1+a.length:=aC;rw[hl]at hp h2 h3 |-;have h3':=h3 (by simp);rw[<- dL]at h3';obtain⟨S1,e1,l1,f1⟩:=Cb (S:=S) (p:=p+1+a.length) (s:=(h,t)) (by omega) h3';obtain⟨S2,e2,l2,f2⟩:=Cb (S:=S1) (p:=p+1) (s:=(h,t)) (by omega) (by
  rw[f1];by_cases hz:p+1=p+1+a.length;·rw[aA hz];exact aj rfl
  ·rw[ah hz];exact ak (h2 _ (by omega) (by omega)))
 have k2:jA S2 (p+1)=some (h,t):=by rw[f2,aA rfl]
 have g2:∀q,q<=p->jA S2 q=jA S q:=fun q g=>by rw[f2,ah (by omega),f1,ah (by omega)]
 obtain⟨S3,e3,l3,k3,f3⟩:=ha S2 (by omega) (by omega) k2 (by rw[FK hq g2];exact h1) (fun q g=>by have:=hq q g;omega) (fun q g1 g3=>by rw[f2,ah (by omega),f1,ah (by omega)];exact h2 q (by omega) (by omega)) (fun _=>by
  rw[f2,f1];by_cases hz:p+1+a.length=p+1;·rw[aA hz];exact aj rfl
  ·rw[ah hz,aA rfl];exact aj rfl)
 refine⟨S3,?_,by omega,by rw[<- dL];exact k3,?_⟩;·rw[Ot,Zk h0 (by omega) h1,e1];show(nO S1 (p+1) (h,t)).bind (fun S=>rP P S (p+1) a)=_;rw[e2];exact e3
 intro q hq';rw[f3 q (by omega),f2,ah (by omega),f1,ah (by omega)]
theorem Zl{a b:List fC}{i j:fC}{u:kZ}(p:Nat)(hut:u.1=h/\(u.2=t\/(u.2=some p/\s.1=h)))(hi:∀S:List (Option kZ),jA S p=some s->oN S t<=h->(p+1+a.length+1)<P.ins.length+1->sZ P S p i=(nO S (p+1+a.length+1) (h,t)).bind fun S=>nO S (p+1) u)(hj:∀S:List (Option kZ),jA S (p+1+a.length)=some u->jA S p=some s->oN S t<=h->(p+1+a.length+1+b.length)<P.ins.length+1->sZ P S (p+1+a.length) j=nO S (p+1+a.length+1+b.length) (h,t))(hs:s.2=t)(ha:iO P h a (p+1) u u)(hb:iO P h b (p+1+a.length+1) (h,t) (h,t)):iO P h ([i]++(a++([j]++b))) p s (h,t):=by
 intro S hS hp h0 h1 hq h2 h3;rw[hs]at h1 hq;have hl:([i]++(a++([j]++b))).length=1+a.length+1+b.length:=by simp;omega
 rw[hl]at hp h2 h3 |-;have h3':=h3 (by simp);rw[show p+(1+a.length+1+b.length)=p+1+a.length+1+b.length by omega]at h3' h2 |-;obtain⟨S1,e1,l1,f1⟩:=Cb (S:=S) (p:=p+1+a.length+1) (s:=(h,t)) (by omega) (by
  by_cases hz:b.length=0;·rw[show p+1+a.length+1=p+1+a.length+1+b.length by omega];exact h3'
  ·exact ak (h2 _ (by omega) (by omega)))
 obtain⟨S2,e2,l2,f2⟩:=Cb (S:=S1) (p:=p+1) (s:=u) (by omega) (by rw[f1,ah (by omega)];exact ak (h2 _ (by omega) (by omega)));have k2:jA S2 (p+1)=some u:=by rw[f2,aA rfl]
 have g2:∀q,q<=p->jA S2 q=jA S q:=fun q g=>by rw[f2,ah (by omega),f1,ah (by omega)]
 have Zm:oN S2 t<=h:=by rw[FK hq g2];exact h1
 obtain⟨S3,e3,l3,k3,f3⟩:=ha S2 (by omega) (by omega) k2 (by
   obtain hu|⟨hu,hsu⟩:=hut.2;·rw[hu];exact Zm
   ·rw[hu];unfold oN;simp only;rw[g2 p (ay _),h0];show s.1<=h;rw[hsu];exact ay _)
  (fun q g=>by
   obtain hu|⟨hu,_⟩:=hut.2;·have:=hq q (by rw[<- hu];exact g);omega
   ·rw[hu]at g;cases g;omega)
  (fun q g1 g3=>by rw[f2,ah (by omega),f1,ah (by omega)];exact h2 q (by omega) (by omega))
  (fun hne=>by have:=bR.2 hne;rw[f2,ah (by omega),f1,ah (by omega)];exact ak (h2 _ (by omega) (by omega)))
 have g3:∀q,q<=p->jA S3 q=jA S q:=fun q g=>by rw[f3 q (by omega)];exact g2 q g
 have Zn:oN S3 t<=h:=by rw[FK hq g3];exact h1
 have q3:jA S3 (p+1+a.length+1)=some (h,t):=by rw[f3 _ (by omega),f2,ah (by omega),f1,aA rfl]
 obtain⟨S4,e4,l4,f4⟩:=Cb (S:=S3) (p:=p+1+a.length+1+b.length) (s:=(h,t)) (by omega) (by
  by_cases hz:b.length=0;·rw[hz];exact aj q3
  ·rw[f3 _ (by omega),f2,ah (by omega),f1,ah (by omega)];exact h3')
 have q4:jA S4 (p+1+a.length+1)=some (h,t):=by
  rw[f4];split;·rfl
  exact q3
 have g4:∀q,q<=p->jA S4 q=jA S q:=fun q g=>by rw[f4,ah (by omega)];exact g3 q g
 obtain⟨S5,e5,l5,k5,f5⟩:=hb S4 (by omega) (by omega) q4 (by rw[FK hq g4];exact h1) (fun q g=>by have:=hq q g;omega)
  (fun q g1 g2'=>by rw[f4,ah (by omega),f3 q (by omega),f2,ah (by omega),f1,ah (by omega)];exact h2 q (by omega) (by omega))
  (fun _=>by rw[f4,aA rfl];exact aj rfl)
 refine⟨S5,?_,by omega,k5,?_⟩;·rw[Ot,hi S h0 h1 (by omega),e1];show(nO S1 (p+1) u).bind (fun S=>rP P S (p+1) (a++([j]++b)))=_;rw[e2];show rP P S2 (p+1) (a++([j]++b))=_;rw[SK,e3];show rP P S3 (p+1+a.length) ([j]++b)=_;rw[Ot,hj S3 k3 (by rw[g3 p (ay _)];exact h0) Zn (by omega),e4];exact e5
 intro q hq';rw[f5 q (by omega),f4,ah (by omega),f3 q (by omega),f2,ah (by omega),f1,ah (by omega)]
theorem zlu{a:List fC}(p:Nat)(ha:iO P (h+1) a (p+1) (h+1,t) (h+1,t)):iO P h ([⟨14,p+1+a.length+1,0⟩]++(a++[⟨12,p,0⟩])) p (h+1,t) (h,t):=by
 intro S hS hp h0 h1 hq h2 h3;have hl:([(⟨14,p+1+a.length+1,0⟩:fC)]++(a++[(⟨12,p,0⟩:fC)])).length=1+a.length+1:=by simp;omega
 rw[hl]at hp h2 h3 |-;have h3':=h3 (by simp);rw[show p+(1+a.length+1)=p+1+a.length+1 by omega]at h3' h2 |-;obtain⟨S1,e1,l1,f1⟩:=Cb (S:=S) (p:=p+1+a.length+1) (s:=(h,t)) (by omega) h3';obtain⟨S2,e2,l2,f2⟩:=Cb (S:=S1) (p:=p+1) (s:=(h+1,t)) (by omega) (by rw[f1,ah (by omega)];exact ak (h2 _ (by omega) (by omega)));have k2:jA S2 (p+1)=some (h+1,t):=by rw[f2,aA rfl]
 have g2:∀q,q<=p->jA S2 q=jA S q:=fun q g=>by rw[f2,ah (by omega),f1,ah (by omega)]
 have Zm:oN S2 t<=h:=by rw[FK hq g2];exact h1
 obtain⟨S3,e3,l3,k3,f3⟩:=ha S2 (by omega) (by omega) k2 (by show oN S2 t<=h+1;omega) (fun q g=>by have:=hq q g;omega)
  (fun q g1 g3=>by rw[f2,ah (by omega),f1,ah (by omega)];exact h2 q (by omega) (by omega))
  (fun hne=>by have:=bR.2 hne;rw[f2,ah (by omega),f1,ah (by omega)];exact ak (h2 _ (by omega) (by omega)))
 have g3:∀q,q<=p->jA S3 q=jA S q:=fun q g=>by rw[f3 q (by omega)];exact g2 q g
 have Zn:oN S3 t<=h:=by rw[FK hq g3];exact h1
 obtain⟨S4,e4,l4,f4⟩:=Cb (S:=S3) (p:=p) (s:=(h+1,t)) (by omega) (by rw[g3 p (ay _)];exact aj h0);refine⟨S4,?_,by omega,?_,?_⟩;·rw[Ot,zw5 h0 (by omega) h1,e1];show(nO S1 (p+1) (h+1,t)).bind (fun S=>rP P S (p+1) (a++[⟨12,p,0⟩]))=_;rw[e2];show rP P S2 (p+1) (a++[⟨12,p,0⟩])=_;rw[SK,e3];show(sZ P S3 (p+1+a.length) ⟨12,p,0⟩).bind (fun S=>some S)=_;rw[Zj k3 (by omega) (by show oN S3 t<=h+1;omega),e4];rfl
 ·rw[f4,ah (by omega),f3 _ (by omega),f2,ah (by omega),f1,aA rfl]
 intro q hq';rw[f4];by_cases hz:q=p;·rw[aA hz,hz,h0]
 rw[ah hz,f3 q (by omega),f2,ah (by omega),f1,ah (by omega)]
def Ou(V:List dX)(x:Option fG):Prop:=∀e,x=some e->yL V e
def wC(W V:List dX):List Sm->Prop
 |[]=>True
 |⟨op,eH,_,ex,gH,_,undo,_,_,one,two⟩::rest=>(op=108\/op=99\/op=105->Ou V ex)/\(op=108->iR V eH=true)/\(op=99->iR W eH=true/\(undo.size≠0->iR W undo=true)/\(gH.size≠0->iR V gH=true))/\(op=105\/op=116\/op=114->wC W V one)/\(op=105\/op=116->wC W V two)/\wC W V rest
def Ov(W V:List dX)(x:Sm):Prop:=(x.op=108\/x.op=99\/x.op=105->Ou V x.ex)/\(x.op=108->iR V x.eH=true)/\(x.op=99->iR W x.eH=true/\(x.undo.size≠0->iR W x.undo=true)/\(x.gH.size≠0->iR V x.gH=true))/\(x.op=105\/x.op=116\/x.op=114->wC W V x.one)/\(x.op=105\/x.op=116->wC W V x.two)
variable{V W:List dX}
theorem Zo{x:Sm}{l:List Sm}:wC W V (x::l)↔Ov W V x/\wC W V l:=by obtain⟨op,eH,pl,ex,gH,gG,undo,n,gZ,one,two⟩:=x;rw[wC];unfold Ov;simp only[and_assoc]
theorem Ow{V:List dX}(x:fG):∀vs,kN x vs <+: V->yL V x:=by
 match x with
 |⟨op,n,eH,pl,own,none,r⟩=>intro vs h;rw[yL];intro ho;rw[kN,aA ho]at h;exact CV (xD _ _) h
 |⟨op,n,eH,pl,own,some l,none⟩=>intro vs h;rw[yL];rw[kN]at h;exact Ow l vs h
 |⟨op,n,eH,pl,own,some l,some r⟩=>
 intro vs h;rw[yL];rw[kN]at h;exact⟨Ow l vs ((Gy r _).trans h),Ow r _ h⟩
theorem SV(x:Option fG)(vs:List dX)(h:oC x vs <+: V):Ou V x:=by intro e he;subst he;exact Ow e vs h
theorem zxe(x:Sm)(h1:∀ws vs,kI x.one ws <+: W->jw x.one vs <+: V->wC W V x.one)(h2:∀ws vs,kI x.two ws <+: W->jw x.two vs <+: V->wC W V x.two)(ws vs:List dX)(hW:l9 x ws <+: W)(hV:lI x vs <+: V):Ov W V x:=by
 by_cases o1:x.op=108
 ·have ev:lI x vs=iK (oC x.ex vs) x.eH:=by unfold lI;rw[aA o1]
  rw[ev]at hV;exact⟨fun _=>SV _ _ ((xE _ _).trans hV),fun _=>CV (xD _ _) hV,fun h=>absurd h (by omega),fun h=>absurd h (by omega),fun h=>absurd h (by omega)⟩
 by_cases o2:x.op=99
 ·have ev:lI x vs=if x.gH.size=0 then oC x.ex vs else iK (oC x.ex vs) x.gH:=by unfold lI;rw[ah o1,aA o2]
  have ew:l9 x ws=xG x.eH x.undo ws:=by unfold l9;rw[aA o2]
  rw[ev]at hV;rw[ew]at hW;unfold xG at hW;refine⟨fun _=>SV _ vs ?_,fun h=>absurd h o1,fun _=>⟨?_,fun hu=>?_,fun ha=>?_⟩,fun h=>absurd h (by omega),fun h=>absurd h (by omega)⟩
  ·refine List.IsPrefix.trans ?_ hV;split;·exact aR _
   exact xE _ _
  ·refine CV (xD ws x.eH) (List.IsPrefix.trans ?_ hW);split;·exact aR _
   exact xE _ _
  ·rw[ah hu]at hW;exact CV (xD _ _) hW
  rw[ah ha]at hV;exact CV (xD _ _) hV
 by_cases o3:x.op=105
 ·have ev:lI x vs=jw x.two (jw x.one (oC x.ex vs)):=by unfold lI;rw[ah o1,ah o2,aA o3]
  have ew:l9 x ws=kI x.two (kI x.one ws):=by unfold l9;rw[ah o2,aA (ak o3)]
  rw[ev]at hV;rw[ew]at hW;exact⟨fun _=>SV _ vs ((yw _ _).trans ((yw _ _).trans hV)),fun h=>absurd h o1,fun h=>absurd h o2,fun _=>h1 _ _ ((zn _ _).trans hW) ((yw _ _).trans hV),fun _=>h2 _ _ hW hV⟩
 by_cases o4:x.op=116
 ·have ev:lI x vs=jw x.two (jw x.one vs):=by unfold lI;rw[ah o1,ah o2,ah o3,aA o4]
  have ew:l9 x ws=kI x.two (kI x.one ws):=by unfold l9;rw[ah o2,aA (aj o4)]
  rw[ev]at hV;rw[ew]at hW;exact⟨fun h=>absurd h (by omega),fun h=>absurd h o1,fun h=>absurd h o2,fun _=>h1 _ _ ((zn _ _).trans hW) ((yw _ _).trans hV),fun _=>h2 _ _ hW hV⟩
 by_cases o5:x.op=114
 ·have ev:lI x vs=jw x.one vs:=by unfold lI;rw[ah o1,ah o2,ah o3,ah o4,aA o5]
  have ew:l9 x ws=kI x.one ws:=by unfold l9;rw[ah o2,ah (by omega),aA o5]
  rw[ev]at hV;rw[ew]at hW;exact⟨fun h=>absurd h (by omega),fun h=>absurd h o1,fun h=>absurd h o2,fun _=>h1 _ _ hW hV,fun h=>absurd h (by omega)⟩
 exact⟨fun h=>absurd h (by omega),fun h=>absurd h o1,fun h=>absurd h o2,fun h=>absurd h (by omega),fun h=>absurd h (by omega)⟩
theorem Ox{W V:List dX}(l:List Sm):∀ws vs,kI l ws <+: W->jw l vs <+: V->wC W V l:=by
 match l with
 |[]=>intro ws vs _ _;rw[wC];trivial
 |⟨op,eH,pl,ex,gH,gG,undo,n,gZ,one,two⟩::rest=>
 intro ws vs hW hV;rw[Gx]at hW;rw[En]at hV;exact Zo.2 ⟨zxe _ (Ox one) (Ox two) ws vs ((zn _ _).trans hW) ((yw _ _).trans hV),Ox rest _ _ hW hV⟩
theorem SX(hV:V.length=P.nv)(F h:Nat)(t:Option Nat)(hF:F<=h)(x:Option fG)(hx:Ou V x)(p:Nat):iO P F (mO (fF V) x) p (h,t) (h+1,t):=by cases x with| none=>exact iO.one (i:=⟨0,0,0⟩) (s:=(h,t)) (ak (by show 0<12;decide)) (vG (fun h=>by obtain h|h:=h<;>cases h) (fun h=>by obtain h|h:=h<;>cases h) (fun h=>absurd h (by show ¬(12<=0/\0<=16);decide))) (by show 0+F<=h;omega)| some e=>exact Ol hV F h t hF e (hx e rfl) p
theorem zm1(hW:W.length=P.gT.length)(hV:V.length=P.nv)(x:Sm)(hx:Ov W V x)(h1:wC W V x.one->∀h t p,iO P h (gL (fF W) (fF V) x.one p) p (h,t) (h,t))(h2:wC W V x.two->∀h t p,iO P h (gL (fF W) (fF V) x.two p) p (h,t) (h,t))(h:Nat)(t:Option Nat)(p:Nat):iO P h (lM (fF W) (fF V) x p) p (h,t) (h,t):=by
 obtain⟨i1,i2,i3,i4,i5⟩:=hx;unfold lM;split;·rename_i o;have hv:=I5 (i2 o);exact iO.app (t:=(h+1,t)) (SX hV h h t (ay _) x.ex (i1 (ak o)) p) (iO.one (i:=⟨2,fF V x.eH,0⟩) (s:=(h+1,t)) (ak (by show 2<12;decide)) (vG (fun _=>by show fF V x.eH<P.nv;omega) (fun h=>by obtain h|h:=h<;>cases h) (fun h=>absurd h (by show ¬(12<=2/\2<=16);decide))) (by show 1+h<=h+1;omega)) rfl (fun h=>by cases h)
 split
 ·rename_i o;obtain⟨w1,w2,w3⟩:=i3 o;have hw:=I5 w1;unfold yu;refine iO.app (t:=(h+1,t)) (SX hV h h t (ay _) x.ex (i1 (aj (ak o))) p) ?_ rfl (fun h=>by cases h);refine iO.app (t:=(h+1,t)) (iO.one (i:=⟨18,fF W x.eH,x.n⟩) (s:=(h+1,t)) (aj (by show 16<18;decide)) (vG (fun h=>by obtain h|h:=h<;>cases h) (fun _=>by show fF W x.eH<P.gT.length;omega) (fun h=>absurd h (by show ¬(12<=18/\18<=16);decide))) (by show 1+h<=h+1;omega)) ?_ rfl (fun h=>by exfalso;revert h;split<;>simp);refine iO.app (t:=(h+1,t)) ?_ ?_ rfl (fun h=>by cases h)
  ·split;·exact iO.nil P h _ _
   rename_i hu;have hw2:=I5 (w2 hu);exact iO.one (i:=⟨19,fF W x.undo,0⟩) (s:=(h+1,t)) (aj (by show 16<19;decide)) (vG (fun h=>by obtain h|h:=h<;>cases h) (fun _=>by show fF W x.undo<P.gT.length;omega) (fun h=>absurd h (by show ¬(12<=19/\19<=16);decide))) (by show 1+h<=h+1;omega)
  split;·exact iO.one (i:=⟨3,0,0⟩) (s:=(h+1,t)) (ak (by show 3<12;decide)) (vG (fun h=>by obtain h|h:=h<;>cases h) (fun h=>by obtain h|h:=h<;>cases h) (fun h=>absurd h (by show ¬(12<=3/\3<=16);decide))) (by show 1+h<=h+1;omega)
  rename_i ha;have hv:=I5 (w3 ha);exact iO.one (i:=⟨2,fF V x.gH,0⟩) (s:=(h+1,t)) (ak (by show 2<12;decide)) (vG (fun _=>by show fF V x.gH<P.nv;omega) (fun h=>by obtain h|h:=h<;>cases h) (fun h=>absurd h (by show ¬(12<=2/\2<=16);decide))) (by show 1+h<=h+1;omega)
 split
 ·rename_i o;have ho:=SX hV h h t (ay _) x.ex (i1 (aj (aj o))) p;have g1:=h1 (i4 (ak o)) h t (p+(mO (fF V) x.ex).length+1);dsimp only;split;·exact iO.app (t:=(h+1,t)) ho (zob _ g1) rfl (fun h=>by cases h)
  have g2:=h2 (i5 (ak o)) h t (p+(mO (fF V) x.ex).length+1+(gL (fF W) (fF V) x.one (p+(mO (fF V) x.ex).length+1)).length+1);refine iO.app (t:=(h+1,t)) ho ?_ rfl (fun h=>by cases h);exact Zl (s:=(h+1,t)) (u:=(h,t)) _ ⟨rfl,ak rfl⟩ (fun S a b c=>Zk a c b) (fun S a _ b c=>Zj a c b) rfl g1 g2
 split;·rename_i o;have g1:=h1 (i4 (aj (ak o))) h (some p) (p+1);have g2:=h2 (i5 (aj o)) h t (p+1+(gL (fF W) (fF V) x.one (p+1)).length+1);exact Zl (s:=(h,t)) (u:=(h,some p)) _ ⟨rfl,aj ⟨rfl,rfl⟩⟩ (fun S a b c=>zw4 a c b) (fun S a b _ c=>zw3 a b c) rfl g1 g2
 split;·rename_i o;have g1:=h1 (i4 (aj (aj o))) (h+1) t (p+2);refine iO.app (t:=(h+1,t)) (iO.one (i:=⟨0,x.n,0⟩) (s:=(h,t)) (ak (by show 0<12;decide)) (vG (fun h=>by obtain h|h:=h<;>cases h) (fun h=>by obtain h|h:=h<;>cases h) (fun h=>absurd h (by show ¬(12<=0/\0<=16);decide))) (by show 0+h<=h;omega)) ?_ rfl (fun h=>by cases h);have:=zlu (P:=P) (h:=h) (t:=t) (p+1) g1;rw[show p+1+1=p+2 by omega]at this;exact this
 exact iO.one (i:=⟨17,0,0⟩) (s:=(h,t)) (aj (by show 16<17;decide)) (vG (fun h=>by obtain h|h:=h<;>cases h) (fun h=>by obtain h|h:=h<;>cases h) (fun h=>absurd h (by show ¬(12<=17/\17<=16);decide))) (by show 0+h<=h;omega)
theorem Oy{P:Pg}{W V:List dX}(hW:W.length=P.gT.length)(hV:V.length=P.nv)(l:List Sm):wC W V l->∀h t p,iO P h (gL (fF W) (fF V) l p) p (h,t) (h,t):=by
 match l with
 |[]=>intro _ h t p;rw[Gq];exact iO.nil P h p _
 |⟨op,eH,pl,ex,gH,gG,undo,n,gZ,one,two⟩::rest=>
 intro hl h t p;obtain⟨a1,a2⟩:=Zo.1 hl;rw[Ei];exact iO.app (zm1 hW hV _ a1 (Oy hW hV one) (Oy hW hV two) h t p) (Oy hW hV rest a2 h t _) rfl (fun _=>rfl)
theorem SY(n q:Nat):jA (zI n) q=if q=0 then some (0,none)else none:=by
 unfold jA zI;cases q with| zero=>rfl| succ q=>
 rw[ah (by omega),List.getD_cons_succ,aL,List.getElem?_replicate];split<;>rfl
theorem Zp(l:List Sm):BZ (iU l)=true:=by
 have hg:=Oy (P:=iU l) (W:=kI l []) (V:=jw l []) rfl rfl l (Ox l [] [] (aR _) (aR _)) 0 none 0;obtain⟨S',e1,e2,e3,e4⟩:=hg (zI (iU l).ins.length) (by simp[zI]) (by rw[cZ];exact ay _) (by rw[SY]<;>rfl) (ay _) (fun q h=>by cases h) (fun q h _=>by rw[SY,ah (by omega)]) (fun hne=>by have:=bR.2 hne;rw[SY,ah (by omega)];exact ak rfl);have e1':rP (iU l) (zI (iU l).ins.length) 0 (iU l).ins=some S':=e1;have e3':jA S' (iU l).ins.length=some (0,none):=by rw[cZ]at e3;exact e3
 unfold BZ;rw[e1'];simp only;rw[e3'];all_goals rfl
end Px
namespace Gl
open Px
def Ki(w:dY)(v:dZ)(m:Nat):Prop :=∃ad cap,v=.slice ad m cap/\∀i,i<m->∃(a:Addr)(k n:Int)(wd:dX)(va:Option Addr)(vl vc:Nat),ad=some a/\a.block<w.heap.size/\w.cell? (a.add (i*4))=some (eF k)/\w.cell? (a.add (i*4+1))=some (eF n)/\w.cell? (a.add (i*4+2))=some (.string wd)/\w.cell? (a.add (i*4+3))=some (.slice va vl vc)/\mZ n/\wd.size<=maxLen
open Go.ChangeShapes Go.WideShapes Go.RowKit
theorem Oz:Tryz.prog.cellsOf 36=4:=by kernel_rfl
theorem cI:Tryz.prog.cellsOf 3=1:=by kernel_rfl
theorem cS:Tryz.prog.cellsOf 9=1:=by kernel_rfl
theorem cL:Tryz.prog.cellsOf 32=1:=by kernel_rfl
theorem zf0{n:Int}(h:(Lit.int .i64 n).wf=true):mZ n:=by
 simp only[Lit.wf,bH,decide_eq_true_eq]at h;have e1:IntKind.i64.min=-9223372036854775808:=by decide
 have e2:IntKind.i64.max=9223372036854775807:=by decide
 rw[e1,e2]at h;exact h
theorem ye6{H:Type}(d:DataW H):1<=Rows.uptoBulk d:=by
 cases d with
 |lit l=>cases l<;>simp[Rows.uptoBulk]
 |nil=>simp[Rows.uptoBulk]
 |ptr d=>simp[Rows.uptoBulk]
 |slice elems spare=>simp[Rows.uptoBulk]
 |agg parts=>simp[Rows.uptoBulk]
 |iface t d=>simp[Rows.uptoBulk]
 |map entries=>simp[Rows.uptoBulk]
 |held h=>simp[Rows.uptoBulk]
theorem ye7{H:Type}(l:List (DataW H)):l.length<=Rows.uptoBulkAll l:=by induction l with| nil=>simp[Rows.uptoBulkAll]| cons x r ih=>have:=ye6 x;simp only[Rows.uptoBulkAll,aG];omega
theorem qok{H:Type}{enc:TypeId×dZ->H}{W:dY}{base:Nat}{v:dZ}{d:DataW H}{p:List MemPlace}(hval:Value.okWide Tryz.prog W .any base 22 v)(h:DataW.Trod enc Tryz.prog W 0 (fun _=>true) true 22 v d p):∃m,Ki W v m/\m<=Rows.uptoBulk d:=by
 obtain⟨a0,len,cap,rfl⟩:=okWide_slice Tryz.underlying22 hval;obtain⟨fuel,hf⟩:=h;obtain⟨hcs,hx⟩|⟨a,len',cap',m,n,D,Pl,hcs,hb,hl,hm,hmm,hx,hc⟩:=Deep.open_slice Tryz.underlying22 hf;·simp[Value.cells]at hcs;obtain⟨rfl,rfl,rfl⟩:=hcs;exact⟨0,⟨none,0,rfl,fun i hi=>absurd hi (Nat.not_lt_zero _)⟩,aQ _⟩
 simp[Value.cells]at hcs;obtain⟨rfl,rfl,rfl⟩:=hcs;simp only[Prod.mk.injEq]at hx;obtain⟨rfl,rfl⟩:=hx;simp only[if_true]at hmm;refine⟨len,⟨some a,cap,rfl,fun i hi=>?_⟩,?_⟩
 ·obtain⟨cs',h1,h2⟩:=hc i (by omega);rw[Oz]at h1;obtain⟨_,hlen,hcell⟩:=World.cells?_some h1;obtain⟨xs,k,_,hxy,_,hxl,hfl⟩:=DataW.trod_struct Tryz.underlying36 h2;match xs,hxl,cs',hlen with
  |[y0,y1,y2,y3],_,[v0,v1,v2,v3],_=>
  have g0:=hfl 0 _ rfl;have g1:=hfl 1 _ rfl;have g2:=hfl 2 _ rfl;have g3:=hfl 3 _ rfl;simp[cI,cS,cL]at g0 g1 g2 g3;obtain⟨k,e0,_,_⟩:=DataW.trod_int Tryz.underlying3 g0;obtain⟨n,e1,_,wn⟩:=DataW.trod_int Tryz.underlying3 g1;obtain⟨wd,e2,_,ws⟩:=DataW.trod_string Tryz.underlying9 g2;have e3:∃va vl vc,v3=.slice va vl vc:=by
   obtain⟨e,_⟩|⟨a',l',c',_,_,_,_,e,_⟩:=DataW.trod_slice Tryz.underlying32 g3;·exact⟨_,_,_,by simpa using e⟩
   exact⟨_,_,_,by simpa using e⟩
  obtain⟨va,vl,vc,rfl⟩:=e3;simp only[List.cons.injEq,and_true]at e0 e1 e2;subst e0 e1 e2;have k0:=hcell 0 (by omega);have k1:=hcell 1 (by omega);have k2:=hcell 2 (by omega);have k3:=hcell 3 (by omega);rw[Deep.add_add]at k0 k1 k2 k3;simp at k0 k1 k2 k3;have hlt:a.block<W.heap.size:=by
   obtain h|h:=dF a.block W.heap.size;·exact h
   exfalso;have hb':W.heap.size<=(a.add (i*4)).block:=by rw[block_add];exact h
   simp[World.cell?,Array.getElem?_eq_none hb']at k0
  exact⟨a,k,n,wd,va,vl,vc,rfl,hlt,k0,k1,k2,k3,zf0 wn,ws⟩
 have:=ye7 ((List.range len).map D);simp only[List.length_map,List.length_range]at this;simp only[Rows.uptoBulk];omega
end Gl
namespace Px
def Cm(P:Pg)(L:List Int)(m:Ms):Prop:=∃C,m=(gJ P 4000000 (vH P L)).2.said C/\C.getLast?=(gJ P 4000000 (vH P L)).2.eY.getLast?
theorem Zq(P:Pg)(L:List Int):Cm P L (gJ P 4000000 (vH P L)).2:=⟨(gJ P 4000000 (vH P L)).2.eY,rfl,rfl⟩
variable{s:dX}{l:List Sm}{L:List Int}{m:Ms}
theorem Kj(hr:read s=.ok l)(hc:gI s=(0,0)){S:List (Option kZ)}(hS:wU (iU l) S)(ho:∀i∈(iU l).ins,qX i)(h:Cm (iU l) L m)(hL:∀v∈L,mZ v)(hf:m.fin=0)(a:Int)(ha:mZ a):jR (iU l) S 4000000 {m with left:=[a],eY:=[]}/\Cm (iU l) (L++[a]) (gJ (iU l) 4000000 {m with left:=[a],eY:=[]}).2/\m.left=[]:=by
 obtain⟨C,rfl,_⟩:=h;obtain⟨m2,e1,_,_,e4⟩:=MG hr hc L 4000000 (by decide);have e1':gJ (iU l) 4000000 (vH (iU l) L)=(_,m2):=e1;rw[e1']at hf |-;have hf2:m2.fin=0:=hf;rw[hf2]at e4;rw[<- e4]at e1';obtain⟨k,m1,hk,hs,hw⟩:=Wt _ _ e1';obtain⟨w1,⟨q,w2⟩,_⟩:=Ws hw;have hI:=yeb hS ho k (Zg hS hL) hs;obtain⟨m3,d1,_⟩:=MG hr hc (L++[a]) 4000000 (by decide);have d1':gJ (iU l) 4000000 ((vH (iU l) L).more [a])=(_,m3):=d1;have h4:(gJ (iU l) 4000000 ((vH (iU l) L).more [a])).1≠4:=by rw[d1'];have:=Lo (jv l ⟨[],0,0⟩).vars l (L++[a]);dsimp only;omega
 obtain⟨C',r1,r2⟩:=resume e1' [a] h4 [];refine⟨?_,⟨C',?_,r2⟩,?_⟩;·subst w2;exact⟨hI.vars,hI.sw,hI.mV,(fun v hv=>by rw[bD.1 hv];exact ha),hI.qy,hI.fl,hI.fD,hI.at_,hI.pl,hI.fin,aK hI.c1 (by omega),aK hI.c2 (by omega),aK hI.c3 (by omega),aQ _⟩
 ·exact congrArg Prod.snd r1
 show m2.left=[];rw[w2];exact w1
theorem Ig(hr:read s=.ok l)(hc:gI s=(0,0))(h:Cm (iU l) L m):m.fin=(play (jv l ⟨[],0,0⟩).vars l L).over/\m.vars=(play (jv l ⟨[],0,0⟩).vars l L).held/\m.eY.getLast?=(play (jv l ⟨[],0,0⟩).vars l L).eY.getLast?:=by obtain⟨C,rfl,hC⟩:=h;obtain⟨m2,e1,e2,e3,e4⟩:=MG hr hc L 4000000 (by decide);have e1':gJ (iU l) 4000000 (vH (iU l) L)=(_,m2):=e1;rw[e1']at hC |-;exact⟨e4,e3,by rw[<- e2];exact hC⟩
