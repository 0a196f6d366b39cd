import Derived.Test.YtgkhgealpneodaaGreatDoorG11
set_option maxRecDepth 100000
set_option maxHeartbeats 4000000
namespace Go.Proofs.YtgkhgealpneodaaGreatDoor
open Go.RowKit Tryz
namespace Lg
open Px Ref
theorem G9(s:dX)(k:Nat)(st:eO):Px.kind s k st=(match nG s k st with
  |.error p=>.error p
  |.ok (_,st1)=>.ok st1):=by
 unfold Px.kind nG;split<;>rfl
theorem Hf(s x:dX)(st:eO):Px.need s x st=(match lS s x st with
  |.error p=>.error p
  |.ok (_,st1)=>.ok st1):=by
 unfold Px.need lS;split<;>rfl
variable{s x:dX}{B b c d f k m n o p q:Nat}{st st' st1:eO}
theorem vC{t:iy}(h:nG s k st=.ok (t,st1)):t=st.t/\st1=eZ s st/\st.t.k=k:=by
 unfold nG at h;split at h;·rename_i hk;cases h;exact⟨rfl,rfl,hk⟩
 cases h
variable{u:Unit}
theorem NR(h:lS s x st=.ok (u,st1)):st1=eZ s st/\gN s st.t x=true:=by
 unfold lS at h;split at h;·rename_i hk;cases h;exact⟨rfl,hk⟩
 cases h
theorem Yg{t:iy}(ht:Tk s st.t)(h0:k≠0)(h63:k≠63)(h:nG s k st=.ok (t,st1)):iV s st st1:=by obtain⟨_,rfl,hk⟩:=vC h;exact wJ ht (by omega) (by omega)
theorem Yh(ht:Tk s st.t)(h:lS s x st=.ok (u,st1)):iV s st st1:=by obtain⟨rfl,hk⟩:=NR h;exact jh ht hk
def BF(s:dX)(t:iy)(e:fG):Sm:={jY with op:=108,eH:=Px.txt s t,pl:=t.a,ex:=some e}
theorem Ng(s:dX)(st:eO):mF s st=andThen (nG s 119 st) fun t st1=>andThen (lS s ⟨#[61]⟩ st1) fun _ st2=>andThen (lG s st2) fun e jg=>andThen (lS s ⟨#[59]⟩ jg) fun _ lH=>.ok (BF s t e,lH):=by
 unfold mF;rw[G9];cases h1:nG s 119 st with| error p=>rfl| ok r=>
 obtain⟨t,st1⟩:=r;obtain⟨rfl,_,_⟩:=vC h1;simp only[andThen];rw[Hf];cases lS s ⟨#[61]⟩ st1 with| error p=>rfl| ok r=>
 obtain⟨u,st2⟩:=r;simp only;cases lG s st2 with| error p=>rfl| ok r=>
 obtain⟨e,jg⟩:=r;simp only;rw[Hf];cases lS s ⟨#[59]⟩ jg with| error p=>rfl| ok r=>obtain⟨u,lH⟩:=r;rfl
theorem Yi(s:dX)(t:iy):∀(e:fG)(st:eO),st.t.k=63->fin (andThen (lS s ⟨#[59]⟩ st) fun _ lH=>.ok (BF s t e,lH))=.error st.t.a:=fun _ st h=>kE (Aw s _ st h) fun _ _ h'=>nR _ h'
theorem Yj(s:dX)(t:iy):∀(_:Unit)(st:eO),st.t.k=63->fin (andThen (lG s st) fun e jg=>andThen (lS s ⟨#[59]⟩ jg) fun _ lH=>.ok (BF s t e,lH))=.error st.t.a:=fun _ st h=>kE (Rv s st h) (Yi s t)
theorem Yk(s:dX):∀(t:iy)(st:eO),st.t.k=63->fin (andThen (lS s ⟨#[61]⟩ st) fun _ st2=>andThen (lG s st2) fun e jg=>andThen (lS s ⟨#[59]⟩ jg) fun _ lH=>.ok (BF s t e,lH))=.error st.t.a:=fun t st h=>kE (Aw s _ st h) (Yj s t)
def BG(w:dY)(T:Nat):dY->Sm->dZ->Prop:=fun w' x v=>∃q,v=Ref.ptr q/\oZ w' x (gD w w') (.iface T (Ref.ptr q))
theorem zti(b:Nat)(s:dX)(eT eN:Addr)(hs:s.size<=maxLen)(st:eO)(w:dY)(r:Rd w b s st eT eN)(hn0:0<=st.eP)(hn1:st.eP+(s.size+1:Nat)<=1000000):fI 191 #[fq b] w (Out b s eT eN w (mF s st) (BG w 280)):=by
 have hb:=r.lt;have R:Hid _:=r;have E0:Hid (_=_):=Ng s st;go_enter func191,ntmps191;go_wp2_with fail;refine(Av b s st eT eN _ R.o hs).mono ?_;rintro e w1 ⟨k1,⟨t,st1,v,h1,rfl,⟨qv,rfl,hv⟩,r1⟩|⟨p,hp,ht⟩⟩
 ·have E1:Hid (_=_):=E0.o.trans (then_ok h1);have g1:=Yg R.o.tk (by decide) (by decide) h1;obtain⟨rfl,_,_⟩:=vC h1;have H1:Hid (Kp b w w1/\kX w1 (s.extract st.t.a st.t.b) st.t.a (gD w w1) qv/\Rd w1 b s st1 eT eN/\iV s st st1):=⟨k1,hv,r1,g1⟩;unfold Ref.ptr;go_wp2_with fail;refine(Bw b s _ st1 eT eN _ H1.o.2.2.1 hs).mono ?_;rintro e w2 ⟨k2,⟨u,st2,v,h2,rfl,rfl,r2⟩|⟨p,hp,ht⟩⟩
  ·have E2:Hid (_=_):=E1.o.trans (then_ok h2);have g2:=H1.o.2.2.2.trans (Yh H1.o.2.2.1.tk h2);have H2:Hid (Kp b w1 w2/\Rd w2 b s st2 eT eN/\iV s st st2):=⟨k2,r2,g2⟩;have hn:=g2.eP;go_wp2_with fail;refine(Ya b s eT eN hs st2 _ H2.o.2.1 (by omega) (by omega)).mono ?_;rintro e w3 ⟨k3,⟨x,jg,v,h3,rfl,hv,r3⟩|⟨p,hp,ht⟩⟩
   ·have E3:Hid (_=_):=E2.o.trans (then_ok h3);obtain⟨tl,ql,rfl⟩:=ku.form hv;have H3:Hid (Kp b w2 w3/\ku w3 x (gD w2 w3) (.iface tl (Ref.ptr ql))/\Rd w3 b s jg eT eN):=⟨k3,hv,r3⟩;unfold Ref.ptr at H3 |-;go_wp2_with fail;refine(Bw b s _ jg eT eN _ H3.o.2.2 hs).mono ?_;rintro e w4 ⟨k4,⟨u,lH,v,h4,rfl,rfl,r4⟩|⟨p,hp,ht⟩⟩
    ·have E4:Hid (_=_):=E3.o.trans (then_ok h4);have H4:Hid (Kp b w3 w4/\Rd w4 b s lH eT eN):=⟨k4,r4⟩;go_wp2_with fail;go_ret;have k14:=(H2.o.1.trans H3.o.1).trans H4.o.1;have z1:=H1.o.1.size;have z2:=H2.o.1.size;have z3:=H3.o.1.size;have z4:=H4.o.1.size;refine⟨(H1.o.1.trans k14).alloc _,ak ⟨_,_,_,E4.o,rfl,⟨w4.heap.size,rfl,?_⟩,H4.o.2.alloc _⟩⟩;refine⟨iE,iE,[],[],⟨w4.heap.size,⟨by omega,by simp⟩,ak ⟨rfl,rfl,qv,tl,ql,x,jX,?_,rfl,?_⟩⟩,ak ⟨rfl,rfl⟩,gX.oV.2 rfl,ak ⟨rfl,rfl⟩,gX.oV.2 rfl⟩;·exact((H1.o.2.1.keep fun i hi=>(k14.alloc _).block i hi.2 (by have:=hi.1;omega))).mono fun i hi=>⟨hi.1,by have:=hi.2;simp;omega⟩
     exact((H3.o.2.1.keep fun i hi=>(H4.o.1.alloc _).block i hi.2 (by have:=hi.1;omega))).mono fun i hi=>⟨by have:=hi.1;omega,by have:=hi.2;simp;omega⟩
    obtain⟨c,rfl⟩:=ht.form;have J2:=(H1.o.1.trans H2.o.1).trans H3.o.1;exact⟨rfl,J2.trans k4,aj ⟨p,by rw[E3.o];exact kE hp fun _ _ h=>nR _ h,ht.low J2.size⟩⟩
   obtain⟨c,rfl⟩:=ht.form;have zB:=H1.o.1.trans H2.o.1;exact⟨rfl,zB.trans k3,aj ⟨p,by rw[E2.o];exact kE hp (Yi s _),ht.low zB.size⟩⟩
  obtain⟨c,rfl⟩:=ht.form;exact⟨rfl,H1.o.1.trans k2,aj ⟨p,by rw[E1.o];exact kE hp (Yj s _),ht.low H1.o.1.size⟩⟩
 obtain⟨c,rfl⟩:=ht.form;exact⟨rfl,k1,aj ⟨p,by rw[E0.o];exact kE hp (Yk s),ht⟩⟩
def vD(s:dX)(x:Sm)(st:eO):Except Nat (Sm×eO):=if gN s st.t ⟨#[41]⟩then .ok (x,eZ s st)else andThen (lG s st) fun e st'=>andThen (lS s ⟨#[41]⟩ st') fun _ st''=>.ok ({x with ex:=some e},st'')
def Hg(s:dX)(x:Sm)(st:eO):Except Nat (Sm×eO):=andThen (lS s ⟨#[59]⟩ st) fun _ st'=>.ok (x,st')
def Hl(s:dX)(x:Sm)(st:eO):Except Nat (Sm×eO):=andThen (oP s x st) (Hg s)
def Ho(s:dX)(x:Sm)(st:eO):Except Nat (Sm×eO):=andThen (nT s x st) (Hl s)
def Dk(s:dX)(x:Sm)(st:eO):Except Nat (Sm×eO):=andThen (ng s x st) (Ho s)
def wo(s:dX)(x:Sm)(st:eO):Except Nat (Sm×eO):=andThen (vD s x st) (Dk s)
def NS(s:dX)(t:iy):Sm:={jY with op:=99,eH:=Px.txt s t,pl:=t.a,n:=1}
theorem Nb(s:dX)(st:eO):Px.call s st=andThen (nG s 119 st) fun t st1=>andThen (lS s ⟨#[40]⟩ st1) fun _ st2=>wo s (NS s t) st2:=by
 unfold Px.call;rw[G9];cases h1:nG s 119 st with| error p=>rfl| ok r=>
 obtain⟨t,st1⟩:=r;obtain⟨rfl,_,_⟩:=vC h1;simp only[andThen];rw[Hf];cases lS s ⟨#[40]⟩ st1 with| error p=>rfl| ok r=>
 obtain⟨u,st2⟩:=r;simp only;unfold wo vD nK;have key:∀(y:Sm)(sa sb:eO)(_:Px.need s ⟨#[41]⟩ sa=.ok sb),(match Px.need s ⟨#[41]⟩ sa with
   |.error p=>.error p
   |.ok lH=>(match ng s y lH with
    |.error p=>.error p
    |.ok (x5,mD)=>(match nT s x5 mD with
     |.error p=>.error p
     |.ok (x6,oq)=>(match oP s x6 oq with
      |.error p=>.error p
      |.ok (x7,qV)=>(match Px.need s ⟨#[59]⟩ qV with
       |.error p=>(.error p:Except Nat (Sm×eO))
       |.ok wH=>.ok (x7,wH))))))=Dk s y sb:=by
  intro y sa sb hsb;rw[hsb];simp only[Dk,andThen];cases ng s y sb with| error p=>rfl| ok r=>
  obtain⟨x5,mD⟩:=r;simp only[Ho,andThen];cases nT s x5 mD with| error p=>rfl| ok r=>
  obtain⟨x6,oq⟩:=r;simp only[Hl,andThen];cases oP s x6 oq with| error p=>rfl| ok r=>
  obtain⟨x7,qV⟩:=r;simp only[Hg,andThen];rw[Hf];cases lS s ⟨#[59]⟩ qV with| error p=>rfl| ok r=>obtain⟨u,wH⟩:=r;rfl
 by_cases ho:gN s st2.t ⟨#[41]⟩=true;·rw[aA ho,aA ho];exact key _ _ _ (by unfold Px.need;rw[aA ho])
 rw[ah ho,ah ho];simp only[andThen];cases lG s st2 with| error p=>rfl| ok r=>
 obtain⟨e,jg⟩:=r;simp only;by_cases ho':gN s jg.t ⟨#[41]⟩=true;·rw[show lS s ⟨#[41]⟩ jg=.ok ((),eZ s jg)from by unfold lS;rw[aA ho']];exact key _ _ _ (by unfold Px.need;rw[aA ho'])
 rw[show lS s ⟨#[41]⟩ jg=.error jg.t.a from by unfold lS;rw[ah ho'],show Px.need s ⟨#[41]⟩ jg=.error jg.t.a from by unfold Px.need;rw[ah ho']]
theorem RB{x:Sm}(h:gN s st.t ⟨#[97,115]⟩=true):ng s x st=andThen (nG s 119 (eZ s st)) fun t st'=>.ok ({x with gH:=s.extract t.a t.b,gG:=t.a},st'):=by unfold ng;rw[aA h,G9];cases h1:nG s 119 (eZ s st)with| error p=>rfl| ok r=>obtain⟨t,st1⟩:=r;obtain⟨rfl,_,_⟩:=vC h1;rfl
theorem RF{x:Sm}(h:gN s st.t ⟨#[117,110,100,111]⟩=true):nT s x st=andThen (nG s 119 (eZ s st)) fun t st'=>.ok ({x with undo:=s.extract t.a t.b},st'):=by unfold nT;rw[aA h,G9];cases h1:nG s 119 (eZ s st)with| error p=>rfl| ok r=>obtain⟨t,st1⟩:=r;obtain⟨rfl,_,_⟩:=vC h1;rfl
theorem RG{x:Sm}(h:gN s st.t ⟨#[116,114,105,101,115]⟩=true):oP s x st=andThen (nG s 110 (eZ s st)) fun t st'=>.ok ({x with n:=iq (s.extract t.a t.b).toList,gZ:=t.a},st'):=by unfold oP;rw[aA h,G9];cases h1:nG s 110 (eZ s st)with| error p=>rfl| ok r=>obtain⟨t,st1⟩:=r;obtain⟨rfl,_,_⟩:=vC h1;rfl
theorem Yl{x:Sm}(h:gN s st.t ⟨#[97,115]⟩=false):ng s x st=.ok (x,st):=by unfold ng;rw[ah (by simp[h])]
theorem Ym{x:Sm}(h:gN s st.t ⟨#[117,110,100,111]⟩=false):nT s x st=.ok (x,st):=by unfold nT;rw[ah (by simp[h])]
theorem Yn{x:Sm}(h:gN s st.t ⟨#[116,114,105,101,115]⟩=false):oP s x st=.ok (x,st):=by unfold oP;rw[ah (by simp[h])]
theorem RH(s:dX):∀(x:Sm)(st:eO),st.t.k=63->fin (Hg s x st)=.error st.t.a:=fun _ st h=>kE (Aw s _ st h) fun _ _ h'=>nR _ h'
theorem RI(s:dX):∀(x:Sm)(st:eO),st.t.k=63->fin (Hl s x st)=.error st.t.a:=fun x st h=>kE (by rw[Yn (sS h _)];exact nR _ h) (RH s)
theorem RJ(s:dX):∀(x:Sm)(st:eO),st.t.k=63->fin (Ho s x st)=.error st.t.a:=fun x st h=>kE (by rw[Ym (sS h _)];exact nR _ h) (RI s)
theorem NT(s:dX):∀(x:Sm)(st:eO),st.t.k=63->fin (Dk s x st)=.error st.t.a:=fun x st h=>kE (by rw[Yl (sS h _)];exact nR _ h) (RJ s)
theorem zj3(s:dX)(x:Sm):Late (vD s x):=by intro st h;unfold vD;rw[ah (by simp[sS h])];exact kE (Rv s st h) fun _ st' h'=>kE (Aw s _ st' h') fun _ _ h''=>nR _ h''
theorem RN(s:dX):∀(x:Sm)(st:eO),st.t.k=63->fin (wo s x st)=.error st.t.a:=fun x st h=>kE (zj3 s x st h) (NT s)
def mq(w0 w:dY)(q k:Nat):Prop:=gD w0 w k/\k≠q
structure jd(b:Nat)(s:dX)(eT eN:Addr)(w0:dY)(q:Nat)(x:Sm)(N:Int)(st:eO)(w:dY):Prop where
 kp:Kp b w0 w
 rd:Rd w b s st eT eN
 hq:w0.heap.size<=q
 eP:st.eP=N
 op:x.op=99
 one:x.one=[]
 two:x.two=[]
 cell:∃pa ps qn,w.heap[q]?=some (.cells #[.string x.eH,.pointer pa,.pointer ps,.string x.undo,Ref.ptr qn] 338)/\nH w x.ex (mq w0 w q) (.pointer pa)/\qL w x.gH x.gG (mq w0 w q) (.pointer ps)/\jW w x.n x.gZ (mq w0 w q) qn
variable{eN eT:Addr}{W w w' w0 w1 w2:dY}{N:Int}
theorem jd.lt{x:Sm}(h:jd b s eT eN w0 q x N st w):q<w.heap.size:=by obtain⟨pa,ps,qn,h1,_⟩:=h.cell;exact(aN.1 h1).1
theorem jd.step{x:Sm}(hb:b<w0.heap.size)(h:jd b s eT eN w0 q x N st w)(k:Kp b w w')(r:Rd w' b s st' eT eN)(hn:st'.eP=st.eP):jd b s eT eN w0 q x N st' w':=by obtain⟨pa,ps,qn,h1,h2,h3,h4⟩:=h.cell;have hq:=h.hq;have hk:∀i,mq w0 w q i->w'.heap[i]?=w.heap[i]?:=fun i hi=>k.block i hi.1.2 (by have:=hi.1.1;omega);have hm:∀i,mq w0 w q i->mq w0 w' q i:=fun i hi=>⟨⟨hi.1.1,aJ hi.1.2 k.size⟩,hi.2⟩;exact⟨h.kp.trans k,r,hq,hn.trans h.eP,h.op,h.one,h.two,pa,ps,qn,by rw[k.block q h.lt (by omega)];exact h1,(h2.keep hk).mono hm,(h3.keep hk).mono hm,(h4.keep hk).mono hm⟩
variable{a v:dZ}
theorem jd.put{x y:Sm}(hb:b<w0.heap.size)(h:jd b s eT eN w0 q x N st w)(k:Kp b w w')(r:Rd w' b s st' eT eN)(hn:st'.eP=st.eP)(hop:y.op=99)(h1:y.one=[])(h2:y.two=[])(hc:∀pa ps qn,w'.heap[q]?=some (.cells #[.string x.eH,.pointer pa,.pointer ps,.string x.undo,Ref.ptr qn] 338)->nH w' x.ex (mq w0 w' q) (.pointer pa)->qL w' x.gH x.gG (mq w0 w' q) (.pointer ps)->jW w' x.n x.gZ (mq w0 w' q) qn ->
   ∃pa ps qn,(w'.setCell ⟨q,o,none⟩ v).heap[q]?=some (.cells #[.string y.eH,.pointer pa,.pointer ps,.string y.undo,Ref.ptr qn] 338)/\nH w' y.ex (mq w0 w' q) (.pointer pa)/\qL w' y.gH y.gG (mq w0 w' q) (.pointer ps)/\jW w' y.n y.gZ (mq w0 w' q) qn):
  jd b s eT eN w0 q y N st' (w'.setCell ⟨q,o,none⟩ v):=by
 have h':=h.step hb k r hn;obtain⟨pa,ps,qn,e1,e2,e3,e4⟩:=h'.cell;have hq:=h.hq;obtain⟨pa',ps',qn',f1,f2,f3,f4⟩:=hc pa ps qn e1 e2 e3 e4;have hk:∀i,mq w0 w' q i->(w'.setCell ⟨q,o,none⟩ v).heap[i]?=w'.heap[i]?:=fun i hi=>lg _ hi.2;have hm:∀i,mq w0 w' q i->mq w0 (w'.setCell ⟨q,o,none⟩ v) q i:=fun i hi=>⟨⟨hi.1.1,by rw[gP];exact hi.1.2⟩,hi.2⟩;exact⟨h'.kp.iD hq _,r.zA e1 (by decide) (by omega) v,hq,h'.eP,hop,h1,h2,pa',ps',qn',f1,(f2.keep hk).mono hm,(f3.keep hk).mono hm,(f4.keep hk).mono hm⟩
theorem RO(hz:w0.heap.size<=w.heap.size)(hq:q<w.heap.size):∀i,gD w w' i->mq w0 w' q i:=fun i hi=>⟨⟨by have:=hi.1;omega,hi.2⟩,by have:=hi.1;omega⟩
def yI(s x:dX)(st:eO):eO:=if gN s st.t x then eZ s st else st
theorem Hq(h:gN s st.t x=true):yI s x st=eZ s st:=by unfold yI;rw[aA h]
theorem Hr(h:gN s st.t x=false):yI s x st=st:=by unfold yI;rw[ah (by simp[h])]
theorem NU:(yI s x st).eP=st.eP:=by unfold yI;split<;>rfl
theorem J3(b:Nat)(s x:dX)(st:eO)(eT eN:Addr)(w:dY)(r:Rd w b s st eT eN)(hs:s.size<=maxLen):fI 190 #[fq b,.string x] w fun e w'=>Kp b w w'/\((e=fM (.bool (gN s st.t x))/\Rd w' b s (yI s x st) eT eN) \/
   (gN s st.t x=true/\(eZ s st).t.k=63/\lC w' w.heap.size eT (eZ s st).t.a e)):=by
 cases h:gN s st.t x;·refine(pE b s x st eT eN w r h).mono ?_;rintro e w' ⟨rfl,rfl⟩;exact⟨Kp.refl _ _,ak ⟨rfl,by rw[Hr h];exact r⟩⟩
 ·refine(yD b s x st eT eN w r hs h).mono ?_;rintro e w' ⟨k,⟨u,st1,v,he,rfl,rfl,r1⟩|⟨p,hp,ht⟩⟩;·cases he;exact⟨k,ak ⟨rfl,by rw[Hq h];exact r1⟩⟩
  ·obtain⟨h1,rfl⟩:=tZ hp;exact⟨k,aj ⟨rfl,h1,ht⟩⟩
variable{T et kt t ty:TypeId}
theorem cells5{b c d e:dZ}(hh:w.heap[k]?=some (.cells #[a,b,c,d,e] t)):w.cell? ⟨k,0,none⟩=some a/\w.cell? ⟨k,1,none⟩=some b/\w.cell? ⟨k,2,none⟩=some c/\w.cell? ⟨k,3,none⟩=some d/\w.cell? ⟨k,4,none⟩=some e/\∀o,w.frozen? ⟨k,o,none⟩=false:=by refine⟨?_,?_,?_,?_,?_,?_⟩<;>simp[World.cell?,World.frozen?,hh]
theorem zkl(tk:Tk s st.t)(h:st.t.k=119):0<(s.extract st.t.a st.t.b).size:=by have h1:=tk.lt (by omega) (by omega);have h2:=tk.le;simp;omega
theorem RP(b:Nat)(s:dX)(eT eN:Addr)(hs:s.size<=maxLen)(st:eO)(w:dY)(r:Rd w b s st eT eN)(hn0:0<=st.eP)(hn1:st.eP+(s.size+1:Nat)<=1000000):fI 192 #[fq b] w (Out b s eT eN w (Px.call s st) (BG w 290)):=by
 have hb:=r.lt;have R:Hid _:=r;clear r;have E0:Hid (_=_):=Nb s st;go_enter func192,ntmps192;go_wp2_with fail;refine(EO b s st eT eN _ R.o hs).mono ?_;rintro e w1 ⟨k1,⟨t,st1,v,h1,rfl,rfl,r1⟩|⟨p,hp,ht⟩⟩
 ·have E1:Hid (_=_):=E0.o.trans (then_ok h1);obtain⟨rfl,Yo,_⟩:=vC h1;have H1:Hid (Kp b w w1/\Rd w1 b s st1 eT eN/\st1.eP=st.eP):=⟨k1,r1,by rw[Yo];rfl⟩;clear k1 r1 h1 Yo;go_wp2_with fail;generalize hQ:w1.heap.size+1=q;have C0:Hid (jd b s eT eN w q (NS s st.t) st.eP st1 ((w1.alloc (.cells #[eF 1,eF 0] 322)).alloc (.cells #[.string (s.extract st.t.a st.t.b),.pointer none,.pointer none,.string ⟨#[]⟩,fq w1.heap.size] 338))):=by have z:=H1.o.1.size;refine⟨(H1.o.1.alloc _).alloc _,(H1.o.2.1.alloc _).alloc _,by omega,H1.o.2.2,rfl,rfl,rfl,none,none,w1.heap.size,?_,rfl,ak ⟨rfl,rfl⟩,⟨⟨⟨z,by simp;omega⟩,by omega⟩,MU⟩⟩;rw[<- hQ];exact new2
  generalize hW:((w1.alloc (.cells #[eF 1,eF 0] 322)).alloc (.cells #[.string (s.extract st.t.a st.t.b),.pointer none,.pointer none,.string ⟨#[]⟩,fq w1.heap.size] 338))=W;rw[hW]at C0;clear hW H1 hQ;refine(Bw b s _ st1 eT eN _ C0.o.rd hs).mono ?_;rintro e w2 ⟨k2,⟨u,st2,v,h2,rfl,rfl,r2⟩|⟨p,hp,ht⟩⟩
  ·have E2:Hid (_=_):=E1.o.trans (then_ok h2);have C1:Hid (jd b s eT eN w q (NS s st.t) st.eP st2 w2):=C0.o.step hb k2 r2 (by rw[(NR h2).1];rfl);clear k2 r2 h2;generalize NS s st.t=x1 at E2 C1;go_wp2_with fail;refine(J3 b s _ st2 eT eN _ C1.o.rd hs).mono ?_;rintro e w3 ⟨k3,⟨rfl,r3⟩|⟨ho,h63,ht⟩⟩
   ·have C2:Hid (jd b s eT eN w q x1 st.eP (yI s ⟨#[41]⟩ st2) w3):=C1.o.step hb k3 r3 NU;clear k3 r3 C1;generalize hB:gN s st2.t ⟨#[41]⟩=B;have HB:Hid _:=hB;clear hB;go_upto_if 14 with fail
    go_cut [3] (fun v wc=>v=fq q/\Hid (∃x st',jd b s eT eN w q x st.eP st' wc/\Px.call s st=Dk s x st'))
    case first=>
     cases B
     ·rw[Hr HB.o]at C2;go_wp2_with fail;refine(Yf b s eT eN hs _ _ C2.o.rd (by rw[C2.o.eP];omega) (by rw[C2.o.eP];omega)).mono ?_;rintro e w4 ⟨k4,⟨x,lH,v,h4,rfl,⟨qr,rfl,hv⟩,r4⟩|⟨p,hp,ht⟩⟩
      ·have gd:=uJ s _ _ _ C2.o.rd.tk h4;have g4:=C2.o.step hb k4 r4 gd.eP;obtain⟨pa,ps,qn,g4,_⟩:=g4.cell;obtain⟨d0,d1,d2,d3,d4,df⟩:=cells5 g4;have hsz:=C2.o.kp.size;have vN:=C2.o.lt;have C3:Hid (jd b s eT eN w q {x1 with ex:=some x} st.eP lH (w4.setCell ⟨q,1,none⟩ (Ref.ptr qr))):=C2.o.put hb k4 r4 gd.eP C2.o.op C2.o.one C2.o.two fun pa ps qn e1 e2 e3 e4=>
        ⟨some ⟨qr,0,none⟩,ps,qn,by rw[Ref.heap_set _ e1];simp[Ref.ptr],⟨qr,rfl,hv.mono (RO hsz vN)⟩,e3,e4⟩
       have E3:Hid (Px.call s st=andThen (andThen (lS s ⟨#[41]⟩ lH) fun _ st''=>.ok ({x1 with ex:=some x},st'')) (Dk s)):=by unfold Hid;rw[E2.o,wo,vD,ah (by simp[HB.o]),then_ok h4]
       clear g4 hv k4 r4 h4 gd hsz vN;unfold Ref.ptr at *;go_wp2_with fail;refine(Bw b s _ lH eT eN _ C3.o.rd hs).mono ?_;rintro e w5 ⟨k5,⟨u,mD,v,h5,rfl,rfl,r5⟩|⟨p,hp,ht⟩⟩
       ·have C4:Hid (jd b s eT eN w q {x1 with ex:=some x} st.eP mD w5):=C3.o.step hb k5 r5 (by rw[(NR h5).1];rfl);have E4:Hid (Px.call s st=Dk s {x1 with ex:=some x} mD):=E3.o.trans (then_ok (then_ok h5));clear k5 r5 h5;go_wp2_with fail;go_meet
        case rel=>exact⟨rfl,_,_,C4.o,E4.o⟩
       obtain⟨c,rfl⟩:=ht.form;exact⟨rfl,C3.o.kp.trans k5,aj ⟨p,by rw[E3.o];exact kE (kE hp fun _ _ h=>nR _ h) (NT s),ht.low C3.o.kp.size⟩⟩
      obtain⟨c,rfl⟩:=ht.form;refine⟨rfl,C2.o.kp.trans k4,aj ⟨p,?_,ht.low C2.o.kp.size⟩⟩;rw[E2.o,wo,vD,ah (by simp[HB.o])];exact kE (kE hp fun _ st' h'=>kE (Aw s _ st' h') fun _ _ h''=>nR _ h'') (NT s)
     rw[Hq HB.o]at C2;go_wp2_with fail;go_meet
     case rel=>
      exact⟨rfl,x1,_,C2.o,by rw[E2.o,wo,vD,aA HB.o];rfl⟩
    case rest=>
    obtain⟨rfl,hcx⟩:=hcut;obtain⟨xa,EX,Ca,Yp⟩:=hcx.o;have Da:Hid (jd b s eT eN w q xa st.eP EX wc/\Px.call s st=Dk s xa EX):=⟨Ca,Yp⟩;clear hcx Ca Yp;go_wp2_with fail;refine(J3 b s _ EX eT eN _ Da.o.1.rd hs).mono ?_;rintro e w4 ⟨k4,⟨rfl,r4⟩|⟨ho,h63,ht⟩⟩
    rotate_left
    ·obtain⟨c,rfl⟩:=ht.form;exact⟨rfl,Da.o.1.kp.trans k4,aj ⟨_,by rw[Da.o.2];exact kE (by rw[RB ho];exact kE (G7 s (by decide) _ h63) fun _ _ h=>nR _ h) (RJ s),ht.low Da.o.1.kp.size⟩⟩
    have Fa:Hid (jd b s eT eN w q xa st.eP (yI s ⟨#[97,115]⟩ EX) w4):=Da.o.1.step hb k4 r4 NU;clear k4 r4;generalize hB:gN s EX.t ⟨#[97,115]⟩=B;have HB:Hid _:=hB;clear hB;go_upto_if 23 with fail
    go_cut [3] (fun v wc=>v=fq q/\Hid (∃x st',jd b s eT eN w q x st.eP st' wc/\Px.call s st=Ho s x st'))
    case first=>
     cases B
     ·rw[Hr HB.o]at Fa;go_wp2_with fail;go_meet
      case rel=>exact⟨rfl,xa,EX,Fa.o,Da.o.2.trans (then_ok (Yl HB.o))⟩
     rw[Hq HB.o]at Fa;go_wp2_with fail;refine(Av b s (eZ s EX) eT eN _ Fa.o.rd hs).mono ?_;rintro e w5 ⟨k5,⟨t,mD,v,h5,rfl,⟨qv,rfl,hv⟩,r5⟩|⟨p,hp,ht⟩⟩
     ·have g5:=Fa.o.step hb k5 r5 (by rw[(vC h5).2.1];rfl);obtain⟨pa,ps,qn,g5,_⟩:=g5.cell;obtain⟨d0,d1,d2,d3,d4,df⟩:=cells5 g5;have hsz:=Fa.o.kp.size;have vN:=Fa.o.lt;have G:Hid (jd b s eT eN w q {xa with gH:=s.extract t.a t.b,gG:=t.a} st.eP mD (w5.setCell ⟨q,2,none⟩ (Ref.ptr qv))):=Fa.o.put hb k5 r5 (by rw[(vC h5).2.1];rfl) Fa.o.op Fa.o.one Fa.o.two fun pa ps qn e1 e2 e3 e4=>⟨pa,some ⟨qv,0,none⟩,qn,by rw[Ref.heap_set _ e1];simp[Ref.ptr],e2,aj ⟨by rw[(vC h5).1];exact zkl Fa.o.rd.tk (vC h5).2.2,qv,rfl,hv.mono (RO hsz vN)⟩,e4⟩;have EG:Hid (Px.call s st=Ho s {xa with gH:=s.extract t.a t.b,gG:=t.a} mD):=Da.o.2.trans (then_ok (by rw[RB HB.o];exact then_ok h5));clear g5 k5 r5 h5 hsz vN hv;unfold Ref.ptr at *;go_wp2_with fail;go_meet
      case rel=>exact⟨rfl,_,_,G.o,EG.o⟩
     obtain⟨c,rfl⟩:=ht.form;exact⟨rfl,Fa.o.kp.trans k5,aj ⟨p,by rw[Da.o.2];exact kE (by rw[RB HB.o];exact kE hp fun _ _ h=>nR _ h) (RJ s),ht.low Fa.o.kp.size⟩⟩
    case rest=>
    obtain⟨rfl,hcx⟩:=hcut;obtain⟨xu,EY,Cu,Yq⟩:=hcx.o;have Du:Hid (jd b s eT eN w q xu st.eP EY wc/\Px.call s st=Ho s xu EY):=⟨Cu,Yq⟩;clear hcx Cu Yq;go_wp2_with fail;refine(J3 b s _ EY eT eN _ Du.o.1.rd hs).mono ?_;rintro e w4 ⟨k4,⟨rfl,r4⟩|⟨ho,h63,ht⟩⟩
    rotate_left
    ·obtain⟨c,rfl⟩:=ht.form;exact⟨rfl,Du.o.1.kp.trans k4,aj ⟨_,by rw[Du.o.2];exact kE (by rw[RF ho];exact kE (G7 s (by decide) _ h63) fun _ _ h=>nR _ h) (RI s),ht.low Du.o.1.kp.size⟩⟩
    have Fu:Hid (jd b s eT eN w q xu st.eP (yI s ⟨#[117,110,100,111]⟩ EY) w4):=Du.o.1.step hb k4 r4 NU;clear k4 r4;generalize hB:gN s EY.t ⟨#[117,110,100,111]⟩=B;have HB:Hid _:=hB;clear hB;go_upto_if 30 with fail
    go_cut [3] (fun v wc=>v=fq q/\Hid (∃x st',jd b s eT eN w q x st.eP st' wc/\Px.call s st=Hl s x st'))
    case first=>
     cases B
     ·rw[Hr HB.o]at Fu;go_wp2_with fail;go_meet
      case rel=>exact⟨rfl,xu,EY,Fu.o,Du.o.2.trans (then_ok (Ym HB.o))⟩
     rw[Hq HB.o]at Fu;go_wp2_with fail;refine(EO b s (eZ s EY) eT eN _ Fu.o.rd hs).mono ?_;rintro e w5 ⟨k5,⟨t,mD,v,h5,rfl,rfl,r5⟩|⟨p,hp,ht⟩⟩
     ·have g5:=Fu.o.step hb k5 r5 (by rw[(vC h5).2.1];rfl);obtain⟨pa,ps,qn,g5,_⟩:=g5.cell;obtain⟨d0,d1,d2,d3,d4,df⟩:=cells5 g5;have hsz:=Fu.o.kp.size;have vN:=Fu.o.lt;have G:Hid (jd b s eT eN w q {xu with undo:=s.extract t.a t.b} st.eP mD (w5.setCell ⟨q,3,none⟩ (.string (s.extract t.a t.b)))):=Fu.o.put hb k5 r5 (by rw[(vC h5).2.1];rfl) Fu.o.op Fu.o.one Fu.o.two fun pa ps qn e1 e2 e3 e4=>⟨pa,ps,qn,by rw[Ref.heap_set _ e1];simp,e2,e3,e4⟩;have EG:Hid (Px.call s st=Hl s {xu with undo:=s.extract t.a t.b} mD):=Du.o.2.trans (then_ok (by rw[RF HB.o];exact then_ok h5));clear g5 k5 r5 h5 hsz vN;unfold Ref.ptr at *;go_wp2_with fail;go_meet
      case rel=>exact⟨rfl,_,_,G.o,EG.o⟩
     obtain⟨c,rfl⟩:=ht.form;exact⟨rfl,Fu.o.kp.trans k5,aj ⟨p,by rw[Du.o.2];exact kE (by rw[RF HB.o];exact kE hp fun _ _ h=>nR _ h) (RI s),ht.low Fu.o.kp.size⟩⟩
    case rest=>
    obtain⟨rfl,hcx⟩:=hcut;obtain⟨xr,str,Cr,Yr⟩:=hcx.o;have Dr:Hid (jd b s eT eN w q xr st.eP str wc/\Px.call s st=Hl s xr str):=⟨Cr,Yr⟩;clear hcx Cr Yr;go_wp2_with fail;refine(J3 b s _ str eT eN _ Dr.o.1.rd hs).mono ?_;rintro e w4 ⟨k4,⟨rfl,r4⟩|⟨ho,h63,ht⟩⟩
    rotate_left
    ·obtain⟨c,rfl⟩:=ht.form;exact⟨rfl,Dr.o.1.kp.trans k4,aj ⟨_,by rw[Dr.o.2];exact kE (by rw[RG ho];exact kE (G7 s (by decide) _ h63) fun _ _ h=>nR _ h) (RH s),ht.low Dr.o.1.kp.size⟩⟩
    have Fr:Hid (jd b s eT eN w q xr st.eP (yI s ⟨#[116,114,105,101,115]⟩ str) w4):=Dr.o.1.step hb k4 r4 NU;clear k4 r4;generalize hB:gN s str.t ⟨#[116,114,105,101,115]⟩=B;have HB:Hid _:=hB;clear hB;go_upto_if 37 with fail
    go_cut [3] (fun v wc=>v=fq q/\Hid (∃x st',jd b s eT eN w q x st.eP st' wc/\Px.call s st=Hg s x st'))
    case first=>
     cases B
     ·rw[Hr HB.o]at Fr;go_wp2_with fail;go_meet
      case rel=>exact⟨rfl,xr,str,Fr.o,Dr.o.2.trans (then_ok (Yn HB.o))⟩
     rw[Hq HB.o]at Fr;go_wp2_with fail;refine(G5 b s (eZ s str) eT eN _ Fr.o.rd hs).mono ?_;rintro e w5 ⟨k5,⟨t,mD,v,h5,rfl,⟨qv,rfl,hv⟩,r5⟩|⟨p,hp,ht⟩⟩
     ·have g5:=Fr.o.step hb k5 r5 (by rw[(vC h5).2.1];rfl);obtain⟨pa,ps,qn,g5,_⟩:=g5.cell;obtain⟨d0,d1,d2,d3,d4,df⟩:=cells5 g5;have hsz:=Fr.o.kp.size;have vN:=Fr.o.lt;have G:Hid (jd b s eT eN w q {xr with n:=iq (s.extract t.a t.b).toList,gZ:=t.a} st.eP mD (w5.setCell ⟨q,4,none⟩ (Ref.ptr qv))):=Fr.o.put hb k5 r5 (by rw[(vC h5).2.1];rfl) Fr.o.op Fr.o.one Fr.o.two fun pa ps qn e1 e2 e3 e4=>⟨pa,ps,qv,by rw[Ref.heap_set _ e1];simp,e2,e3,hv.mono (RO hsz vN)⟩;have EG:Hid (Px.call s st=Hg s {xr with n:=iq (s.extract t.a t.b).toList,gZ:=t.a} mD):=Dr.o.2.trans (then_ok (by rw[RG HB.o];exact then_ok h5));clear g5 k5 r5 h5 hsz vN hv;unfold Ref.ptr at *;go_wp2_with fail;go_meet
      case rel=>exact⟨rfl,_,_,G.o,EG.o⟩
     obtain⟨c,rfl⟩:=ht.form;exact⟨rfl,Fr.o.kp.trans k5,aj ⟨p,by rw[Dr.o.2];exact kE (by rw[RG HB.o];exact kE hp fun _ _ h=>nR _ h) (RH s),ht.low Fr.o.kp.size⟩⟩
    case rest=>
    obtain⟨rfl,hcx⟩:=hcut;obtain⟨xz,RQ,Cz,Yt⟩:=hcx.o;have Dz:Hid (jd b s eT eN w q xz st.eP RQ wc/\Px.call s st=Hg s xz RQ):=⟨Cz,Yt⟩;clear hcx Cz Yt;go_wp2_with fail;refine(Bw b s _ RQ eT eN _ Dz.o.1.rd hs).mono ?_;rintro e w8 ⟨k8,⟨u,wH,v,h8,rfl,rfl,r8⟩|⟨p,hp,ht⟩⟩;·have E8:Hid (Px.call s st=.ok (xz,wH)):=Dz.o.2.trans (then_ok h8);have C8:Hid (jd b s eT eN w q xz st.eP wH w8):=Dz.o.1.step hb k8 r8 (by rw[(NR h8).1];rfl);clear k8 r8 h8;go_wp2_with fail;go_ret;obtain⟨pa,ps,qn,g1,g2,g3,g4⟩:=C8.o.cell;have hm:∀i,mq w w8 q i->gD w w8 i:=fun i hi=>hi.1;refine⟨C8.o.kp,ak ⟨xz,wH,_,E8.o,rfl,⟨q,rfl,?_⟩,C8.o.rd⟩⟩;refine⟨iE,iE,[],[],⟨q,⟨C8.o.hq,C8.o.lt⟩,aj (ak ⟨C8.o.op,rfl,pa,ps,qn,g1,g2.mono hm,g3.mono hm,g4.mono hm⟩)⟩,ak ⟨rfl,rfl⟩,by rw[C8.o.one];exact gX.oV.2 rfl,ak ⟨rfl,rfl⟩,by rw[C8.o.two];exact gX.oV.2 rfl⟩
    obtain⟨c,rfl⟩:=ht.form;exact⟨rfl,Dz.o.1.kp.trans k8,aj ⟨p,by rw[Dz.o.2];exact kE hp fun _ _ h=>nR _ h,ht.low Dz.o.1.kp.size⟩⟩
   obtain⟨c,rfl⟩:=ht.form;exact⟨rfl,C1.o.kp.trans k3,aj ⟨_,by rw[E2.o,wo,vD,aA ho];exact NT s _ _ h63,ht.low C1.o.kp.size⟩⟩
  obtain⟨c,rfl⟩:=ht.form;exact⟨rfl,C0.o.kp.trans k2,aj ⟨p,by rw[E1.o];exact kE hp fun _ st2 h'=>RN s _ st2 h',ht.low C0.o.kp.size⟩⟩
 obtain⟨c,rfl⟩:=ht.form;exact⟨rfl,k1,aj ⟨p,by rw[E0.o];exact kE hp fun t st1 h=>kE (Aw s _ st1 h) fun _ st2 h'=>RN s _ st2 h',ht⟩⟩
variable{g:eO->Except Nat (Sm×eO)}
theorem BH:Late (Px.block s g):=by intro st h;unfold Px.block;rw[ah (by simp[sS h])];rfl
def NV(e:fG)(l m:List Sm):Sm:={jY with op:=105,ex:=some e,one:=l,two:=m}
def EZ(s:dX)(g:eO->Except Nat (Sm×eO))(e:fG)(l:List Sm)(st:eO):Except Nat (Sm×eO):=if gN s st.t ⟨#[101,108,115,101]⟩then andThen (Px.block s g (eZ s st)) fun m jg=>.ok (NV e l m,jg)else .ok (NV e l [],st)
theorem Jl(s:dX)(g:eO->Except Nat (Sm×eO))(st:eO):rD s g st=andThen (lG s st) fun e st1=>andThen (Px.block s g st1) fun l st2=>EZ s g e l st2:=by
 unfold rD;cases lG s st with| error p=>rfl| ok r=>
 obtain⟨e,st1⟩:=r;simp only[andThen];cases Px.block s g st1 with| error p=>rfl| ok r=>
 obtain⟨l,st2⟩:=r;simp only[EZ];split;·simp only[andThen];cases Px.block s g (eZ s st2)with| error p=>rfl| ok r=>obtain⟨m,jg⟩:=r;rfl
 rfl
theorem RS(s:dX)(g:eO->Except Nat (Sm×eO))(e:fG):∀(l:List Sm)(st:eO),st.t.k=63->fin (EZ s g e l st)=.error st.t.a:=by intro l st h;unfold EZ;rw[ah (by simp[sS h])];exact nR _ h
def RU(l m:List Sm):Sm:={jY with op:=116,one:=l,two:=m}
theorem Nh(s:dX)(g:eO->Except Nat (Sm×eO))(st:eO):mG s g st=andThen (Px.block s g st) fun l st1=>andThen (lS s ⟨#[101,108,115,101]⟩ st1) fun _ st2=>andThen (Px.block s g st2) fun m jg=>.ok (RU l m,jg):=by
 unfold mG;cases Px.block s g st with| error p=>rfl| ok r=>
 obtain⟨l,st1⟩:=r;simp only[andThen];rw[Hf];cases lS s ⟨#[101,108,115,101]⟩ st1 with| error p=>rfl| ok r=>
 obtain⟨u,st2⟩:=r;simp only;cases Px.block s g st2 with| error p=>rfl| ok r=>obtain⟨m,jg⟩:=r;rfl
def J4(s:dX)(t:iy)(l:List Sm):Sm:={jY with op:=114,n:=iq (s.extract t.a t.b).toList,gZ:=t.a,one:=l}
theorem Ni(s:dX)(g:eO->Except Nat (Sm×eO))(st:eO):sG s g st=andThen (nG s 110 st) fun t st1=>andThen (Px.block s g st1) fun l st2=>.ok (J4 s t l,st2):=by
 unfold sG;rw[G9];cases h1:nG s 110 st with| error p=>rfl| ok r=>
 obtain⟨t,st1⟩:=r;obtain⟨rfl,_,_⟩:=vC h1;simp only[andThen];cases Px.block s g st1 with| error p=>rfl| ok r=>obtain⟨l,st2⟩:=r;rfl
def zC(b:Nat)(s:dX)(n:Nat)(eT eN:Addr)(g:eO->Except Nat (Sm×eO)):Prop :=∀(st:eO)(w:dY),iN s (n+1) st->Rd w b s st eT eN->fI 196 #[fq b] w (Out b s eT eN w (Px.block s g st) (BV w))
theorem BV.later{l:List Sm}(hb:b<w0.heap.size)(hz:w0.heap.size<=w.heap.size)(h:BV w w1 l v)(k:Kp b w1 w2):∃vs,lJ w2 v vs (gD w0 w2)/\gX w2 l (gD w0 w2) vs:=by obtain⟨vs,h1,h2⟩:=h;have hk:∀i,gD w w1 i->w2.heap[i]?=w1.heap[i]?:=fun i hi=>k.block i hi.2 (by have:=hi.1;omega);have hm:∀i,gD w w1 i->gD w0 w2 i:=fun i hi=>⟨by have:=hi.1;omega,aJ hi.2 k.size⟩;exact⟨vs,(h1.keep hk).mono hm,(h2.keep hk).mono hm⟩
theorem zrd(b:Nat)(s:dX)(n:Nat)(eT eN:Addr)(g:eO->Except Nat (Sm×eO))(hB:zC b s n eT eN g)(hg:fP s g)(hs:s.size<=maxLen)(st:eO)(w:dY)(hD:iN s (n+1) st)(r:Rd w b s st eT eN):fI 194 #[fq b] w (Out b s eT eN w (mG s g st) (BG w 294)):=by
 have hb:=r.lt;have R:Hid (Rd w b s st eT eN/\iN s (n+1) st/\zC b s n eT eN g/\fP s (Px.block s g)):=⟨r,hD,hB,qW hg⟩;have E0:Hid (_=_):=Nh s g st;go_enter func194,ntmps194;go_wp2_with fail;refine(R.o.2.2.1 st _ R.o.2.1 R.o.1).mono ?_;rintro e w1 ⟨k1,⟨l,st1,v,h1,rfl,hv1,r1⟩|⟨p,hp,ht⟩⟩
 ·have E1:Hid (_=_):=E0.o.trans (then_ok h1);have g1:=R.o.2.2.2 _ _ _ R.o.1.tk h1;have BI:∃a n c,v=.slice a n c:=by obtain⟨vs,q1,q2⟩:=hv1;exact q1.form
  obtain⟨a1,n1,c1,rfl⟩:=BI;have H1:Hid (Kp b w w1/\BV w w1 l (.slice a1 n1 c1)/\Rd w1 b s st1 eT eN/\iV s st st1):=⟨k1,hv1,r1,g1⟩;go_wp2_with fail;refine(Bw b s _ st1 eT eN _ H1.o.2.2.1 hs).mono ?_;rintro e w2 ⟨k2,⟨u,st2,v,h2,rfl,rfl,r2⟩|⟨p,hp,ht⟩⟩
  ·have E2:Hid (_=_):=E1.o.trans (then_ok h2);have g2:=H1.o.2.2.2.trans (Yh H1.o.2.2.1.tk h2);have H2:Hid (Kp b w1 w2/\Rd w2 b s st2 eT eN/\iN s (n+1) st2):=⟨k2,r2,R.o.2.1.good g2⟩;go_wp2_with fail;refine(R.o.2.2.1 st2 _ H2.o.2.2 H2.o.2.1).mono ?_;rintro e w3 ⟨k3,⟨m,jg,v,h3,rfl,hv3,r3⟩|⟨p,hp,ht⟩⟩
   ·have E3:Hid (_=_):=E2.o.trans (then_ok h3);have BI:∃a n c,v=.slice a n c:=by obtain⟨vs,q1,q2⟩:=hv3;exact q1.form
    obtain⟨a3,n3,c3,rfl⟩:=BI;have H3:Hid (Kp b w2 w3/\BV w2 w3 m (.slice a3 n3 c3)/\Rd w3 b s jg eT eN):=⟨k3,hv3,r3⟩;go_wp2_with fail;go_ret;have z1:=H1.o.1.size;have z2:=H2.o.1.size;have z3:=H3.o.1.size;have k13:=(H2.o.1.trans H3.o.1);obtain⟨u1,f1,f2⟩:=BV.later hb (ay _) H1.o.2.1 (k13.alloc (.cells #[.slice a1 n1 c1,.slice a3 n3 c3] 345));obtain⟨u3,f3,f4⟩:=BV.later hb (by omega) H3.o.2.1 ((Kp.refl b w3).alloc (.cells #[.slice a1 n1 c1,.slice a3 n3 c3] 345));refine⟨(H1.o.1.trans k13).alloc _,ak ⟨_,_,_,E3.o,rfl,⟨w3.heap.size,rfl,?_⟩,H3.o.2.2.alloc _⟩⟩;exact⟨.slice a1 n1 c1,.slice a3 n3 c3,u1,u3,⟨w3.heap.size,⟨by omega,by simp⟩,aj (aj (aj (ak ⟨rfl,rfl,jX⟩)))⟩,f1,f2,f3,f4⟩
   obtain⟨c,rfl⟩:=ht.form;have zB:=H1.o.1.trans H2.o.1;exact⟨rfl,zB.trans k3,aj ⟨p,by rw[E2.o];exact kE hp fun _ _ h=>nR _ h,ht.low zB.size⟩⟩
  obtain⟨c,rfl⟩:=ht.form;exact⟨rfl,H1.o.1.trans k2,aj ⟨p,by rw[E1.o];exact kE hp fun _ st2 h=>kE (BH st2 h) fun _ _ h'=>nR _ h',ht.low H1.o.1.size⟩⟩
 obtain⟨c,rfl⟩:=ht.form;exact⟨rfl,k1,aj ⟨p,by rw[E0.o];exact kE hp fun _ st1 h=>kE (Aw s _ st1 h) fun _ st2 h'=>kE (BH st2 h') fun _ _ h''=>nR _ h'',ht⟩⟩
theorem zdq(b:Nat)(s:dX)(n:Nat)(eT eN:Addr)(g:eO->Except Nat (Sm×eO))(hB:zC b s n eT eN g)(hg:fP s g)(hs:s.size<=maxLen)(st:eO)(w:dY)(hD:iN s (n+1) st)(r:Rd w b s st eT eN):fI 193 #[fq b] w (Out b s eT eN w (rD s g st) (BG w 292)):=by
 have hb:=r.lt;have R:Hid (Rd w b s st eT eN/\iN s (n+1) st/\zC b s n eT eN g/\fP s (Px.block s g)):=⟨r,hD,hB,qW hg⟩;have hn0:=hD.n0;have hn1:st.eP+(s.size+1:Nat)<=1000000:=by have:=hD.n1;omega
 have E0:Hid (_=_):=Jl s g st;go_enter func193,ntmps193;go_wp2_with fail;refine(Yf b s eT eN hs st _ R.o.1 hn0 hn1).mono ?_;rintro e w1 ⟨k1,⟨x,st1,v,h1,rfl,⟨qr,rfl,hv1⟩,r1⟩|⟨p,hp,ht⟩⟩
 ·have E1:Hid (_=_):=E0.o.trans (then_ok h1);have g1:=uJ s _ _ _ R.o.1.tk h1;have H1:Hid (Kp b w w1/\kR w1 x (gD w w1) qr/\Rd w1 b s st1 eT eN/\iN s (n+1) st1):=⟨k1,hv1,r1,R.o.2.1.good g1⟩;unfold Ref.ptr;go_wp2_with fail;refine(R.o.2.2.1 st1 _ H1.o.2.2.2 H1.o.2.2.1).mono ?_;rintro e w2 ⟨k2,⟨l,st2,v,h2,rfl,hv2,r2⟩|⟨p,hp,ht⟩⟩
  ·have E2:Hid (_=_):=E1.o.trans (then_ok h2);have g2:=R.o.2.2.2 _ _ _ H1.o.2.2.1.tk h2;have BI:∃a n c,v=.slice a n c:=by obtain⟨vs,q1,q2⟩:=hv2;exact q1.form
   obtain⟨a2,n2,c2,rfl⟩:=BI;have H2:Hid (Kp b w1 w2/\BV w1 w2 l (.slice a2 n2 c2)/\Rd w2 b s st2 eT eN/\iN s (n+1) st2):=⟨k2,hv2,r2,H1.o.2.2.2.good g2⟩;have z2:=k2.size;go_wp2_with fail;refine(J3 b s _ st2 eT eN _ (H2.o.2.2.1.alloc _) hs).mono ?_;rintro e w3 ⟨k3,⟨rfl,r3⟩|⟨ho,h63,ht⟩⟩
   ·have z1:=H1.o.1.size;have hg3:=yY k3 (by omega);obtain⟨d0,d1,d2,df⟩:=cells3 hg3;have z3:=k3.wZ.size;have H3:Hid (Kp b w2 w3/\Rd w3 b s (yI s ⟨#[101,108,115,101]⟩ st2) eT eN/\w3.heap[w2.heap.size]?=_):=⟨k3.wZ,r3,hg3⟩;have hq3:w2.heap.size<w3.heap.size:=lt_of_cell d0;cases ho:gN s st2.t ⟨#[101,108,115,101]⟩
    ·rw[Hr ho]at H3;have E3:Hid (rD s g st=.ok (NV x l [],st2)):=by unfold Hid;rw[E2.o,EZ,ah (by simp[ho])]
     go_wp2_with fail;go_ret;have k13:=H2.o.1.trans H3.o.1;obtain⟨u1,f1,f2⟩:=BV.later hb z1 H2.o.2.1 H3.o.1;refine⟨H1.o.1.trans k13,ak ⟨_,_,_,E3.o,rfl,⟨w2.heap.size,rfl,?_⟩,H3.o.2.1⟩⟩;refine⟨.slice a2 n2 c2,iE,u1,[],⟨w2.heap.size,⟨by omega,hq3⟩,aj (aj (ak ⟨rfl,rfl,qr,x,H3.o.2.2,rfl,?_⟩))⟩,f1,f2,ak ⟨rfl,rfl⟩,gX.oV.2 rfl⟩;exact(H1.o.2.1.keep fun i hi=>k13.block i hi.2 (by have:=hi.1;omega)).mono fun i hi=>⟨hi.1,by have:=hi.2;omega⟩
    have g3:=jh H2.o.2.2.1.tk ho;rw[Hq ho]at H3;have E3:Hid (rD s g st=andThen (Px.block s g (eZ s st2)) fun m jg=>.ok (NV x l m,jg)):=by unfold Hid;rw[E2.o,EZ,aA ho]
    have D3:Hid (iN s (n+1) (eZ s st2)):=H2.o.2.2.2.good g3;go_wp2_with fail;refine(R.o.2.2.1 (eZ s st2) _ D3.o H3.o.2.1).mono ?_;rintro e w4 ⟨k4,⟨m,lH,v,h4,rfl,hv4,r4⟩|⟨p,hp,ht⟩⟩
    ·have E4:Hid (_=_):=E3.o.trans (then_ok h4);have BI:∃a n c,v=.slice a n c:=by obtain⟨vs,q1,q2⟩:=hv4;exact q1.form
     obtain⟨a4,n4,c4,rfl⟩:=BI;have hg4:w4.heap[w2.heap.size]?=_:=(k4.block _ hq3 (by omega)).trans H3.o.2.2;obtain⟨e0,e1,e2,ef⟩:=cells3 hg4;have H4:Hid (Kp b w3 w4/\BV w3 w4 m (.slice a4 n4 c4)/\Rd w4 b s lH eT eN/\w4.heap[w2.heap.size]?=_):=⟨k4,hv4,r4,hg4⟩;have z4:=k4.size;go_wp2_with fail;go_ret;have hne:∀i,gD w3 w4 i->i≠w2.heap.size:=fun i hi=>by have:=hi.1;omega
     have kS:∀i,i≠w2.heap.size->(w4.setCell ⟨w2.heap.size,2,none⟩ (.slice a4 n4 c4)).heap[i]?=w4.heap[i]?:=fun i hi=>lg _ hi;have k24:=H3.o.1.trans H4.o.1;have k14:=H2.o.1.trans k24;have zS:(w4.setCell ⟨w2.heap.size,2,none⟩ (.slice a4 n4 c4)).heap.size=w4.heap.size:=gP _ _ _;refine⟨(H1.o.1.trans k14).iD (by omega) _,ak ⟨_,_,_,E4.o,rfl,⟨w2.heap.size,rfl,?_⟩,H4.o.2.2.1.zA H4.o.2.2.2 (by decide) (by omega) _⟩⟩;obtain⟨u1,f1,f2⟩:=BV.later (w0:=w1) (by omega) (ay _) H2.o.2.1 (Kp.refl b w2);obtain⟨u3,f3,f4⟩:=H4.o.2.1;have hk1:∀i,gD w1 w2 i->(w4.setCell ⟨w2.heap.size,2,none⟩ (.slice a4 n4 c4)).heap[i]?=w2.heap[i]?:=fun i hi=>(kS i (by have:=hi.2;omega)).trans (k24.block i hi.2 (by have:=hi.1;omega));have hm1:∀i,gD w1 w2 i->gD w (w4.setCell ⟨w2.heap.size,2,none⟩ (.slice a4 n4 c4)) i:=fun i hi=>⟨by have:=hi.1;omega,by rw[zS];have:=hi.2;omega⟩;have hk3:∀i,gD w3 w4 i->(w4.setCell ⟨w2.heap.size,2,none⟩ (.slice a4 n4 c4)).heap[i]?=w4.heap[i]?:=fun i hi=>kS i (hne i hi);have E9:∀i,gD w3 w4 i->gD w (w4.setCell ⟨w2.heap.size,2,none⟩ (.slice a4 n4 c4)) i:=fun i hi=>⟨by have:=hi.1;omega,by rw[zS];exact hi.2⟩;refine⟨.slice a2 n2 c2,.slice a4 n4 c4,u1,u3,⟨w2.heap.size,⟨by omega,by rw[zS];omega⟩,aj (aj (ak ⟨rfl,rfl,qr,x,?_,rfl,?_⟩))⟩,(f1.keep hk1).mono hm1,(f2.keep hk1).mono hm1,(f3.keep hk3).mono E9,(f4.keep hk3).mono E9⟩;·rw[Ref.heap_set _ H4.o.2.2.2];simp[Ref.ptr]
     exact(H1.o.2.1.keep fun i hi=>(kS i (by have:=hi.2;omega)).trans (k14.block i hi.2 (by have:=hi.1;omega))).mono fun i hi=>⟨hi.1,by rw[zS];have:=hi.2;omega⟩
    obtain⟨c,rfl⟩:=ht.form;have J2:=(H1.o.1.trans H2.o.1).trans H3.o.1;exact⟨rfl,J2.trans k4,aj ⟨p,by rw[E3.o];exact kE hp fun _ _ h=>nR _ h,ht.low J2.size⟩⟩
   obtain⟨c,rfl⟩:=ht.form;have zB:=H1.o.1.trans H2.o.1;exact⟨rfl,zB.trans k3.wZ,aj ⟨_,by rw[E2.o,EZ,aA ho];exact kE (BH _ h63) fun _ _ h=>nR _ h,ht.low (by have:=zB.size;simp;omega)⟩⟩
  obtain⟨c,rfl⟩:=ht.form;exact⟨rfl,H1.o.1.trans k2,aj ⟨p,by rw[E1.o];exact kE hp (RS s g x),ht.low H1.o.1.size⟩⟩
 obtain⟨c,rfl⟩:=ht.form;exact⟨rfl,k1,aj ⟨p,by rw[E0.o];exact kE hp fun e st1 h=>kE (BH st1 h) (RS s g e),ht⟩⟩
def J5(r:Except Nat (Sm×eO)):Except Nat (Option Sm×eO):=
 match r with
 |.ok (x,st')=>.ok (some x,st')
 |.error p=>.error p
variable{r:Except Nat (Sm×eO)}
theorem wu(hs:starts s st=true)(h:fJ s n st=r):qM s (fJ s n) st=J5 r:=by unfold qM;rw[aA hs,h];rfl
theorem xQ(hs:starts s st=true)(h:fJ s n st=r)(hp:fin r=.error p):fin (qM s (fJ s n) st)=.error p:=by
 rw[wu hs h];obtain rfl|⟨x,st',rfl,h1,rfl⟩:=yG hp;·rfl
 exact nR _ h1
theorem zhm(s:dX):Late (mF s):=by intro st h;rw[Ng];exact kE (G7 s (by decide) st h) (Yk s)
theorem zji(s:dX):Late (Px.call s):=by intro st h;rw[Nb];exact kE (G7 s (by decide) st h) fun t st1 h1=>kE (Aw s _ st1 h1) fun _ st2 h'=>RN s _ st2 h'
theorem zn9:Late (rD s g):=by intro st h;rw[Jl];exact kE (Rv s st h) fun e st1 h1=>kE (BH st1 h1) (RS s g e)
theorem zer:Late (mG s g):=by intro st h;rw[Nh];exact kE (BH st h) fun _ st1 h=>kE (Aw s _ st1 h) fun _ st2 h'=>kE (BH st2 h') fun _ _ h''=>nR _ h''
theorem zfr:Late (sG s g):=by intro st h;rw[Ni];exact kE (G7 s (by decide) st h) fun _ st1 h=>kE (BH st1 h) fun _ _ h'=>nR _ h'
theorem Ht(hD:iN s (n+1) st)(ho:gN s st.t x=true):iN s (n+1) (eZ s st):=hD.good (jh hD.tk ho)
theorem oZ.low{x:Sm}(h:oZ w' x (gD w w') v)(hz:w0.heap.size<=w.heap.size):oZ w' x (gD w0 w') v:=h.mono fun i hi=>⟨by have:=hi.1;omega,hi.2⟩
theorem Jm(b:Nat)(s:dX)(n:Nat)(eT eN:Addr)(hs:s.size<=maxLen)(st:eO)(w:dY)(hD:iN s (n+1) st)(r:Rd w b s st eT eN)(h1:gN s st.t ⟨#[108,101,116]⟩=true):fI 154 #[fq b] w (Out b s eT eN w (qM s (fJ s (n+1)) st) (Dj w)):=by
 have hS:Hid (starts s st=true/\fJ s (n+1) st=mF s (eZ s st)):=⟨by unfold starts;rw[h1];simp,by rw[fJ,aA h1]⟩;have R:Hid (Rd w b s st eT eN/\True):=⟨r,trivial⟩;have hn0:=hD.n0;have hn1:st.eP+(s.size+1:Nat)<=1000000:=by have:=hD.n1;omega
 have D1:Hid (iN s (n+1) (eZ s st)):=Ht hD h1;go_enter func154,ntmps154;go_wp2_with fail;refine(yD b s _ st eT eN _ R.o.1 hs h1).mono ?_;rintro e w1 ⟨k1,⟨u,st1,v,he,rfl,rfl,r1⟩|⟨p,hp,ht⟩⟩
 ·cases he;have H1:Hid (Kp b w w1/\Rd w1 b s (eZ s st) eT eN):=⟨k1,r1⟩;have z1:=k1.size;go_wp2_with fail;refine(zti b s eT eN hs _ _ H1.o.2 (show 0<=(eZ s st).eP from hn0) hn1).mono ?_;rintro e w2 ⟨k2,⟨x,st2,v,h2,rfl,⟨q,rfl,hv⟩,r2⟩|⟨p,hp,ht⟩⟩
  ·have E:Hid (qM s (fJ s (n+1)) st=.ok (some x,st2)):=by unfold Hid;rw[wu hS.o.1 hS.o.2,h2];rfl
   have H2:Hid (Kp b w1 w2/\oZ w2 x (gD w1 w2) (.iface 280 (Ref.ptr q))/\Rd w2 b s st2 eT eN):=⟨k2,hv,r2⟩;unfold Ref.ptr at H2 |-;go_wp2_with fail;go_ret2;exact⟨H1.o.1.trans H2.o.1,ak ⟨_,_,_,E.o,rfl,⟨_,rfl,H2.o.2.1.low z1⟩,H2.o.2.2⟩⟩
  obtain⟨c,rfl⟩:=ht.form;exact⟨rfl,H1.o.1.trans k2,aj ⟨p,xQ hS.o.1 hS.o.2 hp,ht.low H1.o.1.size⟩⟩
 obtain⟨c,rfl⟩:=ht.form;obtain⟨h63,rfl⟩:=tZ hp;exact⟨rfl,k1,aj ⟨_,xQ hS.o.1 hS.o.2 (zhm s _ h63),ht⟩⟩
theorem Jo(b:Nat)(s:dX)(n:Nat)(eT eN:Addr)(hs:s.size<=maxLen)(st:eO)(w:dY)(hD:iN s (n+1) st)(r:Rd w b s st eT eN)(h1:gN s st.t ⟨#[108,101,116]⟩=false)(h2:gN s st.t ⟨#[99,97,108,108]⟩=true):fI 154 #[fq b] w (Out b s eT eN w (qM s (fJ s (n+1)) st) (Dj w)):=by
 have hS:Hid (starts s st=true/\fJ s (n+1) st=Px.call s (eZ s st)):=⟨by unfold starts;rw[h2];simp,by rw[fJ,ah (by simp[h1]),aA h2]⟩;have R:Hid (Rd w b s st eT eN/\True):=⟨r,trivial⟩;have hn0:=hD.n0;have hn1:st.eP+(s.size+1:Nat)<=1000000:=by have:=hD.n1;omega
 have D1:Hid (iN s (n+1) (eZ s st)):=Ht hD h2;go_enter func154,ntmps154;go_wp2_with fail;refine(pE b s _ st eT eN _ R.o.1 h1).mono ?_;rintro e w1 ⟨rfl,rfl⟩;go_wp2_with fail;refine(yD b s _ st eT eN _ R.o.1 hs h2).mono ?_;rintro e w1 ⟨k1,⟨u,st1,v,he,rfl,rfl,r1⟩|⟨p,hp,ht⟩⟩
 ·cases he;have H1:Hid (Kp b w w1/\Rd w1 b s (eZ s st) eT eN):=⟨k1,r1⟩;have z1:=k1.size;go_wp2_with fail;refine(RP b s eT eN hs _ _ H1.o.2 (show 0<=(eZ s st).eP from hn0) hn1).mono ?_;rintro e w2 ⟨k2,⟨x,st2,v,h2,rfl,⟨q,rfl,hv⟩,r2⟩|⟨p,hp,ht⟩⟩
  ·have E:Hid (qM s (fJ s (n+1)) st=.ok (some x,st2)):=by unfold Hid;rw[wu hS.o.1 hS.o.2,h2];rfl
   have H2:Hid (Kp b w1 w2/\oZ w2 x (gD w1 w2) (.iface 290 (Ref.ptr q))/\Rd w2 b s st2 eT eN):=⟨k2,hv,r2⟩;unfold Ref.ptr at H2 |-;go_wp2_with fail;go_ret2;exact⟨H1.o.1.trans H2.o.1,ak ⟨_,_,_,E.o,rfl,⟨_,rfl,H2.o.2.1.low z1⟩,H2.o.2.2⟩⟩
  obtain⟨c,rfl⟩:=ht.form;exact⟨rfl,H1.o.1.trans k2,aj ⟨p,xQ hS.o.1 hS.o.2 hp,ht.low H1.o.1.size⟩⟩
 obtain⟨c,rfl⟩:=ht.form;obtain⟨h63,rfl⟩:=tZ hp;exact⟨rfl,k1,aj ⟨_,xQ hS.o.1 hS.o.2 (zji s _ h63),ht⟩⟩
theorem Jq(b:Nat)(s:dX)(n:Nat)(eT eN:Addr)(hB:zC b s n eT eN (fJ s n))(hs:s.size<=maxLen)(st:eO)(w:dY)(hD:iN s (n+1) st)(r:Rd w b s st eT eN)(h1:gN s st.t ⟨#[108,101,116]⟩=false)(h2:gN s st.t ⟨#[99,97,108,108]⟩=false)(h3:gN s st.t ⟨#[105,102]⟩=true):fI 154 #[fq b] w (Out b s eT eN w (qM s (fJ s (n+1)) st) (Dj w)):=by
 have hS:Hid (starts s st=true/\fJ s (n+1) st=rD s (fJ s n) (eZ s st)):=⟨by unfold starts;rw[h3];simp,by rw[fJ,ah (by simp[h1]),ah (by simp[h2]),aA h3]⟩;have R:Hid (Rd w b s st eT eN/\zC b s n eT eN (fJ s n)):=⟨r,hB⟩;have hn0:=hD.n0;have hn1:st.eP+(s.size+1:Nat)<=1000000:=by have:=hD.n1;omega
 have D1:Hid (iN s (n+1) (eZ s st)):=Ht hD h3;go_enter func154,ntmps154;go_wp2_with fail;refine(pE b s _ st eT eN _ R.o.1 h1).mono ?_;rintro e w1 ⟨rfl,rfl⟩;go_wp2_with fail;refine(pE b s _ st eT eN _ R.o.1 h2).mono ?_;rintro e w1 ⟨rfl,rfl⟩;go_wp2_with fail;refine(yD b s _ st eT eN _ R.o.1 hs h3).mono ?_;rintro e w1 ⟨k1,⟨u,st1,v,he,rfl,rfl,r1⟩|⟨p,hp,ht⟩⟩
 ·cases he;have H1:Hid (Kp b w w1/\Rd w1 b s (eZ s st) eT eN):=⟨k1,r1⟩;have z1:=k1.size;go_wp2_with fail;refine(zdq b s n eT eN _ R.o.2 (lQ s n) hs _ _ D1.o H1.o.2).mono ?_;rintro e w2 ⟨k2,⟨x,st2,v,h2,rfl,⟨q,rfl,hv⟩,r2⟩|⟨p,hp,ht⟩⟩
  ·have E:Hid (qM s (fJ s (n+1)) st=.ok (some x,st2)):=by unfold Hid;rw[wu hS.o.1 hS.o.2,h2];rfl
   have H2:Hid (Kp b w1 w2/\oZ w2 x (gD w1 w2) (.iface 292 (Ref.ptr q))/\Rd w2 b s st2 eT eN):=⟨k2,hv,r2⟩;unfold Ref.ptr at H2 |-;go_wp2_with fail;go_ret2;exact⟨H1.o.1.trans H2.o.1,ak ⟨_,_,_,E.o,rfl,⟨_,rfl,H2.o.2.1.low z1⟩,H2.o.2.2⟩⟩
  obtain⟨c,rfl⟩:=ht.form;exact⟨rfl,H1.o.1.trans k2,aj ⟨p,xQ hS.o.1 hS.o.2 hp,ht.low H1.o.1.size⟩⟩
 obtain⟨c,rfl⟩:=ht.form;obtain⟨h63,rfl⟩:=tZ hp;exact⟨rfl,k1,aj ⟨_,xQ hS.o.1 hS.o.2 (zn9 _ h63),ht⟩⟩
theorem Jr(b:Nat)(s:dX)(n:Nat)(eT eN:Addr)(hB:zC b s n eT eN (fJ s n))(hs:s.size<=maxLen)(st:eO)(w:dY)(hD:iN s (n+1) st)(r:Rd w b s st eT eN)(h1:gN s st.t ⟨#[108,101,116]⟩=false)(h2:gN s st.t ⟨#[99,97,108,108]⟩=false)(h3:gN s st.t ⟨#[105,102]⟩=false)(h4:gN s st.t ⟨#[116,114,121]⟩=true):fI 154 #[fq b] w (Out b s eT eN w (qM s (fJ s (n+1)) st) (Dj w)):=by
 have hS:Hid (starts s st=true/\fJ s (n+1) st=mG s (fJ s n) (eZ s st)):=⟨by unfold starts;rw[h4];simp,by rw[fJ,ah (by simp[h1]),ah (by simp[h2]),ah (by simp[h3]),aA h4]⟩;have R:Hid (Rd w b s st eT eN/\zC b s n eT eN (fJ s n)):=⟨r,hB⟩;have hn0:=hD.n0;have hn1:st.eP+(s.size+1:Nat)<=1000000:=by have:=hD.n1;omega
 have D1:Hid (iN s (n+1) (eZ s st)):=Ht hD h4;go_enter func154,ntmps154;go_wp2_with fail;refine(pE b s _ st eT eN _ R.o.1 h1).mono ?_;rintro e w1 ⟨rfl,rfl⟩;go_wp2_with fail;refine(pE b s _ st eT eN _ R.o.1 h2).mono ?_;rintro e w1 ⟨rfl,rfl⟩;go_wp2_with fail;refine(pE b s _ st eT eN _ R.o.1 h3).mono ?_;rintro e w1 ⟨rfl,rfl⟩;go_wp2_with fail;refine(yD b s _ st eT eN _ R.o.1 hs h4).mono ?_;rintro e w1 ⟨k1,⟨u,st1,v,he,rfl,rfl,r1⟩|⟨p,hp,ht⟩⟩
 ·cases he;have H1:Hid (Kp b w w1/\Rd w1 b s (eZ s st) eT eN):=⟨k1,r1⟩;have z1:=k1.size;go_wp2_with fail;refine(zrd b s n eT eN _ R.o.2 (lQ s n) hs _ _ D1.o H1.o.2).mono ?_;rintro e w2 ⟨k2,⟨x,st2,v,h2,rfl,⟨q,rfl,hv⟩,r2⟩|⟨p,hp,ht⟩⟩
  ·have E:Hid (qM s (fJ s (n+1)) st=.ok (some x,st2)):=by unfold Hid;rw[wu hS.o.1 hS.o.2,h2];rfl
   have H2:Hid (Kp b w1 w2/\oZ w2 x (gD w1 w2) (.iface 294 (Ref.ptr q))/\Rd w2 b s st2 eT eN):=⟨k2,hv,r2⟩;unfold Ref.ptr at H2 |-;go_wp2_with fail;go_ret2;exact⟨H1.o.1.trans H2.o.1,ak ⟨_,_,_,E.o,rfl,⟨_,rfl,H2.o.2.1.low z1⟩,H2.o.2.2⟩⟩
  obtain⟨c,rfl⟩:=ht.form;exact⟨rfl,H1.o.1.trans k2,aj ⟨p,xQ hS.o.1 hS.o.2 hp,ht.low H1.o.1.size⟩⟩
 obtain⟨c,rfl⟩:=ht.form;obtain⟨h63,rfl⟩:=tZ hp;exact⟨rfl,k1,aj ⟨_,xQ hS.o.1 hS.o.2 (zer _ h63),ht⟩⟩
theorem zlb(b:Nat)(s:dX)(n:Nat)(eT eN:Addr)(hB:zC b s n eT eN (fJ s n))(hs:s.size<=maxLen)(st:eO)(w:dY)(hD:iN s (n+1) st)(r:Rd w b s st eT eN)(h1:gN s st.t ⟨#[108,101,116]⟩=false)(h2:gN s st.t ⟨#[99,97,108,108]⟩=false)(h3:gN s st.t ⟨#[105,102]⟩=false)(h4:gN s st.t ⟨#[116,114,121]⟩=false)(h5:gN s st.t ⟨#[114,101,112,101,97,116]⟩=true):fI 154 #[fq b] w (Out b s eT eN w (qM s (fJ s (n+1)) st) (Dj w)):=by
 have hS:Hid (starts s st=true/\fJ s (n+1) st=sG s (fJ s n) (eZ s st)):=⟨by unfold starts;rw[h5];simp,by rw[fJ,ah (by simp[h1]),ah (by simp[h2]),ah (by simp[h3]),ah (by simp[h4]),aA h5]⟩;have R:Hid (Rd w b s st eT eN/\zC b s n eT eN (fJ s n)):=⟨r,hB⟩;have hn0:=hD.n0;have hn1:st.eP+(s.size+1:Nat)<=1000000:=by have:=hD.n1;omega
 have D1:Hid (iN s (n+1) (eZ s st)):=Ht hD h5;go_enter func154,ntmps154;go_wp2_with fail;refine(pE b s _ st eT eN _ R.o.1 h1).mono ?_;rintro e w1 ⟨rfl,rfl⟩;go_wp2_with fail;refine(pE b s _ st eT eN _ R.o.1 h2).mono ?_;rintro e w1 ⟨rfl,rfl⟩;go_wp2_with fail;refine(pE b s _ st eT eN _ R.o.1 h3).mono ?_;rintro e w1 ⟨rfl,rfl⟩;go_wp2_with fail;refine(pE b s _ st eT eN _ R.o.1 h4).mono ?_;rintro e w1 ⟨rfl,rfl⟩;go_wp2_with fail;refine(yD b s _ st eT eN _ R.o.1 hs h5).mono ?_;rintro e w1 ⟨k1,⟨u,st1,v,he,rfl,rfl,r1⟩|⟨p,hp,ht⟩⟩
 ·cases he;have H1:Hid (Kp b w w1/\Rd w1 b s (eZ s st) eT eN):=⟨k1,r1⟩;have z1:=k1.size;go_wp2_with fail;have E0:Hid (sG s (fJ s n) (eZ s st)=_):=Ni s (fJ s n) (eZ s st);refine(G5 b s (eZ s st) eT eN _ H1.o.2 hs).mono ?_;rintro e w2 ⟨k2,⟨t,st2,v,h2,rfl,⟨qn,rfl,hv⟩,r2⟩|⟨p,hp,ht⟩⟩
  ·have E2:Hid (_=_):=E0.o.trans (then_ok h2);have g2:=Yg H1.o.2.tk (by decide) (by decide) h2;have H2:Hid (Kp b w1 w2/\jW w2 (iq (s.extract t.a t.b).toList) t.a (gD w1 w2) qn/\Rd w2 b s st2 eT eN/\iN s (n+1) st2):=⟨k2,hv,r2,D1.o.good g2⟩;have z2:=k2.size;unfold Ref.ptr;go_wp2_with fail;refine(R.o.2 st2 _ H2.o.2.2.2 H2.o.2.2.1).mono ?_;rintro e w3 ⟨k3,⟨l,jg,v,h3,rfl,hv3,r3⟩|⟨p,hp,ht⟩⟩
   ·have E3:Hid (qM s (fJ s (n+1)) st=.ok (some (J4 s t l),jg)):=by unfold Hid;rw[wu hS.o.1 (hS.o.2.trans (E2.o.trans (then_ok h3)))];rfl
    have BI:∃a n c,v=.slice a n c:=by obtain⟨vs,q1,q2⟩:=hv3;exact q1.form
    obtain⟨a3,n3,c3,rfl⟩:=BI;have H3:Hid (Kp b w2 w3/\BV w2 w3 l (.slice a3 n3 c3)/\Rd w3 b s jg eT eN):=⟨k3,hv3,r3⟩;have z3:=k3.size;go_wp2_with fail;go_ret2;have hbw:=R.o.1.lt;obtain⟨u3,f3,f4⟩:=BV.later hbw (by omega) H3.o.2.1 ((Kp.refl b w3).alloc (.cells #[fq qn,.slice a3 n3 c3] 316));refine⟨((H1.o.1.trans H2.o.1).trans H3.o.1).alloc _,ak ⟨_,_,_,E3.o,rfl,⟨_,rfl,?_⟩,H3.o.2.2.alloc _⟩⟩;refine⟨.slice a3 n3 c3,iE,u3,[],⟨w3.heap.size,⟨by omega,by simp⟩,aj (aj (aj (aj (ak ⟨rfl,rfl,qn,jX,?_⟩))))⟩,f3,f4,ak ⟨rfl,rfl⟩,gX.oV.2 rfl⟩;exact(H2.o.2.1.keep fun i hi=>(H3.o.1.alloc _).block i hi.2 (by have:=hi.1;omega)).mono fun i hi=>⟨by have:=hi.1;omega,by have:=hi.2;simp;omega⟩
   obtain⟨c,rfl⟩:=ht.form;have zB:=H1.o.1.trans H2.o.1;exact⟨rfl,zB.trans k3,aj ⟨p,xQ hS.o.1 (hS.o.2.trans E2.o) (kE hp fun _ _ h=>nR _ h),ht.low zB.size⟩⟩
  obtain⟨c,rfl⟩:=ht.form;exact⟨rfl,H1.o.1.trans k2,aj ⟨p,xQ hS.o.1 (hS.o.2.trans E0.o) (kE hp fun _ st1 h=>kE (BH st1 h) fun _ _ h'=>nR _ h'),ht.low H1.o.1.size⟩⟩
 obtain⟨c,rfl⟩:=ht.form;obtain⟨h63,rfl⟩:=tZ hp;exact⟨rfl,k1,aj ⟨_,xQ hS.o.1 hS.o.2 (zfr _ h63),ht⟩⟩
theorem zxq(h:gN s st.t ⟨#[102,97,105,108]⟩=true):vR s st=andThen (lS s ⟨#[59]⟩ (eZ s st)) fun _ st2=>.ok ({jY with op:=102},st2):=by unfold vR;rw[show Px.need s ⟨#[102,97,105,108]⟩ st=.ok (eZ s st)from by unfold Px.need;rw[aA h]];simp only;rw[Hf];cases lS s ⟨#[59]⟩ (eZ s st)with| error p=>rfl| ok r=>obtain⟨u,st2⟩:=r;rfl
theorem Jp(b:Nat)(s:dX)(n:Nat)(eT eN:Addr)(hs:s.size<=maxLen)(st:eO)(w:dY)(hD:iN s (n+1) st)(r:Rd w b s st eT eN)(h1:gN s st.t ⟨#[108,101,116]⟩=false)(h2:gN s st.t ⟨#[99,97,108,108]⟩=false)(h3:gN s st.t ⟨#[105,102]⟩=false)(h4:gN s st.t ⟨#[116,114,121]⟩=false)(h5:gN s st.t ⟨#[114,101,112,101,97,116]⟩=false)(h6:gN s st.t ⟨#[102,97,105,108]⟩=true):fI 154 #[fq b] w (Out b s eT eN w (qM s (fJ s (n+1)) st) (Dj w)):=by
 have hS:Hid (starts s st=true/\fJ s (n+1) st=andThen (lS s ⟨#[59]⟩ (eZ s st)) fun _ st2=>.ok ({jY with op:=102},st2)):=⟨by unfold starts;rw[h6];simp,by rw[fJ,ah (by simp[h1]),ah (by simp[h2]),ah (by simp[h3]),ah (by simp[h4]),ah (by simp[h5]),zxq h6]⟩;have R:Hid (Rd w b s st eT eN/\True):=⟨r,trivial⟩;have hn0:=hD.n0;have hn1:st.eP+(s.size+1:Nat)<=1000000:=by have:=hD.n1;omega
 have D1:Hid (iN s (n+1) (eZ s st)):=Ht hD h6;go_enter func154,ntmps154;go_wp2_with fail;refine(pE b s _ st eT eN _ R.o.1 h1).mono ?_;rintro e w1 ⟨rfl,rfl⟩;go_wp2_with fail;refine(pE b s _ st eT eN _ R.o.1 h2).mono ?_;rintro e w1 ⟨rfl,rfl⟩;go_wp2_with fail;refine(pE b s _ st eT eN _ R.o.1 h3).mono ?_;rintro e w1 ⟨rfl,rfl⟩;go_wp2_with fail;refine(pE b s _ st eT eN _ R.o.1 h4).mono ?_;rintro e w1 ⟨rfl,rfl⟩;go_wp2_with fail;refine(pE b s _ st eT eN _ R.o.1 h5).mono ?_;rintro e w1 ⟨rfl,rfl⟩;go_wp2_with fail;refine(yD b s _ st eT eN _ R.o.1 hs h6).mono ?_;rintro e w1 ⟨k1,⟨u,st1,v,he,rfl,rfl,r1⟩|⟨p,hp,ht⟩⟩
 ·cases he;have H1:Hid (Kp b w w1/\Rd w1 b s (eZ s st) eT eN):=⟨k1,r1⟩;have z1:=k1.size;go_wp2_with fail;refine(Bw b s _ (eZ s st) eT eN _ H1.o.2 hs).mono ?_;rintro e w2 ⟨k2,⟨u,st2,v,h2,rfl,rfl,r2⟩|⟨p,hp,ht⟩⟩
  ·have E:Hid (qM s (fJ s (n+1)) st=.ok (some {jY with op:=102},st2)):=by unfold Hid;rw[wu hS.o.1 (hS.o.2.trans (then_ok h2))];rfl
   have H2:Hid (Kp b w1 w2/\Rd w2 b s st2 eT eN):=⟨k2,r2⟩;have z2:=k2.size;go_wp2_with fail;go_ret2;exact⟨(H1.o.1.trans H2.o.1).alloc _,ak ⟨_,_,_,E.o,rfl,⟨_,rfl,⟨iE,iE,[],[],⟨w2.heap.size,⟨by omega,by simp⟩,aj (aj (aj (aj (aj ⟨rfl,rfl⟩))))⟩,ak ⟨rfl,rfl⟩,gX.oV.2 rfl,ak ⟨rfl,rfl⟩,gX.oV.2 rfl⟩⟩,H2.o.2.alloc _⟩⟩
  obtain⟨c,rfl⟩:=ht.form;exact⟨rfl,H1.o.1.trans k2,aj ⟨p,xQ hS.o.1 hS.o.2 (kE hp fun _ _ h=>nR _ h),ht.low H1.o.1.size⟩⟩
 obtain⟨c,rfl⟩:=ht.form;obtain⟨h63,rfl⟩:=tZ hp;exact⟨rfl,k1,aj ⟨_,xQ hS.o.1 hS.o.2 (kE (Aw s _ _ h63) fun _ _ h=>nR _ h),ht⟩⟩
theorem zrt(b:Nat)(s:dX)(n:Nat)(eT eN:Addr)(st:eO)(w:dY)(r:Rd w b s st eT eN)(hS:starts s st=false):fI 154 #[fq b] w (Out b s eT eN w (qM s (fJ s (n+1)) st) (Dj w)):=by
 have E:Hid (qM s (fJ s (n+1)) st=.ok (none,st)):=by unfold Hid qM;rw[ah (by simp[hS])]
 unfold starts at hS;simp only[dK]at hS;obtain⟨⟨⟨⟨⟨h1,h2⟩,h3⟩,h4⟩,h5⟩,h6⟩:=hS;have R:Hid _:=r;go_enter func154,ntmps154;go_wp2_with fail;refine(pE b s _ st eT eN _ R.o h1).mono ?_;rintro e w1 ⟨rfl,rfl⟩;go_wp2_with fail;refine(pE b s _ st eT eN _ R.o h2).mono ?_;rintro e w1 ⟨rfl,rfl⟩;go_wp2_with fail;refine(pE b s _ st eT eN _ R.o h3).mono ?_;rintro e w1 ⟨rfl,rfl⟩;go_wp2_with fail;refine(pE b s _ st eT eN _ R.o h4).mono ?_;rintro e w1 ⟨rfl,rfl⟩;go_wp2_with fail;refine(pE b s _ st eT eN _ R.o h5).mono ?_;rintro e w1 ⟨rfl,rfl⟩;go_wp2_with fail;refine(pE b s _ st eT eN _ R.o h6).mono ?_;rintro e w1 ⟨rfl,rfl⟩;go_wp2_with fail;go_ret2;exact⟨Kp.refl _ _,ak ⟨_,_,_,E.o,rfl,rfl,R.o⟩⟩
theorem zld(b:Nat)(s:dX)(eT eN:Addr)(hs3:s.size<=300)(n:Nat):JZ b s n eT eN (fJ s n):=by
 have hs:s.size<=maxLen:=by unfold maxLen;omega
 induction n with| zero=>intro st w hD r;have:=hD.room;omega| succ n ih=>
 intro st w hD r;have hB:zC b s n eT eN (fJ s n):=fun st w hD r=>Rz b s n eT eN _ ih (lQ s n) (fun st h=>Ry h) hs3 st w hD r;cases h1:gN s st.t ⟨#[108,101,116]⟩
 ·cases h2:gN s st.t ⟨#[99,97,108,108]⟩
  ·cases h3:gN s st.t ⟨#[105,102]⟩
   ·cases h4:gN s st.t ⟨#[116,114,121]⟩
    ·cases h5:gN s st.t ⟨#[114,101,112,101,97,116]⟩
     ·cases h6:gN s st.t ⟨#[102,97,105,108]⟩;·exact zrt b s n eT eN st w r (by unfold starts;rw[h1,h2,h3,h4,h5,h6];rfl)
      exact Jp b s n eT eN hs st w hD r h1 h2 h3 h4 h5 h6
     exact zlb b s n eT eN hB hs st w hD r h1 h2 h3 h4 h5
    exact Jr b s n eT eN hB hs st w hD r h1 h2 h3 h4
   exact Jq b s n eT eN hB hs st w hD r h1 h2 h3
  exact Jo b s n eT eN hs st w hD r h1 h2
 exact Jm b s n eT eN hs st w hD r h1
variable{P:Program}{Q:Exit->Act->List Frame->dY->Prop}{c₀:Frame}{cs:List Frame}{pos:String}
theorem qxn{a:Act}{older:List PanicEntry}(hu:c₀.mode=.panicking ({v:=v,recovered:=false}::older))(h:Q .normal (a.put (some d) v) ({c₀ with mode:=.panicking ({v:=v,recovered:=true}::older)}::cs) w):wpOpsS P #[{dst:=some d,op:=Op.call {callee:=.builtin .recover,args:=#[],argTypes:=#[]},type:=ty,pos:=pos,after:=#[],guard:=none}] Q (List.range 1) a (c₀::cs) w:=by simp[wpOpsS,go_sem,recoverD,hu];exact h
theorem qvn{a:Act}(hu:c₀.mode=.returning)(h:Q .normal (a.put (some d) .nilIface) (c₀::cs) w):wpOpsS P #[{dst:=some d,op:=Op.call {callee:=.builtin .recover,args:=#[],argTypes:=#[]},type:=ty,pos:=pos,after:=#[],guard:=none}] Q (List.range 1) a (c₀::cs) w:=by simp[wpOpsS,go_sem,recoverD,hu];exact h
theorem RX(a0 a1 a2 f:Nat)(x0 x1:dZ)(older:List PanicEntry)(w:dY)(h0:w.cell? ⟨a0,0,none⟩=some x0)(z0:w.frozen? ⟨a0,0,none⟩=false)(h1:w.cell? ⟨a1,0,none⟩=some x1)(z1:w.frozen? ⟨a1,0,none⟩=false)(hne:¬a0=a1):CallsD prog 79 #[fq a0,fq a1,fq a2] (.panicking ({v:=.iface 114 (fq f),recovered:=false}::older)) w fun e u' w'=>
   e=fM (.tuple #[])/\u'=.panicking ({v:=.iface 114 (fq f),recovered:=true}::older)/\w'=(w.setCell ⟨a0,0,none⟩ (iE)).setCell ⟨a1,0,none⟩ (.iface 114 (fq f)):=by
 have hta:∀W:dY,(Instr.typeAssert (.iface 114 (fq f)) 20 114 true).run prog W=.ok (.tuple #[fq f,.bool true]) W:=fun _=>by kernel_rfl
 refine callsD_of_wpS func79 rfl fun c₀ cs hu=>?_;simp only[ntmps79,List.size_toArray,aG,aV,Nat.reduceAdd,Nat.reduceSub,Array.replicate_succ,Array.replicate_zero,List.push_toArray,List.append_toArray,dz,bJ];refine wpS_seq (wpS_region (qxn hu ?_));refine wpS_of_wp ?_;simp only[Act.put,List.setIfInBounds_toArray,List.set_cons_succ,List.set_cons_zero];go_wp2_with fail;exact⟨rfl,_,rfl,.tuple #[],results_none rfl _ _ _,rfl,rfl,rfl⟩
theorem Yu(a0 a1 a2:Nat)(w:dY):CallsD prog 79 #[fq a0,fq a1,fq a2] .returning w fun e u' w'=>e=fM (.tuple #[])/\u'=.returning/\w'=w:=by refine callsD_of_wpS func79 rfl fun c₀ cs hu=>?_;simp only[ntmps79,List.size_toArray,aG,aV,Nat.reduceAdd,Nat.reduceSub,Array.replicate_succ,Array.replicate_zero,List.push_toArray,List.append_toArray,dz,bJ];refine wpS_seq (wpS_region (qvn hu ?_));refine wpS_of_wp ?_;simp only[Act.put,List.setIfInBounds_toArray,List.set_cons_succ,List.set_cons_zero];go_wp2_with fail;exact⟨rfl,.returning,by cases c₀;simp_all,.tuple #[],results_none rfl _ _ _,rfl,rfl,rfl⟩
def qE(w:dY)(f p:Nat)(e:Addr):Prop:=w.heap[f]?=some (.cells #[eF (p:Int),.iface 393 (.pointer (some e))] 119)
def kk(k:Nat):Nat:=if k=105 then 1 else if k=98 then 2 else 0
def pairs(l:List (dX×Nat)):List (dZ×dZ):=l.map fun v=>(.string v.1,eF (kk v.2:Int))
def rO(w:dY)(m:Nat)(l:List (dX×Nat)):Prop:=∃es clock,w.heap[m]?=some (.map es clock)/\es.toList.map (fun e=>(e.key,e.val))=pairs l
theorem zcd(a b:dX):(a==b)=(b.toList==a.toList):=by
 rw[aP,aP];by_cases h:a=b;·rw[h];simp[MapKept.bytes_beq]
 have h1:¬b.data.toList=a.data.toList:=fun e=>h (WideShapes.bytes_inj e).symm;have h2:(a==b)=false:=by
  cases hb:(a==b);·rfl
  exact absurd ((MapKept.bytes_beq _ _).1 hb) h
 rw[h2];simpa using h1
theorem Yv(x:dX)(l:List (dX×Nat)):∀(es:List MapEntry)(i:Nat),es.map (fun e=>(e.key,e.val))=pairs l ->
  Instr.findNow .string (.string x) es i=some (match jG l x with
   |none=>none
   |some j=>some (i+j,eF (kk (pG l j):Int))):=by
 induction l with
 |nil=>
  intro es i h;cases es with
  |nil=>rfl
  |cons e es=>cases h
 |cons v l ih=>
  intro es i h;cases es with
  |nil=>cases h
  |cons e es=>
   obtain⟨v,k⟩:=v;simp only[pairs,dR,List.cons.injEq,Prod.mk.injEq]at h;obtain⟨⟨h1,h2⟩,h3⟩:=h;rw[Instr.findNow,h1,h2];simp only[Instr.sameNow];rw[zcd,jG];cases hb:(v.toList==x.toList)
   ·simp only[dJ,if_false];rw[ih es (i+1) h3];cases jG l x with
    |none=>rfl
    |some j=>simp[pG];omega
   ·simp[pG]
def Fb(l:List (dX×Nat))(x:dX):Nat:=
 match jG l x with
 |none=>0
 |some j=>kk (pG l j)
variable{l:List (dX×Nat)}
theorem zch(h:rO w m l)(hT:P.underlying T=some (.map kt et))(hk:P.underlying kt=some .string)(hz:(zeroValue et).run P w=.ok (eF 0) w)(x:dX):(Instr.lookup T (.map (some m)) (.string x) true).run P w=.ok (.tuple #[eF (Fb l x:Int),.bool (jG l x).isSome]) w:=by
 obtain⟨es,clock,hb,hp⟩:=h;have h1:=MapKept.run_findKey (w:=w) hk (Yv x l es.toList 0 hp);have h2:=fun e=>MapKept.run_checkKey (P:=P) (w:=w) (kt:=kt) (k:=.string x) hk (by simp[MapKept.IsKey]) e 9999;unfold Fb;cases hf:jG l x with| none=>rw[hf]at h1;simp[Instr.lookup,run_underlying hT,MapKept.run_getObj_map hb,h2,h1,hz,Result.andThen]| some j=>
 rw[hf]at h1;simp[Instr.lookup,run_underlying hT,MapKept.run_getObj_map hb,h2,h1,Result.andThen]
theorem zcg(h:rO w m l)(hT:P.underlying T=some (.map kt et))(hk:P.underlying kt=some .string)(x:dX)(hf:jG l x=none)(k:Nat):∃o,(Instr.mapUpdate T (.map (some m)) (.string x) (eF (kk k:Int))).run P w=.ok () {w with heap:=w.heap.setIfInBounds m o}/\rO {w with heap:=w.heap.setIfInBounds m o} m (l++[(x,k)]):=by
 obtain⟨es,clock,hb,hp⟩:=h;have h1:=MapKept.run_findKey (w:=w) hk (Yv x l es.toList 0 hp);have h2:=fun e=>MapKept.run_checkKey (P:=P) (w:=w) (kt:=kt) (k:=.string x) hk (by simp[MapKept.IsKey]) e 9999;rw[hf]at h1;refine⟨.map (es.push ⟨.string x,eF (kk k:Int),clock⟩) (clock+1),?_,_,_,(MapKept.heap_set hb).1,?_⟩;·simp[Instr.mapUpdate,run_underlying hT,MapKept.run_getObj_map hb,h2,h1,MapKept.run_setObj_map _ hb,Result.andThen]
 simp[pairs]at hp |-;rw[hp]
def NY(s:dX)(eT eN:Addr)(w:dY)(e:Ending)(w':dY):Prop:=
 gU w w'/\∃v er,e=fM (.tuple #[v,er]) /\
  match Px.read s with
  |.ok l=>er=.nilIface/\∃vs,lJ w' v vs (gD w w')/\gX w' l (gD w w') vs
  |.error (c,p)=>v=iE/\∃f,er=.iface 114 (Ref.ptr f)/\qE w' f p (if c=2 then eT else eN)
theorem Rd.RY{c:Array dZ}(r:Rd w b s st eT eN)(h:w.heap[k]?=some (.cells c t))(ht:t≠119)(hk:21<=k)(hbk:b≠k)(v:dZ):Rd (w.setCell ⟨k,o,none⟩ v) b s st eT eN:=by
 obtain⟨td,a,d⟩:=r.mem;refine⟨r.tk,r.yC,r.gl.iD hk,td,⟨by rw[bO _ _ _ _ hbk];exact a.h⟩,?_⟩;obtain d|⟨d1,f,d2,d3,d4⟩:=d;·exact ak d
 refine aj ⟨d1,f,d2,d3,?_⟩;rw[bO _ _ _ _ (by show f≠k;rintro rfl;rw[h]at d4;simp at d4;exact ht d4.2)];exact d4
theorem ztv(hk:k=0\/k=63\/k=107\/k=110\/k=119)(h63:k≠63):((kd k:Int) != 0)=!(k==0):=by
 obtain rfl|rfl|rfl|rfl|rfl:=hk;·rfl
 ·exact absurd rfl h63
 ·rfl
 ·rfl
 rfl
def Fe(s:dX):Except Nat (List Sm×eO):=gy s (fJ s (s.size+1)) (fun st=>st.t.k==0) (s.size+1) [] ⟨gY s 0,0,-1⟩
theorem J6(hs3:s.size<=300):Px.read s=match Fe s with
  |.error p=>.error (2,p)
  |.ok (l,st)=>if 0<=st.fu then .error (3,st.fu.toNat)else .ok l:=by
 rw[Px.read,ah (by omega)];unfold Fe;cases gy s (fJ s (s.size+1)) (fun st=>st.t.k==0) (s.size+1) [] ⟨gY s 0,0,-1⟩<;>rfl
theorem Yw(h:fin (Fe s)=.error p):Fe s=.error p:=by
 obtain h|⟨l,st,h1,h2,_⟩:=yG h;·exact h
 have h3:=(yt (lQ s _) _ _ _ _ _ _ (show Tk s (⟨gY s 0,0,-1⟩:eO).t from(wI s 0 (aQ _)).1) h1).2;simp[h2]at h3
def Ay(s:dX)(w:dY):dY:=((((w.alloc (.cells #[iE] 61)).alloc (.cells #[.nilIface] 63)).alloc (.cells #[.string s,eF 0,.string ⟨#[]⟩,eF 0,eF 0,.pointer none] 190)).alloc (.cells #[.pointer (some ⟨w.heap.size+1+1,0,none⟩)] 185))
theorem zf7(s:dX)(w:dY):(Ay s w).heap.size=w.heap.size+4/\(Ay s w).heap[w.heap.size]?=some (.cells #[iE] 61)/\(Ay s w).heap[w.heap.size+1]?=some (.cells #[.nilIface] 63) /\
  (Ay s w).heap[w.heap.size+2]?=some (.cells #[.string s,eF 0,.string ⟨#[]⟩,eF 0,eF 0,.pointer none] 190)/\(Ay s w).heap[w.heap.size+3]?=some (.cells #[.pointer (some ⟨w.heap.size+1+1,0,none⟩)] 185)/\gU w (Ay s w):=by
 have h:(Ay s w).heap=(((w.heap.push (.cells #[iE] 61)).push (.cells #[.nilIface] 63)).push (.cells #[.string s,eF 0,.string ⟨#[]⟩,eF 0,eF 0,.pointer none] 190)).push (.cells #[.pointer (some ⟨w.heap.size+1+1,0,none⟩)] 185):=rfl;refine⟨by rw[h];simp,?_,?_,?_,?_,((((aF _ _).alloc (ay _) _).alloc (by simp) _).alloc (by simp;omega) _).alloc (by simp;omega) _⟩;·rw[h,aD,ah (by simp<;>omega),aD,ah (by simp<;>omega),aD,ah (by simp<;>omega),aD,aA rfl]
 ·rw[h,aD,ah (by simp<;>omega),aD,ah (by simp<;>omega),aD,aA (by simp)]
 ·rw[h,aD,ah (by simp<;>omega),aD,aA (by simp)]
 ·rw[h,aD,aA (by simp)]
theorem J7{x y:dZ}{u:TypeId}(h1:w.heap[n]?=some (.cells #[x] t))(h2:w.heap[n+1]?=some (.cells #[y] u))(a b:dZ):((w.setCell ⟨n,0,none⟩ a).setCell ⟨n+1,0,none⟩ b).cell? ⟨n,0,none⟩=some a/\((w.setCell ⟨n,0,none⟩ a).setCell ⟨n+1,0,none⟩ b).cell? ⟨n+1,0,none⟩=some b:=by have e1:=Ref.heap_set (o:=0) a h1;have e1':((w.setCell ⟨n,0,none⟩ a).setCell ⟨n+1,0,none⟩ b).heap[n]?=_:=(lg _ (by omega)).trans e1;have e2:(w.setCell ⟨n,0,none⟩ a).heap[n+1]?=_:=(lg _ (by omega)).trans h2;have e3:=Ref.heap_set (o:=0) b e2;exact⟨by simp[World.cell?,e1'],by simp[World.cell?,e3]⟩
theorem RZ(hb:gU w w1)(hf:w.heap.size+2<=f)(hF:qE w1 f p eT)(hR:Px.read s=.error (2,p)):NY s eT eN w (fM (.tuple #[iE,.iface 114 (fq f)])) ((w1.setCell ⟨w.heap.size,0,none⟩ (iE)).setCell ⟨w.heap.size+1,0,none⟩ (.iface 114 (fq f))):=by refine⟨(hb.setCell (ay _) _).setCell (by show w.heap.size<=w.heap.size+1;omega) _,_,_,rfl,?_⟩;rw[hR];refine⟨rfl,f,rfl,?_⟩;show qE _ f p (if 2=2 then eT else eN);rw[aA rfl];unfold qE;rw[lg _ (by omega),lg _ (by omega)];exact hF
theorem zsx{l:List Sm}{vs:List dZ}(hR:Px.read s=.ok l)(h1:lJ w2 v vs (gD w1 w2))(h2:gX w2 l (gD w1 w2) vs)(hz:w.heap.size+4<=w1.heap.size)(hB:gU w W)(hk:∀i,w.heap.size+4<=i->W.heap[i]?=w2.heap[i]?)(hs:W.heap.size=w2.heap.size):NY s eT eN w (fM (.tuple #[v,.nilIface])) W:=by refine⟨hB,_,_,rfl,?_⟩;rw[hR];have hk':∀i,gD w1 w2 i->W.heap[i]?=w2.heap[i]?:=fun i hi=>hk i (by have:=hi.1;omega);have hm:∀i,gD w1 w2 i->gD w W i:=fun i hi=>⟨by have:=hi.1;omega,by rw[hs];exact hi.2⟩;exact⟨rfl,vs,(h1.keep hk').mono hm,(h2.keep hk').mono hm⟩
theorem zi6{d:Int}(hd:0<=d)(hR:Px.read s=.error (3,d.toNat))(hB:gU w W)(hF:W.heap[f]?=some (.cells #[eF d,.iface 393 (.pointer (some eN))] 119)):NY s eT eN w (fM (.tuple #[iE,.iface 114 (fq f)])) W:=by refine⟨hB,_,_,rfl,?_⟩;rw[hR];refine⟨rfl,f,rfl,?_⟩;show qE _ f d.toNat (if 3=2 then eT else eN);rw[ah (by decide)];unfold qE;rw[Int.toNat_of_nonneg hd];exact hF
theorem zf6(s:dX)(eT eN:Addr)(w:dY)(hs3:s.size<=300)(hlo:21<=w.heap.size)(g:Gl w (w.heap.size+2) eT eN):fI 41 #[.string s] w (NY s eT eN w):=by
 have Dl:∀(fn:Fn)(first cap:Array dZ)(w:dY),(Instr.makeFunc fn first cap).run prog w=.ok (.func fn first cap) w:=fun _ _ _ _=>rfl;have hs:s.size<=maxLen:=by unfold maxLen;omega
 have G:Hid _:=g;go_enter_defers func41,ntmps41
 go_wp2_with fail;change Calls _ _ _ (Ay s w) _;obtain⟨z0,a0,a1,a2,a3,bW⟩:=zf7 s w;have GW:Gl (Ay s w) (w.heap.size+2) eT eN:=G.o.keep ⟨bW.os,bW.tape,bW.output,bW.size,fun k hk _=>bW.block k hk⟩;generalize Ay s w=W at *;have eb:w.heap.size+1+1=w.heap.size+2:=rfl;have ec:w.heap.size+1+1+1=w.heap.size+3:=rfl;rw[eb]at a3 |-;simp only[ec];have H0:Hid (gU w W/\Gl W (w.heap.size+2) eT eN/\W.heap[w.heap.size]?=_/\W.heap[w.heap.size+1]?=_/\W.heap[w.heap.size+3]?=_):=⟨bW,GW,a0,a1,a3⟩;have A2:Hid _:=a2;refine(XL (w.heap.size+2) s 0 _ _ _ 0 none eT eN _ A2.o H0.o.2.1 (aQ _) hs).mono ?_;rintro e w1 ⟨k1,h1,h2⟩;have b1:w1.heap[w.heap.size]?=_:=(k1.block _ (by omega) (by omega)).trans H0.o.2.2.1;have b2:w1.heap[w.heap.size+1]?=_:=(k1.block _ (by omega) (by omega)).trans H0.o.2.2.2.1;have b3:w1.heap[w.heap.size+3]?=_:=(k1.block _ (by omega) (by omega)).trans H0.o.2.2.2.2;have bB:gU w w1:=H0.o.1.trans (k1.qj (by omega) (by omega));by_cases hk:(gY s 0).k=63
 ·obtain⟨f,hf,rfl,hF⟩:=h2 hk;refine leaves_cons (f:=79) (args:=#[fq w.heap.size,.pointer (some ⟨w.heap.size+1,0,none⟩),.pointer (some ⟨w.heap.size+3,0,none⟩)]) (by simp) (by simp[go_sem]) ?_;refine(RX _ _ _ f (iE) .nilIface [] _ (by simp[World.cell?,b1]) (by simp[World.frozen?,b1]) (by simp[World.cell?,b2]) (by simp[World.frozen?,b2]) (by omega)).mono ?_;rintro e u' w'' ⟨rfl,rfl,rfl⟩;have hR:Px.read s=.error (2,(gY s 0).a):=by rw[J6 hs3,Yw (p:=(gY s 0).a)];unfold Fe;rw[gy,ah (by simp[hk]),Ry (Rx hk)];rfl
  have T:Hid _:=RZ (eN:=eN) bB (by omega) hF hR;obtain⟨c0,c1⟩:=J7 b1 b2 (iE) (.iface 114 (fq f));generalize (w1.setCell ⟨w.heap.size,0,none⟩ (iE)).setCell ⟨w.heap.size+1,0,none⟩ (.iface 114 (fq f))=W2 at *;simp[Leaves,settle,results,results41,go_sem,c0,c1];exact T.o
 obtain⟨rfl,ra⟩:=h1 hk;have r1:Rd w1 (w.heap.size+2) s ⟨gY s 0,0,-1⟩ eT eN:=⟨(wI s 0 (aQ _)).1,hk,H0.o.2.1.keep k1,none,ra,ak ⟨by show(-1:Int)<0;decide,rfl⟩⟩;have dC:w1.cell? ⟨w.heap.size+3,0,none⟩=some (.pointer (some ⟨w.heap.size+2,0,none⟩)):=by simp[World.cell?,b3]
 have z1:=k1.size;have H1:Hid (gU w w1/\Rd w1 (w.heap.size+2) s ⟨gY s 0,0,-1⟩ eT eN/\w1.heap[w.heap.size]?=_/\w1.heap[w.heap.size+1]?=_/\w1.heap[w.heap.size+3]?=_):=⟨bB,r1,b1,b2,b3⟩;have D1:Hid (iN s (s.size+1) ⟨gY s 0,0,-1⟩):=⟨(wI s 0 (aQ _)).1,by simp;omega,by simp,by simp;omega⟩;go_wp2_with fail;refine(Yc (w.heap.size+2) s (s.size+1) eT eN _ (zld _ s eT eN hs3 _) (lQ s _) (fun st h=>Ry h) hs3 _ _ D1.o H1.o.2.1).mono ?_;rintro e w2 ⟨k2,hres⟩;have b1:w2.heap[w.heap.size]?=_:=(k2.block _ (by omega) (by omega)).trans H1.o.2.2.1;have b2:w2.heap[w.heap.size+1]?=_:=(k2.block _ (by omega) (by omega)).trans H1.o.2.2.2.1;have b3:w2.heap[w.heap.size+3]?=_:=(k2.block _ (by omega) (by omega)).trans H1.o.2.2.2.2;have bB:gU w w2:=H1.o.1.trans (k2.qj (by omega) (by omega));have z2:=k2.size;obtain⟨l,st2,v,rfl,⟨vs,hv1,hv2⟩,r2,xP,G2,CH⟩|⟨p,hp,ht⟩:=hres
 ·have ch:=CH _ (Yd s) (s.size+1) (by simp;omega);obtain⟨va,vn,vc,rfl⟩:=hv1.form;obtain⟨td,ra,rd⟩:=r2.mem;obtain⟨c0,c1,c2,c3,c4,c5,cf⟩:=oD ra.h;have eC:w2.cell? ⟨w.heap.size+3,0,none⟩=some (.pointer (some ⟨w.heap.size+2,0,none⟩)):=by simp[World.cell?,b3]
  have eA:w2.cell? ⟨w.heap.size,0,none⟩=some (iE):=by simp[World.cell?,b1]
  have fA:∀o,w2.frozen? ⟨w.heap.size,o,none⟩=false:=by intro o;simp[World.frozen?,b1]
  have eB:w2.cell? ⟨w.heap.size+1,0,none⟩=some .nilIface:=by simp[World.cell?,b2]
  have fB:∀o,w2.frozen? ⟨w.heap.size+1,o,none⟩=false:=by intro o;simp[World.frozen?,b2]
  have H2:Hid (gU w w2/\Rd w2 (w.heap.size+2) s st2 eT eN/\lJ w2 (.slice va vn vc) vs (gD w1 w2)/\gX w2 l (gD w1 w2) vs/\(Fe s=if(st2.t.k==0)=true then .ok (l,st2)else .error st2.t.a)/\w2.heap[w.heap.size]?=_/\w2.heap[w.heap.size+1]?=_):=⟨bB,r2,hv1,hv2,ch,b1,b2⟩;have hkd:=ztv r2.tk.kinds r2.yC;have RD:Hid _:=rd;cases hk0:(st2.t.k==0)
  ·rw[hk0]at hkd;have hR:Hid (Px.read s=.error (2,st2.t.a)):=by unfold Hid;rw[J6 hs3,H2.o.2.2.2.2.1,ah (by simp[hk0])]
   go_wp2_with fail;refine(Ro (w.heap.size+2) s st2 eT eN _ (H2.o.2.1.RY H2.o.2.2.2.2.2.1 (by decide) hlo (by omega) _)).mono ?_;rintro e w3 ⟨⟨f,hf,rfl,hF⟩,k3⟩;have hsz:=gP w2 ⟨w.heap.size,0,none⟩ (.slice va vn vc);have b1:w3.heap[w.heap.size]?=some (.cells #[.slice va vn vc] 61):=(k3.block _ (by omega) (by omega)).trans ((Ref.heap_set _ H2.o.2.2.2.2.2.1).trans (by simp));have b2:w3.heap[w.heap.size+1]?=_:=(k3.block _ (by omega) (by omega)).trans ((lg _ (by omega)).trans H2.o.2.2.2.2.2.2);have bB:gU w w3:=(H2.o.1.setCell (ay _) _).trans (k3.qj (by omega) (by omega));refine leaves_cons (f:=79) (args:=#[fq w.heap.size,.pointer (some ⟨w.heap.size+1,0,none⟩),.pointer (some ⟨w.heap.size+3,0,none⟩)]) (by simp) (by simp[go_sem]) ?_;refine(RX _ _ _ f (.slice va vn vc) .nilIface [] _ (by simp[World.cell?,b1]) (by simp[World.frozen?,b1]) (by simp[World.cell?,b2]) (by simp[World.frozen?,b2]) (by omega)).mono ?_;rintro e u' w'' ⟨rfl,rfl,rfl⟩;have T:Hid _:=RZ (eN:=eN) bB (by omega) hF hR.o;obtain⟨q0,q1⟩:=J7 b1 b2 (iE) (.iface 114 (fq f));generalize (w3.setCell ⟨w.heap.size,0,none⟩ (iE)).setCell ⟨w.heap.size+1,0,none⟩ (.iface 114 (fq f))=W2 at *;simp[Leaves,settle,results,results41,go_sem,q0,q1];exact T.o
  rw[hk0]at hkd;have hL:Hid (Fe s=.ok (l,st2)):=by unfold Hid;rw[H2.o.2.2.2.2.1,aA hk0]
  obtain⟨d1,rfl⟩|⟨d1,f,rfl,d3,d4⟩:=RD.o
  ·have hR:Hid (Px.read s=.ok l):=by unfold Hid;rw[J6 hs3,hL.o];simp only;rw[ah (by omega)]
   go_wp2_with fail;refine leaves_cons (f:=79) (args:=#[fq w.heap.size,.pointer (some ⟨w.heap.size+1,0,none⟩),.pointer (some ⟨w.heap.size+3,0,none⟩)]) (by simp) (by simp[go_sem]) ?_;refine(Yu _ _ _ _).mono ?_;rintro e u' w'' ⟨rfl,rfl,rfl⟩;have T:Hid _:=zsx (eT:=eT) (eN:=eN) (v:=.slice va vn vc) (W:=((w2.setCell ⟨w.heap.size,0,none⟩ (.slice va vn vc)).setCell ⟨w.heap.size,0,none⟩ (.slice va vn vc)).setCell ⟨w.heap.size+1,0,none⟩ .nilIface) hR.o H2.o.2.2.1 H2.o.2.2.2.1 (by omega) (((H2.o.1.setCell (ay _) _).setCell (ay _) _).setCell (by show w.heap.size<=w.heap.size+1;omega) _) (fun i hi=>by rw[lg _ (by omega),lg _ (by omega),lg _ (by omega)]) (by simp[World.setCell]);obtain⟨q0,q1⟩:=J7 (n:=w.heap.size) (Ref.heap_set (o:=0) (.slice va vn vc) H2.o.2.2.2.2.2.1) ((lg _ (by omega)).trans H2.o.2.2.2.2.2.2) (.slice va vn vc) .nilIface;generalize ((w2.setCell ⟨w.heap.size,0,none⟩ (.slice va vn vc)).setCell ⟨w.heap.size,0,none⟩ (.slice va vn vc)).setCell ⟨w.heap.size+1,0,none⟩ .nilIface=W3 at *;simp[Leaves,settle,results,results41,go_sem,q0,q1];exact T.o
  have hR:Hid (Px.read s=.error (3,st2.fu.toNat)):=by unfold Hid;rw[J6 hs3,hL.o];simp only;rw[aA d1]
  have D4:Hid _:=d4;go_wp2_with fail;go_region
  all_goals
   go_wp2_with fail;refine leaves_cons (f:=79) (args:=#[fq w.heap.size,.pointer (some ⟨w.heap.size+1,0,none⟩),.pointer (some ⟨w.heap.size+3,0,none⟩)]) (by simp) (by simp[go_sem]) ?_;refine(Yu _ _ _ _).mono ?_;rintro e u' w'' ⟨rfl,rfl,rfl⟩;have b1:=H2.o.2.2.2.2.2.1;have b2:=H2.o.2.2.2.2.2.2;have Fg:f≠w.heap.size/\f≠w.heap.size+1:=by
    constructor;·rintro rfl;have:=D4.o;rw[b1]at this;simp at this
    rintro rfl;have:=D4.o;rw[b2]at this;simp at this
   have T:Hid _:=zi6 (eT:=eT) (f:=f) (W:=(((w2.setCell ⟨w.heap.size,0,none⟩ (.slice va vn vc)).setCell ⟨w.heap.size,0,none⟩ (iE)).setCell ⟨w.heap.size+1,0,none⟩ (.iface 114 (fq f))).drew) d1 hR.o ((((H2.o.1.setCell (ay _) _).setCell (ay _) _).setCell (by show w.heap.size<=w.heap.size+1;omega) _).drew) (by show(World.setCell _ _ _).heap[f]?=_;rw[lg _ Fg.2,lg _ Fg.1,lg _ Fg.1];exact D4.o);obtain⟨q0,q1⟩:=J7 (n:=w.heap.size) (Ref.heap_set (o:=0) (.slice va vn vc) b1) ((lg _ (by omega)).trans b2) (iE) (.iface 114 (fq f));generalize ((w2.setCell ⟨w.heap.size,0,none⟩ (.slice va vn vc)).setCell ⟨w.heap.size,0,none⟩ (iE)).setCell ⟨w.heap.size+1,0,none⟩ (.iface 114 (fq f))=W3 at *;simp[Leaves,settle,results,results41,go_sem,q0,q1];exact T.o
 obtain⟨f,hf,rfl,hF⟩:=ht;have hR:Px.read s=.error (2,p):=by rw[J6 hs3,Yw (p:=p)];exact hp _ (Yd s) (s.size+1) (by simp;omega)
 refine leaves_cons (f:=79) (args:=#[fq w.heap.size,.pointer (some ⟨w.heap.size+1,0,none⟩),.pointer (some ⟨w.heap.size+3,0,none⟩)]) (by simp) (by simp[go_sem]) ?_;refine(RX _ _ _ f (iE) .nilIface [] _ (by simp[World.cell?,b1]) (by simp[World.frozen?,b1]) (by simp[World.cell?,b2]) (by simp[World.frozen?,b2]) (by omega)).mono ?_;rintro e u' w'' ⟨rfl,rfl,rfl⟩;have T:Hid _:=RZ (eN:=eN) bB (by omega) hF hR;obtain⟨c0,c1⟩:=J7 b1 b2 (iE) (.iface 114 (fq f));generalize (w2.setCell ⟨w.heap.size,0,none⟩ (iE)).setCell ⟨w.heap.size+1,0,none⟩ (.iface 114 (fq f))=W2 at *;simp[Leaves,settle,results,results41,go_sem,c0,c1];exact T.o
structure Gc(w:dY)(B:Nat)(E:Nat->Addr):Prop where
 c:w.cell? ⟨6,0,none⟩=some (.iface 393 (.pointer (some (E 4))))
 n:w.cell? ⟨7,0,none⟩=some (.iface 393 (.pointer (some (E 5))))
 y:w.cell? ⟨8,0,none⟩=some (.iface 393 (.pointer (some (E 6))))
 ops:∀j(hj:j<28),w.cell? ⟨18,j,none⟩=some (sQ[j]'hj)
 lo:21<=B
theorem NZ(h:Below B w w')(hk:k<B):w'.cell? ⟨k,o,none⟩=w.cell? ⟨k,o,none⟩:=aH (w:=w) (h.block k hk)
variable{E:Nat->Addr}
theorem Gc.below(g:Gc w B E)(h:Below B w w'):Gc w' B E:=by have hl:=g.lo;exact⟨by rw[NZ h (by omega)];exact g.c,by rw[NZ h (by omega)];exact g.n,by rw[NZ h (by omega)];exact g.y,fun j hj=>by rw[NZ h (by omega)];exact g.ops j hj,hl⟩
structure Fr(c m:Nat)(w w':dY):Prop where
 os:w'.os=w.os
 tape:w'.tape=w.tape
 output:w'.output=w.output
 size:w.heap.size<=w'.heap.size
 block:∀k,k<w.heap.size->k≠c->k≠m->w'.heap[k]?=w.heap[k]?
theorem Fr.refl(c m:Nat)(w:dY):Fr c m w w:=⟨rfl,rfl,rfl,ay _,fun _ _ _ _=>rfl⟩
theorem Fr.trans{c m:Nat}{w w1 w2:dY}(h:Fr c m w w1)(k:Fr c m w1 w2):Fr c m w w2:=⟨k.os.trans h.os,k.tape.trans h.tape,k.output.trans h.output,aK h.size k.size,fun i hi hc hm=>(k.block i (aJ hi h.size) hc hm).trans (h.block i hi hc hm)⟩
theorem Fr.drew{c m:Nat}{w w1:dY}(h:Fr c m w w1):Fr c m w w1.drew:=⟨h.os,h.tape,h.output,h.size,h.block⟩
theorem Fr.alloc{c m:Nat}{w w1:dY}(h:Fr c m w w1)(o:Obj):Fr c m w (w1.alloc o):=⟨h.os,h.tape,h.output,by have:=h.size;simp;omega,fun i hi hc hm=>by rw[aI _ _ _ (aJ hi h.size)];exact h.block i hi hc hm⟩
theorem Fr.R4(h:Fr c m w w1)(u:dZ):Fr c m w (w1.setCell ⟨c,o,none⟩ u):=⟨h.os,h.tape,h.output,by simpa[World.setCell]using h.size,fun i hi hc hm=>by rw[bO _ _ _ _ hc];exact h.block i hi hc hm⟩
theorem Fr.below(h:Fr c m w w')(h1:B<=c)(h2:B<=m)(h3:B<=w.heap.size):Below B w w':=⟨h.os,h.tape,h.output,h.size,fun k hk=>h.block k (by omega) (by omega) (by omega)⟩
structure Ck(w:dY)(c m B:Nat)(E:Nat->Addr)(K:gM):Prop where
 g:Gc w B E
 bc:B<=c
 ex:∃pf,w.heap[c]?=some (.cells #[.map (some m),.pointer pf] 195)/\B<=m/\m≠c/\rO w m K.vars /\
  ((K.e=0/\pf=none)\/(K.e≠0/\∃f,pf=some ⟨f,0,none⟩/\B<=f/\f≠c/\f≠m/\qE w f K.pl (E K.e)))
theorem sj{b:dZ}(hh:w.heap[k]?=some (.cells #[a,b] t)):w.cell? ⟨k,0,none⟩=some a/\w.cell? ⟨k,1,none⟩=some b/\∀o,w.frozen? ⟨k,o,none⟩=false:=by refine⟨?_,?_,?_⟩<;>simp[World.cell?,World.frozen?,hh]
theorem lt_of_block{o:Obj}(h:w.heap[k]?=some o):k<w.heap.size:=by
 obtain hb|hb:=dF k w.heap.size;·exact hb
 rw[dN hb]at h;cases h
variable{K:gM}
theorem Ck.fr(h:Ck w c m B E K)(k:Fr c m w w'):Below B w w':=by obtain⟨pf,h1,h2,_⟩:=h.ex;have:=lt_of_block h1;exact k.below h.bc h2 (by have:=h.bc;omega)
theorem Ck.drew{w:dY}{c m B:Nat}{E:Nat->Addr}{K:gM}(h:Ck w c m B E K):Ck w.drew c m B E K:=⟨⟨h.g.c,h.g.n,h.g.y,h.g.ops,h.g.lo⟩,h.bc,h.ex⟩
theorem zd3(h:Below B w w1):Below B w w1.drew:=⟨h.os,h.tape,h.output,h.size,h.block⟩
variable{pf:Option Addr}
theorem Ck.note(e p:Nat)(he:e≠0)(g:Gc w B E)(bc:B<=c)(h1:w.heap[c]?=some (.cells #[.map (some m),.pointer pf] 195))(h2:B<=m)(h3:m≠c)(h4:rO w m K.vars):Ck ((w.setCell ⟨c,1,none⟩ (fq w.heap.size)).alloc (.cells #[eF (p:Int),.iface 393 (.pointer (some (E e)))] 119)) c m B E ⟨K.vars,e,p⟩ /\
  Fr c m w ((w.setCell ⟨c,1,none⟩ (fq w.heap.size)).alloc (.cells #[eF (p:Int),.iface 393 (.pointer (some (E e)))] 119)):=by
 have hc:=lt_of_block h1;obtain⟨es,clock,h5,h6⟩:=h4;have hm:=lt_of_block h5;have hs:(w.setCell ⟨c,1,none⟩ (fq w.heap.size)).heap.size=w.heap.size:=by simp[World.setCell]
 have hB:Below B w ((w.setCell ⟨c,1,none⟩ (fq w.heap.size)).alloc (.cells #[eF (p:Int),.iface 393 (.pointer (some (E e)))] 119)):=
  ((aF B w).setCell (p:=⟨c,1,none⟩) bc _).alloc (by simp[World.setCell];omega) _
 refine⟨⟨g.below hB,bc,some ⟨w.heap.size,0,none⟩,?_,h2,h3,⟨es,clock,?_,h6⟩,aj ⟨he,w.heap.size,rfl,by omega,by omega,by omega,?_⟩⟩,((Fr.refl c m w).R4 _).alloc _⟩;·rw[aI _ _ _ (by rw[hs];exact hc),Ref.heap_set _ h1];simp
 ·rw[aI _ _ _ (by rw[hs];exact hm),lg _ h3];exact h5
 ·unfold qE;exact XP hs
theorem BJ(c m B:Nat)(E:Nat->Addr)(e p:Nat)(he:e≠0)(K:gM)(w:dY)(h:Ck w c m B E K):fI 316 #[fq c,eF (p:Int),.iface 393 (.pointer (some (E e)))] w fun r w'=>r=fM (.tuple #[])/\Ck w' c m B E (qB e p K)/\Fr c m w w':=by
 obtain⟨pf,h1,h2,h3,h4,h5⟩:=h.ex;obtain⟨c0,c1,fr⟩:=sj h1;have YES:Hid _:=Ck.note (K:=K) e p he h.g h.bc h1 h2 h3 h4;have HH:Hid _:=h;have hsz:=lt_of_block h1;obtain⟨h5,rfl⟩|⟨h5,f,rfl,h6,h7,h8,h9⟩:=h5
 ·clear h h1 h2 h3 h4;go_enter func316,ntmps316;go_wp2_with fail;go_end0
  refine⟨rfl,?_⟩;rw[show qB e p K=⟨K.vars,e,p⟩ by unfold qB;rw[aA (ak h5)]];exact YES.o
 obtain⟨d0,d1,fd⟩:=sj h9;by_cases hp:p<K.pl
 ·have t1:(p:Int)<K.pl:=by omega
  go_enter func316,ntmps316;go_wp2_with fail;go_end0
  refine⟨rfl,?_⟩;rw[show qB e p K=⟨K.vars,e,p⟩ by unfold qB;rw[aA (aj hp)]];exact YES.o
 have t1:¬(p:Int)<K.pl:=by omega
 go_enter func316,ntmps316;go_wp2_with fail;go_end0
 refine⟨rfl,?_,Fr.refl c m _⟩;rw[show qB e p K=K by unfold qB;rw[ah (by omega)]];exact HH.o
theorem wz(a b:Nat)(ha:Px.K3 a)(hb:Px.K3 b)(w:dY):fI 315 #[eF (kk a:Int),eF (kk b:Int)] w fun r w'=>r=fM (.bool (qG a b))/\w=w':=by
 have e1:Hid (qG a b=(((kk a:Int)==kk b)||(((kk a:Int)==0)||((kk b:Int)==0)))):=by unfold Hid;obtain rfl|rfl|rfl:=ha<;>obtain rfl|rfl|rfl:=hb<;>decide
 generalize kk a=x at *;generalize kk b=y at *;cases h1:((x:Int)==y)<;>cases h2:((x:Int)==0);all_goals
  go_enter func315,ntmps315;go_wp2_with fail;go_ret;exact⟨vX (by rw[e1.o,h1,h2];simp),rfl⟩
theorem Yx(c m B q n a least most:Nat)(E:Nat->Addr)(K:gM)(w:dY)(h:Ck w c m B E K)(hn:jW w n a (· < B) q):fI 322 #[fq c,Ref.ptr q,eF (least:Int),eF (most:Int)] w fun r w'=>r=fM (.tuple #[])/\Ck w' c m B E (iP n a least most K)/\Fr c m w w':=by
 obtain⟨c0,c1,fr⟩:=sj hn.2;have g4:=h.g.c;have HH:Hid _:=h;unfold Ref.ptr;by_cases h1:n<least
 ·have t1:(n:Int)<least:=by omega
  go_enter func322,ntmps322;go_wp2_with fail;go_region_with (go_at_call 316;refine(BJ c m B E 4 a (by decide) K _ HH.o.drew).mono ?_;rintro r w1 ⟨rfl,h3,h4⟩)
  all_goals (try go_wp2_with fail)
  all_goals
   go_end0
   refine⟨rfl,?_,(Fr.refl c m w).drew.trans h4⟩;unfold iP;rw[aA (ak h1)];exact h3
 have t1:¬(n:Int)<least:=by omega
 by_cases h2:most<n
 ·have t2:(most:Int)<n:=by omega
  go_enter func322,ntmps322;go_wp2_with fail;go_region_with (go_at_call 316;refine(BJ c m B E 4 a (by decide) K _ HH.o.drew).mono ?_;rintro r w1 ⟨rfl,h3,h4⟩)
  all_goals (try go_wp2_with fail)
  all_goals
   go_end0
   refine⟨rfl,?_,(Fr.refl c m w).drew.trans h4⟩;unfold iP;rw[aA (aj h2)];exact h3
 have t2:¬(most:Int)<n:=by omega
 go_enter func322,ntmps322;go_wp2_with fail;go_end0
 refine⟨rfl,?_,Fr.refl c m _⟩;unfold iP;rw[ah (by omega)];exact HH.o
theorem Yy:prog.underlying 193=some (.map 9 387):=underlying193
theorem znx(w:dY):(zeroValue 387).run prog w=.ok (eF 0) w:=by kernel_rfl
theorem Ck.look(x:dX)(h4:rO w m K.vars):(Instr.lookup 193 (.map (some m)) (.string x) true).run prog w=.ok (.tuple #[eF (Fb K.vars x:Int),.bool (jG K.vars x).isSome]) w:=zch h4 Yy underlying9 (znx w) x
def yJ(c m B:Nat)(E:Nat->Addr)(w:dY)(r:Nat×gM)(e:Ending)(w':dY):Prop:=e=fM (eF (kk r.1:Int))/\Ck w' c m B E r.2/\Fr c m w w'
theorem rO.drew{w:dY}{m:Nat}{l:List (dX×Nat)}(h:rO w m l):rO w.drew m l:=h
theorem Yz(h:jG l x=none):Fb l x=0:=by unfold Fb;rw[h]
theorem YA{i:Nat}(h:jG l x=some i):Fb l x=kk (pG l i):=by unfold Fb;rw[h]
theorem qx3(c m B q:Nat)(E:Nat->Addr)(K:gM)(w:dY)(h:Ck w c m B E K):fI 331 #[fq q,fq c] w (yJ c m B E w (105,K)):=by have HH:Hid _:=h;go_enter func331,ntmps331;go_wp2_with fail;go_ret;exact⟨rfl,HH.o,Fr.refl c m _⟩
theorem zb1(c m B q:Nat)(E:Nat->Addr)(K:gM)(w:dY)(h:Ck w c m B E K):fI 333 #[fq q,fq c] w (yJ c m B E w (98,K)):=by have HH:Hid _:=h;go_enter func333,ntmps333;go_wp2_with fail;go_ret;exact⟨rfl,HH.o,Fr.refl c m _⟩
theorem qse(c m B q own:Nat)(x:dX)(E:Nat->Addr)(K:gM)(w:dY)(h:Ck w c m B E K)(hv:kX w x own (· < B) q):fI 317 #[fq q,fq c] w (yJ c m B E w (match jG K.vars x with
   |none=>(63,qB 5 own K)
   |some i=>(pG K.vars i,K))):=by
 obtain⟨pf,h1,h2,h3,h4,h5⟩:=h.ex;obtain⟨c0,c1,fr⟩:=sj h1;obtain⟨d0,d1,fd⟩:=sj hv.2;have g5:=h.g.n;have l0:=Ck.look x h4;have l1:=Ck.look x h4.drew;have HH:Hid _:=h;cases hf:jG K.vars x with
 |none=>
  rw[Yz hf,hf]at l0 l1;go_enter func317,ntmps317;go_wp2_with fail;go_region
  all_goals
   go_wp2_with fail;go_region_with (go_at_call 316;refine(BJ c m B E 5 own (by decide) K _ HH.o.drew.drew).mono ?_;rintro r w1 ⟨rfl,h3,h4⟩)
   all_goals
    go_wp2_with fail;go_ret;exact⟨rfl,h3,(Fr.refl c m w).drew.drew.trans h4⟩
 |some i=>
  rw[YA hf,hf]at l0 l1;go_enter func317,ntmps317;go_wp2_with fail;go_region
  all_goals
   go_wp2_with fail;go_ret;exact⟨rfl,HH.o.drew,(Fr.refl c m _).drew⟩
theorem Ck.put{o:Obj}{vs:List (dX×Nat)}(g:Gc w B E)(bc:B<=c)(h1:w.heap[c]?=some (.cells #[.map (some m),.pointer pf] 195))(h2:B<=m)(h3:m≠c)(h4:rO w m K.vars)(h5:(K.e=0/\pf=none)\/(K.e≠0/\∃f,pf=some ⟨f,0,none⟩/\B<=f/\f≠c/\f≠m/\qE w f K.pl (E K.e)))(hu:rO {w with heap:=w.heap.setIfInBounds m o} m vs):Ck {w with heap:=w.heap.setIfInBounds m o} c m B E ⟨vs,K.e,K.pl⟩/\Fr c m w {w with heap:=w.heap.setIfInBounds m o}:=by
 obtain⟨es,clock,hb,_⟩:=h4;have hs:=(MapKept.heap_set (o':=o) hb).2;have hB:Below B w {w with heap:=w.heap.setIfInBounds m o}:=⟨rfl,rfl,rfl,by simp,fun k hk=>hs k (by omega)⟩;refine⟨⟨g.below hB,bc,pf,?_,h2,h3,hu,?_⟩,⟨rfl,rfl,rfl,by simp,fun k _ _ hk=>hs k hk⟩⟩;·show(w.heap.setIfInBounds m o)[c]?=_;rw[hs c (Ne.symm h3)];exact h1
 obtain h5|⟨h5,f,h6,h7,h8,h9,h10⟩:=h5;·exact ak h5
 refine aj ⟨h5,f,h6,h7,h8,h9,?_⟩;unfold qE at h10 |-;show(w.heap.setIfInBounds m o)[f]?=_;rw[hs f h9];exact h10
theorem Js(c m B q p k:Nat)(x:dX)(E:Nat->Addr)(K:gM)(w:dY)(h:Ck w c m B E K)(hv:kX w x p (· < B) q)(hk:Px.K3 k)(hV:V3 K):fI 314 #[fq c,fq q,eF (kk k:Int)] w fun r w'=>r=fM (.tuple #[])/\Ck w' c m B E (uo x p k K)/\Fr c m w w':=by
 obtain⟨pf,h1,h2,h3,h4,h5⟩:=h.ex;obtain⟨c0,c1,fr⟩:=sj h1;obtain⟨d0,d1,fd⟩:=sj hv.2;have g6:=h.g.y;have l1:=Ck.look x h4.drew;have HH:Hid _:=h;cases hf:jG K.vars x with
 |none=>
  rw[Yz hf,hf]at l1;obtain⟨o,u1,u2⟩:=zcg (P:=prog) (w:=w.drew.drew) (h4.drew.drew) Yy underlying9 x hf k;have hd:=HH.o.drew.drew;have PUT:Hid _:=Ck.put hd.g hd.bc h1 h2 h3 h4.drew.drew h5 u2;have hgv:Hid (uo x p k K=⟨K.vars++[(x,k)],K.e,K.pl⟩):=by unfold Hid uo;rw[hf]
  go_enter func314,ntmps314;go_wp2_with fail;go_region
  all_goals
   go_wp2_with fail;go_region
   all_goals
    go_wp2_with fail;go_end0
    rw[hgv.o];exact⟨rfl,PUT.o.1,(Fr.refl c m w).drew.drew.trans PUT.o.2⟩
 |some i=>
 rw[YA hf,hf]at l1;have hk2:Px.K3 (pG K.vars i):=by obtain⟨v,hv1,hv2⟩:=Md (Px.wK hf);rw[hv2];exact hV v hv1
 cases hfit:qG (pG K.vars i) k
 ·have hgv:Hid (uo x p k K=qB 6 p K):=by unfold Hid uo;rw[hf];simp only;rw[ah (by simp[hfit])]
  go_enter func314,ntmps314;go_wp2_with fail;go_region
  all_goals
   go_wp2_with fail;refine(wz _ _ hk2 hk _).mono ?_;rintro r w1 ⟨rfl,rfl⟩;rw[hfit];go_wp2_with fail;go_region_with (go_at_call 316;refine(BJ c m B E 6 p (by decide) K _ HH.o.drew.drew).mono ?_;rintro r w1 ⟨rfl,h3,h4⟩)
   all_goals
    go_wp2_with fail;go_end0
    rw[hgv.o];exact⟨rfl,h3,(Fr.refl c m w).drew.drew.trans h4⟩
 have hgv:Hid (uo x p k K=K):=by unfold Hid uo;rw[hf];simp only;rw[aA hfit]
 go_enter func314,ntmps314;go_wp2_with fail;go_region
 all_goals
  go_wp2_with fail;refine(wz _ _ hk2 hk _).mono ?_;rintro r w1 ⟨rfl,rfl⟩;rw[hfit];go_wp2_with fail;go_end0
  rw[hgv.o];exact⟨rfl,HH.o.drew,(Fr.refl c m w).drew⟩
end Lg
namespace Px
theorem N7(e p:Nat)(c:gM):(qB e p c).vars=c.vars:=by unfold qB;split<;>rfl
theorem Fh(x:fG):∀c,(jM x c).2.vars=c.vars:=by
 match x with
 |⟨op,n,eH,pl,own,none,_⟩=>
  intro c;simp only[jM,CO];split;·rfl
  split;·rfl
  split;·exact N7 _ _ _
  rfl
 |⟨op,n,eH,pl,own,some l,none⟩=>
  intro c;simp only[jM,oU];split;·exact Fh l c
  rw[N7];exact Fh l c
 |⟨op,n,eH,pl,own,some l,some r⟩=>
 intro c;simp only[jM,vT];split;·rw[Fh r,Fh l]
 rw[N7,Fh r,Fh l]
theorem Hu{x:fG}{c:gM}(h:V3 c):V3 (jM x c).2:=by unfold V3;rw[Fh];exact h
theorem Hw(x:fG)(c:gM)(h:V3 c):K3 (jM x c).1:=by
 match x with
 |⟨op,n,eH,pl,own,none,_⟩=>
  simp only[jM,CO];split;·exact ak rfl
  split;·exact aj (ak rfl)
  cases hf:jG c.vars eH with| none=>exact aj (aj rfl)| some i=>
  obtain⟨v,hv1,hv2⟩:=Md (wK hf);simp only;rw[hv2];exact h v hv1
 |⟨op,n,eH,pl,own,some l,none⟩=>exact aj (ak rfl)
 |⟨op,n,eH,pl,own,some l,some r⟩=>
 simp only[jM,vT,Ea];split;·exact aj (ak rfl)
 exact ak rfl
end Px
namespace Lg
open Px
def lK(w:dY)(c tl ql:Nat)(Q:Ending->dY->Prop):Prop:=
 (tl=313/\fI 331 #[fq ql,fq c] w Q) \/
 (tl=282/\fI 317 #[fq ql,fq c] w Q) \/
 (tl=323/\fI 333 #[fq ql,fq c] w Q) \/
 (tl=326/\fI 335 #[fq ql,fq c] w Q) \/
 (tl=329/\fI 337 #[fq ql,fq c] w Q)
def Hy(tl:Nat):Prop:=tl=313\/tl=282\/tl=323\/tl=326\/tl=329
variable{w:dY}{c ql:Nat}{Q:Ending->dY->Prop}
theorem lK.num(h:lK w c 313 ql Q):fI 331 #[fq ql,fq c] w Q:=by obtain⟨h,k⟩|⟨h,k⟩|⟨h,k⟩|⟨h,k⟩|⟨h,k⟩:=h<;>first|exact k|(exact absurd h (by decide))
theorem lK.var(h:lK w c 282 ql Q):fI 317 #[fq ql,fq c] w Q:=by obtain⟨h,k⟩|⟨h,k⟩|⟨h,k⟩|⟨h,k⟩|⟨h,k⟩:=h<;>first|exact k|(exact absurd h (by decide))
theorem lK.J8(h:lK w c 323 ql Q):fI 333 #[fq ql,fq c] w Q:=by obtain⟨h,k⟩|⟨h,k⟩|⟨h,k⟩|⟨h,k⟩|⟨h,k⟩:=h<;>first|exact k|(exact absurd h (by decide))
theorem lK.zD(h:lK w c 326 ql Q):fI 335 #[fq ql,fq c] w Q:=by obtain⟨h,k⟩|⟨h,k⟩|⟨h,k⟩|⟨h,k⟩|⟨h,k⟩:=h<;>first|exact k|(exact absurd h (by decide))
theorem lK.pair(h:lK w c 329 ql Q):fI 337 #[fq ql,fq c] w Q:=by obtain⟨h,k⟩|⟨h,k⟩|⟨h,k⟩|⟨h,k⟩|⟨h,k⟩:=h<;>first|exact k|(exact absurd h (by decide))
theorem ku.ty{x:fG}{ok:Nat->Prop}{tl:Nat}(h:ku w x ok (.iface tl (Ref.ptr ql))):Hy tl:=by
 unfold Hy;match x with
 |⟨op,n,eH,pl,own,none,none⟩=>obtain⟨q,h1,⟨h2,h3,h4⟩|⟨h2,h3,h4⟩|⟨h2,h3,h4⟩⟩:=h<;>cases h3<;>simp
 |⟨op,n,eH,pl,own,some l,none⟩=>obtain⟨h0,q,tl,ql,h1,h2,h3⟩:=h;cases h2;simp
 |⟨op,n,eH,pl,own,some l,some r⟩=>obtain⟨q,tl,ql,tr,qr,h1,h2,h3⟩:=h;cases h2;simp
 |⟨_,_,_,_,_,none,some _⟩=>exact h.elim
theorem BK(a:Addr)(w:dY):(method 534 313 (.pointer (some a)) "errand/lang.kind").run prog w=.ok (331,.pointer (some a)) w:=by kernel_rfl
theorem BL(a:Addr)(w:dY):(method 534 282 (.pointer (some a)) "errand/lang.kind").run prog w=.ok (317,.pointer (some a)) w:=by kernel_rfl
theorem BM(a:Addr)(w:dY):(method 534 323 (.pointer (some a)) "errand/lang.kind").run prog w=.ok (333,.pointer (some a)) w:=by kernel_rfl
theorem BN(a:Addr)(w:dY):(method 534 326 (.pointer (some a)) "errand/lang.kind").run prog w=.ok (335,.pointer (some a)) w:=by kernel_rfl
theorem N8(a:Addr)(w:dY):(method 534 329 (.pointer (some a)) "errand/lang.kind").run prog w=.ok (337,.pointer (some a)) w:=by kernel_rfl
def tY(c m B:Nat)(E:Nat->Addr)(x:fG):Prop:=∀(K:gM)(w:dY)(tl ql:Nat),ku w x (· < B) (.iface tl (Ref.ptr ql))->Ck w c m B E K->V3 K->lK w c tl ql (yJ c m B E w (jM x K))
theorem ku.drew{w:dY}{x:fG}{ok:Nat->Prop}{v:dZ}(h:ku w x ok v):ku w.drew x ok v:=h.keep fun _ _=>rfl
theorem YB(c m B:Nat)(E:Nat->Addr)(l:fG)(ih:tY c m B E l)(k:Nat)(hk:Px.K3 k)(K:gM)(w:dY)(q:Nat)(hr:kR w l (· < B) q)(h:Ck w c m B E K)(hv:V3 K):fI 321 #[fq c,fq q,eF (kk k:Int)] w fun r w'=>r=fM (.tuple #[])/\Ck w' c m B E (uq l k K)/\Fr c m w w':=by
 obtain⟨hq,tl,ql,hc,hx⟩:=hr;have hk3:=Hw l K hv;have CALL:Hid (∀W,W=w.drew\/W=w->lK W c tl ql (yJ c m B E W (jM l K))):=fun W hW=>by
  obtain rfl|rfl:=hW;·exact ih K _ tl ql hx.drew h.drew hv
  exact ih K _ tl ql hx h hv
 have CQ:Hid (∀W,Below B w W->W.heap[q]?=some (.cells #[.iface tl (Ref.ptr ql),eF (l.pl:Int)] 340)):=fun W hW=>by rw[hW.block q hq];exact hc
 have ht:=hx.ty;unfold Ref.ptr at hc;obtain⟨c0,c1,fr⟩:=sj hc;have HH:Hid _:=h;clear ih hx h hc;unfold Hy at ht;have hm1:=BK;have hm2:=BL;have E9:=BM;have N9:=BN;have R5:=N8;obtain rfl|rfl|rfl|rfl|rfl:=ht;all_goals
  go_enter func321,ntmps321;go_wp2_with fail;first
   |refine(CALL.o w (aj rfl)).num.mono ?_
   |refine(CALL.o w (aj rfl)).var.mono ?_
   |refine(CALL.o w (aj rfl)).J8.mono ?_
   |refine(CALL.o w (aj rfl)).zD.mono ?_
   |refine(CALL.o w (aj rfl)).pair.mono ?_
  rintro e w1 ⟨rfl,k1,b1⟩;have hc1:=CQ.o w1 (HH.o.fr b1);unfold Ref.ptr at hc1;obtain⟨e0,e1,fe⟩:=sj hc1;have g6:=k1.g.y;have K1:Hid (Ck w1 c m B E (jM l K).2/\Fr c m w w1):=⟨k1,b1⟩;clear c0 c1 fr k1 b1 hc1;cases hfit:qG (jM l K).1 k
  ·go_wp2_with fail;refine(wz _ k hk3 hk _).mono ?_;rintro r w2 ⟨rfl,rfl⟩;rw[hfit];go_wp2_with fail;go_region_with (go_at_call 316;refine(BJ c m B E 6 l.pl (by decide) _ _ K1.o.1.drew).mono ?_;rintro r w2 ⟨rfl,h3,h4⟩)
   all_goals
    go_wp2_with fail;go_end0
    refine⟨rfl,?_,K1.o.2.drew.trans h4⟩;unfold uq;rw[ah (by simp[hfit])];exact h3
  ·go_wp2_with fail;refine(wz _ k hk3 hk _).mono ?_;rintro r w2 ⟨rfl,rfl⟩;rw[hfit];go_wp2_with fail;go_end0
   refine⟨rfl,?_,K1.o.2⟩;unfold uq;rw[aA hfit];exact K1.o.1
