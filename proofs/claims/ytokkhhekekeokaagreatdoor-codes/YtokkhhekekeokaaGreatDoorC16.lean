import Derived.Test.YtokkhhekekeokaaGreatDoorC15
import Derived.Test.YtokkhhekekeokaaGreatDoorC01
set_option maxRecDepth 100000
set_option maxHeartbeats 4000000
namespace Go.Proofs.YtokkhhekekeokaaGreatDoor
open Go.RowKit Tryz
namespace Lg
open Px Ref
variable {s x:fq}{g:Px.Ps->Except Nat (Sm×Px.Ps)}
theorem Ak:Late (Px.block s g):=by
 intro st h;unfold Px.block;rw[if_neg (by simp[q9 h])];rfl
def MS (e:Px.Ex)(l m:List Sm):Sm:={ jk with op:=105,ex:=some e,one:=l,two:=m }
def Dy (s:fq)(g:Px.Ps->Except Nat (Sm×Px.Ps))(e:Px.Ex)(l:List Sm)(st:Px.Ps):Except Nat (Sm×Px.Ps) :=
 if gy s st.t ⟨#[101,108,115,101]⟩ then andThen (Px.block s g (Px.nx s st)) fun m gV=>.ok (MS e l m,gV) else .ok (MS e l [],st)
theorem Hw (s:fq)(g:Px.Ps->Except Nat (Sm×Px.Ps))(st:Px.Ps):pK s g st=andThen (jN s st) fun e st1=>andThen (Px.block s g st1) fun l st2=>Dy s g e l st2:=by
 unfold pK;cases jN s st with
 | error p=>rfl
 | ok r =>
  obtain ⟨e,st1⟩:=r;simp only[andThen];cases Px.block s g st1 with
  | error p=>rfl
  | ok r =>
   obtain ⟨l,st2⟩:=r;simp only[Dy];split
   ·simp only[andThen];cases Px.block s g (Px.nx s st2) with
    | error p=>rfl
    | ok r=>obtain ⟨m,gV⟩:=r;rfl
   ·rfl
theorem QA (s:fq)(g:Px.Ps->Except Nat (Sm×Px.Ps))(e:Px.Ex):∀ (l:List Sm) (st:Px.Ps),st.t.k=63->fin (Dy s g e l st)=.error st.t.a:=by
 intro l st h;unfold Dy;rw[if_neg (by simp[q9 h])];exact mJ _ h
def QB (l m:List Sm):Sm:={ jk with op:=116,one:=l,two:=m }
theorem LZ (s:fq)(g:Px.Ps->Except Nat (Sm×Px.Ps))(st:Px.Ps):kK s g st=andThen (Px.block s g st) fun l st1=>andThen (kI s ⟨#[101,108,115,101]⟩ st1) fun _ st2=>andThen (Px.block s g st2) fun m gV=>.ok (QB l m,gV):=by
 unfold kK;cases Px.block s g st with
 | error p=>rfl
 | ok r =>
  obtain ⟨l,st1⟩:=r;simp only[andThen];rw[FD];cases kI s ⟨#[101,108,115,101]⟩ st1 with
  | error p=>rfl
  | ok r =>
   obtain ⟨u,st2⟩:=r;simp only;cases Px.block s g st2 with
   | error p=>rfl
   | ok r=>obtain ⟨m,gV⟩:=r;rfl
def IZ (s:fq)(t:Px.Tok)(l:List Sm):Sm:={ jk with op:=114,n:=Px.valOf (s.extract t.a t.b).toList,gG:=t.a,one:=l }
theorem L8 (s:fq)(g:Px.Ps->Except Nat (Sm×Px.Ps))(st:Px.Ps):qz s g st=andThen (lT s 110 st) fun t st1=>andThen (Px.block s g st1) fun l st2=>.ok (IZ s t l,st2):=by
 unfold qz;rw[FC];cases h1:lT s 110 st with
 | error p=>rfl
 | ok r =>
  obtain ⟨t,st1⟩:=r;obtain ⟨rfl,_,_⟩:=tJ h1;simp only[andThen];cases Px.block s g st1 with
  | error p=>rfl
  | ok r=>obtain ⟨l,st2⟩:=r;rfl
def yu (b:Nat)(s:fq)(n:Nat)(eT eN:Addr)(g:Px.Ps->Except Nat (Sm×Px.Ps)):Prop :=
 ∀ (st:Px.Ps) (w:fu),gP s (n+1) st->Rd w b s st eT eN->Calls prog 150 #[.pointer (some ⟨b,0,none⟩)] w (Out b s eT eN w (Px.block s g st) (BV w))
variable {B b c d f k m n o p:Nat}{W w w' w0 w1 w2:fu}{v:fC}
theorem BV.later {l:List Sm}(hb:b < w0.heap.size)(hz:w0.heap.size<=w.heap.size)(h:BV w w1 l v)(k:Kp b w1 w2):∃ vs,kg w2 v vs (Ref.In w0 w2)/\gF w2 l (Ref.In w0 w2) vs:=by
 obtain ⟨vs,h1,h2⟩:=h;have hk:∀ i,Ref.In w w1 i->w2.heap[i]?=w1.heap[i]?:=fun i hi=>k.block i hi.2 (by have:=hi.1;omega)
 have hm:∀ i,Ref.In w w1 i->Ref.In w0 w2 i:=fun i hi=>⟨by have:=hi.1;omega,aV hi.2 k.size⟩
 exact ⟨vs,(h1.keep hk).mono hm,(h2.keep hk).mono hm⟩
theorem T7 (b:Nat)(s:fq)(n:Nat)(eT eN:Addr)(g:Px.Ps->Except Nat (Sm×Px.Ps))(hB:yu b s n eT eN g)(hg:Px.Goes s g)(hs:s.size<=maxLen)(st:Px.Ps)(w:fu)(hD:gP s (n+1) st)(r:Rd w b s st eT eN) :
  Calls prog 148 #[.pointer (some ⟨b,0,none⟩)] w (Out b s eT eN w (kK s g st) (Aj w 241)):=by
 have hb:=r.lt;have R:Hid (Rd w b s st eT eN/\gP s (n+1) st/\yu b s n eT eN g/\Px.Goes s (Px.block s g)):=⟨r,hD,hB,pE hg⟩;clear r hD hB hg;have E0:Hid (_=_):=LZ s g st;go_enter func148,ntmps148
 go_wp2_with fail;refine (R.o.2.2.1 st _ R.o.2.1 R.o.1).mono ?_;rintro e w1 ⟨k1,⟨l,st1,v,h1,rfl,hv1,r1⟩ | ⟨p,hp,ht⟩⟩
 ·have E1:Hid (_=_):=E0.o.trans (then_ok h1);have g1:=R.o.2.2.2 _ _ _ R.o.1.tk h1;have Al:∃ a n c,v=.slice a n c:=by obtain ⟨vs,q1,q2⟩:=hv1;exact q1.form
  obtain ⟨a1,n1,c1,rfl⟩:=Al;have H1:Hid (Kp b w w1/\BV w w1 l (.slice a1 n1 c1)/\Rd w1 b s st1 eT eN/\Px.Good s st st1):=⟨k1,hv1,r1,g1⟩;clear k1 hv1 r1 g1 h1;go_wp2_with fail;refine (Ad b s _ st1 eT eN _ H1.o.2.2.1 hs).mono ?_;rintro e w2 ⟨k2,⟨u,st2,v,h2,rfl,rfl,r2⟩ | ⟨p,hp,ht⟩⟩
  ·have E2:Hid (_=_):=E1.o.trans (then_ok h2);have g2:=H1.o.2.2.2.trans (Xr H1.o.2.2.1.tk h2);have H2:Hid (Kp b w1 w2/\Rd w2 b s st2 eT eN/\gP s (n+1) st2):=⟨k2,r2,R.o.2.1.good g2⟩;clear k2 r2 g2 h2;go_wp2_with fail;refine (R.o.2.2.1 st2 _ H2.o.2.2 H2.o.2.1).mono ?_;rintro e w3 ⟨k3,⟨m,gV,v,h3,rfl,hv3,r3⟩ | ⟨p,hp,ht⟩⟩
   ·have E3:Hid (_=_):=E2.o.trans (then_ok h3);have Al:∃ a n c,v=.slice a n c:=by obtain ⟨vs,q1,q2⟩:=hv3;exact q1.form
    obtain ⟨a3,n3,c3,rfl⟩:=Al;have H3:Hid (Kp b w2 w3/\BV w2 w3 m (.slice a3 n3 c3)/\Rd w3 b s gV eT eN):=⟨k3,hv3,r3⟩;clear k3 hv3 r3 h3;go_wp2_with fail;go_ret;have z1:=H1.o.1.size;have z2:=H2.o.1.size;have z3:=H3.o.1.size;have k13:=(H2.o.1.trans H3.o.1);obtain ⟨u1,f1,f2⟩:=BV.later hb (aj _) H1.o.2.1 (k13.alloc (.cells #[.slice a1 n1 c1,.slice a3 n3 c3] 310));obtain ⟨u3,f3,f4⟩:=BV.later hb (by omega) H3.o.2.1 ((Kp.refl b w3).alloc (.cells #[.slice a1 n1 c1,.slice a3 n3 c3] 310))
    refine ⟨(H1.o.1.trans k13).alloc _,ak ⟨_,_,_,E3.o,rfl,⟨w3.heap.size,rfl,?_⟩,H3.o.2.2.alloc _⟩⟩;exact ⟨.slice a1 n1 c1,.slice a3 n3 c3,u1,u3,⟨w3.heap.size,⟨by omega,by simp⟩,ah (ah (ah (ak ⟨rfl,rfl,new1⟩)))⟩,f1,f2,f3,f4⟩
   ·obtain ⟨c,rfl⟩:=ht.form;have yt:=H1.o.1.trans H2.o.1;exact ⟨rfl,yt.trans k3,ah ⟨p,by rw[E2.o];exact jB hp fun _ _ h=>mJ _ h,ht.low yt.size⟩⟩
  ·obtain ⟨c,rfl⟩:=ht.form;exact ⟨rfl,H1.o.1.trans k2,ah ⟨p,by rw[E1.o];exact jB hp fun _ st2 h=>jB (Ak st2 h) fun _ _ h'=>mJ _ h',ht.low H1.o.1.size⟩⟩
 ·obtain ⟨c,rfl⟩:=ht.form;exact ⟨rfl,k1,ah ⟨p,by rw[E0.o];exact jB hp fun _ st1 h=>jB (zx s _ st1 h) fun _ st2 h'=>jB (Ak st2 h') fun _ _ h''=>mJ _ h'',ht⟩⟩
theorem T8 (b:Nat)(s:fq)(n:Nat)(eT eN:Addr)(g:Px.Ps->Except Nat (Sm×Px.Ps))(hB:yu b s n eT eN g)(hg:Px.Goes s g)(hs:s.size<=maxLen)(st:Px.Ps)(w:fu)(hD:gP s (n+1) st)(r:Rd w b s st eT eN) :
  Calls prog 147 #[.pointer (some ⟨b,0,none⟩)] w (Out b s eT eN w (pK s g st) (Aj w 239)):=by
 have hb:=r.lt;have R:Hid (Rd w b s st eT eN/\gP s (n+1) st/\yu b s n eT eN g/\Px.Goes s (Px.block s g)):=⟨r,hD,hB,pE hg⟩;have hn0:=hD.n0;have hn1:st.fF+(s.size+1:Nat)<=1000000:=by have:=hD.n1;omega
 clear r hD hB hg;have E0:Hid (_=_):=Hw s g st;go_enter func147,ntmps147
 go_wp2_with fail;refine (Xp b s eT eN hs st _ R.o.1 hn0 hn1).mono ?_;rintro e w1 ⟨k1,⟨x,st1,v,h1,rfl,⟨qr,rfl,hv1⟩,r1⟩ | ⟨p,hp,ht⟩⟩
 ·have E1:Hid (_=_):=E0.o.trans (then_ok h1);have g1:=rX s _ _ _ R.o.1.tk h1;have H1:Hid (Kp b w w1/\jK w1 x (Ref.In w w1) qr/\Rd w1 b s st1 eT eN/\gP s (n+1) st1):=⟨k1,hv1,r1,R.o.2.1.good g1⟩;clear k1 hv1 r1 g1 h1;unfold Ref.ptr;go_wp2_with fail;refine (R.o.2.2.1 st1 _ H1.o.2.2.2 H1.o.2.2.1).mono ?_;rintro e w2 ⟨k2,⟨l,st2,v,h2,rfl,hv2,r2⟩ | ⟨p,hp,ht⟩⟩
  ·have E2:Hid (_=_):=E1.o.trans (then_ok h2);have g2:=R.o.2.2.2 _ _ _ H1.o.2.2.1.tk h2;have Al:∃ a n c,v=.slice a n c:=by obtain ⟨vs,q1,q2⟩:=hv2;exact q1.form
   obtain ⟨a2,n2,c2,rfl⟩:=Al;have H2:Hid (Kp b w1 w2/\BV w1 w2 l (.slice a2 n2 c2)/\Rd w2 b s st2 eT eN/\gP s (n+1) st2):=⟨k2,hv2,r2,H1.o.2.2.2.good g2⟩;have z2:=k2.size;clear k2 hv2 r2 g2 h2;go_wp2_with fail;refine (IY b s _ st2 eT eN _ (H2.o.2.2.1.alloc _) hs).mono ?_;rintro e w3 ⟨k3,⟨rfl,r3⟩ | ⟨ho,h63,ht⟩⟩
   ·have z1:=H1.o.1.size;have hg3:=xQ k3 (by omega)
    obtain ⟨d0,d1,d2,df⟩:=cells3 hg3;have z3:=k3.vR.size;have H3:Hid (Kp b w2 w3/\Rd w3 b s (xk s ⟨#[101,108,115,101]⟩ st2) eT eN/\w3.heap[w2.heap.size]?=_):=⟨k3.vR,r3,hg3⟩;have hq3:w2.heap.size < w3.heap.size:=lt_of_cell d0;clear k3 r3 hg3;cases ho:gy s st2.t ⟨#[101,108,115,101]⟩
    ·rw[FK ho] at H3;have E3:Hid (pK s g st=.ok (MS x l [],st2)):=by unfold Hid;rw[E2.o,Dy,if_neg (by simp[ho])]
     clear ho;go_wp2_with fail;go_ret;have k13:=H2.o.1.trans H3.o.1;obtain ⟨u1,f1,f2⟩:=BV.later hb z1 H2.o.2.1 H3.o.1;refine ⟨H1.o.1.trans k13,ak ⟨_,_,_,E3.o,rfl,⟨w2.heap.size,rfl,?_⟩,H3.o.2.1⟩⟩;refine ⟨.slice a2 n2 c2,.slice none 0 0,u1,[],⟨w2.heap.size,⟨by omega,hq3⟩,ah (ah (ak ⟨rfl,rfl,qr,x,H3.o.2.2,rfl,?_⟩))⟩,f1,f2,ak ⟨rfl,rfl⟩,gF.nQ.2 rfl⟩
     exact (H1.o.2.1.keep fun i hi=>k13.block i hi.2 (by have:=hi.1;omega)).mono fun i hi=>⟨hi.1,by have:=hi.2;omega⟩
    ·have g3:=gX H2.o.2.2.1.tk ho;rw[FJ ho] at H3;have E3:Hid (pK s g st=andThen (Px.block s g (Px.nx s st2)) fun m gV=>.ok (MS x l m,gV)):=by unfold Hid;rw[E2.o,Dy,if_pos ho]
     have D3:Hid (gP s (n+1) (Px.nx s st2)):=H2.o.2.2.2.good g3;clear ho g3;go_wp2_with fail;refine (R.o.2.2.1 (Px.nx s st2) _ D3.o H3.o.2.1).mono ?_;rintro e w4 ⟨k4,⟨m,jL,v,h4,rfl,hv4,r4⟩ | ⟨p,hp,ht⟩⟩
     ·have E4:Hid (_=_):=E3.o.trans (then_ok h4);have Al:∃ a n c,v=.slice a n c:=by obtain ⟨vs,q1,q2⟩:=hv4;exact q1.form
      obtain ⟨a4,n4,c4,rfl⟩:=Al;have hg4:w4.heap[w2.heap.size]?=_:=(k4.block _ hq3 (by omega)).trans H3.o.2.2
      obtain ⟨e0,e1,e2,ef⟩:=cells3 hg4;have H4:Hid (Kp b w3 w4/\BV w3 w4 m (.slice a4 n4 c4)/\Rd w4 b s jL eT eN/\w4.heap[w2.heap.size]?=_):=⟨k4,hv4,r4,hg4⟩;have z4:=k4.size;clear k4 hv4 r4 hg4 h4 d0 d1 d2 df;go_wp2_with fail;go_ret;have hne:∀ i,Ref.In w3 w4 i->i≠w2.heap.size:=fun i hi=>by have:=hi.1;omega
      have kS:∀ i,i≠w2.heap.size->(w4.setCell ⟨w2.heap.size,2,none⟩ (.slice a4 n4 c4)).heap[i]?=w4.heap[i]?:=fun i hi=>jr _ hi
      have k24:=H3.o.1.trans H4.o.1;have k14:=H2.o.1.trans k24;have zS:(w4.setCell ⟨w2.heap.size,2,none⟩ (.slice a4 n4 c4)).heap.size=w4.heap.size:=Ref.size_set _ _ _;refine ⟨(H1.o.1.trans k14).gI (by omega) _,ak ⟨_,_,_,E4.o,rfl,⟨w2.heap.size,rfl,?_⟩,H4.o.2.2.1.yj H4.o.2.2.2 (by decide) (by omega) _⟩⟩
      obtain ⟨u1,f1,f2⟩:=BV.later (w0:=w1) (by omega) (aj _) H2.o.2.1 (Kp.refl b w2)
      obtain ⟨u3,f3,f4⟩:=H4.o.2.1;have hk1:∀ i,Ref.In w1 w2 i->(w4.setCell ⟨w2.heap.size,2,none⟩ (.slice a4 n4 c4)).heap[i]?=w2.heap[i]?:=fun i hi=>(kS i (by have:=hi.2;omega)).trans (k24.block i hi.2 (by have:=hi.1;omega))
      have hm1:∀ i,Ref.In w1 w2 i->Ref.In w (w4.setCell ⟨w2.heap.size,2,none⟩ (.slice a4 n4 c4)) i:=fun i hi=>⟨by have:=hi.1;omega,by rw[zS];have:=hi.2;omega⟩
      have hk3:∀ i,Ref.In w3 w4 i->(w4.setCell ⟨w2.heap.size,2,none⟩ (.slice a4 n4 c4)).heap[i]?=w4.heap[i]?:=fun i hi=>kS i (hne i hi)
      have FL:∀ i,Ref.In w3 w4 i->Ref.In w (w4.setCell ⟨w2.heap.size,2,none⟩ (.slice a4 n4 c4)) i:=fun i hi=>⟨by have:=hi.1;omega,by rw[zS];exact hi.2⟩
      refine ⟨.slice a2 n2 c2,.slice a4 n4 c4,u1,u3,⟨w2.heap.size,⟨by omega,by rw[zS];omega⟩,ah (ah (ak ⟨rfl,rfl,qr,x,?_,rfl,?_⟩))⟩,(f1.keep hk1).mono hm1,(f2.keep hk1).mono hm1,(f3.keep hk3).mono FL,(f4.keep hk3).mono FL⟩
      ·rw[Ref.heap_set _ H4.o.2.2.2];simp[Ref.ptr]
      ·exact (H1.o.2.1.keep fun i hi=>(kS i (by have:=hi.2;omega)).trans (k14.block i hi.2 (by have:=hi.1;omega))).mono fun i hi=>⟨hi.1,by rw[zS];have:=hi.2;omega⟩
     ·obtain ⟨c,rfl⟩:=ht.form;have IX:=(H1.o.1.trans H2.o.1).trans H3.o.1;exact ⟨rfl,IX.trans k4,ah ⟨p,by rw[E3.o];exact jB hp fun _ _ h=>mJ _ h,ht.low IX.size⟩⟩
   ·obtain ⟨c,rfl⟩:=ht.form;have yt:=H1.o.1.trans H2.o.1;exact ⟨rfl,yt.trans k3.vR,ah ⟨_,by rw[E2.o,Dy,if_pos ho];exact jB (Ak _ h63) fun _ _ h=>mJ _ h,ht.low (by have:=yt.size;simp;omega)⟩⟩
  ·obtain ⟨c,rfl⟩:=ht.form;exact ⟨rfl,H1.o.1.trans k2,ah ⟨p,by rw[E1.o];exact jB hp (QA s g x),ht.low H1.o.1.size⟩⟩
 ·obtain ⟨c,rfl⟩:=ht.form;exact ⟨rfl,k1,ah ⟨p,by rw[E0.o];exact jB hp fun e st1 h=>jB (Ak st1 h) (QA s g e),ht⟩⟩
def I4 (r:Except Nat (Sm×Px.Ps)):Except Nat (Option Sm×Px.Ps) :=
 match r with
 | .ok (x,st')=>.ok (some x,st')
 | .error p=>.error p
variable {st:Px.Ps}{r:Except Nat (Sm×Px.Ps)}
theorem uQ (hs:starts s st=true)(h:Px.stmt s n st=r):qd s (Px.stmt s n) st=I4 r:=by
 unfold qd;rw[if_pos hs,h];rfl
theorem wD (hs:starts s st=true)(h:Px.stmt s n st=r)(hp:fin r=.error p):fin (qd s (Px.stmt s n) st)=.error p:=by
 rw[uQ hs h];rcases wZ hp with rfl | ⟨x,st',rfl,h1,rfl⟩
 ·rfl
 ·exact mJ _ h1
theorem Up (s:fq):Late (kJ s):=by
 intro st h;rw[LY];exact jB (Fz s (by decide) st h) (Xv s)
theorem Vc (s:fq):Late (Px.call s):=by
 intro st h;rw[LV];exact jB (Fz s (by decide) st h) fun t st1 h1=>jB (zx s _ st1 h1) fun _ st2 h'=>Qw s _ st2 h'
theorem V0:Late (pK s g):=by
 intro st h;rw[Hw];exact jB (Ql s st h) fun e st1 h1=>jB (Ak st1 h1) (QA s g e)
theorem V1:Late (kK s g):=by
 intro st h;rw[LZ];exact jB (Ak st h) fun _ st1 h=>jB (zx s _ st1 h) fun _ st2 h'=>jB (Ak st2 h') fun _ _ h''=>mJ _ h''
theorem V2:Late (qz s g):=by
 intro st h;rw[L8];exact jB (Fz s (by decide) st h) fun _ st1 h=>jB (Ak st1 h) fun _ _ h'=>mJ _ h'
theorem FM (hD:gP s (n+1) st)(ho:gy s st.t x=true):gP s (n+1) (Px.nx s st):=hD.good (gX hD.tk ho)
theorem nS.low {x:Sm}(h:nS w' x (Ref.In w w') v)(hz:w0.heap.size<=w.heap.size):nS w' x (Ref.In w0 w') v:=h.mono fun i hi=>⟨by have:=hi.1;omega,hi.2⟩
theorem Hy (b:Nat)(s:fq)(n:Nat)(eT eN:Addr)(hs:s.size<=maxLen)(st:Px.Ps)(w:fu)(hD:gP s (n+1) st)(r:Rd w b s st eT eN)(h1:gy s st.t ⟨#[108,101,116]⟩=true) :
  Calls prog 95 #[.pointer (some ⟨b,0,none⟩)] w (Out b s eT eN w (qd s (Px.stmt s (n+1)) st) (BG w)):=by
 have hS:Hid (starts s st=true/\Px.stmt s (n+1) st=kJ s (Px.nx s st)):=⟨by unfold starts;rw[h1];simp,by rw[Px.stmt,if_pos h1]⟩
 have R:Hid (Rd w b s st eT eN/\True):=⟨r,trivial⟩;have hn0:=hD.n0;have hn1:st.fF+(s.size+1:Nat)<=1000000:=by have:=hD.n1;omega
 have D1:Hid (gP s (n+1) (Px.nx s st)):=FM hD h1;clear r hD;go_enter func95,ntmps95
 go_wp2_with fail;refine (wY b s _ st eT eN _ R.o.1 hs h1).mono ?_;rintro e w1 ⟨k1,⟨u,st1,v,he,rfl,rfl,r1⟩ | ⟨p,hp,ht⟩⟩
 ·cases he;have H1:Hid (Kp b w w1/\Rd w1 b s (Px.nx s st) eT eN):=⟨k1,r1⟩;have z1:=k1.size;clear k1 r1;go_wp2_with fail;refine (T4 b s eT eN hs _ _ H1.o.2 (show 0<=(Px.nx s st).fF from hn0) hn1).mono ?_;rintro e w2 ⟨k2,⟨x,st2,v,h2,rfl,⟨q,rfl,hv⟩,r2⟩ | ⟨p,hp,ht⟩⟩
  ·have E:Hid (qd s (Px.stmt s (n+1)) st=.ok (some x,st2)):=by unfold Hid;rw[uQ hS.o.1 hS.o.2,h2];rfl
   have H2:Hid (Kp b w1 w2/\nS w2 x (Ref.In w1 w2) (.iface 226 (Ref.ptr q))/\Rd w2 b s st2 eT eN):=⟨k2,hv,r2⟩;clear k2 h2 hv r2;unfold Ref.ptr at H2 |-;go_wp2_with fail;go_ret2;exact ⟨H1.o.1.trans H2.o.1,ak ⟨_,_,_,E.o,rfl,⟨_,rfl,H2.o.2.1.low z1⟩,H2.o.2.2⟩⟩
  ·obtain ⟨c,rfl⟩:=ht.form;exact ⟨rfl,H1.o.1.trans k2,ah ⟨p,wD hS.o.1 hS.o.2 hp,ht.low H1.o.1.size⟩⟩
 ·obtain ⟨c,rfl⟩:=ht.form;obtain ⟨h63,rfl⟩:=rR hp;exact ⟨rfl,k1,ah ⟨_,wD hS.o.1 hS.o.2 (Up s _ h63),ht⟩⟩
theorem Hz (b:Nat)(s:fq)(n:Nat)(eT eN:Addr)(hs:s.size<=maxLen)(st:Px.Ps)(w:fu)(hD:gP s (n+1) st)(r:Rd w b s st eT eN)(h1:gy s st.t ⟨#[108,101,116]⟩=false)(h2:gy s st.t ⟨#[99,97,108,108]⟩=true) :
  Calls prog 95 #[.pointer (some ⟨b,0,none⟩)] w (Out b s eT eN w (qd s (Px.stmt s (n+1)) st) (BG w)):=by
 have hS:Hid (starts s st=true/\Px.stmt s (n+1) st=Px.call s (Px.nx s st)):=⟨by unfold starts;rw[h2];simp,by rw[Px.stmt,if_neg (by simp[h1]),if_pos h2]⟩
 have R:Hid (Rd w b s st eT eN/\True):=⟨r,trivial⟩;have hn0:=hD.n0;have hn1:st.fF+(s.size+1:Nat)<=1000000:=by have:=hD.n1;omega
 have D1:Hid (gP s (n+1) (Px.nx s st)):=FM hD h2;clear r hD;go_enter func95,ntmps95
 go_wp2_with fail;refine (nV b s _ st eT eN _ R.o.1 h1).mono ?_;rintro e w1 ⟨rfl,rfl⟩;go_wp2_with fail;refine (wY b s _ st eT eN _ R.o.1 hs h2).mono ?_;rintro e w1 ⟨k1,⟨u,st1,v,he,rfl,rfl,r1⟩ | ⟨p,hp,ht⟩⟩
 ·cases he;have H1:Hid (Kp b w w1/\Rd w1 b s (Px.nx s st) eT eN):=⟨k1,r1⟩;have z1:=k1.size;clear k1 r1;go_wp2_with fail;refine (Qy b s eT eN hs _ _ H1.o.2 (show 0<=(Px.nx s st).fF from hn0) hn1).mono ?_;rintro e w2 ⟨k2,⟨x,st2,v,h2,rfl,⟨q,rfl,hv⟩,r2⟩ | ⟨p,hp,ht⟩⟩
  ·have E:Hid (qd s (Px.stmt s (n+1)) st=.ok (some x,st2)):=by unfold Hid;rw[uQ hS.o.1 hS.o.2,h2];rfl
   have H2:Hid (Kp b w1 w2/\nS w2 x (Ref.In w1 w2) (.iface 237 (Ref.ptr q))/\Rd w2 b s st2 eT eN):=⟨k2,hv,r2⟩;clear k2 h2 hv r2;unfold Ref.ptr at H2 |-;go_wp2_with fail;go_ret2;exact ⟨H1.o.1.trans H2.o.1,ak ⟨_,_,_,E.o,rfl,⟨_,rfl,H2.o.2.1.low z1⟩,H2.o.2.2⟩⟩
  ·obtain ⟨c,rfl⟩:=ht.form;exact ⟨rfl,H1.o.1.trans k2,ah ⟨p,wD hS.o.1 hS.o.2 hp,ht.low H1.o.1.size⟩⟩
 ·obtain ⟨c,rfl⟩:=ht.form;obtain ⟨h63,rfl⟩:=rR hp;exact ⟨rfl,k1,ah ⟨_,wD hS.o.1 hS.o.2 (Vc s _ h63),ht⟩⟩
theorem Ia (b:Nat)(s:fq)(n:Nat)(eT eN:Addr)(hB:yu b s n eT eN (Px.stmt s n))(hs:s.size<=maxLen)(st:Px.Ps)(w:fu)(hD:gP s (n+1) st)(r:Rd w b s st eT eN)(h1:gy s st.t ⟨#[108,101,116]⟩=false)(h2:gy s st.t ⟨#[99,97,108,108]⟩=false)(h3:gy s st.t ⟨#[105,102]⟩=true) :
  Calls prog 95 #[.pointer (some ⟨b,0,none⟩)] w (Out b s eT eN w (qd s (Px.stmt s (n+1)) st) (BG w)):=by
 have hS:Hid (starts s st=true/\Px.stmt s (n+1) st=pK s (Px.stmt s n) (Px.nx s st)):=⟨by unfold starts;rw[h3];simp,by rw[Px.stmt,if_neg (by simp[h1]),if_neg (by simp[h2]),if_pos h3]⟩
 have R:Hid (Rd w b s st eT eN/\yu b s n eT eN (Px.stmt s n)):=⟨r,hB⟩;have hn0:=hD.n0;have hn1:st.fF+(s.size+1:Nat)<=1000000:=by have:=hD.n1;omega
 have D1:Hid (gP s (n+1) (Px.nx s st)):=FM hD h3;clear r hD hB;go_enter func95,ntmps95
 go_wp2_with fail;refine (nV b s _ st eT eN _ R.o.1 h1).mono ?_;rintro e w1 ⟨rfl,rfl⟩;go_wp2_with fail;refine (nV b s _ st eT eN _ R.o.1 h2).mono ?_;rintro e w1 ⟨rfl,rfl⟩;go_wp2_with fail;refine (wY b s _ st eT eN _ R.o.1 hs h3).mono ?_;rintro e w1 ⟨k1,⟨u,st1,v,he,rfl,rfl,r1⟩ | ⟨p,hp,ht⟩⟩
 ·cases he;have H1:Hid (Kp b w w1/\Rd w1 b s (Px.nx s st) eT eN):=⟨k1,r1⟩;have z1:=k1.size;clear k1 r1;go_wp2_with fail;refine (T8 b s n eT eN _ R.o.2 (jS s n) hs _ _ D1.o H1.o.2).mono ?_;rintro e w2 ⟨k2,⟨x,st2,v,h2,rfl,⟨q,rfl,hv⟩,r2⟩ | ⟨p,hp,ht⟩⟩
  ·have E:Hid (qd s (Px.stmt s (n+1)) st=.ok (some x,st2)):=by unfold Hid;rw[uQ hS.o.1 hS.o.2,h2];rfl
   have H2:Hid (Kp b w1 w2/\nS w2 x (Ref.In w1 w2) (.iface 239 (Ref.ptr q))/\Rd w2 b s st2 eT eN):=⟨k2,hv,r2⟩;clear k2 h2 hv r2;unfold Ref.ptr at H2 |-;go_wp2_with fail;go_ret2;exact ⟨H1.o.1.trans H2.o.1,ak ⟨_,_,_,E.o,rfl,⟨_,rfl,H2.o.2.1.low z1⟩,H2.o.2.2⟩⟩
  ·obtain ⟨c,rfl⟩:=ht.form;exact ⟨rfl,H1.o.1.trans k2,ah ⟨p,wD hS.o.1 hS.o.2 hp,ht.low H1.o.1.size⟩⟩
 ·obtain ⟨c,rfl⟩:=ht.form;obtain ⟨h63,rfl⟩:=rR hp;exact ⟨rfl,k1,ah ⟨_,wD hS.o.1 hS.o.2 (V0 _ h63),ht⟩⟩
theorem Ib (b:Nat)(s:fq)(n:Nat)(eT eN:Addr)(hB:yu b s n eT eN (Px.stmt s n))(hs:s.size<=maxLen)(st:Px.Ps)(w:fu)(hD:gP s (n+1) st)(r:Rd w b s st eT eN)(h1:gy s st.t ⟨#[108,101,116]⟩=false)(h2:gy s st.t ⟨#[99,97,108,108]⟩=false)(h3:gy s st.t ⟨#[105,102]⟩=false)(h4:gy s st.t ⟨#[116,114,121]⟩=true) :
  Calls prog 95 #[.pointer (some ⟨b,0,none⟩)] w (Out b s eT eN w (qd s (Px.stmt s (n+1)) st) (BG w)):=by
 have hS:Hid (starts s st=true/\Px.stmt s (n+1) st=kK s (Px.stmt s n) (Px.nx s st)):=⟨by unfold starts;rw[h4];simp,by rw[Px.stmt,if_neg (by simp[h1]),if_neg (by simp[h2]),if_neg (by simp[h3]),if_pos h4]⟩
 have R:Hid (Rd w b s st eT eN/\yu b s n eT eN (Px.stmt s n)):=⟨r,hB⟩;have hn0:=hD.n0;have hn1:st.fF+(s.size+1:Nat)<=1000000:=by have:=hD.n1;omega
 have D1:Hid (gP s (n+1) (Px.nx s st)):=FM hD h4;clear r hD hB;go_enter func95,ntmps95
 go_wp2_with fail;refine (nV b s _ st eT eN _ R.o.1 h1).mono ?_;rintro e w1 ⟨rfl,rfl⟩;go_wp2_with fail;refine (nV b s _ st eT eN _ R.o.1 h2).mono ?_;rintro e w1 ⟨rfl,rfl⟩;go_wp2_with fail;refine (nV b s _ st eT eN _ R.o.1 h3).mono ?_;rintro e w1 ⟨rfl,rfl⟩;go_wp2_with fail;refine (wY b s _ st eT eN _ R.o.1 hs h4).mono ?_;rintro e w1 ⟨k1,⟨u,st1,v,he,rfl,rfl,r1⟩ | ⟨p,hp,ht⟩⟩
 ·cases he;have H1:Hid (Kp b w w1/\Rd w1 b s (Px.nx s st) eT eN):=⟨k1,r1⟩;have z1:=k1.size;clear k1 r1;go_wp2_with fail;refine (T7 b s n eT eN _ R.o.2 (jS s n) hs _ _ D1.o H1.o.2).mono ?_;rintro e w2 ⟨k2,⟨x,st2,v,h2,rfl,⟨q,rfl,hv⟩,r2⟩ | ⟨p,hp,ht⟩⟩
  ·have E:Hid (qd s (Px.stmt s (n+1)) st=.ok (some x,st2)):=by unfold Hid;rw[uQ hS.o.1 hS.o.2,h2];rfl
   have H2:Hid (Kp b w1 w2/\nS w2 x (Ref.In w1 w2) (.iface 241 (Ref.ptr q))/\Rd w2 b s st2 eT eN):=⟨k2,hv,r2⟩;clear k2 h2 hv r2;unfold Ref.ptr at H2 |-;go_wp2_with fail;go_ret2;exact ⟨H1.o.1.trans H2.o.1,ak ⟨_,_,_,E.o,rfl,⟨_,rfl,H2.o.2.1.low z1⟩,H2.o.2.2⟩⟩
  ·obtain ⟨c,rfl⟩:=ht.form;exact ⟨rfl,H1.o.1.trans k2,ah ⟨p,wD hS.o.1 hS.o.2 hp,ht.low H1.o.1.size⟩⟩
 ·obtain ⟨c,rfl⟩:=ht.form;obtain ⟨h63,rfl⟩:=rR hp;exact ⟨rfl,k1,ah ⟨_,wD hS.o.1 hS.o.2 (V1 _ h63),ht⟩⟩
theorem Wa (b:Nat)(s:fq)(n:Nat)(eT eN:Addr)(hB:yu b s n eT eN (Px.stmt s n))(hs:s.size<=maxLen)(st:Px.Ps)(w:fu)(hD:gP s (n+1) st)(r:Rd w b s st eT eN)(h1:gy s st.t ⟨#[108,101,116]⟩=false)(h2:gy s st.t ⟨#[99,97,108,108]⟩=false)(h3:gy s st.t ⟨#[105,102]⟩=false)(h4:gy s st.t ⟨#[116,114,121]⟩=false)(h5:gy s st.t ⟨#[114,101,112,101,97,116]⟩=true) :
  Calls prog 95 #[.pointer (some ⟨b,0,none⟩)] w (Out b s eT eN w (qd s (Px.stmt s (n+1)) st) (BG w)):=by
 have hS:Hid (starts s st=true/\Px.stmt s (n+1) st=qz s (Px.stmt s n) (Px.nx s st)):=⟨by unfold starts;rw[h5];simp,by rw[Px.stmt,if_neg (by simp[h1]),if_neg (by simp[h2]),if_neg (by simp[h3]),if_neg (by simp[h4]),if_pos h5]⟩
 have R:Hid (Rd w b s st eT eN/\yu b s n eT eN (Px.stmt s n)):=⟨r,hB⟩;have hn0:=hD.n0;have hn1:st.fF+(s.size+1:Nat)<=1000000:=by have:=hD.n1;omega
 have D1:Hid (gP s (n+1) (Px.nx s st)):=FM hD h5;clear r hD hB;go_enter func95,ntmps95
 go_wp2_with fail;refine (nV b s _ st eT eN _ R.o.1 h1).mono ?_;rintro e w1 ⟨rfl,rfl⟩;go_wp2_with fail;refine (nV b s _ st eT eN _ R.o.1 h2).mono ?_;rintro e w1 ⟨rfl,rfl⟩;go_wp2_with fail;refine (nV b s _ st eT eN _ R.o.1 h3).mono ?_;rintro e w1 ⟨rfl,rfl⟩;go_wp2_with fail;refine (nV b s _ st eT eN _ R.o.1 h4).mono ?_;rintro e w1 ⟨rfl,rfl⟩;go_wp2_with fail;refine (wY b s _ st eT eN _ R.o.1 hs h5).mono ?_;rintro e w1 ⟨k1,⟨u,st1,v,he,rfl,rfl,r1⟩ | ⟨p,hp,ht⟩⟩
 ·cases he;have H1:Hid (Kp b w w1/\Rd w1 b s (Px.nx s st) eT eN):=⟨k1,r1⟩;have z1:=k1.size;clear k1 r1;go_wp2_with fail;have E0:Hid (qz s (Px.stmt s n) (Px.nx s st)=_):=L8 s (Px.stmt s n) (Px.nx s st);refine (Af b s (Px.nx s st) eT eN _ H1.o.2 hs).mono ?_;rintro e w2 ⟨k2,⟨t,st2,v,h2,rfl,⟨qn,rfl,hv⟩,r2⟩ | ⟨p,hp,ht⟩⟩
  ·have E2:Hid (_=_):=E0.o.trans (then_ok h2);have g2:=Xq H1.o.2.tk (by decide) (by decide) h2
   have H2:Hid (Kp b w1 w2/\ji w2 (Px.valOf (s.extract t.a t.b).toList) t.a (Ref.In w1 w2) qn/\Rd w2 b s st2 eT eN/\gP s (n+1) st2):=⟨k2,hv,r2,D1.o.good g2⟩;have z2:=k2.size;clear k2 hv r2 g2 h2;unfold Ref.ptr;go_wp2_with fail;refine (R.o.2 st2 _ H2.o.2.2.2 H2.o.2.2.1).mono ?_;rintro e w3 ⟨k3,⟨l,gV,v,h3,rfl,hv3,r3⟩ | ⟨p,hp,ht⟩⟩
   ·have E3:Hid (qd s (Px.stmt s (n+1)) st=.ok (some (IZ s t l),gV)):=by unfold Hid;rw[uQ hS.o.1 (hS.o.2.trans (E2.o.trans (then_ok h3)))];rfl
    have Al:∃ a n c,v=.slice a n c:=by obtain ⟨vs,q1,q2⟩:=hv3;exact q1.form
    obtain ⟨a3,n3,c3,rfl⟩:=Al;have H3:Hid (Kp b w2 w3/\BV w2 w3 l (.slice a3 n3 c3)/\Rd w3 b s gV eT eN):=⟨k3,hv3,r3⟩;have z3:=k3.size;clear k3 hv3 r3 h3;go_wp2_with fail;go_ret2;have hbw:=R.o.1.lt;obtain ⟨u3,f3,f4⟩:=BV.later hbw (by omega) H3.o.2.1 ((Kp.refl b w3).alloc (.cells #[.pointer (some ⟨qn,0,none⟩),.slice a3 n3 c3] 280))
    refine ⟨((H1.o.1.trans H2.o.1).trans H3.o.1).alloc _,ak ⟨_,_,_,E3.o,rfl,⟨_,rfl,?_⟩,H3.o.2.2.alloc _⟩⟩;refine ⟨.slice a3 n3 c3,.slice none 0 0,u3,[],⟨w3.heap.size,⟨by omega,by simp⟩,ah (ah (ah (ah (ak ⟨rfl,rfl,qn,new1,?_⟩))))⟩,f3,f4,ak ⟨rfl,rfl⟩,gF.nQ.2 rfl⟩
    exact (H2.o.2.1.keep fun i hi=>(H3.o.1.alloc _).block i hi.2 (by have:=hi.1;omega)).mono fun i hi=>⟨by have:=hi.1;omega,by have:=hi.2;simp;omega⟩
   ·obtain ⟨c,rfl⟩:=ht.form;have yt:=H1.o.1.trans H2.o.1;exact ⟨rfl,yt.trans k3,ah ⟨p,wD hS.o.1 (hS.o.2.trans E2.o) (jB hp fun _ _ h=>mJ _ h),ht.low yt.size⟩⟩
  ·obtain ⟨c,rfl⟩:=ht.form;exact ⟨rfl,H1.o.1.trans k2,ah ⟨p,wD hS.o.1 (hS.o.2.trans E0.o) (jB hp fun _ st1 h=>jB (Ak st1 h) fun _ _ h'=>mJ _ h'),ht.low H1.o.1.size⟩⟩
 ·obtain ⟨c,rfl⟩:=ht.form;obtain ⟨h63,rfl⟩:=rR hp;exact ⟨rfl,k1,ah ⟨_,wD hS.o.1 hS.o.2 (V2 _ h63),ht⟩⟩
theorem Wb (h:gy s st.t ⟨#[102,97,105,108]⟩=true):uh s st=andThen (kI s ⟨#[59]⟩ (Px.nx s st)) fun _ st2=>.ok ({ jk with op:=102 },st2):=by
 unfold uh;rw[show Px.need s ⟨#[102,97,105,108]⟩ st=.ok (Px.nx s st) from by unfold Px.need;rw[if_pos h]]
 simp only;rw[FD];cases kI s ⟨#[59]⟩ (Px.nx s st) with
 | error p=>rfl
 | ok r=>obtain ⟨u,st2⟩:=r;rfl
theorem HY (b:Nat)(s:fq)(n:Nat)(eT eN:Addr)(hs:s.size<=maxLen)(st:Px.Ps)(w:fu)(hD:gP s (n+1) st)(r:Rd w b s st eT eN)(h1:gy s st.t ⟨#[108,101,116]⟩=false)(h2:gy s st.t ⟨#[99,97,108,108]⟩=false)(h3:gy s st.t ⟨#[105,102]⟩=false)(h4:gy s st.t ⟨#[116,114,121]⟩=false)(h5:gy s st.t ⟨#[114,101,112,101,97,116]⟩=false)(h6:gy s st.t ⟨#[102,97,105,108]⟩=true) :
  Calls prog 95 #[.pointer (some ⟨b,0,none⟩)] w (Out b s eT eN w (qd s (Px.stmt s (n+1)) st) (BG w)):=by
 have hS:Hid (starts s st=true/\Px.stmt s (n+1) st=andThen (kI s ⟨#[59]⟩ (Px.nx s st)) fun _ st2=>.ok ({ jk with op:=102 },st2)):=⟨by unfold starts;rw[h6];simp,by rw[Px.stmt,if_neg (by simp[h1]),if_neg (by simp[h2]),if_neg (by simp[h3]),if_neg (by simp[h4]),if_neg (by simp[h5]),Wb h6]⟩
 have R:Hid (Rd w b s st eT eN/\True):=⟨r,trivial⟩;have hn0:=hD.n0;have hn1:st.fF+(s.size+1:Nat)<=1000000:=by have:=hD.n1;omega
 have D1:Hid (gP s (n+1) (Px.nx s st)):=FM hD h6;clear r hD;go_enter func95,ntmps95
 go_wp2_with fail;refine (nV b s _ st eT eN _ R.o.1 h1).mono ?_;rintro e w1 ⟨rfl,rfl⟩;go_wp2_with fail;refine (nV b s _ st eT eN _ R.o.1 h2).mono ?_;rintro e w1 ⟨rfl,rfl⟩;go_wp2_with fail;refine (nV b s _ st eT eN _ R.o.1 h3).mono ?_;rintro e w1 ⟨rfl,rfl⟩;go_wp2_with fail;refine (nV b s _ st eT eN _ R.o.1 h4).mono ?_;rintro e w1 ⟨rfl,rfl⟩;go_wp2_with fail;refine (nV b s _ st eT eN _ R.o.1 h5).mono ?_;rintro e w1 ⟨rfl,rfl⟩;go_wp2_with fail;refine (wY b s _ st eT eN _ R.o.1 hs h6).mono ?_;rintro e w1 ⟨k1,⟨u,st1,v,he,rfl,rfl,r1⟩ | ⟨p,hp,ht⟩⟩
 ·cases he;have H1:Hid (Kp b w w1/\Rd w1 b s (Px.nx s st) eT eN):=⟨k1,r1⟩;have z1:=k1.size;clear k1 r1;go_wp2_with fail;refine (Ad b s _ (Px.nx s st) eT eN _ H1.o.2 hs).mono ?_;rintro e w2 ⟨k2,⟨u,st2,v,h2,rfl,rfl,r2⟩ | ⟨p,hp,ht⟩⟩
  ·have E:Hid (qd s (Px.stmt s (n+1)) st=.ok (some { jk with op:=102 },st2)):=by unfold Hid;rw[uQ hS.o.1 (hS.o.2.trans (then_ok h2))];rfl
   have H2:Hid (Kp b w1 w2/\Rd w2 b s st2 eT eN):=⟨k2,r2⟩;have z2:=k2.size;clear k2 h2 r2;go_wp2_with fail;go_ret2;exact ⟨(H1.o.1.trans H2.o.1).alloc _,ak ⟨_,_,_,E.o,rfl,⟨_,rfl,⟨.slice none 0 0,.slice none 0 0,[],[],⟨w2.heap.size,⟨by omega,by simp⟩,ah (ah (ah (ah (ah ⟨rfl,rfl⟩))))⟩,ak ⟨rfl,rfl⟩,gF.nQ.2 rfl,ak ⟨rfl,rfl⟩,gF.nQ.2 rfl⟩⟩,H2.o.2.alloc _⟩⟩
  ·obtain ⟨c,rfl⟩:=ht.form;exact ⟨rfl,H1.o.1.trans k2,ah ⟨p,wD hS.o.1 hS.o.2 (jB hp fun _ _ h=>mJ _ h),ht.low H1.o.1.size⟩⟩
 ·obtain ⟨c,rfl⟩:=ht.form;obtain ⟨h63,rfl⟩:=rR hp;exact ⟨rfl,k1,ah ⟨_,wD hS.o.1 hS.o.2 (jB (zx s _ _ h63) fun _ _ h=>mJ _ h),ht⟩⟩
theorem We (b:Nat)(s:fq)(n:Nat)(eT eN:Addr)(st:Px.Ps)(w:fu)(r:Rd w b s st eT eN)(hS:starts s st=false) :
  Calls prog 95 #[.pointer (some ⟨b,0,none⟩)] w (Out b s eT eN w (qd s (Px.stmt s (n+1)) st) (BG w)):=by
 have E:Hid (qd s (Px.stmt s (n+1)) st=.ok (none,st)):=by unfold Hid qd;rw[if_neg (by simp[hS])]
 unfold starts at hS;simp only[dS] at hS;obtain ⟨⟨⟨⟨⟨h1,h2⟩,h3⟩,h4⟩,h5⟩,h6⟩:=hS;have R:Hid (_):=r;clear r;go_enter func95,ntmps95
 go_wp2_with fail;refine (nV b s _ st eT eN _ R.o h1).mono ?_;rintro e w1 ⟨rfl,rfl⟩;go_wp2_with fail;refine (nV b s _ st eT eN _ R.o h2).mono ?_;rintro e w1 ⟨rfl,rfl⟩;go_wp2_with fail;refine (nV b s _ st eT eN _ R.o h3).mono ?_;rintro e w1 ⟨rfl,rfl⟩;go_wp2_with fail;refine (nV b s _ st eT eN _ R.o h4).mono ?_;rintro e w1 ⟨rfl,rfl⟩;go_wp2_with fail;refine (nV b s _ st eT eN _ R.o h5).mono ?_;rintro e w1 ⟨rfl,rfl⟩;go_wp2_with fail;refine (nV b s _ st eT eN _ R.o h6).mono ?_;rintro e w1 ⟨rfl,rfl⟩;go_wp2_with fail;go_ret2;exact ⟨Kp.refl _ _,ak ⟨_,_,_,E.o,rfl,rfl,R.o⟩⟩
theorem Wf (b:Nat)(s:fq)(eT eN:Addr)(hs3:s.size<=300)(n:Nat):IW b s n eT eN (Px.stmt s n):=by
 have hs:s.size<=maxLen:=by unfold maxLen;omega
 induction n with
 | zero=>intro st w hD r;have:=hD.room;omega
 | succ n ih =>
  intro st w hD r;have hB:yu b s n eT eN (Px.stmt s n):=fun st w hD r=>Qp b s n eT eN _ ih (jS s n) (fun st h=>Qo h) hs3 st w hD r
  cases h1:gy s st.t ⟨#[108,101,116]⟩
  ·cases h2:gy s st.t ⟨#[99,97,108,108]⟩
   ·cases h3:gy s st.t ⟨#[105,102]⟩
    ·cases h4:gy s st.t ⟨#[116,114,121]⟩
     ·cases h5:gy s st.t ⟨#[114,101,112,101,97,116]⟩
      ·cases h6:gy s st.t ⟨#[102,97,105,108]⟩
       ·exact We b s n eT eN st w r (by unfold starts;rw[h1,h2,h3,h4,h5,h6];rfl)
       ·exact HY b s n eT eN hs st w hD r h1 h2 h3 h4 h5 h6
      ·exact Wa b s n eT eN hB hs st w hD r h1 h2 h3 h4 h5
     ·exact Ib b s n eT eN hB hs st w hD r h1 h2 h3 h4
    ·exact Ia b s n eT eN hB hs st w hD r h1 h2 h3
   ·exact Hz b s n eT eN hs st w hD r h1 h2
  ·exact Hy b s n eT eN hs st w hD r h1
variable {P:Program}{Q:Exit->Act->List Frame->fu->Prop}{a:Act}{c₀:Frame}{cs:List Frame}{T et kt t ty:TypeId}{pos:String}
theorem Wg {older:List PanicEntry}(hu:c₀.mode=.panicking ({ v:=v,recovered:=false }::older))(h:Q .normal (a.put (some d) v) ({ c₀ with mode:=.panicking ({ v:=v,recovered:=true }::older) }::cs) w) :
  wpOpsS P #[{ dst:=some d,op:=Op.call { callee:=.builtin .recover,args:=#[],argTypes:=#[] },type:=ty,pos:=pos,after:=#[],guard:=none }] Q (List.range 1) a (c₀::cs) w:=by
 simp[wpOpsS,go_sem,recoverD,hu];exact h
theorem Wk (hu:c₀.mode=.returning)(h:Q .normal (a.put (some d) .nilIface) (c₀::cs) w) :
  wpOpsS P #[{ dst:=some d,op:=Op.call { callee:=.builtin .recover,args:=#[],argTypes:=#[] },type:=ty,pos:=pos,after:=#[],guard:=none }] Q (List.range 1) a (c₀::cs) w:=by
 simp[wpOpsS,go_sem,recoverD,hu];exact h
theorem QC (a0 a1 a2 f:Nat)(x0 x1:fC)(older:List PanicEntry)(w:fu)(h0:w.cell? ⟨a0,0,none⟩=some x0)(z0:w.frozen? ⟨a0,0,none⟩=false)(h1:w.cell? ⟨a1,0,none⟩=some x1)(z1:w.frozen? ⟨a1,0,none⟩=false)(hne:¬ a0=a1) :
  CallsD prog 39 #[.pointer (some ⟨a0,0,none⟩),.pointer (some ⟨a1,0,none⟩),.pointer (some ⟨a2,0,none⟩)] (.panicking ({ v:=.iface 70 (.pointer (some ⟨f,0,none⟩)),recovered:=false }::older)) w fun e u' w' =>
   e=.returned (.tuple #[])/\u'=.panicking ({ v:=.iface 70 (.pointer (some ⟨f,0,none⟩)),recovered:=true }::older)/\w'=(w.setCell ⟨a0,0,none⟩ (.slice none 0 0)).setCell ⟨a1,0,none⟩ (.iface 70 (.pointer (some ⟨f,0,none⟩))):=by
 have I5:∀ W:fu,(Instr.typeAssert (.iface 70 (.pointer (some ⟨f,0,none⟩))) 20 70 true).run prog W=.ok (.tuple #[.pointer (some ⟨f,0,none⟩),.bool true]) W:=fun _=>by kernel_rfl
 refine callsD_of_wpS func39 rfl fun c₀ cs hu=>?_
 simp only[ntmps39,List.size_toArray,aC,aL,Nat.reduceAdd,Nat.reduceSub,Array.replicate_succ,Array.replicate_zero,List.push_toArray,List.append_toArray,dh,bG];refine wpS_seq (wpS_region (Wg hu ?_));refine wpS_of_wp ?_;simp only[Act.put,dR,List.set_cons_succ,List.set_cons_zero];go_wp2_with fail;exact ⟨rfl,_,rfl,.tuple #[],results_none rfl _ _ _,rfl,rfl,rfl⟩
theorem XF (a0 a1 a2:Nat)(w:fu) :
  CallsD prog 39 #[.pointer (some ⟨a0,0,none⟩),.pointer (some ⟨a1,0,none⟩),.pointer (some ⟨a2,0,none⟩)] .returning w fun e u' w'=>e=.returned (.tuple #[])/\u'=.returning/\w'=w:=by
 refine callsD_of_wpS func39 rfl fun c₀ cs hu=>?_
 simp only[ntmps39,List.size_toArray,aC,aL,Nat.reduceAdd,Nat.reduceSub,Array.replicate_succ,Array.replicate_zero,List.push_toArray,List.append_toArray,dh,bG];refine wpS_seq (wpS_region (Wk hu ?_));refine wpS_of_wp ?_;simp only[Act.put,dR,List.set_cons_succ,List.set_cons_zero];go_wp2_with fail;exact ⟨rfl,.returning,by cases c₀;simp_all,.tuple #[],results_none rfl _ _ _,rfl,rfl,rfl⟩
def oV (w:fu)(f p:Nat)(e:Addr):Prop:=w.heap[f]?=some (.cells #[.int .i64 (p:Int),.iface 337 (.pointer (some e))] 75)
def kk (k:Nat):Nat:=if k=105 then 1 else if k=98 then 2 else 0
def pairs (l:List (fq×Nat)):List (fC×fC):=l.map fun v=>(.string v.1,.int .i64 (kk v.2:Int))
def qE (w:fu)(m:Nat)(l:List (fq×Nat)):Prop:=∃ es clock,w.heap[m]?=some (.map es clock)/\es.toList.map (fun e=>(e.key,e.val))=pairs l
theorem Wl (a b:fq):(a == b)=(b.toList == a.toList):=by
 rw[aN,aN];by_cases h:a=b
 ·rw[h];simp[MapKept.bytes_beq]
 ·have h1:¬ b.data.toList=a.data.toList:=fun e=>h (WideShapes.bytes_inj e).symm
  have h2:(a == b)=false:=by
   cases hb:(a == b)
   ·rfl
   ·exact absurd ((MapKept.bytes_beq _ _).1 hb) h
  rw[h2]
  simpa using h1
theorem XG (x:fq)(l:List (fq×Nat)):∀ (es:List MapEntry) (i:Nat),es.map (fun e=>(e.key,e.val))=pairs l ->
  Instr.findNow .string (.string x) es i=some (match iK l x with
   | none=>none
   | some j=>some (i+j,.int .i64 (kk (og l j):Int))):=by
 induction l with
 | nil =>
  intro es i h;cases es with
  | nil=>rfl
  | cons e es=>cases h
 | cons v l ih =>
  intro es i h;cases es with
  | nil=>cases h
  | cons e es =>
   obtain ⟨v,k⟩:=v;simp only[pairs,eF,List.cons.injEq,Prod.mk.injEq] at h;obtain ⟨⟨h1,h2⟩,h3⟩:=h;rw[Instr.findNow,h1,h2];simp only[Instr.sameNow];rw[Wl,iK];cases hb:(v.toList == x.toList)
   ·simp only[eH,if_false];rw[ih es (i+1) h3];cases iK l x with
    | none=>rfl
    | some j=>simp[og];omega
   ·simp[og]
def DC (l:List (fq×Nat))(x:fq):Nat :=
 match iK l x with
 | none=>0
 | some j=>kk (og l j)
variable {l:List (fq×Nat)}
theorem Wr (h:qE w m l)(hT:P.underlying T=some (.map kt et))(hk:P.underlying kt=some .string)(hz:(zeroValue et).run P w=.ok (.int .i64 0) w)(x:fq) :
  (Instr.lookup T (.map (some m)) (.string x) true).run P w=.ok (.tuple #[.int .i64 (DC l x:Int),.bool (iK l x).isSome]) w:=by
 obtain ⟨es,clock,hb,hp⟩:=h;have h1:=MapKept.run_findKey (w:=w) hk (XG x l es.toList 0 hp);have h2:=fun e=>MapKept.run_checkKey (P:=P) (w:=w) (kt:=kt) (k:=.string x) hk (by simp[MapKept.IsKey]) e 9999
 unfold DC;cases hf:iK l x with
 | none =>
  rw[hf] at h1;simp[Instr.lookup,run_underlying hT,MapKept.run_getObj_map hb,h2,h1,hz,Result.andThen]
 | some j =>
  rw[hf] at h1;simp[Instr.lookup,run_underlying hT,MapKept.run_getObj_map hb,h2,h1,Result.andThen]
theorem W1 (h:qE w m l)(hT:P.underlying T=some (.map kt et))(hk:P.underlying kt=some .string)(x:fq)(hf:iK l x=none)(k:Nat) :
  ∃ o,(Instr.mapUpdate T (.map (some m)) (.string x) (.int .i64 (kk k:Int))).run P w=.ok () { w with heap:=w.heap.setIfInBounds m o }/\qE { w with heap:=w.heap.setIfInBounds m o } m (l++[(x,k)]):=by
 obtain ⟨es,clock,hb,hp⟩:=h;have h1:=MapKept.run_findKey (w:=w) hk (XG x l es.toList 0 hp);have h2:=fun e=>MapKept.run_checkKey (P:=P) (w:=w) (kt:=kt) (k:=.string x) hk (by simp[MapKept.IsKey]) e 9999
 rw[hf] at h1;refine ⟨.map (es.push ⟨.string x,.int .i64 (kk k:Int),clock⟩) (clock+1),?_,_,_,(MapKept.heap_set hb).1,?_⟩
 ·simp[Instr.mapUpdate,run_underlying hT,MapKept.run_getObj_map hb,h2,h1,MapKept.run_setObj_map _ hb,Result.andThen]
 ·simp[pairs] at hp |-;rw[hp]
def MU (s:fq)(eT eN:Addr)(w:fu)(e:Ending)(w':fu):Prop :=
 Below w.heap.size w w'/\∃ v er,e=.returned (.tuple #[v,er]) /\
  match Px.read s with
  | .ok l=>er=.nilIface/\∃ vs,kg w' v vs (Ref.In w w')/\gF w' l (Ref.In w w') vs
  | .error (c,p)=>v=.slice none 0 0/\∃ f,er=.iface 70 (Ref.ptr f)/\oV w' f p (if c=2 then eT else eN)
variable {eN eT:Addr}
theorem Rd.QD {c:Array fC}(r:Rd w b s st eT eN)(h:w.heap[k]?=some (.cells c t))(ht:t≠75)(hk:17<=k)(hbk:b≠k)(v:fC):Rd (w.setCell ⟨k,o,none⟩ v) b s st eT eN:=by
 obtain ⟨td,a,d⟩:=r.mem;refine ⟨r.tk,r.wX,r.gl.gI hk,td,⟨by rw[bL _ _ _ _ hbk];exact a.h⟩,?_⟩
 rcases d with d | ⟨d1,f,d2,d3,d4⟩
 ·exact ak d
 ·refine ah ⟨d1,f,d2,d3,?_⟩;rw[bL _ _ _ _ (by show f≠k;rintro rfl;rw[h] at d4;simp at d4;exact ht d4.2)]
  exact d4
theorem W5 (hk:k=0\/k=63\/k=107\/k=110\/k=119)(h63:k≠63):((kd k:Int) != 0)=!(k == 0):=by
 rcases hk with rfl | rfl | rfl | rfl | rfl
 ·rfl
 ·exact absurd rfl h63
 ·rfl
 ·rfl
 ·rfl
def DF (s:fq):Except Nat (List Sm×Px.Ps):=Px.stmts s (Px.stmt s (s.size+1)) (fun st=>st.t.k == 0) (s.size+1) [] ⟨Px.tok s 0,0,-1⟩
theorem I6 (hs3:s.size<=300):Px.read s=match DF s with
  | .error p=>.error (2,p)
  | .ok (l,st)=>if 0<=st.fH then .error (3,st.fH.toNat) else .ok l:=by
 rw[Px.read,if_neg (by omega)];unfold DF
 cases Px.stmts s (Px.stmt s (s.size+1)) (fun st=>st.t.k == 0) (s.size+1) [] ⟨Px.tok s 0,0,-1⟩<;>rfl
theorem XH (h:fin (DF s)=.error p):DF s=.error p:=by
 rcases wZ h with h | ⟨l,st,h1,h2,_⟩
 ·exact h
 ·have h3:=(wQ (jS s _) _ _ _ _ _ _ (show Tk s (⟨Px.tok s 0,0,-1⟩:Px.Ps).t from (uj s 0 (aK _)).1) h1).2;simp[h2] at h3
def zy (s:fq)(w:fu):fu :=
 ((((w.alloc (.cells #[.slice none 0 0] 41)).alloc (.cells #[.nilIface] 43)).alloc (.cells #[.string s,.int .i64 0,.string ⟨#[]⟩,.int .i64 0,.int .i64 0,.pointer none] 128)).alloc (.cells #[.pointer (some ⟨w.heap.size+1+1,0,none⟩)] 123))
theorem W6 (s:fq)(w:fu):(zy s w).heap.size=w.heap.size+4/\(zy s w).heap[w.heap.size]?=some (.cells #[.slice none 0 0] 41)/\(zy s w).heap[w.heap.size+1]?=some (.cells #[.nilIface] 43) /\
  (zy s w).heap[w.heap.size+2]?=some (.cells #[.string s,.int .i64 0,.string ⟨#[]⟩,.int .i64 0,.int .i64 0,.pointer none] 128)/\(zy s w).heap[w.heap.size+3]?=some (.cells #[.pointer (some ⟨w.heap.size+1+1,0,none⟩)] 123)/\Below w.heap.size w (zy s w):=by
 have h:(zy s w).heap=(((w.heap.push (.cells #[.slice none 0 0] 41)).push (.cells #[.nilIface] 43)).push (.cells #[.string s,.int .i64 0,.string ⟨#[]⟩,.int .i64 0,.int .i64 0,.pointer none] 128)).push (.cells #[.pointer (some ⟨w.heap.size+1+1,0,none⟩)] 123):=rfl;refine ⟨by rw[h];simp,?_,?_,?_,?_,((((aH _ _).alloc (aj _) _).alloc (by simp) _).alloc (by simp;omega) _).alloc (by simp;omega) _⟩
 ·rw[h,aB,if_neg (by simp<;>omega),aB,if_neg (by simp<;>omega),aB,if_neg (by simp<;>omega),aB,if_pos rfl]
 ·rw[h,aB,if_neg (by simp<;>omega),aB,if_neg (by simp<;>omega),aB,if_pos (by simp)]
 ·rw[h,aB,if_neg (by simp<;>omega),aB,if_pos (by simp)]
 ·rw[h,aB,if_pos (by simp)]
theorem I7 {x y:fC}{u:TypeId}(h1:w.heap[n]?=some (.cells #[x] t))(h2:w.heap[n+1]?=some (.cells #[y] u))(a b:fC) :
  ((w.setCell ⟨n,0,none⟩ a).setCell ⟨n+1,0,none⟩ b).cell? ⟨n,0,none⟩=some a/\((w.setCell ⟨n,0,none⟩ a).setCell ⟨n+1,0,none⟩ b).cell? ⟨n+1,0,none⟩=some b:=by
 have e1:=Ref.heap_set (o:=0) a h1;have e1':((w.setCell ⟨n,0,none⟩ a).setCell ⟨n+1,0,none⟩ b).heap[n]?=_:=(jr _ (by omega)).trans e1
 have e2:(w.setCell ⟨n,0,none⟩ a).heap[n+1]?=_:=(jr _ (by omega)).trans h2
 have e3:=Ref.heap_set (o:=0) b e2;exact ⟨by simp[World.cell?,e1'],by simp[World.cell?,e3]⟩
theorem QE (hb:Below w.heap.size w w1)(hf:w.heap.size+2<=f)(hF:oV w1 f p eT)(hR:Px.read s=.error (2,p)) :
  MU s eT eN w (.returned (.tuple #[.slice none 0 0,.iface 70 (.pointer (some ⟨f,0,none⟩))])) ((w1.setCell ⟨w.heap.size,0,none⟩ (.slice none 0 0)).setCell ⟨w.heap.size+1,0,none⟩ (.iface 70 (.pointer (some ⟨f,0,none⟩)))):=by
 refine ⟨(hb.setCell (aj _) _).setCell (by show w.heap.size<=w.heap.size+1;omega) _,_,_,rfl,?_⟩
 rw[hR];refine ⟨rfl,f,rfl,?_⟩;show oV _ f p (if 2=2 then eT else eN)
 rw[if_pos rfl];unfold oV;rw[jr _ (by omega),jr _ (by omega)]
 exact hF
theorem W7 {l:List Sm}{vs:List fC}(hR:Px.read s=.ok l)(h1:kg w2 v vs (Ref.In w1 w2))(h2:gF w2 l (Ref.In w1 w2) vs)(hz:w.heap.size+4<=w1.heap.size)(hB:Below w.heap.size w W)(hk:∀ i,w.heap.size+4<=i->W.heap[i]?=w2.heap[i]?)(hs:W.heap.size=w2.heap.size):MU s eT eN w (.returned (.tuple #[v,.nilIface])) W:=by
 refine ⟨hB,_,_,rfl,?_⟩;rw[hR];have hk':∀ i,Ref.In w1 w2 i->W.heap[i]?=w2.heap[i]?:=fun i hi=>hk i (by have:=hi.1;omega)
 have hm:∀ i,Ref.In w1 w2 i->Ref.In w W i:=fun i hi=>⟨by have:=hi.1;omega,by rw[hs];exact hi.2⟩
 exact ⟨rfl,vs,(h1.keep hk').mono hm,(h2.keep hk').mono hm⟩
theorem W8 {d:Int}(hd:0<=d)(hR:Px.read s=.error (3,d.toNat))(hB:Below w.heap.size w W)(hF:W.heap[f]?=some (.cells #[.int .i64 d,.iface 337 (.pointer (some eN))] 75)) :
  MU s eT eN w (.returned (.tuple #[.slice none 0 0,.iface 70 (.pointer (some ⟨f,0,none⟩))])) W:=by
 refine ⟨hB,_,_,rfl,?_⟩;rw[hR];refine ⟨rfl,f,rfl,?_⟩;show oV _ f d.toNat (if 3=2 then eT else eN)
 rw[if_neg (by decide)]
 unfold oV;rw[Int.toNat_of_nonneg hd];exact hF
theorem Xs (s:fq)(eT eN:Addr)(w:fu)(hs3:s.size<=300)(hlo:17<=w.heap.size)(g:Gl w (w.heap.size+2) eT eN) :
  Calls prog 21 #[.string s] w (MU s eT eN w):=by
 have DI:∀ (fn:Fn) (first cap:Array fC) (w:fu),(Instr.makeFunc fn first cap).run prog w=.ok (.func fn first cap) w:=fun _ _ _ _=>rfl
 have hs:s.size<=maxLen:=by unfold maxLen;omega
 have G:Hid (_):=g;clear g;go_enter_defers func21,ntmps21
 go_wp2_with fail
 change Calls _ _ _ (zy s w) _
 obtain ⟨z0,a0,a1,a2,a3,bW⟩:=W6 s w;have GW:Gl (zy s w) (w.heap.size+2) eT eN:=G.o.keep ⟨bW.os,bW.tape,bW.output,bW.size,fun k hk _=>bW.block k hk⟩
 generalize zy s w=W at *;have eb:w.heap.size+1+1=w.heap.size+2:=rfl;have ec:w.heap.size+1+1+1=w.heap.size+3:=rfl;rw[eb] at a3 |-;simp only[ec];have H0:Hid (Below w.heap.size w W/\Gl W (w.heap.size+2) eT eN/\W.heap[w.heap.size]?=_/\W.heap[w.heap.size+1]?=_/\W.heap[w.heap.size+3]?=_):=⟨bW,GW,a0,a1,a3⟩;have A2:Hid (_):=a2;clear a0 a1 a2 a3 bW GW eb ec;refine (WT (w.heap.size+2) s 0 _ _ _ 0 none eT eN _ A2.o H0.o.2.1 (aK _) hs).mono ?_;rintro e w1 ⟨k1,h1,h2⟩;have b1:w1.heap[w.heap.size]?=_:=(k1.block _ (by omega) (by omega)).trans H0.o.2.2.1
 have b2:w1.heap[w.heap.size+1]?=_:=(k1.block _ (by omega) (by omega)).trans H0.o.2.2.2.1
 have b3:w1.heap[w.heap.size+3]?=_:=(k1.block _ (by omega) (by omega)).trans H0.o.2.2.2.2
 have bB:Below w.heap.size w w1:=H0.o.1.trans (k1.mY (by omega) (by omega))
 by_cases hk:(Px.tok s 0).k=63
 ·obtain ⟨f,hf,rfl,hF⟩:=h2 hk;refine leaves_cons (f:=39) (args:=#[.pointer (some ⟨w.heap.size,0,none⟩),.pointer (some ⟨w.heap.size+1,0,none⟩),.pointer (some ⟨w.heap.size+3,0,none⟩)]) (by simp) (by simp[go_sem]) ?_
  refine (QC _ _ _ f (.slice none 0 0) .nilIface [] _ (by simp[World.cell?,b1]) (by simp[World.frozen?,b1]) (by simp[World.cell?,b2]) (by simp[World.frozen?,b2]) (by omega)).mono ?_
  rintro e u' w'' ⟨rfl,rfl,rfl⟩;have hR:Px.read s=.error (2,(Px.tok s 0).a):=by
   rw[I6 hs3,XH (p:=(Px.tok s 0).a)];unfold DF;rw[Px.stmts,if_neg (by simp[hk]),Qo (Qn hk)]
   rfl
  have T:Hid (_):=QE (eN:=eN) bB (by omega) hF hR
  obtain ⟨c0,c1⟩:=I7 b1 b2 (.slice none 0 0) (.iface 70 (.pointer (some ⟨f,0,none⟩)));generalize (w1.setCell ⟨w.heap.size,0,none⟩ (.slice none 0 0)).setCell ⟨w.heap.size+1,0,none⟩ (.iface 70 (.pointer (some ⟨f,0,none⟩)))=W2 at *;clear h1 h2 k1 b1 b2 b3 bB hF hR;simp[Leaves,settle,results,results21,go_sem,c0,c1];exact T.o
 ·obtain ⟨rfl,ra⟩:=h1 hk;have r1:Rd w1 (w.heap.size+2) s ⟨Px.tok s 0,0,-1⟩ eT eN:=⟨(uj s 0 (aK _)).1,hk,H0.o.2.1.keep k1,none,ra,ak ⟨by show (-1:Int) < 0;decide,rfl⟩⟩
  have dC:w1.cell? ⟨w.heap.size+3,0,none⟩=some (.pointer (some ⟨w.heap.size+2,0,none⟩)):=by simp[World.cell?,b3]
  have z1:=k1.size;have H1:Hid (Below w.heap.size w w1/\Rd w1 (w.heap.size+2) s ⟨Px.tok s 0,0,-1⟩ eT eN/\w1.heap[w.heap.size]?=_/\w1.heap[w.heap.size+1]?=_/\w1.heap[w.heap.size+3]?=_):=⟨bB,r1,b1,b2,b3⟩;have D1:Hid (gP s (s.size+1) ⟨Px.tok s 0,0,-1⟩):=⟨(uj s 0 (aK _)).1,by simp;omega,by simp,by simp;omega⟩
  clear h1 h2 k1 b1 b2 b3 bB ra r1 hk H0 A2;go_wp2_with fail;refine (Xm (w.heap.size+2) s (s.size+1) eT eN _ (Wf _ s eT eN hs3 _) (jS s _) (fun st h=>Qo h) hs3 _ _ D1.o H1.o.2.1).mono ?_
  rintro e w2 ⟨k2,hres⟩;have b1:w2.heap[w.heap.size]?=_:=(k2.block _ (by omega) (by omega)).trans H1.o.2.2.1
  have b2:w2.heap[w.heap.size+1]?=_:=(k2.block _ (by omega) (by omega)).trans H1.o.2.2.2.1
  have b3:w2.heap[w.heap.size+3]?=_:=(k2.block _ (by omega) (by omega)).trans H1.o.2.2.2.2
  have bB:Below w.heap.size w w2:=H1.o.1.trans (k2.mY (by omega) (by omega))
  have z2:=k2.size;rcases hres with ⟨l,st2,v,rfl,⟨vs,hv1,hv2⟩,r2,tF,G2,CH⟩ | ⟨p,hp,ht⟩
  ·have ch:=CH _ (Xn s) (s.size+1) (by simp;omega)
   obtain ⟨va,vn,vc,rfl⟩:=hv1.form;obtain ⟨td,ra,rd⟩:=r2.mem;obtain ⟨c0,c1,c2,c3,c4,c5,cf⟩:=nH ra.h;have eC:w2.cell? ⟨w.heap.size+3,0,none⟩=some (.pointer (some ⟨w.heap.size+2,0,none⟩)):=by simp[World.cell?,b3]
   have eA:w2.cell? ⟨w.heap.size,0,none⟩=some (.slice none 0 0):=by simp[World.cell?,b1]
   have fA:∀ o,w2.frozen? ⟨w.heap.size,o,none⟩=false:=by intro o;simp[World.frozen?,b1]
   have eB:w2.cell? ⟨w.heap.size+1,0,none⟩=some .nilIface:=by simp[World.cell?,b2]
   have fB:∀ o,w2.frozen? ⟨w.heap.size+1,o,none⟩=false:=by intro o;simp[World.frozen?,b2]
   have H2:Hid (Below w.heap.size w w2/\Rd w2 (w.heap.size+2) s st2 eT eN/\kg w2 (.slice va vn vc) vs (Ref.In w1 w2)/\gF w2 l (Ref.In w1 w2) vs/\(DF s=if (st2.t.k == 0)=true then .ok (l,st2) else .error st2.t.a)/\w2.heap[w.heap.size]?=_/\w2.heap[w.heap.size+1]?=_):=⟨bB,r2,hv1,hv2,ch,b1,b2⟩
   have hkd:=W5 r2.tk.kinds r2.wX;have RD:Hid (_):=rd;clear hv1 hv2 ch CH r2 bB b1 b2 b3 tF G2 k2 dC ra rd;cases hk0:(st2.t.k == 0)
   ·rw[hk0] at hkd;have hR:Hid (Px.read s=.error (2,st2.t.a)):=by unfold Hid;rw[I6 hs3,H2.o.2.2.2.2.1,if_neg (by simp[hk0])]
    go_wp2_with fail;refine (Qg (w.heap.size+2) s st2 eT eN _ (H2.o.2.1.QD H2.o.2.2.2.2.2.1 (by decide) hlo (by omega) _)).mono ?_
    rintro e w3 ⟨⟨f,hf,rfl,hF⟩,k3⟩;have hsz:=Ref.size_set w2 ⟨w.heap.size,0,none⟩ (.slice va vn vc);have b1:w3.heap[w.heap.size]?=some (.cells #[.slice va vn vc] 41):=(k3.block _ (by omega) (by omega)).trans ((Ref.heap_set _ H2.o.2.2.2.2.2.1).trans (by simp))
    have b2:w3.heap[w.heap.size+1]?=_:=(k3.block _ (by omega) (by omega)).trans ((jr _ (by omega)).trans H2.o.2.2.2.2.2.2)
    have bB:Below w.heap.size w w3:=(H2.o.1.setCell (aj _) _).trans (k3.mY (by omega) (by omega))
    refine leaves_cons (f:=39) (args:=#[.pointer (some ⟨w.heap.size,0,none⟩),.pointer (some ⟨w.heap.size+1,0,none⟩),.pointer (some ⟨w.heap.size+3,0,none⟩)]) (by simp) (by simp[go_sem]) ?_
    refine (QC _ _ _ f (.slice va vn vc) .nilIface [] _ (by simp[World.cell?,b1]) (by simp[World.frozen?,b1]) (by simp[World.cell?,b2]) (by simp[World.frozen?,b2]) (by omega)).mono ?_
    rintro e u' w'' ⟨rfl,rfl,rfl⟩;have T:Hid (_):=QE (eN:=eN) bB (by omega) hF hR.o
    obtain ⟨q0,q1⟩:=I7 b1 b2 (.slice none 0 0) (.iface 70 (.pointer (some ⟨f,0,none⟩)));generalize (w3.setCell ⟨w.heap.size,0,none⟩ (.slice none 0 0)).setCell ⟨w.heap.size+1,0,none⟩ (.iface 70 (.pointer (some ⟨f,0,none⟩)))=W2 at *;clear k3 b1 b2 bB hF c0 c1 c2 c3 c4 c5 cf eA eB eC fA fB;simp[Leaves,settle,results,results21,go_sem,q0,q1];exact T.o
   ·rw[hk0] at hkd;have hL:Hid (DF s=.ok (l,st2)):=by unfold Hid;rw[H2.o.2.2.2.2.1,if_pos hk0]
    rcases RD.o with ⟨d1,rfl⟩ | ⟨d1,f,rfl,d3,d4⟩
    ·have hR:Hid (Px.read s=.ok l):=by unfold Hid;rw[I6 hs3,hL.o];simp only;rw[if_neg (by omega)]
     go_wp2_with fail;refine leaves_cons (f:=39) (args:=#[.pointer (some ⟨w.heap.size,0,none⟩),.pointer (some ⟨w.heap.size+1,0,none⟩),.pointer (some ⟨w.heap.size+3,0,none⟩)]) (by simp) (by simp[go_sem]) ?_
     refine (XF _ _ _ _).mono ?_;rintro e u' w'' ⟨rfl,rfl,rfl⟩;have T:Hid (_):=W7 (eT:=eT) (eN:=eN) (v:=.slice va vn vc) (W:=((w2.setCell ⟨w.heap.size,0,none⟩ (.slice va vn vc)).setCell ⟨w.heap.size,0,none⟩ (.slice va vn vc)).setCell ⟨w.heap.size+1,0,none⟩ .nilIface) hR.o H2.o.2.2.1 H2.o.2.2.2.1 (by omega) (((H2.o.1.setCell (aj _) _).setCell (aj _) _).setCell (by show w.heap.size<=w.heap.size+1;omega) _) (fun i hi=>by rw[jr _ (by omega),jr _ (by omega),jr _ (by omega)]) (by simp[World.setCell])
     obtain ⟨q0,q1⟩:=I7 (n:=w.heap.size) (Ref.heap_set (o:=0) (.slice va vn vc) H2.o.2.2.2.2.2.1) ((jr _ (by omega)).trans H2.o.2.2.2.2.2.2) (.slice va vn vc) .nilIface
     generalize ((w2.setCell ⟨w.heap.size,0,none⟩ (.slice va vn vc)).setCell ⟨w.heap.size,0,none⟩ (.slice va vn vc)).setCell ⟨w.heap.size+1,0,none⟩ .nilIface=W3 at *;clear c0 c1 c2 c3 c4 c5 cf eA eB eC fA fB;simp[Leaves,settle,results,results21,go_sem,q0,q1];exact T.o
    ·have hR:Hid (Px.read s=.error (3,st2.fH.toNat)):=by unfold Hid;rw[I6 hs3,hL.o];simp only;rw[if_pos d1]
     have D4:Hid (_):=d4;clear d4;go_wp2_with fail;go_region
     all_goals
      go_wp2_with fail;refine leaves_cons (f:=39) (args:=#[.pointer (some ⟨w.heap.size,0,none⟩),.pointer (some ⟨w.heap.size+1,0,none⟩),.pointer (some ⟨w.heap.size+3,0,none⟩)]) (by simp) (by simp[go_sem]) ?_
      refine (XF _ _ _ _).mono ?_;rintro e u' w'' ⟨rfl,rfl,rfl⟩;have b1:=H2.o.2.2.2.2.2.1;have b2:=H2.o.2.2.2.2.2.2;have DJ:f≠w.heap.size/\f≠w.heap.size+1:=by
       constructor
       ·rintro rfl;have:=D4.o;rw[b1] at this;simp at this
       ·rintro rfl;have:=D4.o;rw[b2] at this;simp at this
      have T:Hid (_):=W8 (eT:=eT) (f:=f) (W:=(((w2.setCell ⟨w.heap.size,0,none⟩ (.slice va vn vc)).setCell ⟨w.heap.size,0,none⟩ (.slice none 0 0)).setCell ⟨w.heap.size+1,0,none⟩ (.iface 70 (.pointer (some ⟨f,0,none⟩)))).drew) d1 hR.o ((((H2.o.1.setCell (aj _) _).setCell (aj _) _).setCell (by show w.heap.size<=w.heap.size+1;omega) _).drew) (by show (World.setCell _ _ _).heap[f]?=_;rw[jr _ DJ.2,jr _ DJ.1,jr _ DJ.1];exact D4.o)
      obtain ⟨q0,q1⟩:=I7 (n:=w.heap.size) (Ref.heap_set (o:=0) (.slice va vn vc) b1) ((jr _ (by omega)).trans b2) (.slice none 0 0) (.iface 70 (.pointer (some ⟨f,0,none⟩)))
      generalize ((w2.setCell ⟨w.heap.size,0,none⟩ (.slice va vn vc)).setCell ⟨w.heap.size,0,none⟩ (.slice none 0 0)).setCell ⟨w.heap.size+1,0,none⟩ (.iface 70 (.pointer (some ⟨f,0,none⟩)))=W3 at *;clear c0 c1 c2 c3 c4 c5 cf eA eB eC fA fB b1 b2;simp[Leaves,settle,results,results21,go_sem,q0,q1];exact T.o
  ·obtain ⟨f,hf,rfl,hF⟩:=ht;have hR:Px.read s=.error (2,p):=by
    rw[I6 hs3,XH (p:=p)];exact hp _ (Xn s) (s.size+1) (by simp;omega)
   refine leaves_cons (f:=39) (args:=#[.pointer (some ⟨w.heap.size,0,none⟩),.pointer (some ⟨w.heap.size+1,0,none⟩),.pointer (some ⟨w.heap.size+3,0,none⟩)]) (by simp) (by simp[go_sem]) ?_
   refine (QC _ _ _ f (.slice none 0 0) .nilIface [] _ (by simp[World.cell?,b1]) (by simp[World.frozen?,b1]) (by simp[World.cell?,b2]) (by simp[World.frozen?,b2]) (by omega)).mono ?_
   rintro e u' w'' ⟨rfl,rfl,rfl⟩;have T:Hid (_):=QE (eN:=eN) bB (by omega) hF hR
   obtain ⟨c0,c1⟩:=I7 b1 b2 (.slice none 0 0) (.iface 70 (.pointer (some ⟨f,0,none⟩)));generalize (w2.setCell ⟨w.heap.size,0,none⟩ (.slice none 0 0)).setCell ⟨w.heap.size+1,0,none⟩ (.iface 70 (.pointer (some ⟨f,0,none⟩)))=W2 at *;clear k2 b1 b2 b3 bB hF hR dC hp;simp[Leaves,settle,results,results21,go_sem,c0,c1];exact T.o
structure Gc (w:fu)(B:Nat)(E:Nat->Addr):Prop where
 c:w.cell? ⟨4,0,none⟩=some (.iface 337 (.pointer (some (E 4))))
 n:w.cell? ⟨5,0,none⟩=some (.iface 337 (.pointer (some (E 5))))
 y:w.cell? ⟨6,0,none⟩=some (.iface 337 (.pointer (some (E 6))))
 ops:∀ j (hj:j < 28),w.cell? ⟨16,j,none⟩=some (qZ[j]'hj)
 lo:17<=B
theorem MV (h:Below B w w')(hk:k < B):w'.cell? ⟨k,o,none⟩=w.cell? ⟨k,o,none⟩:=aF (w:=w) (h.block k hk)
variable {E:Nat->Addr}
theorem Gc.below (g:Gc w B E)(h:Below B w w'):Gc w' B E:=by
 have hl:=g.lo;exact ⟨by rw[MV h (by omega)];exact g.c,by rw[MV h (by omega)];exact g.n,by rw[MV h (by omega)];exact g.y,fun j hj=>by rw[MV h (by omega)];exact g.ops j hj,hl⟩
structure Fr (c m:Nat)(w w':fu):Prop where
 os:w'.os=w.os
 tape:w'.tape=w.tape
 output:w'.output=w.output
 size:w.heap.size<=w'.heap.size
 block:∀ k,k < w.heap.size->k≠c->k≠m->w'.heap[k]?=w.heap[k]?
theorem Fr.refl (c m:Nat)(w:fu):Fr c m w w:=⟨rfl,rfl,rfl,aj _,fun _ _ _ _=>rfl⟩
theorem Fr.trans {c m:Nat}{w w1 w2:fu}(h:Fr c m w w1)(k:Fr c m w1 w2):Fr c m w w2 :=
 ⟨k.os.trans h.os,k.tape.trans h.tape,k.output.trans h.output,aP h.size k.size,fun i hi hc hm=>(k.block i (aV hi h.size) hc hm).trans (h.block i hi hc hm)⟩
theorem Fr.drew {c m:Nat}{w w1:fu}(h:Fr c m w w1):Fr c m w w1.drew:=⟨h.os,h.tape,h.output,h.size,h.block⟩
theorem Fr.alloc {c m:Nat}{w w1:fu}(h:Fr c m w w1)(o:Obj):Fr c m w (w1.alloc o) :=
 ⟨h.os,h.tape,h.output,by have:=h.size;simp;omega,fun i hi hc hm=>by rw[aD _ _ _ (aV hi h.size)];exact h.block i hi hc hm⟩
theorem Fr.QF (h:Fr c m w w1)(u:fC):Fr c m w (w1.setCell ⟨c,o,none⟩ u) :=
 ⟨h.os,h.tape,h.output,by simpa [World.setCell] using h.size,fun i hi hc hm=>by rw[bL _ _ _ _ hc];exact h.block i hi hc hm⟩
theorem Fr.below (h:Fr c m w w')(h1:B<=c)(h2:B<=m)(h3:B<=w.heap.size):Below B w w':=⟨h.os,h.tape,h.output,h.size,fun k hk=>h.block k (by omega) (by omega) (by omega)⟩
structure Ck (w:fu)(c m B:Nat)(E:Nat->Addr)(K:Px.Lk):Prop where
 g:Gc w B E
 bc:B<=c
 ex:∃ pf,w.heap[c]?=some (.cells #[.map (some m),.pointer pf] 134)/\B<=m/\m≠c/\qE w m K.vars /\
  ((K.e=0/\pf=none)\/(K.e≠0/\∃ f,pf=some ⟨f,0,none⟩/\B<=f/\f≠c/\f≠m/\oV w f K.pl (E K.e)))
theorem qN {a b:fC}(hh:w.heap[k]?=some (.cells #[a,b] t)) :
  w.cell? ⟨k,0,none⟩=some a/\w.cell? ⟨k,1,none⟩=some b/\∀ o,w.frozen? ⟨k,o,none⟩=false:=by
 refine ⟨?_,?_,?_⟩<;>simp[World.cell?,World.frozen?,hh]
theorem lt_of_block {o:Obj}(h:w.heap[k]?=some o):k < w.heap.size:=by
 rcases dD k w.heap.size with hb | hb
 ·exact hb
 ·rw[dL hb] at h;cases h
variable {K:Px.Lk}
theorem Ck.fr (h:Ck w c m B E K)(k:Fr c m w w'):Below B w w':=by
 obtain ⟨pf,h1,h2,_⟩:=h.ex
 have:=lt_of_block h1
 exact k.below h.bc h2 (by have:=h.bc;omega)
theorem Ck.drew {w:fu}{c m B:Nat}{E:Nat->Addr}{K:Px.Lk}(h:Ck w c m B E K):Ck w.drew c m B E K:=⟨⟨h.g.c,h.g.n,h.g.y,h.g.ops,h.g.lo⟩,h.bc,h.ex⟩
theorem X1 (h:Below B w w1):Below B w w1.drew:=⟨h.os,h.tape,h.output,h.size,h.block⟩
variable {pf:Option Addr}
theorem Ck.note (e p:Nat)(he:e≠0)(g:Gc w B E)(bc:B<=c)(h1:w.heap[c]?=some (.cells #[.map (some m),.pointer pf] 134))(h2:B<=m)(h3:m≠c)(h4:qE w m K.vars) :
  Ck ((w.setCell ⟨c,1,none⟩ (.pointer (some ⟨w.heap.size,0,none⟩))).alloc (.cells #[.int .i64 (p:Int),.iface 337 (.pointer (some (E e)))] 75)) c m B E ⟨K.vars,e,p⟩ /\
  Fr c m w ((w.setCell ⟨c,1,none⟩ (.pointer (some ⟨w.heap.size,0,none⟩))).alloc (.cells #[.int .i64 (p:Int),.iface 337 (.pointer (some (E e)))] 75)):=by
 have hc:=lt_of_block h1;obtain ⟨es,clock,h5,h6⟩:=h4;have hm:=lt_of_block h5;have hs:(w.setCell ⟨c,1,none⟩ (.pointer (some ⟨w.heap.size,0,none⟩))).heap.size=w.heap.size:=by simp[World.setCell]
 have hB:Below B w ((w.setCell ⟨c,1,none⟩ (.pointer (some ⟨w.heap.size,0,none⟩))).alloc (.cells #[.int .i64 (p:Int),.iface 337 (.pointer (some (E e)))] 75)) :=
  ((aH B w).setCell (p:=⟨c,1,none⟩) bc _).alloc (by simp[World.setCell];omega) _
 refine ⟨⟨g.below hB,bc,some ⟨w.heap.size,0,none⟩,?_,h2,h3,⟨es,clock,?_,h6⟩,ah ⟨he,w.heap.size,rfl,by omega,by omega,by omega,?_⟩⟩,((Fr.refl c m w).QF _).alloc _⟩
 ·rw[aD _ _ _ (by rw[hs];exact hc),Ref.heap_set _ h1];simp
 ·rw[aD _ _ _ (by rw[hs];exact hm),jr _ h3];exact h5
 ·unfold oV;exact IJ hs
theorem Am (c m B:Nat)(E:Nat->Addr)(e p:Nat)(he:e≠0)(K:Px.Lk)(w:fu)(h:Ck w c m B E K) :
  Calls prog 233 #[.pointer (some ⟨c,0,none⟩),.int .i64 (p:Int),.iface 337 (.pointer (some (E e)))] w fun r w'=>r=.returned (.tuple #[])/\Ck w' c m B E (pF e p K)/\Fr c m w w':=by
 obtain ⟨pf,h1,h2,h3,h4,h5⟩:=h.ex;obtain ⟨c0,c1,fr⟩:=qN h1;have YES:Hid (_):=Ck.note (K:=K) e p he h.g h.bc h1 h2 h3 h4;have HH:Hid (_):=h;have hsz:=lt_of_block h1;rcases h5 with ⟨h5,rfl⟩ | ⟨h5,f,rfl,h6,h7,h8,h9⟩
 ·clear h h1 h2 h3 h4;go_enter func233,ntmps233
  go_wp2_with fail;go_end0
  refine ⟨rfl,?_⟩;rw[show pF e p K=⟨K.vars,e,p⟩ by unfold pF;rw[if_pos (ak h5)]]
  exact YES.o
 ·obtain ⟨d0,d1,fd⟩:=qN h9;clear h h1 h2 h3 h4 h9;by_cases hp:p < K.pl
  ·have t1:(p:Int) < K.pl:=by omega
   go_enter func233,ntmps233
   go_wp2_with fail;go_end0
   refine ⟨rfl,?_⟩;rw[show pF e p K=⟨K.vars,e,p⟩ by unfold pF;rw[if_pos (ah hp)]]
   exact YES.o
  ·have t1:¬ (p:Int) < K.pl:=by omega
   go_enter func233,ntmps233
   go_wp2_with fail;go_end0
   refine ⟨rfl,?_,Fr.refl c m _⟩;rw[show pF e p K=K by unfold pF;rw[if_neg (by omega)]]
   exact HH.o
theorem uR (a b:Nat)(ha:Px.K3 a)(hb:Px.K3 b)(w:fu) :
  Calls prog 232 #[.int .i64 (kk a:Int),.int .i64 (kk b:Int)] w fun r w'=>r=.returned (.bool (pQ a b))/\w=w':=by
 have e1:Hid (pQ a b=(((kk a:Int) == kk b) || (((kk a:Int) == 0) || ((kk b:Int) == 0)))):=by
  unfold Hid;rcases ha with rfl | rfl | rfl<;>rcases hb with rfl | rfl | rfl<;>decide
 generalize kk a=x at *;generalize kk b=y at *;cases h1:((x:Int) == y)<;>cases h2:((x:Int) == 0)
 all_goals
  go_enter func232,ntmps232
  go_wp2_with fail;go_ret;exact ⟨uK (by rw[e1.o,h1,h2];simp),rfl⟩
theorem XI (c m B q n a least most:Nat)(E:Nat->Addr)(K:Px.Lk)(w:fu)(h:Ck w c m B E K)(hn:ji w n a (· < B) q) :
  Calls prog 239 #[.pointer (some ⟨c,0,none⟩),Ref.ptr q,.int .i64 (least:Int),.int .i64 (most:Int)] w fun r w'=>r=.returned (.tuple #[])/\Ck w' c m B E (Px.countP n a least most K)/\Fr c m w w':=by
 obtain ⟨c0,c1,fr⟩:=qN hn.2;have g4:=h.g.c;have HH:Hid (_):=h;clear h hn;unfold Ref.ptr;by_cases h1:n < least
 ·have t1:(n:Int) < least:=by omega
  go_enter func239,ntmps239
  go_wp2_with fail;go_region_with (go_at_call 233;refine (Am c m B E 4 a (by decide) K _ HH.o.drew).mono ?_;rintro r w1 ⟨rfl,h3,h4⟩)
  all_goals (try go_wp2_with fail)
  all_goals
   go_end0
   refine ⟨rfl,?_,(Fr.refl c m w).drew.trans h4⟩;unfold Px.countP;rw[if_pos (ak h1)];exact h3
 ·have t1:¬ (n:Int) < least:=by omega
  by_cases h2:most < n
  ·have t2:(most:Int) < n:=by omega
   go_enter func239,ntmps239
   go_wp2_with fail;go_region_with (go_at_call 233;refine (Am c m B E 4 a (by decide) K _ HH.o.drew).mono ?_;rintro r w1 ⟨rfl,h3,h4⟩)
   all_goals (try go_wp2_with fail)
   all_goals
    go_end0
    refine ⟨rfl,?_,(Fr.refl c m w).drew.trans h4⟩;unfold Px.countP;rw[if_pos (ah h2)];exact h3
  ·have t2:¬ (most:Int) < n:=by omega
   go_enter func239,ntmps239
   go_wp2_with fail;go_end0
   refine ⟨rfl,?_,Fr.refl c m _⟩;unfold Px.countP;rw[if_neg (by omega)];exact HH.o
theorem XJ:prog.underlying 132=some (.map 9 334):=underlying132
theorem Ys (w:fu):(zeroValue 334).run prog w=.ok (.int .i64 0) w:=by kernel_rfl
theorem Ck.look (x:fq)(h4:qE w m K.vars) :
  (Instr.lookup 132 (.map (some m)) (.string x) true).run prog w=.ok (.tuple #[.int .i64 (DC K.vars x:Int),.bool (iK K.vars x).isSome]) w :=
 Wr h4 XJ underlying9 (Ys w) x
def xq (c m B:Nat)(E:Nat->Addr)(w:fu)(r:Nat×Px.Lk)(e:Ending)(w':fu):Prop:=e=.returned (.int .i64 (kk r.1:Int))/\Ck w' c m B E r.2/\Fr c m w w'
theorem qE.drew {w:fu}{m:Nat}{l:List (fq×Nat)}(h:qE w m l):qE w.drew m l:=h
theorem XK (h:iK l x=none):DC l x=0:=by unfold DC;rw[h]
theorem XL {i:Nat}(h:iK l x=some i):DC l x=kk (og l i):=by unfold DC;rw[h]
theorem Zs (c m B q:Nat)(E:Nat->Addr)(K:Px.Lk)(w:fu)(h:Ck w c m B E K) :
  Calls prog 248 #[.pointer (some ⟨q,0,none⟩),.pointer (some ⟨c,0,none⟩)] w (xq c m B E w (105,K)):=by
 have HH:Hid (_):=h;clear h;go_enter func248,ntmps248
 go_wp2_with fail;go_ret;exact ⟨rfl,HH.o,Fr.refl c m _⟩
theorem Z1 (c m B q:Nat)(E:Nat->Addr)(K:Px.Lk)(w:fu)(h:Ck w c m B E K) :
  Calls prog 250 #[.pointer (some ⟨q,0,none⟩),.pointer (some ⟨c,0,none⟩)] w (xq c m B E w (98,K)):=by
 have HH:Hid (_):=h;clear h;go_enter func250,ntmps250
 go_wp2_with fail;go_ret;exact ⟨rfl,HH.o,Fr.refl c m _⟩
theorem Z2 (c m B q own:Nat)(x:fq)(E:Nat->Addr)(K:Px.Lk)(w:fu)(h:Ck w c m B E K)(hv:jQ w x own (· < B) q) :
  Calls prog 234 #[.pointer (some ⟨q,0,none⟩),.pointer (some ⟨c,0,none⟩)] w (xq c m B E w (match iK K.vars x with
   | none=>(63,pF 5 own K)
   | some i=>(og K.vars i,K))):=by
 obtain ⟨pf,h1,h2,h3,h4,h5⟩:=h.ex;obtain ⟨c0,c1,fr⟩:=qN h1;obtain ⟨d0,d1,fd⟩:=qN hv.2;have g5:=h.g.n;have l0:=Ck.look x h4;have l1:=Ck.look x h4.drew;have HH:Hid (_):=h;clear h h1 h2 h3 h4 h5 hv;cases hf:iK K.vars x with
 | none =>
  rw[XK hf,hf] at l0 l1;go_enter func234,ntmps234
  go_wp2_with fail;go_region
  all_goals
   go_wp2_with fail;go_region_with (go_at_call 233;refine (Am c m B E 5 own (by decide) K _ HH.o.drew.drew).mono ?_;rintro r w1 ⟨rfl,h3,h4⟩)
   all_goals
    go_wp2_with fail;go_ret;exact ⟨rfl,h3,(Fr.refl c m w).drew.drew.trans h4⟩
 | some i =>
  rw[XL hf,hf] at l0 l1;go_enter func234,ntmps234
  go_wp2_with fail;go_region
  all_goals
   go_wp2_with fail;go_ret;exact ⟨rfl,HH.o.drew,(Fr.refl c m _).drew⟩
theorem Ck.put {o:Obj}{vs:List (fq×Nat)}(g:Gc w B E)(bc:B<=c)(h1:w.heap[c]?=some (.cells #[.map (some m),.pointer pf] 134))(h2:B<=m)(h3:m≠c)(h4:qE w m K.vars)(h5:(K.e=0/\pf=none)\/(K.e≠0/\∃ f,pf=some ⟨f,0,none⟩/\B<=f/\f≠c/\f≠m/\oV w f K.pl (E K.e)))(hu:qE { w with heap:=w.heap.setIfInBounds m o } m vs) :
  Ck { w with heap:=w.heap.setIfInBounds m o } c m B E ⟨vs,K.e,K.pl⟩/\Fr c m w { w with heap:=w.heap.setIfInBounds m o }:=by
 obtain ⟨es,clock,hb,_⟩:=h4;have hs:=(MapKept.heap_set (o':=o) hb).2;have hB:Below B w { w with heap:=w.heap.setIfInBounds m o }:=⟨rfl,rfl,rfl,by simp,fun k hk=>hs k (by omega)⟩
 refine ⟨⟨g.below hB,bc,pf,?_,h2,h3,hu,?_⟩,⟨rfl,rfl,rfl,by simp,fun k _ _ hk=>hs k hk⟩⟩
 ·show (w.heap.setIfInBounds m o)[c]?=_
  rw[hs c (Ne.symm h3)];exact h1
 ·rcases h5 with h5 | ⟨h5,f,h6,h7,h8,h9,h10⟩
  ·exact ak h5
  ·refine ah ⟨h5,f,h6,h7,h8,h9,?_⟩;unfold oV at h10 |-;show (w.heap.setIfInBounds m o)[f]?=_
   rw[hs f h9];exact h10
theorem Ic (c m B q p k:Nat)(x:fq)(E:Nat->Addr)(K:Px.Lk)(w:fu)(h:Ck w c m B E K)(hv:jQ w x p (· < B) q)(hk:Px.K3 k)(hV:V3 K) :
  Calls prog 231 #[.pointer (some ⟨c,0,none⟩),.pointer (some ⟨q,0,none⟩),.int .i64 (kk k:Int)] w fun r w'=>r=.returned (.tuple #[])/\Ck w' c m B E (rY x p k K)/\Fr c m w w':=by
 obtain ⟨pf,h1,h2,h3,h4,h5⟩:=h.ex;obtain ⟨c0,c1,fr⟩:=qN h1;obtain ⟨d0,d1,fd⟩:=qN hv.2;have g6:=h.g.y;have l1:=Ck.look x h4.drew;have HH:Hid (_):=h;cases hf:iK K.vars x with
 | none =>
  rw[XK hf,hf] at l1;obtain ⟨o,u1,u2⟩:=W1 (P:=prog) (w:=w.drew.drew) (h4.drew.drew) XJ underlying9 x hf k;have hd:=HH.o.drew.drew;have PUT:Hid (_):=Ck.put hd.g hd.bc h1 h2 h3 h4.drew.drew h5 u2;have hgv:Hid (rY x p k K=⟨K.vars++[(x,k)],K.e,K.pl⟩):=by unfold Hid rY;rw[hf]
  clear h h1 h2 h3 h4 h5 hv u2 hd;go_enter func231,ntmps231
  go_wp2_with fail;go_region
  all_goals
   go_wp2_with fail;go_region
   all_goals
    go_wp2_with fail;go_end0
    rw[hgv.o];exact ⟨rfl,PUT.o.1,(Fr.refl c m w).drew.drew.trans PUT.o.2⟩
 | some i =>
  rw[XL hf,hf] at l1;have hk2:Px.K3 (og K.vars i):=by
   obtain ⟨v,hv1,hv2⟩:=KZ (Px.vo hf);rw[hv2];exact hV v hv1
  clear h h1 h2 h3 h4 h5 hv;cases hfit:pQ (og K.vars i) k
  ·have hgv:Hid (rY x p k K=pF 6 p K):=by unfold Hid rY;rw[hf];simp only;rw[if_neg (by simp[hfit])]
   go_enter func231,ntmps231
   go_wp2_with fail;go_region
   all_goals
    go_wp2_with fail;refine (uR _ _ hk2 hk _).mono ?_;rintro r w1 ⟨rfl,rfl⟩;rw[hfit];go_wp2_with fail;go_region_with (go_at_call 233;refine (Am c m B E 6 p (by decide) K _ HH.o.drew.drew).mono ?_;rintro r w1 ⟨rfl,h3,h4⟩)
    all_goals
     go_wp2_with fail;go_end0
     rw[hgv.o];exact ⟨rfl,h3,(Fr.refl c m w).drew.drew.trans h4⟩
  ·have hgv:Hid (rY x p k K=K):=by unfold Hid rY;rw[hf];simp only;rw[if_pos hfit]
   go_enter func231,ntmps231
   go_wp2_with fail;go_region
   all_goals
    go_wp2_with fail;refine (uR _ _ hk2 hk _).mono ?_;rintro r w1 ⟨rfl,rfl⟩;rw[hfit];go_wp2_with fail;go_end0
    rw[hgv.o];exact ⟨rfl,HH.o.drew,(Fr.refl c m w).drew⟩
end Lg
namespace Px
theorem MW (e p:Nat)(c:Lk):(pF e p c).vars=c.vars:=by unfold pF;split<;>rfl
theorem DK (x:Ex):∀ c,(iP x c).2.vars=c.vars:=by
 match x with
 | ⟨op,n,fD,pl,own,none,_⟩ =>
  intro c;simp only[iP,Bb];split
  ·rfl
  ·split
   ·rfl
   ·split
    ·exact MW _ _ _
    ·rfl
 | ⟨op,n,fD,pl,own,some l,none⟩ =>
  intro c;simp only[iP,notP];split
  ·exact DK l c
  ·rw[MW];exact DK l c
 | ⟨op,n,fD,pl,own,some l,some r⟩ =>
  intro c;simp only[iP,uF];split
  ·rw[DK r,DK l]
  ·rw[MW,DK r,DK l]
theorem FN {x:Ex}{c:Lk}(h:V3 c):V3 (iP x c).2:=by unfold V3;rw[DK];exact h
theorem FP (x:Ex)(c:Lk)(h:V3 c):K3 (iP x c).1:=by
 match x with
 | ⟨op,n,fD,pl,own,none,_⟩ =>
  simp only[iP,Bb];split
  ·exact ak rfl
  ·split
   ·exact ah (ak rfl)
   ·cases hf:iK c.vars fD with
    | none=>exact ah (ah rfl)
    | some i =>
     obtain ⟨v,hv1,hv2⟩:=KZ (vo hf);simp only;rw[hv2];exact h v hv1
 | ⟨op,n,fD,pl,own,some l,none⟩=>exact ah (ak rfl)
 | ⟨op,n,fD,pl,own,some l,some r⟩ =>
  simp only[iP,uF,Cv];split
  ·exact ah (ak rfl)
  ·exact ak rfl
end Px
namespace Lg
open Px
def ko (w:fu)(c tl ql:Nat)(Q:Ending->fu->Prop):Prop :=
 (tl=277/\Calls prog 248 #[.pointer (some ⟨ql,0,none⟩),.pointer (some ⟨c,0,none⟩)] w Q) \/
 (tl=228/\Calls prog 234 #[.pointer (some ⟨ql,0,none⟩),.pointer (some ⟨c,0,none⟩)] w Q) \/
 (tl=288/\Calls prog 250 #[.pointer (some ⟨ql,0,none⟩),.pointer (some ⟨c,0,none⟩)] w Q) \/
 (tl=291/\Calls prog 252 #[.pointer (some ⟨ql,0,none⟩),.pointer (some ⟨c,0,none⟩)] w Q) \/
 (tl=294/\Calls prog 254 #[.pointer (some ⟨ql,0,none⟩),.pointer (some ⟨c,0,none⟩)] w Q)
def FQ (tl:Nat):Prop:=tl=277\/tl=228\/tl=288\/tl=291\/tl=294
variable {w:fu}{c ql:Nat}{Q:Ending->fu->Prop}
theorem ko.num (h:ko w c 277 ql Q):Calls prog 248 #[.pointer (some ⟨ql,0,none⟩),.pointer (some ⟨c,0,none⟩)] w Q:=by
 rcases h with ⟨h,k⟩ | ⟨h,k⟩ | ⟨h,k⟩ | ⟨h,k⟩ | ⟨h,k⟩<;>first | exact k | (exact absurd h (by decide))
theorem ko.var (h:ko w c 228 ql Q):Calls prog 234 #[.pointer (some ⟨ql,0,none⟩),.pointer (some ⟨c,0,none⟩)] w Q:=by
 rcases h with ⟨h,k⟩ | ⟨h,k⟩ | ⟨h,k⟩ | ⟨h,k⟩ | ⟨h,k⟩<;>first | exact k | (exact absurd h (by decide))
theorem ko.I8 (h:ko w c 288 ql Q):Calls prog 250 #[.pointer (some ⟨ql,0,none⟩),.pointer (some ⟨c,0,none⟩)] w Q:=by
 rcases h with ⟨h,k⟩ | ⟨h,k⟩ | ⟨h,k⟩ | ⟨h,k⟩ | ⟨h,k⟩<;>first | exact k | (exact absurd h (by decide))
theorem ko.yw (h:ko w c 291 ql Q):Calls prog 252 #[.pointer (some ⟨ql,0,none⟩),.pointer (some ⟨c,0,none⟩)] w Q:=by
 rcases h with ⟨h,k⟩ | ⟨h,k⟩ | ⟨h,k⟩ | ⟨h,k⟩ | ⟨h,k⟩<;>first | exact k | (exact absurd h (by decide))
theorem ko.pair (h:ko w c 294 ql Q):Calls prog 254 #[.pointer (some ⟨ql,0,none⟩),.pointer (some ⟨c,0,none⟩)] w Q:=by
 rcases h with ⟨h,k⟩ | ⟨h,k⟩ | ⟨h,k⟩ | ⟨h,k⟩ | ⟨h,k⟩<;>first | exact k | (exact absurd h (by decide))
theorem jv.ty {x:Px.Ex}{ok:Nat->Prop}{tl:Nat}(h:jv w x ok (.iface tl (Ref.ptr ql))):FQ tl:=by
 unfold FQ;match x with
 | ⟨op,n,fD,pl,own,none,none⟩ =>
  obtain ⟨q,h1,⟨h2,h3,h4⟩ | ⟨h2,h3,h4⟩ | ⟨h2,h3,h4⟩⟩:=h<;>cases h3<;>simp
 | ⟨op,n,fD,pl,own,some l,none⟩=>obtain ⟨h0,q,tl,ql,h1,h2,h3⟩:=h;cases h2;simp
 | ⟨op,n,fD,pl,own,some l,some r⟩=>obtain ⟨q,tl,ql,tr,qr,h1,h2,h3⟩:=h;cases h2;simp
 | ⟨_,_,_,_,_,none,some _⟩=>exact h.elim
theorem Ao (a:Addr)(w:fu):(method 479 277 (.pointer (some a)) "errand/lang.kind").run prog w=.ok (248,.pointer (some a)) w:=by kernel_rfl
theorem Ap (a:Addr)(w:fu):(method 479 228 (.pointer (some a)) "errand/lang.kind").run prog w=.ok (234,.pointer (some a)) w:=by kernel_rfl
theorem Aq (a:Addr)(w:fu):(method 479 288 (.pointer (some a)) "errand/lang.kind").run prog w=.ok (250,.pointer (some a)) w:=by kernel_rfl
theorem Ar (a:Addr)(w:fu):(method 479 291 (.pointer (some a)) "errand/lang.kind").run prog w=.ok (252,.pointer (some a)) w:=by kernel_rfl
theorem MX (a:Addr)(w:fu):(method 479 294 (.pointer (some a)) "errand/lang.kind").run prog w=.ok (254,.pointer (some a)) w:=by kernel_rfl
def rQ (c m B:Nat)(E:Nat->Addr)(x:Px.Ex):Prop:=∀ (K:Px.Lk) (w:fu) (tl ql:Nat),jv w x (· < B) (.iface tl (Ref.ptr ql))->Ck w c m B E K->V3 K->ko w c tl ql (xq c m B E w (iP x K))
theorem jv.drew {w:fu}{x:Px.Ex}{ok:Nat->Prop}{v:fC}(h:jv w x ok v):jv w.drew x ok v:=h.keep fun _ _=>rfl
theorem XM (c m B:Nat)(E:Nat->Addr)(l:Px.Ex)(ih:rQ c m B E l)(k:Nat)(hk:Px.K3 k)(K:Px.Lk)(w:fu)(q:Nat)(hr:jK w l (· < B) q)(h:Ck w c m B E K)(hv:V3 K) :
  Calls prog 238 #[.pointer (some ⟨c,0,none⟩),.pointer (some ⟨q,0,none⟩),.int .i64 (kk k:Int)] w fun r w'=>r=.returned (.tuple #[])/\Ck w' c m B E (rZ l k K)/\Fr c m w w':=by
 obtain ⟨hq,tl,ql,hc,hx⟩:=hr;have hk3:=FP l K hv;have CALL:Hid (∀ W,W=w.drew\/W=w->ko W c tl ql (xq c m B E W (iP l K))):=fun W hW=>by
  rcases hW with rfl | rfl
  ·exact ih K _ tl ql hx.drew h.drew hv
  ·exact ih K _ tl ql hx h hv
 have CQ:Hid (∀ W,Below B w W->W.heap[q]?=some (.cells #[.iface tl (Ref.ptr ql),.int .i64 (l.pl:Int)] 305)):=fun W hW=>by rw[hW.block q hq];exact hc
 have ht:=hx.ty;unfold Ref.ptr at hc;obtain ⟨c0,c1,fr⟩:=qN hc;have HH:Hid (_):=h;clear ih hx h hc;unfold FQ at ht;have hm1:=Ao;have hm2:=Ap;have FL:=Aq;have QG:=Ar;have QH:=MX;rcases ht with rfl | rfl | rfl | rfl | rfl
 all_goals
  go_enter func238,ntmps238
  go_wp2_with fail
  first
   | refine (CALL.o w (ah rfl)).num.mono ?_
   | refine (CALL.o w (ah rfl)).var.mono ?_
   | refine (CALL.o w (ah rfl)).I8.mono ?_
   | refine (CALL.o w (ah rfl)).yw.mono ?_
   | refine (CALL.o w (ah rfl)).pair.mono ?_
  rintro e w1 ⟨rfl,k1,b1⟩;have hc1:=CQ.o w1 (HH.o.fr b1);unfold Ref.ptr at hc1;obtain ⟨e0,e1,fe⟩:=qN hc1;have g6:=k1.g.y;have K1:Hid (Ck w1 c m B E (iP l K).2/\Fr c m w w1):=⟨k1,b1⟩;clear c0 c1 fr k1 b1 hc1;cases hfit:pQ (iP l K).1 k
  ·go_wp2_with fail;refine (uR _ k hk3 hk _).mono ?_;rintro r w2 ⟨rfl,rfl⟩;rw[hfit];go_wp2_with fail;go_region_with (go_at_call 233;refine (Am c m B E 6 l.pl (by decide) _ _ K1.o.1.drew).mono ?_;rintro r w2 ⟨rfl,h3,h4⟩)
   all_goals
    go_wp2_with fail;go_end0
    refine ⟨rfl,?_,K1.o.2.drew.trans h4⟩;unfold rZ;rw[if_neg (by simp[hfit])]
    exact h3
  ·go_wp2_with fail;refine (uR _ k hk3 hk _).mono ?_;rintro r w2 ⟨rfl,rfl⟩;rw[hfit];go_wp2_with fail;go_end0
   refine ⟨rfl,?_,K1.o.2⟩;unfold rZ;rw[if_pos hfit];exact K1.o.1
