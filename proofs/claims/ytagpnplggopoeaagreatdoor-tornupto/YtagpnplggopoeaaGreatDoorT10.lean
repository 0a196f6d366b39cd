import Derived.Test.YtagpnplggopoeaaGreatDoorT09
import Derived.Defers
import Derived.Recover
import Derived.Test.YtagpnplggopoeaaGreatDoorT01
import Derived.Test.YtagpnplggopoeaaGreatDoorT00
import Derived.MapKept
import Derived.Deep.RegionWith
set_option maxRecDepth 100000
set_option maxHeartbeats 4000000
namespace Go.Proofs.YtagpnplggopoeaaGreatDoor
open Go.RowKit
namespace Lg
theorem qd5 {s:ByteArray} {g:Px.Ps→Except Nat (Px.Sm×Px.Ps)}:Late (Px.block s g):=by
 intro st h;unfold Px.block;rw[if_neg (by simp[qee h])];rfl
def ifX (e:Px.Ex) (l m:List Px.Sm):Px.Sm:={ Px.qa8 with op:=105,ex:=some e,one:=l,two:=m }
def kIf (s:ByteArray) (g:Px.Ps→Except Nat (Px.Sm×Px.Ps)) (e:Px.Ex) (l:List Px.Sm) (st:Px.Ps):Except Nat (Px.Sm×Px.Ps) :=
 if Px.onB s st.t ⟨#[101,108,115,101]⟩ then andThen (Px.block s g (Px.nx s st)) fun m st3=>.ok (ifX e l m,st3) else .ok (ifX e l [],st)
theorem zh9 (s:ByteArray) (g:Px.Ps→Except Nat (Px.Sm×Px.Ps)) (st:Px.Ps):Px.ifS s g st=andThen (Px.qa4 s st) fun e st1=>andThen (Px.block s g st1) fun l st2=>kIf s g e l st2:=by
 unfold Px.ifS;cases Px.qa4 s st with
 | error p=>rfl
 | ok r =>
  obtain ⟨e,st1⟩:=r;simp only[andThen];cases Px.block s g st1 with
  | error p=>rfl
  | ok r =>
   obtain ⟨l,st2⟩:=r;simp only[kIf];split
   ·simp only[andThen];cases Px.block s g (Px.nx s st2) with
    | error p=>rfl
    | ok r=>obtain ⟨m,st3⟩:=r;rfl
   ·rfl
theorem qtk (s:ByteArray) (g:Px.Ps→Except Nat (Px.Sm×Px.Ps)) (e:Px.Ex):∀ (l:List Px.Sm) (st:Px.Ps),st.t.k=63→fin (kIf s g e l st)=.error st.t.a:=by
 intro l st h;unfold kIf;rw[if_neg (by simp[qee h])];exact qbt _ h
def tryX (l m:List Px.Sm):Px.Sm:={ Px.qa8 with op:=116,one:=l,two:=m }
theorem qzb (s:ByteArray) (g:Px.Ps→Except Nat (Px.Sm×Px.Ps)) (st:Px.Ps):Px.tryS s g st=andThen (Px.block s g st) fun l st1=>andThen (qcb s ⟨#[101,108,115,101]⟩ st1) fun _ st2=>andThen (Px.block s g st2) fun m st3=>.ok (tryX l m,st3):=by
 unfold Px.tryS;cases Px.block s g st with
 | error p=>rfl
 | ok r =>
  obtain ⟨l,st1⟩:=r;simp only[andThen];rw[qmq];cases qcb s ⟨#[101,108,115,101]⟩ st1 with
  | error p=>rfl
  | ok r =>
   obtain ⟨u,st2⟩:=r;simp only;cases Px.block s g st2 with
   | error p=>rfl
   | ok r=>obtain ⟨m,st3⟩:=r;rfl
def repX (s:ByteArray) (t:Px.Tok) (l:List Px.Sm):Px.Sm:={ Px.qa8 with op:=114,n:=Px.valOf (s.extract t.a t.b).toList,nPl:=t.a,one:=l }
theorem qzz (s:ByteArray) (g:Px.Ps→Except Nat (Px.Sm×Px.Ps)) (st:Px.Ps):Px.qbu s g st=andThen (qda s 110 st) fun t st1=>andThen (Px.block s g st1) fun l st2=>.ok (repX s t l,st2):=by
 unfold Px.qbu;rw[qmx];cases h1:qda s 110 st with
 | error p=>rfl
 | ok r =>
  obtain ⟨t,st1⟩:=r;obtain ⟨rfl,_,_⟩:=qcw h1;simp only[andThen];cases Px.block s g st1 with
  | error p=>rfl
  | ok r=>obtain ⟨l,st2⟩:=r;rfl
def qjw (b:Nat) (s:ByteArray) (n:Nat) (eT eN:Addr) (g:Px.Ps→Except Nat (Px.Sm×Px.Ps)):Prop :=
 ∀ (st:Px.Ps) (w:World),Ref.DomS s (n+1) st→Rd w b s st eT eN→Calls Tryz.prog 187 #[.pointer (some ⟨b,0,none⟩)] w (Out b s eT eN w (Px.block s g st) (BV w))
theorem BV.later {b:Nat} {w0 w w1 w2:World} {l:List Px.Sm} {v:Value} (hb:b < w0.heap.size) (hz:w0.heap.size≤w.heap.size) (h:BV w w1 l v) (k:Kp b w1 w2):∃ vs,SlL w2 v vs (Ref.In w0 w2)∧LsAt w2 l (Ref.In w0 w2) vs:=by
 obtain ⟨vs,h1,h2⟩:=h;have hk:∀ i,Ref.In w w1 i→w2.heap[i]?=w1.heap[i]?:=fun i hi=>k.block i hi.2 (by have:=hi.1;omega)
 have hm:∀ i,Ref.In w w1 i→Ref.In w0 w2 i:=fun i hi=>⟨by have:=hi.1;omega,Nat.lt_of_lt_of_le hi.2 k.size⟩
 exact ⟨vs,(h1.keep hk).mono hm,(h2.keep hk).mono hm⟩
theorem zrd (b:Nat) (s:ByteArray) (n:Nat) (eT eN:Addr) (g:Px.Ps→Except Nat (Px.Sm×Px.Ps)) (hB:qjw b s n eT eN g) (hg:Px.Goes s g) (hs:s.size≤maxLen) (st:Px.Ps) (w:World) (hD:Ref.DomS s (n+1) st) (r:Rd w b s st eT eN) :
  Calls Tryz.prog 185 #[.pointer (some ⟨b,0,none⟩)] w (Out b s eT eN w (Px.tryS s g st) (PtrV w 262)):=by
 have hb:=r.lt;have R:Hid (Rd w b s st eT eN∧Ref.DomS s (n+1) st∧qjw b s n eT eN g∧Px.Goes s (Px.block s g)):=⟨r,hD,hB,Px.qa0 hg⟩;clear r hD hB hg;have E0:Hid (_=_):=qzb s g st;go_enter Tryz.func185,Tryz.ntmps185
 go_wp2_with fail;refine (R.out.2.2.1 st _ R.out.2.1 R.out.1).mono ?_;rintro e w1 ⟨k1,⟨l,st1,v,h1,rfl,hv1,r1⟩ | ⟨p,hp,ht⟩⟩
 ·have E1:Hid (_=_):=E0.out.trans (then_ok h1);have g1:=R.out.2.2.2 _ _ _ R.out.1.tk h1;have hfv:∃ a n c,v=.slice a n c:=by obtain ⟨vs,q1,q2⟩:=hv1;exact q1.form
  obtain ⟨a1,n1,c1,rfl⟩:=hfv;have H1:Hid (Kp b w w1∧BV w w1 l (.slice a1 n1 c1)∧Rd w1 b s st1 eT eN∧Px.Good s st st1):=⟨k1,hv1,r1,g1⟩;clear k1 hv1 r1 g1 h1;go_wp2_with fail;refine (qge b s _ st1 eT eN _ H1.out.2.2.1 hs).mono ?_;rintro e w2 ⟨k2,⟨u,st2,v,h2,rfl,rfl,r2⟩ | ⟨p,hp,ht⟩⟩
  ·have E2:Hid (_=_):=E1.out.trans (then_ok h2);have g2:=H1.out.2.2.2.trans (qrd H1.out.2.2.1.tk h2);have H2:Hid (Kp b w1 w2∧Rd w2 b s st2 eT eN∧Ref.DomS s (n+1) st2):=⟨k2,r2,R.out.2.1.good g2⟩;clear k2 r2 g2 h2;go_wp2_with fail;refine (R.out.2.2.1 st2 _ H2.out.2.2 H2.out.2.1).mono ?_;rintro e w3 ⟨k3,⟨m,st3,v,h3,rfl,hv3,r3⟩ | ⟨p,hp,ht⟩⟩
   ·have E3:Hid (_=_):=E2.out.trans (then_ok h3);have hfv:∃ a n c,v=.slice a n c:=by obtain ⟨vs,q1,q2⟩:=hv3;exact q1.form
    obtain ⟨a3,n3,c3,rfl⟩:=hfv;have H3:Hid (Kp b w2 w3∧BV w2 w3 m (.slice a3 n3 c3)∧Rd w3 b s st3 eT eN):=⟨k3,hv3,r3⟩;clear k3 hv3 r3 h3;go_wp2_with fail;go_ret;have z1:=H1.out.1.size;have z2:=H2.out.1.size;have z3:=H3.out.1.size;have k13:=(H2.out.1.trans H3.out.1);obtain ⟨u1,f1,f2⟩:=BV.later hb (Nat.le_refl _) H1.out.2.1 (k13.alloc (.cells #[.slice a1 n1 c1,.slice a3 n3 c3] 322));obtain ⟨u3,f3,f4⟩:=BV.later hb (by omega) H3.out.2.1 ((Kp.refl b w3).alloc (.cells #[.slice a1 n1 c1,.slice a3 n3 c3] 322))
    refine ⟨(H1.out.1.trans k13).alloc _,Or.inl ⟨_,_,_,E3.out,rfl,⟨w3.heap.size,rfl,?_⟩,H3.out.2.2.alloc _⟩⟩;exact ⟨.slice a1 n1 c1,.slice a3 n3 c3,u1,u3,⟨w3.heap.size,⟨by omega,by simp⟩,Or.inr (Or.inr (Or.inr (Or.inl ⟨rfl,rfl,new1⟩)))⟩,f1,f2,f3,f4⟩
   ·obtain ⟨c,rfl⟩:=ht.form;have k02:=H1.out.1.trans H2.out.1;exact ⟨rfl,k02.trans k3,Or.inr ⟨p,by rw[E2.out];exact qan hp fun _ _ h=>qbt _ h,ht.low k02.size⟩⟩
  ·obtain ⟨c,rfl⟩:=ht.form;exact ⟨rfl,H1.out.1.trans k2,Or.inr ⟨p,by rw[E1.out];exact qan hp fun _ st2 h=>qan (qd5 st2 h) fun _ _ h'=>qbt _ h',ht.low H1.out.1.size⟩⟩
 ·obtain ⟨c,rfl⟩:=ht.form;exact ⟨rfl,k1,Or.inr ⟨p,by rw[E0.out];exact qan hp fun _ st1 h=>qan (qc8 s _ st1 h) fun _ st2 h'=>qan (qd5 st2 h') fun _ _ h''=>qbt _ h'',ht⟩⟩
theorem zdq (b:Nat) (s:ByteArray) (n:Nat) (eT eN:Addr) (g:Px.Ps→Except Nat (Px.Sm×Px.Ps)) (hB:qjw b s n eT eN g) (hg:Px.Goes s g) (hs:s.size≤maxLen) (st:Px.Ps) (w:World) (hD:Ref.DomS s (n+1) st) (r:Rd w b s st eT eN) :
  Calls Tryz.prog 184 #[.pointer (some ⟨b,0,none⟩)] w (Out b s eT eN w (Px.ifS s g st) (PtrV w 260)):=by
 have hb:=r.lt;have R:Hid (Rd w b s st eT eN∧Ref.DomS s (n+1) st∧qjw b s n eT eN g∧Px.Goes s (Px.block s g)):=⟨r,hD,hB,Px.qa0 hg⟩;have hn0:=hD.n0;have hn1:st.nest+(s.size+1:Nat)≤1000000:=by have:=hD.n1;omega
 clear r hD hB hg;have E0:Hid (_=_):=zh9 s g st;go_enter Tryz.func184,Tryz.ntmps184
 go_wp2_with fail;refine (qzx b s eT eN hs st _ R.out.1 hn0 hn1).mono ?_;rintro e w1 ⟨k1,⟨x,st1,v,h1,rfl,⟨qr,rfl,hv1⟩,r1⟩ | ⟨p,hp,ht⟩⟩
 ·have E1:Hid (_=_):=E0.out.trans (then_ok h1);have g1:=Px.qbb s _ _ _ R.out.1.tk h1;have H1:Hid (Kp b w w1∧RootAt w1 x (Ref.In w w1) qr∧Rd w1 b s st1 eT eN∧Ref.DomS s (n+1) st1):=⟨k1,hv1,r1,R.out.2.1.good g1⟩;clear k1 hv1 r1 g1 h1;unfold Ref.ptr;go_wp2_with fail;refine (R.out.2.2.1 st1 _ H1.out.2.2.2 H1.out.2.2.1).mono ?_;rintro e w2 ⟨k2,⟨l,st2,v,h2,rfl,hv2,r2⟩ | ⟨p,hp,ht⟩⟩
  ·have E2:Hid (_=_):=E1.out.trans (then_ok h2);have g2:=R.out.2.2.2 _ _ _ H1.out.2.2.1.tk h2;have hfv:∃ a n c,v=.slice a n c:=by obtain ⟨vs,q1,q2⟩:=hv2;exact q1.form
   obtain ⟨a2,n2,c2,rfl⟩:=hfv;have H2:Hid (Kp b w1 w2∧BV w1 w2 l (.slice a2 n2 c2)∧Rd w2 b s st2 eT eN∧Ref.DomS s (n+1) st2):=⟨k2,hv2,r2,H1.out.2.2.2.good g2⟩;have z2:=k2.size;clear k2 hv2 r2 g2 h2;go_wp2_with fail;refine (qk3 b s _ st2 eT eN _ (H2.out.2.2.1.alloc _) hs).mono ?_;rintro e w3 ⟨k3,⟨rfl,r3⟩ | ⟨ho,h63,ht⟩⟩
   ·have z1:=H1.out.1.size;have hg3:=qgr k3 (by omega)
    obtain ⟨d0,d1,d2,df⟩:=cells3 hg3;have z3:=k3.qdo.size;have H3:Hid (Kp b w2 w3∧Rd w3 b s (qnm s ⟨#[101,108,115,101]⟩ st2) eT eN∧w3.heap[w2.heap.size]?=_):=⟨k3.qdo,r3,hg3⟩;have hq3:w2.heap.size < w3.heap.size:=lt_of_cell d0;clear k3 r3 hg3;cases ho:Px.onB s st2.t ⟨#[101,108,115,101]⟩
    ·rw[qjz ho] at H3;have E3:Hid (Px.ifS s g st=.ok (ifX x l [],st2)):=by unfold Hid;rw[E2.out,kIf,if_neg (by simp[ho])]
     clear ho;go_wp2_with fail;go_ret;have k13:=H2.out.1.trans H3.out.1;obtain ⟨u1,f1,f2⟩:=BV.later hb z1 H2.out.2.1 H3.out.1;refine ⟨H1.out.1.trans k13,Or.inl ⟨_,_,_,E3.out,rfl,⟨w2.heap.size,rfl,?_⟩,H3.out.2.1⟩⟩;refine ⟨.slice a2 n2 c2,.slice none 0 0,u1,[],⟨w2.heap.size,⟨by omega,hq3⟩,Or.inr (Or.inr (Or.inl ⟨rfl,rfl,qr,x,H3.out.2.2,rfl,?_⟩))⟩,f1,f2,Or.inl ⟨rfl,rfl⟩,LsAt.qbl.2 rfl⟩
     exact (H1.out.2.1.keep fun i hi=>k13.block i hi.2 (by have:=hi.1;omega)).mono fun i hi=>⟨hi.1,by have:=hi.2;omega⟩
    ·have g3:=Px.qaf H2.out.2.2.1.tk ho;rw[qmg ho] at H3;have E3:Hid (Px.ifS s g st=andThen (Px.block s g (Px.nx s st2)) fun m st3=>.ok (ifX x l m,st3)):=by unfold Hid;rw[E2.out,kIf,if_pos ho]
     have D3:Hid (Ref.DomS s (n+1) (Px.nx s st2)):=H2.out.2.2.2.good g3;clear ho g3;go_wp2_with fail;refine (R.out.2.2.1 (Px.nx s st2) _ D3.out H3.out.2.1).mono ?_;rintro e w4 ⟨k4,⟨m,st4,v,h4,rfl,hv4,r4⟩ | ⟨p,hp,ht⟩⟩
     ·have E4:Hid (_=_):=E3.out.trans (then_ok h4);have hfv:∃ a n c,v=.slice a n c:=by obtain ⟨vs,q1,q2⟩:=hv4;exact q1.form
      obtain ⟨a4,n4,c4,rfl⟩:=hfv;have hg4:w4.heap[w2.heap.size]?=_:=(k4.block _ hq3 (by omega)).trans H3.out.2.2
      obtain ⟨e0,e1,e2,ef⟩:=cells3 hg4;have H4:Hid (Kp b w3 w4∧BV w3 w4 m (.slice a4 n4 c4)∧Rd w4 b s st4 eT eN∧w4.heap[w2.heap.size]?=_):=⟨k4,hv4,r4,hg4⟩;have z4:=k4.size;clear k4 hv4 r4 hg4 h4 d0 d1 d2 df;go_wp2_with fail;go_ret;have hne:∀ i,Ref.In w3 w4 i→i≠w2.heap.size:=fun i hi=>by have:=hi.1;omega
      have kS:∀ i,i≠w2.heap.size→(w4.setCell ⟨w2.heap.size,2,none⟩ (.slice a4 n4 c4)).heap[i]?=w4.heap[i]?:=fun i hi=>Ref.qag _ hi
      have k24:=H3.out.1.trans H4.out.1;have k14:=H2.out.1.trans k24;have zS:(w4.setCell ⟨w2.heap.size,2,none⟩ (.slice a4 n4 c4)).heap.size=w4.heap.size:=Ref.size_set _ _ _;refine ⟨(H1.out.1.trans k14).setN (by omega) _,Or.inl ⟨_,_,_,E4.out,rfl,⟨w2.heap.size,rfl,?_⟩,H4.out.2.2.1.setT H4.out.2.2.2 (by decide) (by omega) _⟩⟩
      obtain ⟨u1,f1,f2⟩:=BV.later (w0:=w1) (by omega) (Nat.le_refl _) H2.out.2.1 (Kp.refl b w2)
      obtain ⟨u3,f3,f4⟩:=H4.out.2.1;have hk1:∀ i,Ref.In w1 w2 i→(w4.setCell ⟨w2.heap.size,2,none⟩ (.slice a4 n4 c4)).heap[i]?=w2.heap[i]?:=fun i hi=>(kS i (by have:=hi.2;omega)).trans (k24.block i hi.2 (by have:=hi.1;omega))
      have hm1:∀ i,Ref.In w1 w2 i→Ref.In w (w4.setCell ⟨w2.heap.size,2,none⟩ (.slice a4 n4 c4)) i:=fun i hi=>⟨by have:=hi.1;omega,by rw[zS];have:=hi.2;omega⟩
      have hk3:∀ i,Ref.In w3 w4 i→(w4.setCell ⟨w2.heap.size,2,none⟩ (.slice a4 n4 c4)).heap[i]?=w4.heap[i]?:=fun i hi=>kS i (hne i hi)
      have hm3:∀ i,Ref.In w3 w4 i→Ref.In w (w4.setCell ⟨w2.heap.size,2,none⟩ (.slice a4 n4 c4)) i:=fun i hi=>⟨by have:=hi.1;omega,by rw[zS];exact hi.2⟩
      refine ⟨.slice a2 n2 c2,.slice a4 n4 c4,u1,u3,⟨w2.heap.size,⟨by omega,by rw[zS];omega⟩,Or.inr (Or.inr (Or.inl ⟨rfl,rfl,qr,x,?_,rfl,?_⟩))⟩,(f1.keep hk1).mono hm1,(f2.keep hk1).mono hm1,(f3.keep hk3).mono hm3,(f4.keep hk3).mono hm3⟩
      ·rw[Ref.heap_set _ H4.out.2.2.2];simp[Ref.ptr]
      ·exact (H1.out.2.1.keep fun i hi=>(kS i (by have:=hi.2;omega)).trans (k14.block i hi.2 (by have:=hi.1;omega))).mono fun i hi=>⟨hi.1,by rw[zS];have:=hi.2;omega⟩
     ·obtain ⟨c,rfl⟩:=ht.form;have k03:=(H1.out.1.trans H2.out.1).trans H3.out.1;exact ⟨rfl,k03.trans k4,Or.inr ⟨p,by rw[E3.out];exact qan hp fun _ _ h=>qbt _ h,ht.low k03.size⟩⟩
   ·obtain ⟨c,rfl⟩:=ht.form;have k02:=H1.out.1.trans H2.out.1;exact ⟨rfl,k02.trans k3.qdo,Or.inr ⟨_,by rw[E2.out,kIf,if_pos ho];exact qan (qd5 _ h63) fun _ _ h=>qbt _ h,ht.low (by have:=k02.size;simp;omega)⟩⟩
  ·obtain ⟨c,rfl⟩:=ht.form;exact ⟨rfl,H1.out.1.trans k2,Or.inr ⟨p,by rw[E1.out];exact qan hp (qtk s g x),ht.low H1.out.1.size⟩⟩
 ·obtain ⟨c,rfl⟩:=ht.form;exact ⟨rfl,k1,Or.inr ⟨p,by rw[E0.out];exact qan hp fun e st1 h=>qan (qd5 st1 h) (qtk s g e),ht⟩⟩
open Go.RowKit
def someR (r:Except Nat (Px.Sm×Px.Ps)):Except Nat (Option Px.Sm×Px.Ps) :=
 match r with
 | .ok (x,st')=>.ok (some x,st')
 | .error p=>.error p
theorem U_of {s:ByteArray} {n:Nat} {st:Px.Ps} {r:Except Nat (Px.Sm×Px.Ps)} (hs:starts s st=true) (h:Px.stmt s n st=r):qf9 s (Px.stmt s n) st=someR r:=by
 unfold qf9;rw[if_pos hs,h];rfl
theorem qna {s:ByteArray} {n:Nat} {st:Px.Ps} {r:Except Nat (Px.Sm×Px.Ps)} {p:Nat} (hs:starts s st=true) (h:Px.stmt s n st=r) (hp:fin r=.error p):fin (qf9 s (Px.stmt s n) st)=.error p:=by
 rw[U_of hs h];rcases qdf hp with rfl | ⟨x,st',rfl,h1,rfl⟩
 ·rfl
 ·exact qbt _ h1
theorem zhm (s:ByteArray):Late (Px.letS s):=by
 intro st h;rw[zah];exact qan (qgm s (by decide) st h) (qv2 s)
theorem zji (s:ByteArray):Late (Px.call s):=by
 intro st h;rw[qt7];exact qan (qgm s (by decide) st h) fun t st1 h1=>qan (qc8 s _ st1 h1) fun _ st2 h'=>qun s _ st2 h'
theorem zn9 {s:ByteArray} {g:Px.Ps→Except Nat (Px.Sm×Px.Ps)}:Late (Px.ifS s g):=by
 intro st h;rw[zh9];exact qan (qkv s st h) fun e st1 h1=>qan (qd5 st1 h1) (qtk s g e)
theorem zer {s:ByteArray} {g:Px.Ps→Except Nat (Px.Sm×Px.Ps)}:Late (Px.tryS s g):=by
 intro st h;rw[qzb];exact qan (qd5 st h) fun _ st1 h=>qan (qc8 s _ st1 h) fun _ st2 h'=>qan (qd5 st2 h') fun _ _ h''=>qbt _ h''
theorem zfr {s:ByteArray} {g:Px.Ps→Except Nat (Px.Sm×Px.Ps)}:Late (Px.qbu s g):=by
 intro st h;rw[qzz];exact qan (qgm s (by decide) st h) fun _ st1 h=>qan (qd5 st1 h) fun _ _ h'=>qbt _ h'
theorem qm3 {s:ByteArray} {n:Nat} {st:Px.Ps} (hD:Ref.DomS s (n+1) st) {x:ByteArray} (ho:Px.onB s st.t x=true):Ref.DomS s (n+1) (Px.nx s st):=hD.good (Px.qaf hD.tk ho)
theorem SAt.low {w0 w w':World} {x:Px.Sm} {v:Value} (h:SAt w' x (Ref.In w w') v) (hz:w0.heap.size≤w.heap.size):SAt w' x (Ref.In w0 w') v:=h.mono fun i hi=>⟨by have:=hi.1;omega,hi.2⟩
theorem qk6 (b:Nat) (s:ByteArray) (n:Nat) (eT eN:Addr) (hs:s.size≤maxLen) (st:Px.Ps) (w:World) (hD:Ref.DomS s (n+1) st) (r:Rd w b s st eT eN) (h1:Px.onB s st.t ⟨#[108,101,116]⟩=true) :
  Calls Tryz.prog 137 #[.pointer (some ⟨b,0,none⟩)] w (Out b s eT eN w (qf9 s (Px.stmt s (n+1)) st) (SoV w)):=by
 have hS:Hid (starts s st=true∧Px.stmt s (n+1) st=Px.letS s (Px.nx s st)):=⟨by unfold starts;rw[h1];simp,by rw[Px.stmt,if_pos h1]⟩
 have R:Hid (Rd w b s st eT eN∧True):=⟨r,trivial⟩;have hn0:=hD.n0;have hn1:st.nest+(s.size+1:Nat)≤1000000:=by have:=hD.n1;omega
 have D1:Hid (Ref.DomS s (n+1) (Px.nx s st)):=qm3 hD h1;clear r hD;go_enter Tryz.func137,Tryz.ntmps137
 go_wp2_with fail;refine (qek b s _ st eT eN _ R.out.1 hs h1).mono ?_;rintro e w1 ⟨k1,⟨u,st1,v,he,rfl,rfl,r1⟩ | ⟨p,hp,ht⟩⟩
 ·cases he;have H1:Hid (Kp b w w1∧Rd w1 b s (Px.nx s st) eT eN):=⟨k1,r1⟩;have z1:=k1.size;clear k1 r1;go_wp2_with fail;refine (zti b s eT eN hs _ _ H1.out.2 (show 0≤(Px.nx s st).nest from hn0) hn1).mono ?_;rintro e w2 ⟨k2,⟨x,st2,v,h2,rfl,⟨q,rfl,hv⟩,r2⟩ | ⟨p,hp,ht⟩⟩
  ·have E:Hid (qf9 s (Px.stmt s (n+1)) st=.ok (some x,st2)):=by unfold Hid;rw[U_of hS.out.1 hS.out.2,h2];rfl
   have H2:Hid (Kp b w1 w2∧SAt w2 x (Ref.In w1 w2) (.iface 247 (Ref.ptr q))∧Rd w2 b s st2 eT eN):=⟨k2,hv,r2⟩;clear k2 h2 hv r2;unfold Ref.ptr at H2 ⊢;go_wp2_with fail;go_ret2;exact ⟨H1.out.1.trans H2.out.1,Or.inl ⟨_,_,_,E.out,rfl,⟨_,rfl,H2.out.2.1.low z1⟩,H2.out.2.2⟩⟩
  ·obtain ⟨c,rfl⟩:=ht.form;exact ⟨rfl,H1.out.1.trans k2,Or.inr ⟨p,qna hS.out.1 hS.out.2 hp,ht.low H1.out.1.size⟩⟩
 ·obtain ⟨c,rfl⟩:=ht.form;obtain ⟨h63,rfl⟩:=qb3 hp;exact ⟨rfl,k1,Or.inr ⟨_,qna hS.out.1 hS.out.2 (zhm s _ h63),ht⟩⟩
theorem qi0 (b:Nat) (s:ByteArray) (n:Nat) (eT eN:Addr) (hs:s.size≤maxLen) (st:Px.Ps) (w:World) (hD:Ref.DomS s (n+1) st) (r:Rd w b s st eT eN) (h1:Px.onB s st.t ⟨#[108,101,116]⟩=false) (h2:Px.onB s st.t ⟨#[99,97,108,108]⟩=true) :
  Calls Tryz.prog 137 #[.pointer (some ⟨b,0,none⟩)] w (Out b s eT eN w (qf9 s (Px.stmt s (n+1)) st) (SoV w)):=by
 have hS:Hid (starts s st=true∧Px.stmt s (n+1) st=Px.call s (Px.nx s st)):=⟨by unfold starts;rw[h2];simp,by rw[Px.stmt,if_neg (by simp[h1]),if_pos h2]⟩
 have R:Hid (Rd w b s st eT eN∧True):=⟨r,trivial⟩;have hn0:=hD.n0;have hn1:st.nest+(s.size+1:Nat)≤1000000:=by have:=hD.n1;omega
 have D1:Hid (Ref.DomS s (n+1) (Px.nx s st)):=qm3 hD h2;clear r hD;go_enter Tryz.func137,Tryz.ntmps137
 go_wp2_with fail;refine (qbn b s _ st eT eN _ R.out.1 h1).mono ?_;rintro e w1 ⟨rfl,rfl⟩;go_wp2_with fail;refine (qek b s _ st eT eN _ R.out.1 hs h2).mono ?_;rintro e w1 ⟨k1,⟨u,st1,v,he,rfl,rfl,r1⟩ | ⟨p,hp,ht⟩⟩
 ·cases he;have H1:Hid (Kp b w w1∧Rd w1 b s (Px.nx s st) eT eN):=⟨k1,r1⟩;have z1:=k1.size;clear k1 r1;go_wp2_with fail;refine (qt8 b s eT eN hs _ _ H1.out.2 (show 0≤(Px.nx s st).nest from hn0) hn1).mono ?_;rintro e w2 ⟨k2,⟨x,st2,v,h2,rfl,⟨q,rfl,hv⟩,r2⟩ | ⟨p,hp,ht⟩⟩
  ·have E:Hid (qf9 s (Px.stmt s (n+1)) st=.ok (some x,st2)):=by unfold Hid;rw[U_of hS.out.1 hS.out.2,h2];rfl
   have H2:Hid (Kp b w1 w2∧SAt w2 x (Ref.In w1 w2) (.iface 258 (Ref.ptr q))∧Rd w2 b s st2 eT eN):=⟨k2,hv,r2⟩;clear k2 h2 hv r2;unfold Ref.ptr at H2 ⊢;go_wp2_with fail;go_ret2;exact ⟨H1.out.1.trans H2.out.1,Or.inl ⟨_,_,_,E.out,rfl,⟨_,rfl,H2.out.2.1.low z1⟩,H2.out.2.2⟩⟩
  ·obtain ⟨c,rfl⟩:=ht.form;exact ⟨rfl,H1.out.1.trans k2,Or.inr ⟨p,qna hS.out.1 hS.out.2 hp,ht.low H1.out.1.size⟩⟩
 ·obtain ⟨c,rfl⟩:=ht.form;obtain ⟨h63,rfl⟩:=qb3 hp;exact ⟨rfl,k1,Or.inr ⟨_,qna hS.out.1 hS.out.2 (zji s _ h63),ht⟩⟩
theorem qo7 (b:Nat) (s:ByteArray) (n:Nat) (eT eN:Addr) (hB:qjw b s n eT eN (Px.stmt s n)) (hs:s.size≤maxLen) (st:Px.Ps) (w:World) (hD:Ref.DomS s (n+1) st) (r:Rd w b s st eT eN) (h1:Px.onB s st.t ⟨#[108,101,116]⟩=false) (h2:Px.onB s st.t ⟨#[99,97,108,108]⟩=false) (h3:Px.onB s st.t ⟨#[105,102]⟩=true) :
  Calls Tryz.prog 137 #[.pointer (some ⟨b,0,none⟩)] w (Out b s eT eN w (qf9 s (Px.stmt s (n+1)) st) (SoV w)):=by
 have hS:Hid (starts s st=true∧Px.stmt s (n+1) st=Px.ifS s (Px.stmt s n) (Px.nx s st)):=⟨by unfold starts;rw[h3];simp,by rw[Px.stmt,if_neg (by simp[h1]),if_neg (by simp[h2]),if_pos h3]⟩
 have R:Hid (Rd w b s st eT eN∧qjw b s n eT eN (Px.stmt s n)):=⟨r,hB⟩;have hn0:=hD.n0;have hn1:st.nest+(s.size+1:Nat)≤1000000:=by have:=hD.n1;omega
 have D1:Hid (Ref.DomS s (n+1) (Px.nx s st)):=qm3 hD h3;clear r hD hB;go_enter Tryz.func137,Tryz.ntmps137
 go_wp2_with fail;refine (qbn b s _ st eT eN _ R.out.1 h1).mono ?_;rintro e w1 ⟨rfl,rfl⟩;go_wp2_with fail;refine (qbn b s _ st eT eN _ R.out.1 h2).mono ?_;rintro e w1 ⟨rfl,rfl⟩;go_wp2_with fail;refine (qek b s _ st eT eN _ R.out.1 hs h3).mono ?_;rintro e w1 ⟨k1,⟨u,st1,v,he,rfl,rfl,r1⟩ | ⟨p,hp,ht⟩⟩
 ·cases he;have H1:Hid (Kp b w w1∧Rd w1 b s (Px.nx s st) eT eN):=⟨k1,r1⟩;have z1:=k1.size;clear k1 r1;go_wp2_with fail;refine (zdq b s n eT eN _ R.out.2 (Px.qam s n) hs _ _ D1.out H1.out.2).mono ?_;rintro e w2 ⟨k2,⟨x,st2,v,h2,rfl,⟨q,rfl,hv⟩,r2⟩ | ⟨p,hp,ht⟩⟩
  ·have E:Hid (qf9 s (Px.stmt s (n+1)) st=.ok (some x,st2)):=by unfold Hid;rw[U_of hS.out.1 hS.out.2,h2];rfl
   have H2:Hid (Kp b w1 w2∧SAt w2 x (Ref.In w1 w2) (.iface 260 (Ref.ptr q))∧Rd w2 b s st2 eT eN):=⟨k2,hv,r2⟩;clear k2 h2 hv r2;unfold Ref.ptr at H2 ⊢;go_wp2_with fail;go_ret2;exact ⟨H1.out.1.trans H2.out.1,Or.inl ⟨_,_,_,E.out,rfl,⟨_,rfl,H2.out.2.1.low z1⟩,H2.out.2.2⟩⟩
  ·obtain ⟨c,rfl⟩:=ht.form;exact ⟨rfl,H1.out.1.trans k2,Or.inr ⟨p,qna hS.out.1 hS.out.2 hp,ht.low H1.out.1.size⟩⟩
 ·obtain ⟨c,rfl⟩:=ht.form;obtain ⟨h63,rfl⟩:=qb3 hp;exact ⟨rfl,k1,Or.inr ⟨_,qna hS.out.1 hS.out.2 (zn9 _ h63),ht⟩⟩
theorem qk5 (b:Nat) (s:ByteArray) (n:Nat) (eT eN:Addr) (hB:qjw b s n eT eN (Px.stmt s n)) (hs:s.size≤maxLen) (st:Px.Ps) (w:World) (hD:Ref.DomS s (n+1) st) (r:Rd w b s st eT eN) (h1:Px.onB s st.t ⟨#[108,101,116]⟩=false) (h2:Px.onB s st.t ⟨#[99,97,108,108]⟩=false) (h3:Px.onB s st.t ⟨#[105,102]⟩=false) (h4:Px.onB s st.t ⟨#[116,114,121]⟩=true) :
  Calls Tryz.prog 137 #[.pointer (some ⟨b,0,none⟩)] w (Out b s eT eN w (qf9 s (Px.stmt s (n+1)) st) (SoV w)):=by
 have hS:Hid (starts s st=true∧Px.stmt s (n+1) st=Px.tryS s (Px.stmt s n) (Px.nx s st)):=⟨by unfold starts;rw[h4];simp,by rw[Px.stmt,if_neg (by simp[h1]),if_neg (by simp[h2]),if_neg (by simp[h3]),if_pos h4]⟩
 have R:Hid (Rd w b s st eT eN∧qjw b s n eT eN (Px.stmt s n)):=⟨r,hB⟩;have hn0:=hD.n0;have hn1:st.nest+(s.size+1:Nat)≤1000000:=by have:=hD.n1;omega
 have D1:Hid (Ref.DomS s (n+1) (Px.nx s st)):=qm3 hD h4;clear r hD hB;go_enter Tryz.func137,Tryz.ntmps137
 go_wp2_with fail;refine (qbn b s _ st eT eN _ R.out.1 h1).mono ?_;rintro e w1 ⟨rfl,rfl⟩;go_wp2_with fail;refine (qbn b s _ st eT eN _ R.out.1 h2).mono ?_;rintro e w1 ⟨rfl,rfl⟩;go_wp2_with fail;refine (qbn b s _ st eT eN _ R.out.1 h3).mono ?_;rintro e w1 ⟨rfl,rfl⟩;go_wp2_with fail;refine (qek b s _ st eT eN _ R.out.1 hs h4).mono ?_;rintro e w1 ⟨k1,⟨u,st1,v,he,rfl,rfl,r1⟩ | ⟨p,hp,ht⟩⟩
 ·cases he;have H1:Hid (Kp b w w1∧Rd w1 b s (Px.nx s st) eT eN):=⟨k1,r1⟩;have z1:=k1.size;clear k1 r1;go_wp2_with fail;refine (zrd b s n eT eN _ R.out.2 (Px.qam s n) hs _ _ D1.out H1.out.2).mono ?_;rintro e w2 ⟨k2,⟨x,st2,v,h2,rfl,⟨q,rfl,hv⟩,r2⟩ | ⟨p,hp,ht⟩⟩
  ·have E:Hid (qf9 s (Px.stmt s (n+1)) st=.ok (some x,st2)):=by unfold Hid;rw[U_of hS.out.1 hS.out.2,h2];rfl
   have H2:Hid (Kp b w1 w2∧SAt w2 x (Ref.In w1 w2) (.iface 262 (Ref.ptr q))∧Rd w2 b s st2 eT eN):=⟨k2,hv,r2⟩;clear k2 h2 hv r2;unfold Ref.ptr at H2 ⊢;go_wp2_with fail;go_ret2;exact ⟨H1.out.1.trans H2.out.1,Or.inl ⟨_,_,_,E.out,rfl,⟨_,rfl,H2.out.2.1.low z1⟩,H2.out.2.2⟩⟩
  ·obtain ⟨c,rfl⟩:=ht.form;exact ⟨rfl,H1.out.1.trans k2,Or.inr ⟨p,qna hS.out.1 hS.out.2 hp,ht.low H1.out.1.size⟩⟩
 ·obtain ⟨c,rfl⟩:=ht.form;obtain ⟨h63,rfl⟩:=qb3 hp;exact ⟨rfl,k1,Or.inr ⟨_,qna hS.out.1 hS.out.2 (zer _ h63),ht⟩⟩
theorem zlb (b:Nat) (s:ByteArray) (n:Nat) (eT eN:Addr) (hB:qjw b s n eT eN (Px.stmt s n)) (hs:s.size≤maxLen) (st:Px.Ps) (w:World) (hD:Ref.DomS s (n+1) st) (r:Rd w b s st eT eN) (h1:Px.onB s st.t ⟨#[108,101,116]⟩=false) (h2:Px.onB s st.t ⟨#[99,97,108,108]⟩=false) (h3:Px.onB s st.t ⟨#[105,102]⟩=false) (h4:Px.onB s st.t ⟨#[116,114,121]⟩=false) (h5:Px.onB s st.t ⟨#[114,101,112,101,97,116]⟩=true) :
  Calls Tryz.prog 137 #[.pointer (some ⟨b,0,none⟩)] w (Out b s eT eN w (qf9 s (Px.stmt s (n+1)) st) (SoV w)):=by
 have hS:Hid (starts s st=true∧Px.stmt s (n+1) st=Px.qbu s (Px.stmt s n) (Px.nx s st)):=⟨by unfold starts;rw[h5];simp,by rw[Px.stmt,if_neg (by simp[h1]),if_neg (by simp[h2]),if_neg (by simp[h3]),if_neg (by simp[h4]),if_pos h5]⟩
 have R:Hid (Rd w b s st eT eN∧qjw b s n eT eN (Px.stmt s n)):=⟨r,hB⟩;have hn0:=hD.n0;have hn1:st.nest+(s.size+1:Nat)≤1000000:=by have:=hD.n1;omega
 have D1:Hid (Ref.DomS s (n+1) (Px.nx s st)):=qm3 hD h5;clear r hD hB;go_enter Tryz.func137,Tryz.ntmps137
 go_wp2_with fail;refine (qbn b s _ st eT eN _ R.out.1 h1).mono ?_;rintro e w1 ⟨rfl,rfl⟩;go_wp2_with fail;refine (qbn b s _ st eT eN _ R.out.1 h2).mono ?_;rintro e w1 ⟨rfl,rfl⟩;go_wp2_with fail;refine (qbn b s _ st eT eN _ R.out.1 h3).mono ?_;rintro e w1 ⟨rfl,rfl⟩;go_wp2_with fail;refine (qbn b s _ st eT eN _ R.out.1 h4).mono ?_;rintro e w1 ⟨rfl,rfl⟩;go_wp2_with fail;refine (qek b s _ st eT eN _ R.out.1 hs h5).mono ?_;rintro e w1 ⟨k1,⟨u,st1,v,he,rfl,rfl,r1⟩ | ⟨p,hp,ht⟩⟩
 ·cases he;have H1:Hid (Kp b w w1∧Rd w1 b s (Px.nx s st) eT eN):=⟨k1,r1⟩;have z1:=k1.size;clear k1 r1;go_wp2_with fail;have E0:Hid (Px.qbu s (Px.stmt s n) (Px.nx s st)=_):=qzz s (Px.stmt s n) (Px.nx s st);refine (qd2 b s (Px.nx s st) eT eN _ H1.out.2 hs).mono ?_;rintro e w2 ⟨k2,⟨t,st2,v,h2,rfl,⟨qn,rfl,hv⟩,r2⟩ | ⟨p,hp,ht⟩⟩
  ·have E2:Hid (_=_):=E0.out.trans (then_ok h2);have g2:=qri H1.out.2.tk (by decide) (by decide) h2
   have H2:Hid (Kp b w1 w2∧NumAt w2 (Px.valOf (s.extract t.a t.b).toList) t.a (Ref.In w1 w2) qn∧Rd w2 b s st2 eT eN∧Ref.DomS s (n+1) st2):=⟨k2,hv,r2,D1.out.good g2⟩;have z2:=k2.size;clear k2 hv r2 g2 h2;unfold Ref.ptr;go_wp2_with fail;refine (R.out.2 st2 _ H2.out.2.2.2 H2.out.2.2.1).mono ?_;rintro e w3 ⟨k3,⟨l,st3,v,h3,rfl,hv3,r3⟩ | ⟨p,hp,ht⟩⟩
   ·have E3:Hid (qf9 s (Px.stmt s (n+1)) st=.ok (some (repX s t l),st3)):=by unfold Hid;rw[U_of hS.out.1 (hS.out.2.trans (E2.out.trans (then_ok h3)))];rfl
    have hfv:∃ a n c,v=.slice a n c:=by obtain ⟨vs,q1,q2⟩:=hv3;exact q1.form
    obtain ⟨a3,n3,c3,rfl⟩:=hfv;have H3:Hid (Kp b w2 w3∧BV w2 w3 l (.slice a3 n3 c3)∧Rd w3 b s st3 eT eN):=⟨k3,hv3,r3⟩;have z3:=k3.size;clear k3 hv3 r3 h3;go_wp2_with fail;go_ret2;have hbw:=R.out.1.lt;obtain ⟨u3,f3,f4⟩:=BV.later hbw (by omega) H3.out.2.1 ((Kp.refl b w3).alloc (.cells #[.pointer (some ⟨qn,0,none⟩),.slice a3 n3 c3] 293))
    refine ⟨((H1.out.1.trans H2.out.1).trans H3.out.1).alloc _,Or.inl ⟨_,_,_,E3.out,rfl,⟨_,rfl,?_⟩,H3.out.2.2.alloc _⟩⟩;refine ⟨.slice a3 n3 c3,.slice none 0 0,u3,[],⟨w3.heap.size,⟨by omega,by simp⟩,Or.inr (Or.inr (Or.inr (Or.inr (Or.inl ⟨rfl,rfl,qn,new1,?_⟩))))⟩,f3,f4,Or.inl ⟨rfl,rfl⟩,LsAt.qbl.2 rfl⟩
    exact (H2.out.2.1.keep fun i hi=>(H3.out.1.alloc _).block i hi.2 (by have:=hi.1;omega)).mono fun i hi=>⟨by have:=hi.1;omega,by have:=hi.2;simp;omega⟩
   ·obtain ⟨c,rfl⟩:=ht.form;have k02:=H1.out.1.trans H2.out.1;exact ⟨rfl,k02.trans k3,Or.inr ⟨p,qna hS.out.1 (hS.out.2.trans E2.out) (qan hp fun _ _ h=>qbt _ h),ht.low k02.size⟩⟩
  ·obtain ⟨c,rfl⟩:=ht.form;exact ⟨rfl,H1.out.1.trans k2,Or.inr ⟨p,qna hS.out.1 (hS.out.2.trans E0.out) (qan hp fun _ st1 h=>qan (qd5 st1 h) fun _ _ h'=>qbt _ h'),ht.low H1.out.1.size⟩⟩
 ·obtain ⟨c,rfl⟩:=ht.form;obtain ⟨h63,rfl⟩:=qb3 hp;exact ⟨rfl,k1,Or.inr ⟨_,qna hS.out.1 hS.out.2 (zfr _ h63),ht⟩⟩
theorem zxq {s:ByteArray} {st:Px.Ps} (h:Px.onB s st.t ⟨#[102,97,105,108]⟩=true):Px.qig s st=andThen (qcb s ⟨#[59]⟩ (Px.nx s st)) fun _ st2=>.ok ({ Px.qa8 with op:=102 },st2):=by
 unfold Px.qig;rw[show Px.need s ⟨#[102,97,105,108]⟩ st=.ok (Px.nx s st) from by unfold Px.need;rw[if_pos h]]
 simp only;rw[qmq];cases qcb s ⟨#[59]⟩ (Px.nx s st) with
 | error p=>rfl
 | ok r=>obtain ⟨u,st2⟩:=r;rfl
theorem qiz (b:Nat) (s:ByteArray) (n:Nat) (eT eN:Addr) (hs:s.size≤maxLen) (st:Px.Ps) (w:World) (hD:Ref.DomS s (n+1) st) (r:Rd w b s st eT eN) (h1:Px.onB s st.t ⟨#[108,101,116]⟩=false) (h2:Px.onB s st.t ⟨#[99,97,108,108]⟩=false) (h3:Px.onB s st.t ⟨#[105,102]⟩=false) (h4:Px.onB s st.t ⟨#[116,114,121]⟩=false) (h5:Px.onB s st.t ⟨#[114,101,112,101,97,116]⟩=false) (h6:Px.onB s st.t ⟨#[102,97,105,108]⟩=true) :
  Calls Tryz.prog 137 #[.pointer (some ⟨b,0,none⟩)] w (Out b s eT eN w (qf9 s (Px.stmt s (n+1)) st) (SoV w)):=by
 have hS:Hid (starts s st=true∧Px.stmt s (n+1) st=andThen (qcb s ⟨#[59]⟩ (Px.nx s st)) fun _ st2=>.ok ({ Px.qa8 with op:=102 },st2)):=⟨by unfold starts;rw[h6];simp,by rw[Px.stmt,if_neg (by simp[h1]),if_neg (by simp[h2]),if_neg (by simp[h3]),if_neg (by simp[h4]),if_neg (by simp[h5]),zxq h6]⟩
 have R:Hid (Rd w b s st eT eN∧True):=⟨r,trivial⟩;have hn0:=hD.n0;have hn1:st.nest+(s.size+1:Nat)≤1000000:=by have:=hD.n1;omega
 have D1:Hid (Ref.DomS s (n+1) (Px.nx s st)):=qm3 hD h6;clear r hD;go_enter Tryz.func137,Tryz.ntmps137
 go_wp2_with fail;refine (qbn b s _ st eT eN _ R.out.1 h1).mono ?_;rintro e w1 ⟨rfl,rfl⟩;go_wp2_with fail;refine (qbn b s _ st eT eN _ R.out.1 h2).mono ?_;rintro e w1 ⟨rfl,rfl⟩;go_wp2_with fail;refine (qbn b s _ st eT eN _ R.out.1 h3).mono ?_;rintro e w1 ⟨rfl,rfl⟩;go_wp2_with fail;refine (qbn b s _ st eT eN _ R.out.1 h4).mono ?_;rintro e w1 ⟨rfl,rfl⟩;go_wp2_with fail;refine (qbn b s _ st eT eN _ R.out.1 h5).mono ?_;rintro e w1 ⟨rfl,rfl⟩;go_wp2_with fail;refine (qek b s _ st eT eN _ R.out.1 hs h6).mono ?_;rintro e w1 ⟨k1,⟨u,st1,v,he,rfl,rfl,r1⟩ | ⟨p,hp,ht⟩⟩
 ·cases he;have H1:Hid (Kp b w w1∧Rd w1 b s (Px.nx s st) eT eN):=⟨k1,r1⟩;have z1:=k1.size;clear k1 r1;go_wp2_with fail;refine (qge b s _ (Px.nx s st) eT eN _ H1.out.2 hs).mono ?_;rintro e w2 ⟨k2,⟨u,st2,v,h2,rfl,rfl,r2⟩ | ⟨p,hp,ht⟩⟩
  ·have E:Hid (qf9 s (Px.stmt s (n+1)) st=.ok (some { Px.qa8 with op:=102 },st2)):=by unfold Hid;rw[U_of hS.out.1 (hS.out.2.trans (then_ok h2))];rfl
   have H2:Hid (Kp b w1 w2∧Rd w2 b s st2 eT eN):=⟨k2,r2⟩;have z2:=k2.size;clear k2 h2 r2;go_wp2_with fail;go_ret2;exact ⟨(H1.out.1.trans H2.out.1).alloc _,Or.inl ⟨_,_,_,E.out,rfl,⟨_,rfl,⟨.slice none 0 0,.slice none 0 0,[],[],⟨w2.heap.size,⟨by omega,by simp⟩,Or.inr (Or.inr (Or.inr (Or.inr (Or.inr ⟨rfl,rfl⟩))))⟩,Or.inl ⟨rfl,rfl⟩,LsAt.qbl.2 rfl,Or.inl ⟨rfl,rfl⟩,LsAt.qbl.2 rfl⟩⟩,H2.out.2.alloc _⟩⟩
  ·obtain ⟨c,rfl⟩:=ht.form;exact ⟨rfl,H1.out.1.trans k2,Or.inr ⟨p,qna hS.out.1 hS.out.2 (qan hp fun _ _ h=>qbt _ h),ht.low H1.out.1.size⟩⟩
 ·obtain ⟨c,rfl⟩:=ht.form;obtain ⟨h63,rfl⟩:=qb3 hp;exact ⟨rfl,k1,Or.inr ⟨_,qna hS.out.1 hS.out.2 (qan (qc8 s _ _ h63) fun _ _ h=>qbt _ h),ht⟩⟩
theorem zrt (b:Nat) (s:ByteArray) (n:Nat) (eT eN:Addr) (st:Px.Ps) (w:World) (r:Rd w b s st eT eN) (hS:starts s st=false) :
  Calls Tryz.prog 137 #[.pointer (some ⟨b,0,none⟩)] w (Out b s eT eN w (qf9 s (Px.stmt s (n+1)) st) (SoV w)):=by
 have E:Hid (qf9 s (Px.stmt s (n+1)) st=.ok (none,st)):=by unfold Hid qf9;rw[if_neg (by simp[hS])]
 unfold starts at hS;simp only[Bool.or_eq_false_iff] at hS;obtain ⟨⟨⟨⟨⟨h1,h2⟩,h3⟩,h4⟩,h5⟩,h6⟩:=hS;have R:Hid (_):=r;clear r;go_enter Tryz.func137,Tryz.ntmps137
 go_wp2_with fail;refine (qbn b s _ st eT eN _ R.out h1).mono ?_;rintro e w1 ⟨rfl,rfl⟩;go_wp2_with fail;refine (qbn b s _ st eT eN _ R.out h2).mono ?_;rintro e w1 ⟨rfl,rfl⟩;go_wp2_with fail;refine (qbn b s _ st eT eN _ R.out h3).mono ?_;rintro e w1 ⟨rfl,rfl⟩;go_wp2_with fail;refine (qbn b s _ st eT eN _ R.out h4).mono ?_;rintro e w1 ⟨rfl,rfl⟩;go_wp2_with fail;refine (qbn b s _ st eT eN _ R.out h5).mono ?_;rintro e w1 ⟨rfl,rfl⟩;go_wp2_with fail;refine (qbn b s _ st eT eN _ R.out h6).mono ?_;rintro e w1 ⟨rfl,rfl⟩;go_wp2_with fail;go_ret2;exact ⟨Kp.refl _ _,Or.inl ⟨_,_,_,E.out,rfl,rfl,R.out⟩⟩
theorem zld (b:Nat) (s:ByteArray) (eT eN:Addr) (hs3:s.size≤300) (n:Nat):zkb b s n eT eN (Px.stmt s n):=by
 have hs:s.size≤maxLen:=by unfold maxLen;omega
 induction n with
 | zero=>intro st w hD r;have:=hD.room;omega
 | succ n ih =>
  intro st w hD r;have hB:qjw b s n eT eN (Px.stmt s n):=fun st w hD r=>qqg b s n eT eN _ ih (Px.qam s n) (fun st h=>qsk h) hs3 st w hD r
  cases h1:Px.onB s st.t ⟨#[108,101,116]⟩
  ·cases h2:Px.onB s st.t ⟨#[99,97,108,108]⟩
   ·cases h3:Px.onB s st.t ⟨#[105,102]⟩
    ·cases h4:Px.onB s st.t ⟨#[116,114,121]⟩
     ·cases h5:Px.onB s st.t ⟨#[114,101,112,101,97,116]⟩
      ·cases h6:Px.onB s st.t ⟨#[102,97,105,108]⟩
       ·exact zrt b s n eT eN st w r (by unfold starts;rw[h1,h2,h3,h4,h5,h6];rfl)
       ·exact qiz b s n eT eN hs st w hD r h1 h2 h3 h4 h5 h6
      ·exact zlb b s n eT eN hB hs st w hD r h1 h2 h3 h4 h5
     ·exact qk5 b s n eT eN hB hs st w hD r h1 h2 h3 h4
    ·exact qo7 b s n eT eN hB hs st w hD r h1 h2 h3
   ·exact qi0 b s n eT eN hs st w hD r h1 h2
  ·exact qk6 b s n eT eN hs st w hD r h1
open Go.RowKit
theorem qxn {P:Program} {Q:Exit→Act→List Frame→World→Prop} {a:Act} {c₀:Frame} {cs:List Frame} {w:World} {v:Value} {older:List PanicEntry} {d:Nat} {ty:TypeId} {pos:String} (hu:c₀.mode=.panicking ({ v:=v,recovered:=false }::older))
  (h:Q .normal (a.put (some d) v) ({ c₀ with mode:=.panicking ({ v:=v,recovered:=true }::older) }::cs) w) :
  wpOpsS P #[{ dst:=some d,op:=Op.call { callee:=.builtin .recover,args:=#[],argTypes:=#[] },type:=ty,pos:=pos,after:=#[],guard:=none }] Q (List.range 1) a (c₀::cs) w:=by
 simp[wpOpsS,go_sem,recoverD,hu];exact h
theorem qvn {P:Program} {Q:Exit→Act→List Frame→World→Prop} {a:Act} {c₀:Frame} {cs:List Frame} {w:World} {d:Nat} {ty:TypeId} {pos:String} (hu:c₀.mode=.returning)
  (h:Q .normal (a.put (some d) .nilIface) (c₀::cs) w) :
  wpOpsS P #[{ dst:=some d,op:=Op.call { callee:=.builtin .recover,args:=#[],argTypes:=#[] },type:=ty,pos:=pos,after:=#[],guard:=none }] Q (List.range 1) a (c₀::cs) w:=by
 simp[wpOpsS,go_sem,recoverD,hu];exact h
theorem qgv (a0 a1 a2 f:Nat) (x0 x1:Value) (older:List PanicEntry) (w:World) (h0:w.cell? ⟨a0,0,none⟩=some x0) (z0:w.frozen? ⟨a0,0,none⟩=false) (h1:w.cell? ⟨a1,0,none⟩=some x1) (z1:w.frozen? ⟨a1,0,none⟩=false) (hne:¬ a0=a1) :
  CallsD Tryz.prog 72 #[.pointer (some ⟨a0,0,none⟩),.pointer (some ⟨a1,0,none⟩),.pointer (some ⟨a2,0,none⟩)] (.panicking ({ v:=.iface 93 (.pointer (some ⟨f,0,none⟩)),recovered:=false }::older)) w fun e u' w' =>
   e=.returned (.tuple #[])∧u'=.panicking ({ v:=.iface 93 (.pointer (some ⟨f,0,none⟩)),recovered:=true }::older)∧w'=(w.setCell ⟨a0,0,none⟩ (.slice none 0 0)).setCell ⟨a1,0,none⟩ (.iface 93 (.pointer (some ⟨f,0,none⟩))):=by
 have hta:∀ W:World,(Instr.typeAssert (.iface 93 (.pointer (some ⟨f,0,none⟩))) 20 93 true).run Tryz.prog W=.ok (.tuple #[.pointer (some ⟨f,0,none⟩),.bool true]) W:=fun _=>by kernel_rfl
 refine callsD_of_wpS Tryz.func72 rfl fun c₀ cs hu=>?_
 simp only[Tryz.ntmps72,List.size_toArray,List.length_cons,List.length_nil,Nat.reduceAdd,Nat.reduceSub,Array.replicate_succ,Array.replicate_zero,List.push_toArray,List.append_toArray,List.nil_append,List.cons_append];refine wpS_seq (wpS_region (qxn hu ?_));refine wpS_of_wp ?_;simp only[Act.put,List.setIfInBounds_toArray,List.set_cons_succ,List.set_cons_zero];go_wp2_with fail;exact ⟨rfl,_,rfl,.tuple #[],results_none rfl _ _ _,rfl,rfl,rfl⟩
theorem qry (a0 a1 a2:Nat) (w:World) :
  CallsD Tryz.prog 72 #[.pointer (some ⟨a0,0,none⟩),.pointer (some ⟨a1,0,none⟩),.pointer (some ⟨a2,0,none⟩)] .returning w fun e u' w'=>e=.returned (.tuple #[])∧u'=.returning∧w'=w:=by
 refine callsD_of_wpS Tryz.func72 rfl fun c₀ cs hu=>?_
 simp only[Tryz.ntmps72,List.size_toArray,List.length_cons,List.length_nil,Nat.reduceAdd,Nat.reduceSub,Array.replicate_succ,Array.replicate_zero,List.push_toArray,List.append_toArray,List.nil_append,List.cons_append];refine wpS_seq (wpS_region (qvn hu ?_));refine wpS_of_wp ?_;simp only[Act.put,List.setIfInBounds_toArray,List.set_cons_succ,List.set_cons_zero];go_wp2_with fail;exact ⟨rfl,.returning,by cases c₀;simp_all,.tuple #[],results_none rfl _ _ _,rfl,rfl,rfl⟩
open Go.RowKit
def qe9 (w:World) (f p:Nat) (e:Addr):Prop:=w.heap[f]?=some (.cells #[.int .i64 (p:Int),.iface 359 (.pointer (some e))] 97)
def kk (k:Nat):Nat:=if k=105 then 1 else if k=98 then 2 else 0
def pairs (l:List (ByteArray×Nat)):List (Value×Value):=l.map fun v=>(.string v.1,.int .i64 (kk v.2:Int))
def KMap (w:World) (m:Nat) (l:List (ByteArray×Nat)):Prop:=∃ es clock,w.heap[m]?=some (.map es clock)∧es.toList.map (fun e=>(e.key,e.val))=pairs l
theorem zcd (a b:ByteArray):(a == b)=(b.toList == a.toList):=by
 rw[ByteArray.toList_eq,ByteArray.toList_eq];by_cases h:a=b
 ·rw[h];simp[MapKept.bytes_beq]
 ·have h1:¬ b.data.toList=a.data.toList:=fun e=>h (WideShapes.bytes_inj e).symm
  have h2:(a == b)=false:=by
   cases hb:(a == b)
   ·rfl
   ·exact absurd ((MapKept.bytes_beq _ _).1 hb) h
  rw[h2]
  simpa using h1
theorem qrq (x:ByteArray) (l:List (ByteArray×Nat)):∀ (es:List MapEntry) (i:Nat),es.map (fun e=>(e.key,e.val))=pairs l →
  Instr.findNow .string (.string x) es i=some (match Px.qa3 l x with
   | none=>none
   | some j=>some (i+j,.int .i64 (kk (Px.qcn l j):Int))):=by
 induction l with
 | nil =>
  intro es i h;cases es with
  | nil=>rfl
  | cons e es=>cases h
 | cons v l ih =>
  intro es i h;cases es with
  | nil=>cases h
  | cons e es =>
   obtain ⟨v,k⟩:=v;simp only[pairs,List.map_cons,List.cons.injEq,Prod.mk.injEq] at h;obtain ⟨⟨h1,h2⟩,h3⟩:=h;rw[Instr.findNow,h1,h2];simp only[Instr.sameNow];rw[zcd,Px.qa3];cases hb:(v.toList == x.toList)
   ·simp only[Bool.false_eq_true,if_false];rw[ih es (i+1) h3];cases Px.qa3 l x with
    | none=>rfl
    | some j=>simp[Px.qcn];omega
   ·simp[Px.qcn]
def qpy (l:List (ByteArray×Nat)) (x:ByteArray):Nat :=
 match Px.qa3 l x with
 | none=>0
 | some j=>kk (Px.qcn l j)
theorem zch {P:Program} {w:World} {m:Nat} {l:List (ByteArray×Nat)} {T kt et:TypeId} (h:KMap w m l) (hT:P.underlying T=some (.map kt et)) (hk:P.underlying kt=some .string) (hz:(zeroValue et).run P w=.ok (.int .i64 0) w) (x:ByteArray) :
  (Instr.lookup T (.map (some m)) (.string x) true).run P w=.ok (.tuple #[.int .i64 (qpy l x:Int),.bool (Px.qa3 l x).isSome]) w:=by
 obtain ⟨es,clock,hb,hp⟩:=h;have h1:=MapKept.run_findKey (w:=w) hk (qrq x l es.toList 0 hp);have h2:=fun e=>MapKept.run_checkKey (P:=P) (w:=w) (kt:=kt) (k:=.string x) hk (by simp[MapKept.IsKey]) e 9999
 unfold qpy;cases hf:Px.qa3 l x with
 | none =>
  rw[hf] at h1;simp[Instr.lookup,run_underlying hT,MapKept.run_getObj_map hb,h2,h1,hz,Result.andThen]
 | some j =>
  rw[hf] at h1;simp[Instr.lookup,run_underlying hT,MapKept.run_getObj_map hb,h2,h1,Result.andThen]
theorem zcg {P:Program} {w:World} {m:Nat} {l:List (ByteArray×Nat)} {T kt et:TypeId} (h:KMap w m l) (hT:P.underlying T=some (.map kt et)) (hk:P.underlying kt=some .string) (x:ByteArray) (hf:Px.qa3 l x=none) (k:Nat) :
  ∃ o,(Instr.mapUpdate T (.map (some m)) (.string x) (.int .i64 (kk k:Int))).run P w=.ok () { w with heap:=w.heap.setIfInBounds m o }∧KMap { w with heap:=w.heap.setIfInBounds m o } m (l++[(x,k)]):=by
 obtain ⟨es,clock,hb,hp⟩:=h;have h1:=MapKept.run_findKey (w:=w) hk (qrq x l es.toList 0 hp);have h2:=fun e=>MapKept.run_checkKey (P:=P) (w:=w) (kt:=kt) (k:=.string x) hk (by simp[MapKept.IsKey]) e 9999
 rw[hf] at h1;refine ⟨.map (es.push ⟨.string x,.int .i64 (kk k:Int),clock⟩) (clock+1),?_,_,_,(MapKept.heap_set hb).1,?_⟩
 ·simp[Instr.mapUpdate,run_underlying hT,MapKept.run_getObj_map hb,h2,h1,MapKept.run_setObj_map _ hb,Result.andThen]
 ·simp[pairs] at hp ⊢;rw[hp]
open Go.RowKit
def qmc (s:ByteArray) (eT eN:Addr) (w:World) (e:Ending) (w':World):Prop :=
 Below w.heap.size w w'∧∃ v er,e=.returned (.tuple #[v,er]) ∧
  match Px.read s with
  | .ok l=>er=.nilIface∧∃ vs,SlL w' v vs (Ref.In w w')∧LsAt w' l (Ref.In w w') vs
  | .error (c,p)=>v=.slice none 0 0∧∃ f,er=.iface 93 (Ref.ptr f)∧qe9 w' f p (if c=2 then eT else eN)
theorem Rd.setU {w:World} {b k o:Nat} {s:ByteArray} {st:Px.Ps} {eT eN:Addr} {c:Array Value} {t:TypeId} (r:Rd w b s st eT eN) (h:w.heap[k]?=some (.cells c t)) (ht:t≠97) (hk:21≤k) (hbk:b≠k) (v:Value):Rd (w.setCell ⟨k,o,none⟩ v) b s st eT eN:=by
 obtain ⟨td,a,d⟩:=r.mem;refine ⟨r.tk,r.k63,r.gl.setN hk,td,⟨by rw[Below.heap_setCell _ _ _ _ hbk];exact a.h⟩,?_⟩
 rcases d with d | ⟨d1,f,d2,d3,d4⟩
 ·exact Or.inl d
 ·refine Or.inr ⟨d1,f,d2,d3,?_⟩;rw[Below.heap_setCell _ _ _ _ (by show f≠k;rintro rfl;rw[h] at d4;simp at d4;exact ht d4.2)]
  exact d4
theorem ztv {k:Nat} (hk:k=0∨k=63∨k=107∨k=110∨k=119) (h63:k≠63):((kd k:Int) != 0)=!(k == 0):=by
 rcases hk with rfl | rfl | rfl | rfl | rfl
 ·rfl
 ·exact absurd rfl h63
 ·rfl
 ·rfl
 ·rfl
def qx7 (s:ByteArray):Except Nat (List Px.Sm×Px.Ps):=Px.stmts s (Px.stmt s (s.size+1)) (fun st=>st.t.k == 0) (s.size+1) [] ⟨Px.tok s 0,0,-1⟩
theorem qpf {s:ByteArray} (hs3:s.size≤300):Px.read s=match qx7 s with
  | .error p=>.error (2,p)
  | .ok (l,st)=>if 0≤st.deep then .error (3,st.deep.toNat) else .ok l:=by
 rw[Px.read,if_neg (by omega)];unfold qx7
 cases Px.stmts s (Px.stmt s (s.size+1)) (fun st=>st.t.k == 0) (s.size+1) [] ⟨Px.tok s 0,0,-1⟩<;>rfl
theorem zaf {s:ByteArray} {p:Nat} (h:fin (qx7 s)=.error p):qx7 s=.error p:=by
 rcases qdf h with h | ⟨l,st,h1,h2,_⟩
 ·exact h
 ·have h3:=(Px.qcs (Px.qam s _) _ _ _ _ _ _ (show Px.Tk s (⟨Px.tok s 0,0,-1⟩:Px.Ps).t from (Px.qfv s 0 (Nat.zero_le _)).1) h1).2;simp[h2] at h3
def qki (s:ByteArray) (w:World):World :=
 ((((w.alloc (.cells #[.slice none 0 0] 53)).alloc (.cells #[.nilIface] 55)).alloc (.cells #[.string s,.int .i64 0,.string ⟨#[]⟩,.int .i64 0,.int .i64 0,.pointer none] 165)).alloc (.cells #[.pointer (some ⟨w.heap.size+1+1,0,none⟩)] 160))
theorem zf7 (s:ByteArray) (w:World):(qki s w).heap.size=w.heap.size+4∧(qki s w).heap[w.heap.size]?=some (.cells #[.slice none 0 0] 53)∧(qki s w).heap[w.heap.size+1]?=some (.cells #[.nilIface] 55) ∧
  (qki s w).heap[w.heap.size+2]?=some (.cells #[.string s,.int .i64 0,.string ⟨#[]⟩,.int .i64 0,.int .i64 0,.pointer none] 165)∧(qki s w).heap[w.heap.size+3]?=some (.cells #[.pointer (some ⟨w.heap.size+1+1,0,none⟩)] 160)∧Below w.heap.size w (qki s w):=by
 have h:(qki s w).heap=(((w.heap.push (.cells #[.slice none 0 0] 53)).push (.cells #[.nilIface] 55)).push (.cells #[.string s,.int .i64 0,.string ⟨#[]⟩,.int .i64 0,.int .i64 0,.pointer none] 165)).push (.cells #[.pointer (some ⟨w.heap.size+1+1,0,none⟩)] 160):=rfl;refine ⟨by rw[h];simp,?_,?_,?_,?_,((((Below.refl _ _).alloc (Nat.le_refl _) _).alloc (by simp) _).alloc (by simp;omega) _).alloc (by simp;omega) _⟩
 ·rw[h,Array.getElem?_push,if_neg (by simp<;>omega),Array.getElem?_push,if_neg (by simp<;>omega),Array.getElem?_push,if_neg (by simp<;>omega),Array.getElem?_push,if_pos rfl]
 ·rw[h,Array.getElem?_push,if_neg (by simp<;>omega),Array.getElem?_push,if_neg (by simp<;>omega),Array.getElem?_push,if_pos (by simp)]
 ·rw[h,Array.getElem?_push,if_neg (by simp<;>omega),Array.getElem?_push,if_pos (by simp)]
 ·rw[h,Array.getElem?_push,if_pos (by simp)]
theorem qox {w:World} {n:Nat} {x y:Value} {t u:TypeId} (h1:w.heap[n]?=some (.cells #[x] t)) (h2:w.heap[n+1]?=some (.cells #[y] u)) (a b:Value) :
  ((w.setCell ⟨n,0,none⟩ a).setCell ⟨n+1,0,none⟩ b).cell? ⟨n,0,none⟩=some a∧((w.setCell ⟨n,0,none⟩ a).setCell ⟨n+1,0,none⟩ b).cell? ⟨n+1,0,none⟩=some b:=by
 have e1:=Ref.heap_set (o:=0) a h1;have e1':((w.setCell ⟨n,0,none⟩ a).setCell ⟨n+1,0,none⟩ b).heap[n]?=_:=(Ref.qag _ (by omega)).trans e1
 have e2:(w.setCell ⟨n,0,none⟩ a).heap[n+1]?=_:=(Ref.qag _ (by omega)).trans h2
 have e3:=Ref.heap_set (o:=0) b e2;exact ⟨by simp[World.cell?,e1'],by simp[World.cell?,e3]⟩
theorem qkm {s:ByteArray} {eT eN:Addr} {w w1:World} {f p:Nat} (hb:Below w.heap.size w w1) (hf:w.heap.size+2≤f) (hF:qe9 w1 f p eT) (hR:Px.read s=.error (2,p)) :
  qmc s eT eN w (.returned (.tuple #[.slice none 0 0,.iface 93 (.pointer (some ⟨f,0,none⟩))])) ((w1.setCell ⟨w.heap.size,0,none⟩ (.slice none 0 0)).setCell ⟨w.heap.size+1,0,none⟩ (.iface 93 (.pointer (some ⟨f,0,none⟩)))):=by
 refine ⟨(hb.setCell (Nat.le_refl _) _).setCell (by show w.heap.size≤w.heap.size+1;omega) _,_,_,rfl,?_⟩
 rw[hR];refine ⟨rfl,f,rfl,?_⟩;show qe9 _ f p (if 2=2 then eT else eN)
 rw[if_pos rfl];unfold qe9;rw[Ref.qag _ (by omega),Ref.qag _ (by omega)]
 exact hF
theorem zsx {s:ByteArray} {eT eN:Addr} {w w1 w2 W:World} {l:List Px.Sm} {v:Value} {vs:List Value} (hR:Px.read s=.ok l) (h1:SlL w2 v vs (Ref.In w1 w2)) (h2:LsAt w2 l (Ref.In w1 w2) vs) (hz:w.heap.size+4≤w1.heap.size) (hB:Below w.heap.size w W)
  (hk:∀ i,w.heap.size+4≤i→W.heap[i]?=w2.heap[i]?) (hs:W.heap.size=w2.heap.size):qmc s eT eN w (.returned (.tuple #[v,.nilIface])) W:=by
 refine ⟨hB,_,_,rfl,?_⟩;rw[hR];have hk':∀ i,Ref.In w1 w2 i→W.heap[i]?=w2.heap[i]?:=fun i hi=>hk i (by have:=hi.1;omega)
 have hm:∀ i,Ref.In w1 w2 i→Ref.In w W i:=fun i hi=>⟨by have:=hi.1;omega,by rw[hs];exact hi.2⟩
 exact ⟨rfl,vs,(h1.keep hk').mono hm,(h2.keep hk').mono hm⟩
theorem zi6 {s:ByteArray} {eT eN:Addr} {w W:World} {f:Nat} {d:Int} (hd:0≤d) (hR:Px.read s=.error (3,d.toNat)) (hB:Below w.heap.size w W) (hF:W.heap[f]?=some (.cells #[.int .i64 d,.iface 359 (.pointer (some eN))] 97)) :
  qmc s eT eN w (.returned (.tuple #[.slice none 0 0,.iface 93 (.pointer (some ⟨f,0,none⟩))])) W:=by
 refine ⟨hB,_,_,rfl,?_⟩;rw[hR];refine ⟨rfl,f,rfl,?_⟩;show qe9 _ f d.toNat (if 3=2 then eT else eN)
 rw[if_neg (by decide)]
 unfold qe9;rw[Int.toNat_of_nonneg hd];exact hF
theorem zf6 (s:ByteArray) (eT eN:Addr) (w:World) (hs3:s.size≤300) (hlo:21≤w.heap.size) (g:Gl w (w.heap.size+2) eT eN) :
  Calls Tryz.prog 35 #[.string s] w (qmc s eT eN w):=by
 have hmf:∀ (fn:Fn) (first cap:Array Value) (w:World),(Instr.makeFunc fn first cap).run Tryz.prog w=.ok (.func fn first cap) w:=fun _ _ _ _=>rfl
 have hs:s.size≤maxLen:=by unfold maxLen;omega
 have G:Hid (_):=g;clear g;go_enter_defers Tryz.func35,Tryz.ntmps35
 go_wp2_with fail
 change Calls _ _ _ (qki s w) _
 obtain ⟨z0,a0,a1,a2,a3,bW⟩:=zf7 s w;have GW:Gl (qki s w) (w.heap.size+2) eT eN:=G.out.keep ⟨bW.os,bW.tape,bW.output,bW.size,fun k hk _=>bW.block k hk⟩
 generalize qki s w=W at *;have eb:w.heap.size+1+1=w.heap.size+2:=rfl;have ec:w.heap.size+1+1+1=w.heap.size+3:=rfl;rw[eb] at a3 ⊢;simp only[ec];have H0:Hid (Below w.heap.size w W∧Gl W (w.heap.size+2) eT eN∧W.heap[w.heap.size]?=_∧W.heap[w.heap.size+1]?=_∧W.heap[w.heap.size+3]?=_):=⟨bW,GW,a0,a1,a3⟩;have A2:Hid (_):=a2;clear a0 a1 a2 a3 bW GW eb ec;refine (qre (w.heap.size+2) s 0 _ _ _ 0 none eT eN _ A2.out H0.out.2.1 (Nat.zero_le _) hs).mono ?_;rintro e w1 ⟨k1,h1,h2⟩;have b1:w1.heap[w.heap.size]?=_:=(k1.block _ (by omega) (by omega)).trans H0.out.2.2.1
 have b2:w1.heap[w.heap.size+1]?=_:=(k1.block _ (by omega) (by omega)).trans H0.out.2.2.2.1
 have b3:w1.heap[w.heap.size+3]?=_:=(k1.block _ (by omega) (by omega)).trans H0.out.2.2.2.2
 have bB:Below w.heap.size w w1:=H0.out.1.trans (k1.qbg (by omega) (by omega))
 by_cases hk:(Px.tok s 0).k=63
 ·obtain ⟨f,hf,rfl,hF⟩:=h2 hk;refine leaves_cons (f:=72) (args:=#[.pointer (some ⟨w.heap.size,0,none⟩),.pointer (some ⟨w.heap.size+1,0,none⟩),.pointer (some ⟨w.heap.size+3,0,none⟩)]) (by simp) (by simp[go_sem]) ?_
  refine (qgv _ _ _ f (.slice none 0 0) .nilIface [] _ (by simp[World.cell?,b1]) (by simp[World.frozen?,b1]) (by simp[World.cell?,b2]) (by simp[World.frozen?,b2]) (by omega)).mono ?_
  rintro e u' w'' ⟨rfl,rfl,rfl⟩;have hR:Px.read s=.error (2,(Px.tok s 0).a):=by
   rw[qpf hs3,zaf (p:=(Px.tok s 0).a)];unfold qx7;rw[Px.stmts,if_neg (by simp[hk]),qsk (qo9 hk)]
   rfl
  have T:Hid (_):=qkm (eN:=eN) bB (by omega) hF hR
  obtain ⟨c0,c1⟩:=qox b1 b2 (.slice none 0 0) (.iface 93 (.pointer (some ⟨f,0,none⟩)));generalize (w1.setCell ⟨w.heap.size,0,none⟩ (.slice none 0 0)).setCell ⟨w.heap.size+1,0,none⟩ (.iface 93 (.pointer (some ⟨f,0,none⟩)))=W2 at *;clear h1 h2 k1 b1 b2 b3 bB hF hR;simp[Leaves,settle,results,Tryz.results35,go_sem,c0,c1];exact T.out
 ·obtain ⟨rfl,ra⟩:=h1 hk;have r1:Rd w1 (w.heap.size+2) s ⟨Px.tok s 0,0,-1⟩ eT eN:=⟨(Px.qfv s 0 (Nat.zero_le _)).1,hk,H0.out.2.1.keep k1,none,ra,Or.inl ⟨by show (-1:Int) < 0;decide,rfl⟩⟩
  have dC:w1.cell? ⟨w.heap.size+3,0,none⟩=some (.pointer (some ⟨w.heap.size+2,0,none⟩)):=by simp[World.cell?,b3]
  have z1:=k1.size;have H1:Hid (Below w.heap.size w w1∧Rd w1 (w.heap.size+2) s ⟨Px.tok s 0,0,-1⟩ eT eN∧w1.heap[w.heap.size]?=_∧w1.heap[w.heap.size+1]?=_∧w1.heap[w.heap.size+3]?=_):=⟨bB,r1,b1,b2,b3⟩;have D1:Hid (Ref.DomS s (s.size+1) ⟨Px.tok s 0,0,-1⟩):=⟨(Px.qfv s 0 (Nat.zero_le _)).1,by simp;omega,by simp,by simp;omega⟩
  clear h1 h2 k1 b1 b2 b3 bB ra r1 hk H0 A2;go_wp2_with fail;refine (qvb (w.heap.size+2) s (s.size+1) eT eN _ (zld _ s eT eN hs3 _) (Px.qam s _) (fun st h=>qsk h) hs3 _ _ D1.out H1.out.2.1).mono ?_
  rintro e w2 ⟨k2,hres⟩;have b1:w2.heap[w.heap.size]?=_:=(k2.block _ (by omega) (by omega)).trans H1.out.2.2.1
  have b2:w2.heap[w.heap.size+1]?=_:=(k2.block _ (by omega) (by omega)).trans H1.out.2.2.2.1
  have b3:w2.heap[w.heap.size+3]?=_:=(k2.block _ (by omega) (by omega)).trans H1.out.2.2.2.2
  have bB:Below w.heap.size w w2:=H1.out.1.trans (k2.qbg (by omega) (by omega))
  have z2:=k2.size;rcases hres with ⟨l,st2,v,rfl,⟨vs,hv1,hv2⟩,r2,hst2,G2,CH⟩ | ⟨p,hp,ht⟩
  ·have ch:=CH _ (ze0 s) (s.size+1) (by simp;omega)
   obtain ⟨va,vn,vc,rfl⟩:=hv1.form;obtain ⟨td,ra,rd⟩:=r2.mem;obtain ⟨c0,c1,c2,c3,c4,c5,cf⟩:=Ref.qb9 ra.h;have eC:w2.cell? ⟨w.heap.size+3,0,none⟩=some (.pointer (some ⟨w.heap.size+2,0,none⟩)):=by simp[World.cell?,b3]
   have eA:w2.cell? ⟨w.heap.size,0,none⟩=some (.slice none 0 0):=by simp[World.cell?,b1]
   have fA:∀ o,w2.frozen? ⟨w.heap.size,o,none⟩=false:=by intro o;simp[World.frozen?,b1]
   have eB:w2.cell? ⟨w.heap.size+1,0,none⟩=some .nilIface:=by simp[World.cell?,b2]
   have fB:∀ o,w2.frozen? ⟨w.heap.size+1,o,none⟩=false:=by intro o;simp[World.frozen?,b2]
   have H2:Hid (Below w.heap.size w w2∧Rd w2 (w.heap.size+2) s st2 eT eN∧SlL w2 (.slice va vn vc) vs (Ref.In w1 w2)∧LsAt w2 l (Ref.In w1 w2) vs∧(qx7 s=if (st2.t.k == 0)=true then .ok (l,st2) else .error st2.t.a)∧w2.heap[w.heap.size]?=_∧w2.heap[w.heap.size+1]?=_):=⟨bB,r2,hv1,hv2,ch,b1,b2⟩
   have hkd:=ztv r2.tk.kinds r2.k63;have RD:Hid (_):=rd;clear hv1 hv2 ch CH r2 bB b1 b2 b3 hst2 G2 k2 dC ra rd;cases hk0:(st2.t.k == 0)
   ·rw[hk0] at hkd;have hR:Hid (Px.read s=.error (2,st2.t.a)):=by unfold Hid;rw[qpf hs3,H2.out.2.2.2.2.1,if_neg (by simp[hk0])]
    go_wp2_with fail;refine (qpd (w.heap.size+2) s st2 eT eN _ (H2.out.2.1.setU H2.out.2.2.2.2.2.1 (by decide) hlo (by omega) _)).mono ?_
    rintro e w3 ⟨⟨f,hf,rfl,hF⟩,k3⟩;have hsz:=Ref.size_set w2 ⟨w.heap.size,0,none⟩ (.slice va vn vc);have b1:w3.heap[w.heap.size]?=some (.cells #[.slice va vn vc] 53):=(k3.block _ (by omega) (by omega)).trans ((Ref.heap_set _ H2.out.2.2.2.2.2.1).trans (by simp))
    have b2:w3.heap[w.heap.size+1]?=_:=(k3.block _ (by omega) (by omega)).trans ((Ref.qag _ (by omega)).trans H2.out.2.2.2.2.2.2)
    have bB:Below w.heap.size w w3:=(H2.out.1.setCell (Nat.le_refl _) _).trans (k3.qbg (by omega) (by omega))
    refine leaves_cons (f:=72) (args:=#[.pointer (some ⟨w.heap.size,0,none⟩),.pointer (some ⟨w.heap.size+1,0,none⟩),.pointer (some ⟨w.heap.size+3,0,none⟩)]) (by simp) (by simp[go_sem]) ?_
    refine (qgv _ _ _ f (.slice va vn vc) .nilIface [] _ (by simp[World.cell?,b1]) (by simp[World.frozen?,b1]) (by simp[World.cell?,b2]) (by simp[World.frozen?,b2]) (by omega)).mono ?_
    rintro e u' w'' ⟨rfl,rfl,rfl⟩;have T:Hid (_):=qkm (eN:=eN) bB (by omega) hF hR.out
    obtain ⟨q0,q1⟩:=qox b1 b2 (.slice none 0 0) (.iface 93 (.pointer (some ⟨f,0,none⟩)));generalize (w3.setCell ⟨w.heap.size,0,none⟩ (.slice none 0 0)).setCell ⟨w.heap.size+1,0,none⟩ (.iface 93 (.pointer (some ⟨f,0,none⟩)))=W2 at *;clear k3 b1 b2 bB hF c0 c1 c2 c3 c4 c5 cf eA eB eC fA fB;simp[Leaves,settle,results,Tryz.results35,go_sem,q0,q1];exact T.out
   ·rw[hk0] at hkd;have hL:Hid (qx7 s=.ok (l,st2)):=by unfold Hid;rw[H2.out.2.2.2.2.1,if_pos hk0]
    rcases RD.out with ⟨d1,rfl⟩ | ⟨d1,f,rfl,d3,d4⟩
    ·have hR:Hid (Px.read s=.ok l):=by unfold Hid;rw[qpf hs3,hL.out];simp only;rw[if_neg (by omega)]
     go_wp2_with fail;refine leaves_cons (f:=72) (args:=#[.pointer (some ⟨w.heap.size,0,none⟩),.pointer (some ⟨w.heap.size+1,0,none⟩),.pointer (some ⟨w.heap.size+3,0,none⟩)]) (by simp) (by simp[go_sem]) ?_
     refine (qry _ _ _ _).mono ?_;rintro e u' w'' ⟨rfl,rfl,rfl⟩;have T:Hid (_):=zsx (eT:=eT) (eN:=eN) (v:=.slice va vn vc) (W:=((w2.setCell ⟨w.heap.size,0,none⟩ (.slice va vn vc)).setCell ⟨w.heap.size,0,none⟩ (.slice va vn vc)).setCell ⟨w.heap.size+1,0,none⟩ .nilIface) hR.out H2.out.2.2.1 H2.out.2.2.2.1 (by omega) (((H2.out.1.setCell (Nat.le_refl _) _).setCell (Nat.le_refl _) _).setCell (by show w.heap.size≤w.heap.size+1;omega) _) (fun i hi=>by rw[Ref.qag _ (by omega),Ref.qag _ (by omega),Ref.qag _ (by omega)]) (by simp[World.setCell])
     obtain ⟨q0,q1⟩:=qox (n:=w.heap.size) (Ref.heap_set (o:=0) (.slice va vn vc) H2.out.2.2.2.2.2.1) ((Ref.qag _ (by omega)).trans H2.out.2.2.2.2.2.2) (.slice va vn vc) .nilIface
     generalize ((w2.setCell ⟨w.heap.size,0,none⟩ (.slice va vn vc)).setCell ⟨w.heap.size,0,none⟩ (.slice va vn vc)).setCell ⟨w.heap.size+1,0,none⟩ .nilIface=W3 at *;clear c0 c1 c2 c3 c4 c5 cf eA eB eC fA fB;simp[Leaves,settle,results,Tryz.results35,go_sem,q0,q1];exact T.out
    ·have hR:Hid (Px.read s=.error (3,st2.deep.toNat)):=by unfold Hid;rw[qpf hs3,hL.out];simp only;rw[if_pos d1]
     have D4:Hid (_):=d4;clear d4;go_wp2_with fail;go_region
     all_goals
      go_wp2_with fail;refine leaves_cons (f:=72) (args:=#[.pointer (some ⟨w.heap.size,0,none⟩),.pointer (some ⟨w.heap.size+1,0,none⟩),.pointer (some ⟨w.heap.size+3,0,none⟩)]) (by simp) (by simp[go_sem]) ?_
      refine (qry _ _ _ _).mono ?_;rintro e u' w'' ⟨rfl,rfl,rfl⟩;have b1:=H2.out.2.2.2.2.2.1;have b2:=H2.out.2.2.2.2.2.2;have hfne:f≠w.heap.size∧f≠w.heap.size+1:=by
       constructor
       ·rintro rfl;have:=D4.out;rw[b1] at this;simp at this
       ·rintro rfl;have:=D4.out;rw[b2] at this;simp at this
      have T:Hid (_):=zi6 (eT:=eT) (f:=f) (W:=(((w2.setCell ⟨w.heap.size,0,none⟩ (.slice va vn vc)).setCell ⟨w.heap.size,0,none⟩ (.slice none 0 0)).setCell ⟨w.heap.size+1,0,none⟩ (.iface 93 (.pointer (some ⟨f,0,none⟩)))).drew) d1 hR.out ((((H2.out.1.setCell (Nat.le_refl _) _).setCell (Nat.le_refl _) _).setCell (by show w.heap.size≤w.heap.size+1;omega) _).drew) (by show (World.setCell _ _ _).heap[f]?=_;rw[Ref.qag _ hfne.2,Ref.qag _ hfne.1,Ref.qag _ hfne.1];exact D4.out)
      obtain ⟨q0,q1⟩:=qox (n:=w.heap.size) (Ref.heap_set (o:=0) (.slice va vn vc) b1) ((Ref.qag _ (by omega)).trans b2) (.slice none 0 0) (.iface 93 (.pointer (some ⟨f,0,none⟩)))
      generalize ((w2.setCell ⟨w.heap.size,0,none⟩ (.slice va vn vc)).setCell ⟨w.heap.size,0,none⟩ (.slice none 0 0)).setCell ⟨w.heap.size+1,0,none⟩ (.iface 93 (.pointer (some ⟨f,0,none⟩)))=W3 at *;clear c0 c1 c2 c3 c4 c5 cf eA eB eC fA fB b1 b2;simp[Leaves,settle,results,Tryz.results35,go_sem,q0,q1];exact T.out
  ·obtain ⟨f,hf,rfl,hF⟩:=ht;have hR:Px.read s=.error (2,p):=by
    rw[qpf hs3,zaf (p:=p)];exact hp _ (ze0 s) (s.size+1) (by simp;omega)
   refine leaves_cons (f:=72) (args:=#[.pointer (some ⟨w.heap.size,0,none⟩),.pointer (some ⟨w.heap.size+1,0,none⟩),.pointer (some ⟨w.heap.size+3,0,none⟩)]) (by simp) (by simp[go_sem]) ?_
   refine (qgv _ _ _ f (.slice none 0 0) .nilIface [] _ (by simp[World.cell?,b1]) (by simp[World.frozen?,b1]) (by simp[World.cell?,b2]) (by simp[World.frozen?,b2]) (by omega)).mono ?_
   rintro e u' w'' ⟨rfl,rfl,rfl⟩;have T:Hid (_):=qkm (eN:=eN) bB (by omega) hF hR
   obtain ⟨c0,c1⟩:=qox b1 b2 (.slice none 0 0) (.iface 93 (.pointer (some ⟨f,0,none⟩)));generalize (w2.setCell ⟨w.heap.size,0,none⟩ (.slice none 0 0)).setCell ⟨w.heap.size+1,0,none⟩ (.iface 93 (.pointer (some ⟨f,0,none⟩)))=W2 at *;clear k2 b1 b2 b3 bB hF hR dC hp;simp[Leaves,settle,results,Tryz.results35,go_sem,c0,c1];exact T.out
open Go.RowKit
structure Gc (w:World) (B:Nat) (E:Nat→Addr):Prop where
 c:w.cell? ⟨4,0,none⟩=some (.iface 359 (.pointer (some (E 4))))
 n:w.cell? ⟨5,0,none⟩=some (.iface 359 (.pointer (some (E 5))))
 y:w.cell? ⟨6,0,none⟩=some (.iface 359 (.pointer (some (E 6))))
 ops:∀ j (hj:j < 28),w.cell? ⟨18,j,none⟩=some (opsC[j]'hj)
 lo:21≤B
theorem qkb {B:Nat} {w w':World} (h:Below B w w') {k o:Nat} (hk:k < B):w'.cell? ⟨k,o,none⟩=w.cell? ⟨k,o,none⟩:=World.cell?_of_block (w:=w) (h.block k hk)
theorem Gc.below {w w':World} {B:Nat} {E:Nat→Addr} (g:Gc w B E) (h:Below B w w'):Gc w' B E:=by
 have hl:=g.lo;exact ⟨by rw[qkb h (by omega)];exact g.c,by rw[qkb h (by omega)];exact g.n,by rw[qkb h (by omega)];exact g.y,fun j hj=>by rw[qkb h (by omega)];exact g.ops j hj,hl⟩
structure Fr (c m:Nat) (w w':World):Prop where
 os:w'.os=w.os
 tape:w'.tape=w.tape
 output:w'.output=w.output
 size:w.heap.size≤w'.heap.size
 block:∀ k,k < w.heap.size→k≠c→k≠m→w'.heap[k]?=w.heap[k]?
theorem Fr.refl (c m:Nat) (w:World):Fr c m w w:=⟨rfl,rfl,rfl,Nat.le_refl _,fun _ _ _ _=>rfl⟩
theorem Fr.trans {c m:Nat} {w w1 w2:World} (h:Fr c m w w1) (k:Fr c m w1 w2):Fr c m w w2 :=
 ⟨k.os.trans h.os,k.tape.trans h.tape,k.output.trans h.output,Nat.le_trans h.size k.size,fun i hi hc hm=>(k.block i (Nat.lt_of_lt_of_le hi h.size) hc hm).trans (h.block i hi hc hm)⟩
theorem Fr.drew {c m:Nat} {w w1:World} (h:Fr c m w w1):Fr c m w w1.drew:=⟨h.os,h.tape,h.output,h.size,h.block⟩
theorem Fr.alloc {c m:Nat} {w w1:World} (h:Fr c m w w1) (o:Obj):Fr c m w (w1.alloc o) :=
 ⟨h.os,h.tape,h.output,by have:=h.size;simp;omega,fun i hi hc hm=>by rw[Below.heap_alloc _ _ _ (Nat.lt_of_lt_of_le hi h.size)];exact h.block i hi hc hm⟩
theorem Fr.setC {c m o:Nat} {w w1:World} (h:Fr c m w w1) (u:Value):Fr c m w (w1.setCell ⟨c,o,none⟩ u) :=
 ⟨h.os,h.tape,h.output,by simpa [World.setCell] using h.size,fun i hi hc hm=>by rw[Below.heap_setCell _ _ _ _ hc];exact h.block i hi hc hm⟩
theorem Fr.below {c m B:Nat} {w w':World} (h:Fr c m w w') (h1:B≤c) (h2:B≤m) (h3:B≤w.heap.size):Below B w w':=⟨h.os,h.tape,h.output,h.size,fun k hk=>h.block k (by omega) (by omega) (by omega)⟩
structure Ck (w:World) (c m B:Nat) (E:Nat→Addr) (K:Px.Lk):Prop where
 g:Gc w B E
 bc:B≤c
 ex:∃ pf,w.heap[c]?=some (.cells #[.map (some m),.pointer pf] 171)∧B≤m∧m≠c∧KMap w m K.vars ∧
  ((K.e=0∧pf=none)∨(K.e≠0∧∃ f,pf=some ⟨f,0,none⟩∧B≤f∧f≠c∧f≠m∧qe9 w f K.pl (E K.e)))
theorem qck {w:World} {k:Nat} {a b:Value} {t:TypeId} (hh:w.heap[k]?=some (.cells #[a,b] t)) :
  w.cell? ⟨k,0,none⟩=some a∧w.cell? ⟨k,1,none⟩=some b∧∀ o,w.frozen? ⟨k,o,none⟩=false:=by
 refine ⟨?_,?_,?_⟩<;>simp[World.cell?,World.frozen?,hh]
theorem lt_of_block {w:World} {k:Nat} {o:Obj} (h:w.heap[k]?=some o):k < w.heap.size:=by
 rcases Nat.lt_or_ge k w.heap.size with hb | hb
 ·exact hb
 ·rw[Array.getElem?_eq_none hb] at h;cases h
theorem Ck.fr {w w':World} {c m B:Nat} {E:Nat→Addr} {K:Px.Lk} (h:Ck w c m B E K) (k:Fr c m w w'):Below B w w':=by
 obtain ⟨pf,h1,h2,_⟩:=h.ex
 have:=lt_of_block h1
 exact k.below h.bc h2 (by have:=h.bc;omega)
theorem Ck.drew {w:World} {c m B:Nat} {E:Nat→Addr} {K:Px.Lk} (h:Ck w c m B E K):Ck w.drew c m B E K:=⟨⟨h.g.c,h.g.n,h.g.y,h.g.ops,h.g.lo⟩,h.bc,h.ex⟩
theorem zd3 {B:Nat} {w w1:World} (h:Below B w w1):Below B w w1.drew:=⟨h.os,h.tape,h.output,h.size,h.block⟩
theorem Ck.note {w:World} {c B m:Nat} {E:Nat→Addr} {K:Px.Lk} {pf:Option Addr} (e p:Nat) (he:e≠0) (g:Gc w B E) (bc:B≤c) (h1:w.heap[c]?=some (.cells #[.map (some m),.pointer pf] 171)) (h2:B≤m) (h3:m≠c) (h4:KMap w m K.vars) :
  Ck ((w.setCell ⟨c,1,none⟩ (.pointer (some ⟨w.heap.size,0,none⟩))).alloc (.cells #[.int .i64 (p:Int),.iface 359 (.pointer (some (E e)))] 97)) c m B E ⟨K.vars,e,p⟩ ∧
  Fr c m w ((w.setCell ⟨c,1,none⟩ (.pointer (some ⟨w.heap.size,0,none⟩))).alloc (.cells #[.int .i64 (p:Int),.iface 359 (.pointer (some (E e)))] 97)):=by
 have hc:=lt_of_block h1;obtain ⟨es,clock,h5,h6⟩:=h4;have hm:=lt_of_block h5;have hs:(w.setCell ⟨c,1,none⟩ (.pointer (some ⟨w.heap.size,0,none⟩))).heap.size=w.heap.size:=by simp[World.setCell]
 have hB:Below B w ((w.setCell ⟨c,1,none⟩ (.pointer (some ⟨w.heap.size,0,none⟩))).alloc (.cells #[.int .i64 (p:Int),.iface 359 (.pointer (some (E e)))] 97)) :=
  ((Below.refl B w).setCell (p:=⟨c,1,none⟩) bc _).alloc (by simp[World.setCell];omega) _
 refine ⟨⟨g.below hB,bc,some ⟨w.heap.size,0,none⟩,?_,h2,h3,⟨es,clock,?_,h6⟩,Or.inr ⟨he,w.heap.size,rfl,by omega,by omega,by omega,?_⟩⟩,((Fr.refl c m w).setC _).alloc _⟩
 ·rw[Below.heap_alloc _ _ _ (by rw[hs];exact hc),Ref.heap_set _ h1];simp
 ·rw[Below.heap_alloc _ _ _ (by rw[hs];exact hm),Ref.qag _ h3];exact h5
 ·unfold qe9;exact zqc hs
theorem qbx (c m B:Nat) (E:Nat→Addr) (e p:Nat) (he:e≠0) (K:Px.Lk) (w:World) (h:Ck w c m B E K) :
  Calls Tryz.prog 282 #[.pointer (some ⟨c,0,none⟩),.int .i64 (p:Int),.iface 359 (.pointer (some (E e)))] w fun r w'=>r=.returned (.tuple #[])∧Ck w' c m B E (Px.qew e p K)∧Fr c m w w':=by
 obtain ⟨pf,h1,h2,h3,h4,h5⟩:=h.ex;obtain ⟨c0,c1,fr⟩:=qck h1;have YES:Hid (_):=Ck.note (K:=K) e p he h.g h.bc h1 h2 h3 h4;have HH:Hid (_):=h;have hsz:=lt_of_block h1;rcases h5 with ⟨h5,rfl⟩ | ⟨h5,f,rfl,h6,h7,h8,h9⟩
 ·clear h h1 h2 h3 h4;go_enter Tryz.func282,Tryz.ntmps282
  go_wp2_with fail;go_end0
  refine ⟨rfl,?_⟩;rw[show Px.qew e p K=⟨K.vars,e,p⟩ by unfold Px.qew;rw[if_pos (Or.inl h5)]]
  exact YES.out
 ·obtain ⟨d0,d1,fd⟩:=qck h9;clear h h1 h2 h3 h4 h9;by_cases hp:p < K.pl
  ·have t1:(p:Int) < K.pl:=by omega
   go_enter Tryz.func282,Tryz.ntmps282
   go_wp2_with fail;go_end0
   refine ⟨rfl,?_⟩;rw[show Px.qew e p K=⟨K.vars,e,p⟩ by unfold Px.qew;rw[if_pos (Or.inr hp)]]
   exact YES.out
  ·have t1:¬ (p:Int) < K.pl:=by omega
   go_enter Tryz.func282,Tryz.ntmps282
   go_wp2_with fail;go_end0
   refine ⟨rfl,?_,Fr.refl c m _⟩;rw[show Px.qew e p K=K by unfold Px.qew;rw[if_neg (by omega)]]
   exact HH.out
theorem qaq (a b:Nat) (ha:Px.K3 a) (hb:Px.K3 b) (w:World) :
  Calls Tryz.prog 281 #[.int .i64 (kk a:Int),.int .i64 (kk b:Int)] w fun r w'=>r=.returned (.bool (Px.qcd a b))∧w=w':=by
 have e1:Hid (Px.qcd a b=(((kk a:Int) == kk b) || (((kk a:Int) == 0) || ((kk b:Int) == 0)))):=by
  unfold Hid;rcases ha with rfl | rfl | rfl<;>rcases hb with rfl | rfl | rfl<;>decide
 generalize kk a=x at *;generalize kk b=y at *;cases h1:((x:Int) == y)<;>cases h2:((x:Int) == 0)
 all_goals
  go_enter Tryz.func281,Tryz.ntmps281
  go_wp2_with fail;go_ret;exact ⟨Ref.qcv (by rw[e1.out,h1,h2];simp),rfl⟩
theorem qwj (c m B q n a least most:Nat) (E:Nat→Addr) (K:Px.Lk) (w:World) (h:Ck w c m B E K) (hn:NumAt w n a (· < B) q) :
  Calls Tryz.prog 288 #[.pointer (some ⟨c,0,none⟩),Ref.ptr q,.int .i64 (least:Int),.int .i64 (most:Int)] w fun r w'=>r=.returned (.tuple #[])∧Ck w' c m B E (Px.countP n a least most K)∧Fr c m w w':=by
 obtain ⟨c0,c1,fr⟩:=qck hn.2;have g4:=h.g.c;have HH:Hid (_):=h;clear h hn;unfold Ref.ptr;by_cases h1:n < least
 ·have t1:(n:Int) < least:=by omega
  go_enter Tryz.func288,Tryz.ntmps288
  go_wp2_with fail;go_region_with (go_at_call 282;refine (qbx c m B E 4 a (by decide) K _ HH.out.drew).mono ?_;rintro r w1 ⟨rfl,h3,h4⟩)
  all_goals (try go_wp2_with fail)
  all_goals
   go_end0
   refine ⟨rfl,?_,(Fr.refl c m w).drew.trans h4⟩;unfold Px.countP;rw[if_pos (Or.inl h1)];exact h3
 ·have t1:¬ (n:Int) < least:=by omega
  by_cases h2:most < n
  ·have t2:(most:Int) < n:=by omega
   go_enter Tryz.func288,Tryz.ntmps288
   go_wp2_with fail;go_region_with (go_at_call 282;refine (qbx c m B E 4 a (by decide) K _ HH.out.drew).mono ?_;rintro r w1 ⟨rfl,h3,h4⟩)
   all_goals (try go_wp2_with fail)
   all_goals
    go_end0
    refine ⟨rfl,?_,(Fr.refl c m w).drew.trans h4⟩;unfold Px.countP;rw[if_pos (Or.inr h2)];exact h3
  ·have t2:¬ (most:Int) < n:=by omega
   go_enter Tryz.func288,Tryz.ntmps288
   go_wp2_with fail;go_end0
   refine ⟨rfl,?_,Fr.refl c m _⟩;unfold Px.countP;rw[if_neg (by omega)];exact HH.out
theorem zhw:Tryz.prog.underlying 169=some (.map 9 353):=Tryz.underlying169
theorem znx (w:World):(zeroValue 353).run Tryz.prog w=.ok (.int .i64 0) w:=by kernel_rfl
theorem Ck.look {w:World} {m:Nat} {K:Px.Lk} (x:ByteArray) (h4:KMap w m K.vars) :
  (Instr.lookup 169 (.map (some m)) (.string x) true).run Tryz.prog w=.ok (.tuple #[.int .i64 (qpy K.vars x:Int),.bool (Px.qa3 K.vars x).isSome]) w :=
 zch h4 zhw Tryz.underlying9 (znx w) x
open Go.RowKit
def qe8 (c m B:Nat) (E:Nat→Addr) (w:World) (r:Nat×Px.Lk) (e:Ending) (w':World):Prop:=e=.returned (.int .i64 (kk r.1:Int))∧Ck w' c m B E r.2∧Fr c m w w'
theorem KMap.drew {w:World} {m:Nat} {l:List (ByteArray×Nat)} (h:KMap w m l):KMap w.drew m l:=h
theorem qpx {l:List (ByteArray×Nat)} {x:ByteArray} (h:Px.qa3 l x=none):qpy l x=0:=by unfold qpy;rw[h]
theorem qpw {l:List (ByteArray×Nat)} {x:ByteArray} {i:Nat} (h:Px.qa3 l x=some i):qpy l x=kk (Px.qcn l i):=by unfold qpy;rw[h]
theorem qx3 (c m B q:Nat) (E:Nat→Addr) (K:Px.Lk) (w:World) (h:Ck w c m B E K) :
  Calls Tryz.prog 297 #[.pointer (some ⟨q,0,none⟩),.pointer (some ⟨c,0,none⟩)] w (qe8 c m B E w (105,K)):=by
 have HH:Hid (_):=h;clear h;go_enter Tryz.func297,Tryz.ntmps297
 go_wp2_with fail;go_ret;exact ⟨rfl,HH.out,Fr.refl c m _⟩
theorem zb1 (c m B q:Nat) (E:Nat→Addr) (K:Px.Lk) (w:World) (h:Ck w c m B E K) :
  Calls Tryz.prog 299 #[.pointer (some ⟨q,0,none⟩),.pointer (some ⟨c,0,none⟩)] w (qe8 c m B E w (98,K)):=by
 have HH:Hid (_):=h;clear h;go_enter Tryz.func299,Tryz.ntmps299
 go_wp2_with fail;go_ret;exact ⟨rfl,HH.out,Fr.refl c m _⟩
theorem qse (c m B q own:Nat) (x:ByteArray) (E:Nat→Addr) (K:Px.Lk) (w:World) (h:Ck w c m B E K) (hv:VarAt w x own (· < B) q) :
  Calls Tryz.prog 283 #[.pointer (some ⟨q,0,none⟩),.pointer (some ⟨c,0,none⟩)] w (qe8 c m B E w (match Px.qa3 K.vars x with
   | none=>(63,Px.qew 5 own K)
   | some i=>(Px.qcn K.vars i,K))):=by
 obtain ⟨pf,h1,h2,h3,h4,h5⟩:=h.ex;obtain ⟨c0,c1,fr⟩:=qck h1;obtain ⟨d0,d1,fd⟩:=qck hv.2;have g5:=h.g.n;have l0:=Ck.look x h4;have l1:=Ck.look x h4.drew;have HH:Hid (_):=h;clear h h1 h2 h3 h4 h5 hv;cases hf:Px.qa3 K.vars x with
 | none =>
  rw[qpx hf,hf] at l0 l1;go_enter Tryz.func283,Tryz.ntmps283
  go_wp2_with fail;go_region
  all_goals
   go_wp2_with fail;go_region_with (go_at_call 282;refine (qbx c m B E 5 own (by decide) K _ HH.out.drew.drew).mono ?_;rintro r w1 ⟨rfl,h3,h4⟩)
   all_goals
    go_wp2_with fail;go_ret;exact ⟨rfl,h3,(Fr.refl c m w).drew.drew.trans h4⟩
 | some i =>
  rw[qpw hf,hf] at l0 l1;go_enter Tryz.func283,Tryz.ntmps283
  go_wp2_with fail;go_region
  all_goals
   go_wp2_with fail;go_ret;exact ⟨rfl,HH.out.drew,(Fr.refl c m _).drew⟩
open Go.RowKit
theorem Ck.put {w:World} {c B m:Nat} {E:Nat→Addr} {K:Px.Lk} {pf:Option Addr} {o:Obj} {vs:List (ByteArray×Nat)} (g:Gc w B E) (bc:B≤c) (h1:w.heap[c]?=some (.cells #[.map (some m),.pointer pf] 171)) (h2:B≤m) (h3:m≠c) (h4:KMap w m K.vars)
  (h5:(K.e=0∧pf=none)∨(K.e≠0∧∃ f,pf=some ⟨f,0,none⟩∧B≤f∧f≠c∧f≠m∧qe9 w f K.pl (E K.e))) (hu:KMap { w with heap:=w.heap.setIfInBounds m o } m vs) :
  Ck { w with heap:=w.heap.setIfInBounds m o } c m B E ⟨vs,K.e,K.pl⟩∧Fr c m w { w with heap:=w.heap.setIfInBounds m o }:=by
 obtain ⟨es,clock,hb,_⟩:=h4;have hs:=(MapKept.heap_set (o':=o) hb).2;have hB:Below B w { w with heap:=w.heap.setIfInBounds m o }:=⟨rfl,rfl,rfl,by simp,fun k hk=>hs k (by omega)⟩
 refine ⟨⟨g.below hB,bc,pf,?_,h2,h3,hu,?_⟩,⟨rfl,rfl,rfl,by simp,fun k _ _ hk=>hs k hk⟩⟩
 ·show (w.heap.setIfInBounds m o)[c]?=_
  rw[hs c (Ne.symm h3)];exact h1
 ·rcases h5 with h5 | ⟨h5,f,h6,h7,h8,h9,h10⟩
  ·exact Or.inl h5
  ·refine Or.inr ⟨h5,f,h6,h7,h8,h9,?_⟩;unfold qe9 at h10 ⊢;show (w.heap.setIfInBounds m o)[f]?=_
   rw[hs f h9];exact h10
theorem qlx (c m B q p k:Nat) (x:ByteArray) (E:Nat→Addr) (K:Px.Lk) (w:World) (h:Ck w c m B E K) (hv:VarAt w x p (· < B) q) (hk:Px.K3 k) (hV:Px.V3 K) :
  Calls Tryz.prog 280 #[.pointer (some ⟨c,0,none⟩),.pointer (some ⟨q,0,none⟩),.int .i64 (kk k:Int)] w fun r w'=>r=.returned (.tuple #[])∧Ck w' c m B E (Px.qid x p k K)∧Fr c m w w':=by
 obtain ⟨pf,h1,h2,h3,h4,h5⟩:=h.ex;obtain ⟨c0,c1,fr⟩:=qck h1;obtain ⟨d0,d1,fd⟩:=qck hv.2;have g6:=h.g.y;have l1:=Ck.look x h4.drew;have HH:Hid (_):=h;cases hf:Px.qa3 K.vars x with
 | none =>
  rw[qpx hf,hf] at l1;obtain ⟨o,u1,u2⟩:=zcg (P:=Tryz.prog) (w:=w.drew.drew) (h4.drew.drew) zhw Tryz.underlying9 x hf k;have hd:=HH.out.drew.drew;have PUT:Hid (_):=Ck.put hd.g hd.bc h1 h2 h3 h4.drew.drew h5 u2;have hgv:Hid (Px.qid x p k K=⟨K.vars++[(x,k)],K.e,K.pl⟩):=by unfold Hid Px.qid;rw[hf]
  clear h h1 h2 h3 h4 h5 hv u2 hd;go_enter Tryz.func280,Tryz.ntmps280
  go_wp2_with fail;go_region
  all_goals
   go_wp2_with fail;go_region
   all_goals
    go_wp2_with fail;go_end0
    rw[hgv.out];exact ⟨rfl,PUT.out.1,(Fr.refl c m w).drew.drew.trans PUT.out.2⟩
 | some i =>
  rw[qpw hf,hf] at l1;have hk2:Px.K3 (Px.qcn K.vars i):=by
   obtain ⟨v,hv1,hv2⟩:=Px.qj9 (Px.qds hf);rw[hv2];exact hV v hv1
  clear h h1 h2 h3 h4 h5 hv;cases hfit:Px.qcd (Px.qcn K.vars i) k
  ·have hgv:Hid (Px.qid x p k K=Px.qew 6 p K):=by unfold Hid Px.qid;rw[hf];simp only;rw[if_neg (by simp[hfit])]
   go_enter Tryz.func280,Tryz.ntmps280
   go_wp2_with fail;go_region
   all_goals
    go_wp2_with fail;refine (qaq _ _ hk2 hk _).mono ?_;rintro r w1 ⟨rfl,rfl⟩;rw[hfit];go_wp2_with fail;go_region_with (go_at_call 282;refine (qbx c m B E 6 p (by decide) K _ HH.out.drew.drew).mono ?_;rintro r w1 ⟨rfl,h3,h4⟩)
    all_goals
     go_wp2_with fail;go_end0
     rw[hgv.out];exact ⟨rfl,h3,(Fr.refl c m w).drew.drew.trans h4⟩
  ·have hgv:Hid (Px.qid x p k K=K):=by unfold Hid Px.qid;rw[hf];simp only;rw[if_pos hfit]
   go_enter Tryz.func280,Tryz.ntmps280
   go_wp2_with fail;go_region
   all_goals
    go_wp2_with fail;refine (qaq _ _ hk2 hk _).mono ?_;rintro r w1 ⟨rfl,rfl⟩;rw[hfit];go_wp2_with fail;go_end0
    rw[hgv.out];exact ⟨rfl,HH.out.drew,(Fr.refl c m w).drew⟩
end Lg
open Go.RowKit
namespace Px
theorem qj2 (e p:Nat) (c:Lk):(qew e p c).vars=c.vars:=by unfold qew;split<;>rfl
theorem qfn (x:Ex):∀ c,(qaj x c).2.vars=c.vars:=by
 match x with
 | ⟨op,n,word,pl,own,none,_⟩ =>
  intro c;simp only[qaj,qv3];split
  ·rfl
  ·split
   ·rfl
   ·split
    ·exact qj2 _ _ _
    ·rfl
 | ⟨op,n,word,pl,own,some l,none⟩ =>
  intro c;simp only[qaj,notP];split
  ·exact qfn l c
  ·rw[qj2];exact qfn l c
 | ⟨op,n,word,pl,own,some l,some r⟩ =>
  intro c;simp only[qaj,binP];split
  ·rw[qfn r,qfn l]
  ·rw[qj2,qfn r,qfn l]
theorem qdp {x:Ex} {c:Lk} (h:V3 c):V3 (qaj x c).2:=by unfold V3;rw[qfn];exact h
theorem qdq (x:Ex) (c:Lk) (h:V3 c):K3 (qaj x c).1:=by
 match x with
 | ⟨op,n,word,pl,own,none,_⟩ =>
  simp only[qaj,qv3];split
  ·exact Or.inl rfl
  ·split
   ·exact Or.inr (Or.inl rfl)
   ·cases hf:qa3 c.vars word with
    | none=>exact Or.inr (Or.inr rfl)
    | some i =>
     obtain ⟨v,hv1,hv2⟩:=qj9 (qds hf);simp only;rw[hv2];exact h v hv1
 | ⟨op,n,word,pl,own,some l,none⟩=>exact Or.inr (Or.inl rfl)
 | ⟨op,n,word,pl,own,some l,some r⟩ =>
  simp only[qaj,binP,qjg];split
  ·exact Or.inr (Or.inl rfl)
  ·exact Or.inl rfl
end Px
namespace Lg
def KindC (w:World) (c tl ql:Nat) (Q:Ending→World→Prop):Prop :=
 (tl=290∧Calls Tryz.prog 297 #[.pointer (some ⟨ql,0,none⟩),.pointer (some ⟨c,0,none⟩)] w Q) ∨
 (tl=249∧Calls Tryz.prog 283 #[.pointer (some ⟨ql,0,none⟩),.pointer (some ⟨c,0,none⟩)] w Q) ∨
 (tl=300∧Calls Tryz.prog 299 #[.pointer (some ⟨ql,0,none⟩),.pointer (some ⟨c,0,none⟩)] w Q) ∨
 (tl=303∧Calls Tryz.prog 301 #[.pointer (some ⟨ql,0,none⟩),.pointer (some ⟨c,0,none⟩)] w Q) ∨
 (tl=306∧Calls Tryz.prog 303 #[.pointer (some ⟨ql,0,none⟩),.pointer (some ⟨c,0,none⟩)] w Q)
def Ty5 (tl:Nat):Prop:=tl=290∨tl=249∨tl=300∨tl=303∨tl=306
theorem KindC.num {w:World} {c ql:Nat} {Q:Ending→World→Prop} (h:KindC w c 290 ql Q):Calls Tryz.prog 297 #[.pointer (some ⟨ql,0,none⟩),.pointer (some ⟨c,0,none⟩)] w Q:=by
 rcases h with ⟨h,k⟩ | ⟨h,k⟩ | ⟨h,k⟩ | ⟨h,k⟩ | ⟨h,k⟩<;>first | exact k | (exact absurd h (by decide))
theorem KindC.var {w:World} {c ql:Nat} {Q:Ending→World→Prop} (h:KindC w c 249 ql Q):Calls Tryz.prog 283 #[.pointer (some ⟨ql,0,none⟩),.pointer (some ⟨c,0,none⟩)] w Q:=by
 rcases h with ⟨h,k⟩ | ⟨h,k⟩ | ⟨h,k⟩ | ⟨h,k⟩ | ⟨h,k⟩<;>first | exact k | (exact absurd h (by decide))
theorem KindC.tru {w:World} {c ql:Nat} {Q:Ending→World→Prop} (h:KindC w c 300 ql Q):Calls Tryz.prog 299 #[.pointer (some ⟨ql,0,none⟩),.pointer (some ⟨c,0,none⟩)] w Q:=by
 rcases h with ⟨h,k⟩ | ⟨h,k⟩ | ⟨h,k⟩ | ⟨h,k⟩ | ⟨h,k⟩<;>first | exact k | (exact absurd h (by decide))
theorem KindC.nots {w:World} {c ql:Nat} {Q:Ending→World→Prop} (h:KindC w c 303 ql Q):Calls Tryz.prog 301 #[.pointer (some ⟨ql,0,none⟩),.pointer (some ⟨c,0,none⟩)] w Q:=by
 rcases h with ⟨h,k⟩ | ⟨h,k⟩ | ⟨h,k⟩ | ⟨h,k⟩ | ⟨h,k⟩<;>first | exact k | (exact absurd h (by decide))
theorem KindC.pair {w:World} {c ql:Nat} {Q:Ending→World→Prop} (h:KindC w c 306 ql Q):Calls Tryz.prog 303 #[.pointer (some ⟨ql,0,none⟩),.pointer (some ⟨c,0,none⟩)] w Q:=by
 rcases h with ⟨h,k⟩ | ⟨h,k⟩ | ⟨h,k⟩ | ⟨h,k⟩ | ⟨h,k⟩<;>first | exact k | (exact absurd h (by decide))
theorem XAt.ty {w:World} {x:Px.Ex} {ok:Nat→Prop} {tl ql:Nat} (h:XAt w x ok (.iface tl (Ref.ptr ql))):Ty5 tl:=by
 unfold Ty5;match x with
 | ⟨op,n,word,pl,own,none,none⟩ =>
  obtain ⟨q,h1,⟨h2,h3,h4⟩ | ⟨h2,h3,h4⟩ | ⟨h2,h3,h4⟩⟩:=h<;>cases h3<;>simp
 | ⟨op,n,word,pl,own,some l,none⟩=>obtain ⟨h0,q,tl,ql,h1,h2,h3⟩:=h;cases h2;simp
 | ⟨op,n,word,pl,own,some l,some r⟩=>obtain ⟨q,tl,ql,tr,qr,h1,h2,h3⟩:=h;cases h2;simp
 | ⟨_,_,_,_,_,none,some _⟩=>exact h.elim
theorem mNum (a:Addr) (w:World):(method 500 290 (.pointer (some a)) "errand/lang.kind").run Tryz.prog w=.ok (297,.pointer (some a)) w:=by kernel_rfl
theorem mVar (a:Addr) (w:World):(method 500 249 (.pointer (some a)) "errand/lang.kind").run Tryz.prog w=.ok (283,.pointer (some a)) w:=by kernel_rfl
theorem mTru (a:Addr) (w:World):(method 500 300 (.pointer (some a)) "errand/lang.kind").run Tryz.prog w=.ok (299,.pointer (some a)) w:=by kernel_rfl
theorem mNot (a:Addr) (w:World):(method 500 303 (.pointer (some a)) "errand/lang.kind").run Tryz.prog w=.ok (301,.pointer (some a)) w:=by kernel_rfl
theorem qvz (a:Addr) (w:World):(method 500 306 (.pointer (some a)) "errand/lang.kind").run Tryz.prog w=.ok (303,.pointer (some a)) w:=by kernel_rfl
def qco (c m B:Nat) (E:Nat→Addr) (x:Px.Ex):Prop:=∀ (K:Px.Lk) (w:World) (tl ql:Nat),XAt w x (· < B) (.iface tl (Ref.ptr ql))→Ck w c m B E K→Px.V3 K→KindC w c tl ql (qe8 c m B E w (Px.qaj x K))
theorem XAt.drew {w:World} {x:Px.Ex} {ok:Nat→Prop} {v:Value} (h:XAt w x ok v):XAt w.drew x ok v:=h.keep fun _ _=>rfl
open Go.RowKit
theorem qqb (c m B:Nat) (E:Nat→Addr) (l:Px.Ex) (ih:qco c m B E l) (k:Nat) (hk:Px.K3 k) (K:Px.Lk) (w:World) (q:Nat) (hr:RootAt w l (· < B) q) (h:Ck w c m B E K) (hv:Px.V3 K) :
  Calls Tryz.prog 287 #[.pointer (some ⟨c,0,none⟩),.pointer (some ⟨q,0,none⟩),.int .i64 (kk k:Int)] w fun r w'=>r=.returned (.tuple #[])∧Ck w' c m B E (Px.qh4 l k K)∧Fr c m w w':=by
 obtain ⟨hq,tl,ql,hc,hx⟩:=hr;have hk3:=Px.qdq l K hv;have CALL:Hid (∀ W,W=w.drew∨W=w→KindC W c tl ql (qe8 c m B E W (Px.qaj l K))):=fun W hW=>by
  rcases hW with rfl | rfl
  ·exact ih K _ tl ql hx.drew h.drew hv
  ·exact ih K _ tl ql hx h hv
 have CQ:Hid (∀ W,Below B w W→W.heap[q]?=some (.cells #[.iface tl (Ref.ptr ql),.int .i64 (l.pl:Int)] 317)):=fun W hW=>by rw[hW.block q hq];exact hc
 have ht:=hx.ty;unfold Ref.ptr at hc;obtain ⟨c0,c1,fr⟩:=qck hc;have HH:Hid (_):=h;clear ih hx h hc;unfold Ty5 at ht;have hm1:=mNum;have hm2:=mVar;have hm3:=mTru;have hm4:=mNot;have hm5:=qvz;rcases ht with rfl | rfl | rfl | rfl | rfl
 all_goals
  go_enter Tryz.func287,Tryz.ntmps287
  go_wp2_with fail
  first
   | refine (CALL.out w (Or.inr rfl)).num.mono ?_
   | refine (CALL.out w (Or.inr rfl)).var.mono ?_
   | refine (CALL.out w (Or.inr rfl)).tru.mono ?_
   | refine (CALL.out w (Or.inr rfl)).nots.mono ?_
   | refine (CALL.out w (Or.inr rfl)).pair.mono ?_
  rintro e w1 ⟨rfl,k1,b1⟩;have hc1:=CQ.out w1 (HH.out.fr b1);unfold Ref.ptr at hc1;obtain ⟨e0,e1,fe⟩:=qck hc1;have g6:=k1.g.y;have K1:Hid (Ck w1 c m B E (Px.qaj l K).2∧Fr c m w w1):=⟨k1,b1⟩;clear c0 c1 fr k1 b1 hc1;cases hfit:Px.qcd (Px.qaj l K).1 k
  ·go_wp2_with fail;refine (qaq _ k hk3 hk _).mono ?_;rintro r w2 ⟨rfl,rfl⟩;rw[hfit];go_wp2_with fail;go_region_with (go_at_call 282;refine (qbx c m B E 6 l.pl (by decide) _ _ K1.out.1.drew).mono ?_;rintro r w2 ⟨rfl,h3,h4⟩)
   all_goals
    go_wp2_with fail;go_end0
    refine ⟨rfl,?_,K1.out.2.drew.trans h4⟩;unfold Px.qh4;rw[if_neg (by simp[hfit])]
    exact h3
  ·go_wp2_with fail;refine (qaq _ k hk3 hk _).mono ?_;rintro r w2 ⟨rfl,rfl⟩;rw[hfit];go_wp2_with fail;go_end0
   refine ⟨rfl,?_,K1.out.2⟩;unfold Px.qh4;rw[if_pos hfit];exact K1.out.1
end Lg
end Go.Proofs.YtagpnplggopoeaaGreatDoor
