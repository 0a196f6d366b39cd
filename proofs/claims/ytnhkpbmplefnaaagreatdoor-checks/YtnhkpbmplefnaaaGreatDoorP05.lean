import Derived.Test.YtnhkpbmplefnaaaGreatDoorP04
import Derived.Defers
import Derived.Recover
import Derived.Test.YtnhkpbmplefnaaaGreatDoorP03
namespace Go.Proofs.YtnhkpbmplefnaaaGreatDoor
open Go.RowKit
namespace Lg
theorem block_late {s:ByteArray} {g:Px.Ps→Except Nat (Px.Sm×Px.Ps)}:Late (Px.block s g):=by
 intro st h;unfold Px.block;rw[if_neg (by simp[onB_63 h])];rfl
def ifX (e:Px.Ex) (l m:List Px.Sm):Px.Sm:={ Px.zeroS with op:=105,ex:=some e,one:=l,two:=m }
def kIf (s:ByteArray) (g:Px.Ps→Except Nat (Px.Sm×Px.Ps)) (e:Px.Ex) (l:List Px.Sm) (st:Px.Ps):Except Nat (Px.Sm×Px.Ps) :=
 if Px.onB s st.t ⟨#[101,108,115,101]⟩ then andThen (Px.block s g (Px.nx s st)) fun m st3=>.ok (ifX e l m,st3) else .ok (ifX e l [],st)
theorem if_eq (s:ByteArray) (g:Px.Ps→Except Nat (Px.Sm×Px.Ps)) (st:Px.Ps):Px.ifS s g st=andThen (Px.exprOf s st) fun e st1=>andThen (Px.block s g st1) fun l st2=>kIf s g e l st2:=by
 unfold Px.ifS
 cases Px.exprOf s st with
 | error p=>rfl
 | ok r =>
  obtain ⟨e,st1⟩:=r
  simp only[andThen]
  cases Px.block s g st1 with
  | error p=>rfl
  | ok r =>
   obtain ⟨l,st2⟩:=r
   simp only[kIf]
   split
   ·simp only[andThen]
    cases Px.block s g (Px.nx s st2) with
    | error p=>rfl
    | ok r=>obtain ⟨m,st3⟩:=r;rfl
   ·rfl
theorem kIf_late (s:ByteArray) (g:Px.Ps→Except Nat (Px.Sm×Px.Ps)) (e:Px.Ex):∀ (l:List Px.Sm) (st:Px.Ps),st.t.k=63→fin (kIf s g e l st)=.error st.t.a:=by
 intro l st h;unfold kIf;rw[if_neg (by simp[onB_63 h])];exact fin_63 _ h
def tryX (l m:List Px.Sm):Px.Sm:={ Px.zeroS with op:=116,one:=l,two:=m }
theorem try_eq (s:ByteArray) (g:Px.Ps→Except Nat (Px.Sm×Px.Ps)) (st:Px.Ps):Px.tryS s g st=andThen (Px.block s g st) fun l st1=>andThen (needU s ⟨#[101,108,115,101]⟩ st1) fun _ st2=>andThen (Px.block s g st2) fun m st3=>.ok (tryX l m,st3):=by
 unfold Px.tryS
 cases Px.block s g st with
 | error p=>rfl
 | ok r =>
  obtain ⟨l,st1⟩:=r
  simp only[andThen]
  rw[need_of]
  cases needU s ⟨#[101,108,115,101]⟩ st1 with
  | error p=>rfl
  | ok r =>
   obtain ⟨u,st2⟩:=r
   simp only
   cases Px.block s g st2 with
   | error p=>rfl
   | ok r=>obtain ⟨m,st3⟩:=r;rfl
def repX (s:ByteArray) (t:Px.Tok) (l:List Px.Sm):Px.Sm:={ Px.zeroS with op:=114,n:=Px.valOf (s.extract t.a t.b).toList,nPl:=t.a,one:=l }
theorem rep_eq (s:ByteArray) (g:Px.Ps→Except Nat (Px.Sm×Px.Ps)) (st:Px.Ps):Px.repeatS s g st=andThen (kindU s 110 st) fun t st1=>andThen (Px.block s g st1) fun l st2=>.ok (repX s t l,st2):=by
 unfold Px.repeatS
 rw[kind_of]
 cases h1:kindU s 110 st with
 | error p=>rfl
 | ok r =>
  obtain ⟨t,st1⟩:=r
  obtain ⟨rfl,_,_⟩:=kindU_ok h1
  simp only[andThen]
  cases Px.block s g st1 with
  | error p=>rfl
  | ok r=>obtain ⟨l,st2⟩:=r;rfl
def BlockX (b:Nat) (s:ByteArray) (n:Nat) (eT eN:Addr) (g:Px.Ps→Except Nat (Px.Sm×Px.Ps)):Prop :=
 ∀ (st:Px.Ps) (w:World),Ref.DomS s (n+1) st→Rd w b s st eT eN→Calls Tryz.prog 174 #[.pointer (some ⟨b,0,none⟩)] w (Out b s eT eN w (Px.block s g st) (BV w))
theorem BV.later {b:Nat} {w0 w w1 w2:World} {l:List Px.Sm} {v:Value} (hb:b < w0.heap.size) (hz:w0.heap.size≤w.heap.size) (h:BV w w1 l v) (k:Kp b w1 w2):∃ vs,SlL w2 v vs (Ref.In w0 w2)∧LsAt w2 l (Ref.In w0 w2) vs:=by
 obtain ⟨vs,h1,h2⟩:=h
 have hk:∀ i,Ref.In w w1 i→w2.heap[i]?=w1.heap[i]?:=fun i hi=>k.block i hi.2 (by have:=hi.1;omega)
 have hm:∀ i,Ref.In w w1 i→Ref.In w0 w2 i:=fun i hi=>⟨by have:=hi.1;omega,Nat.lt_of_lt_of_le hi.2 k.size⟩
 exact ⟨vs,(h1.keep hk).mono hm,(h2.keep hk).mono hm⟩
set_option maxHeartbeats 2000000 in
theorem try_any (b:Nat) (s:ByteArray) (n:Nat) (eT eN:Addr) (g:Px.Ps→Except Nat (Px.Sm×Px.Ps)) (hB:BlockX b s n eT eN g) (hg:Px.Goes s g) (hs:s.size≤maxLen) (st:Px.Ps) (w:World) (hD:Ref.DomS s (n+1) st) (r:Rd w b s st eT eN) :
  Calls Tryz.prog 172 #[.pointer (some ⟨b,0,none⟩)] w (Out b s eT eN w (Px.tryS s g st) (PtrV w 272)):=by
 have hb:=r.lt
 have R:Hid (Rd w b s st eT eN∧Ref.DomS s (n+1) st∧BlockX b s n eT eN g∧Px.Goes s (Px.block s g)):=⟨r,hD,hB,Px.block_goes hg⟩
 clear r hD hB hg
 have E0:Hid (_=_):=try_eq s g st
 go_enter Tryz.func172,Tryz.ntmps172
 go_wp2_with fail
 refine (R.out.2.2.1 st _ R.out.2.1 R.out.1).mono ?_
 rintro e w1 ⟨k1,⟨l,st1,v,h1,rfl,hv1,r1⟩ | ⟨p,hp,ht⟩⟩
 ·have E1:Hid (_=_):=E0.out.trans (then_ok h1)
  have g1:=R.out.2.2.2 _ _ _ R.out.1.tk h1
  have hfv:∃ a n c,v=.slice a n c:=by obtain ⟨vs,q1,q2⟩:=hv1;exact q1.form
  obtain ⟨a1,n1,c1,rfl⟩:=hfv
  have H1:Hid (Kp b w w1∧BV w w1 l (.slice a1 n1 c1)∧Rd w1 b s st1 eT eN∧Px.Good s st st1):=⟨k1,hv1,r1,g1⟩
  clear k1 hv1 r1 g1 h1
  go_wp2_with fail
  refine (must_any b s _ st1 eT eN _ H1.out.2.2.1 hs).mono ?_
  rintro e w2 ⟨k2,⟨u,st2,v,h2,rfl,rfl,r2⟩ | ⟨p,hp,ht⟩⟩
  ·have E2:Hid (_=_):=E1.out.trans (then_ok h2)
   have g2:=H1.out.2.2.2.trans (needU_good H1.out.2.2.1.tk h2)
   have H2:Hid (Kp b w1 w2∧Rd w2 b s st2 eT eN∧Ref.DomS s (n+1) st2):=⟨k2,r2,R.out.2.1.good g2⟩
   clear k2 r2 g2 h2
   go_wp2_with fail
   refine (R.out.2.2.1 st2 _ H2.out.2.2 H2.out.2.1).mono ?_
   rintro e w3 ⟨k3,⟨m,st3,v,h3,rfl,hv3,r3⟩ | ⟨p,hp,ht⟩⟩
   ·have E3:Hid (_=_):=E2.out.trans (then_ok h3)
    have hfv:∃ a n c,v=.slice a n c:=by obtain ⟨vs,q1,q2⟩:=hv3;exact q1.form
    obtain ⟨a3,n3,c3,rfl⟩:=hfv
    have H3:Hid (Kp b w2 w3∧BV w2 w3 m (.slice a3 n3 c3)∧Rd w3 b s st3 eT eN):=⟨k3,hv3,r3⟩
    clear k3 hv3 r3 h3
    go_wp2_with fail
    go_ret
    have z1:=H1.out.1.size
    have z2:=H2.out.1.size
    have z3:=H3.out.1.size
    have k13:=(H2.out.1.trans H3.out.1)
    obtain ⟨u1,f1,f2⟩:=BV.later hb (Nat.le_refl _) H1.out.2.1 (k13.alloc (.cells #[.slice a1 n1 c1,.slice a3 n3 c3] 334))
    obtain ⟨u3,f3,f4⟩:=BV.later hb (by omega) H3.out.2.1 ((Kp.refl b w3).alloc (.cells #[.slice a1 n1 c1,.slice a3 n3 c3] 334))
    refine ⟨(H1.out.1.trans k13).alloc _,Or.inl ⟨_,_,_,E3.out,rfl,⟨w3.heap.size,rfl,?_⟩,H3.out.2.2.alloc _⟩⟩
    exact ⟨.slice a1 n1 c1,.slice a3 n3 c3,u1,u3,⟨w3.heap.size,⟨by omega,by simp⟩,Or.inr (Or.inr (Or.inr (Or.inl ⟨rfl,rfl,new1⟩)))⟩,f1,f2,f3,f4⟩
   ·obtain ⟨c,rfl⟩:=ht.form
    have k02:=H1.out.1.trans H2.out.1
    exact ⟨rfl,k02.trans k3,Or.inr ⟨p,by rw[E2.out];exact fin_then hp fun _ _ h=>fin_63 _ h,ht.low k02.size⟩⟩
  ·obtain ⟨c,rfl⟩:=ht.form
   exact ⟨rfl,H1.out.1.trans k2,Or.inr ⟨p,by rw[E1.out];exact fin_then hp fun _ st2 h=>fin_then (block_late st2 h) fun _ _ h'=>fin_63 _ h',ht.low H1.out.1.size⟩⟩
 ·obtain ⟨c,rfl⟩:=ht.form
  exact ⟨rfl,k1,Or.inr ⟨p,by rw[E0.out];exact fin_then hp fun _ st1 h=>fin_then (needU_late s _ st1 h) fun _ st2 h'=>fin_then (block_late st2 h') fun _ _ h''=>fin_63 _ h'',ht⟩⟩
set_option maxHeartbeats 2000000 in
theorem choice_any (b:Nat) (s:ByteArray) (n:Nat) (eT eN:Addr) (g:Px.Ps→Except Nat (Px.Sm×Px.Ps)) (hB:BlockX b s n eT eN g) (hg:Px.Goes s g) (hs:s.size≤maxLen) (st:Px.Ps) (w:World) (hD:Ref.DomS s (n+1) st) (r:Rd w b s st eT eN) :
  Calls Tryz.prog 171 #[.pointer (some ⟨b,0,none⟩)] w (Out b s eT eN w (Px.ifS s g st) (PtrV w 270)):=by
 have hb:=r.lt
 have R:Hid (Rd w b s st eT eN∧Ref.DomS s (n+1) st∧BlockX b s n eT eN g∧Px.Goes s (Px.block s g)):=⟨r,hD,hB,Px.block_goes hg⟩
 have hn0:=hD.n0
 have hn1:st.nest+(s.size+1:Nat)≤1000000:=by have:=hD.n1;omega
 clear r hD hB hg
 have E0:Hid (_=_):=if_eq s g st
 go_enter Tryz.func171,Tryz.ntmps171
 go_wp2_with fail
 refine (root_any b s eT eN hs st _ R.out.1 hn0 hn1).mono ?_
 rintro e w1 ⟨k1,⟨x,st1,v,h1,rfl,⟨qr,rfl,hv1⟩,r1⟩ | ⟨p,hp,ht⟩⟩
 ·have E1:Hid (_=_):=E0.out.trans (then_ok h1)
  have g1:=Px.exprOf_goes s _ _ _ R.out.1.tk h1
  have H1:Hid (Kp b w w1∧RootAt w1 x (Ref.In w w1) qr∧Rd w1 b s st1 eT eN∧Ref.DomS s (n+1) st1):=⟨k1,hv1,r1,R.out.2.1.good g1⟩
  clear k1 hv1 r1 g1 h1
  unfold Ref.ptr
  go_wp2_with fail
  refine (R.out.2.2.1 st1 _ H1.out.2.2.2 H1.out.2.2.1).mono ?_
  rintro e w2 ⟨k2,⟨l,st2,v,h2,rfl,hv2,r2⟩ | ⟨p,hp,ht⟩⟩
  ·have E2:Hid (_=_):=E1.out.trans (then_ok h2)
   have g2:=R.out.2.2.2 _ _ _ H1.out.2.2.1.tk h2
   have hfv:∃ a n c,v=.slice a n c:=by obtain ⟨vs,q1,q2⟩:=hv2;exact q1.form
   obtain ⟨a2,n2,c2,rfl⟩:=hfv
   have H2:Hid (Kp b w1 w2∧BV w1 w2 l (.slice a2 n2 c2)∧Rd w2 b s st2 eT eN∧Ref.DomS s (n+1) st2):=⟨k2,hv2,r2,H1.out.2.2.2.good g2⟩
   have z2:=k2.size
   clear k2 hv2 r2 g2 h2
   go_wp2_with fail
   refine (take_any b s _ st2 eT eN _ (H2.out.2.2.1.alloc _) hs).mono ?_
   rintro e w3 ⟨k3,⟨rfl,r3⟩ | ⟨ho,h63,ht⟩⟩
   ·have z1:=H1.out.1.size
    have hg3:=one_new k3 (by omega)
    obtain ⟨d0,d1,d2,df⟩:=cells3 hg3
    have z3:=k3.of_alloc.size
    have H3:Hid (Kp b w2 w3∧Rd w3 b s (tookS s ⟨#[101,108,115,101]⟩ st2) eT eN∧w3.heap[w2.heap.size]?=_):=⟨k3.of_alloc,r3,hg3⟩
    have hq3:w2.heap.size < w3.heap.size:=lt_of_cell d0
    clear k3 r3 hg3
    cases ho:Px.onB s st2.t ⟨#[101,108,115,101]⟩
    ·rw[took_off ho] at H3
     have E3:Hid (Px.ifS s g st=.ok (ifX x l [],st2)):=by unfold Hid;rw[E2.out,kIf,if_neg (by simp[ho])]
     clear ho
     go_wp2_with fail
     go_ret
     have k13:=H2.out.1.trans H3.out.1
     obtain ⟨u1,f1,f2⟩:=BV.later hb z1 H2.out.2.1 H3.out.1
     refine ⟨H1.out.1.trans k13,Or.inl ⟨_,_,_,E3.out,rfl,⟨w2.heap.size,rfl,?_⟩,H3.out.2.1⟩⟩
     refine ⟨.slice a2 n2 c2,.slice none 0 0,u1,[],⟨w2.heap.size,⟨by omega,hq3⟩,Or.inr (Or.inr (Or.inl ⟨rfl,rfl,qr,x,H3.out.2.2,rfl,?_⟩))⟩,f1,f2,Or.inl ⟨rfl,rfl⟩,LsAt.nil_iff.2 rfl⟩
     exact (H1.out.2.1.keep fun i hi=>k13.block i hi.2 (by have:=hi.1;omega)).mono fun i hi=>⟨hi.1,by have:=hi.2;omega⟩
    ·have g3:=Px.good_on H2.out.2.2.1.tk ho
     rw[took_on ho] at H3
     have E3:Hid (Px.ifS s g st=andThen (Px.block s g (Px.nx s st2)) fun m st3=>.ok (ifX x l m,st3)):=by unfold Hid;rw[E2.out,kIf,if_pos ho]
     have D3:Hid (Ref.DomS s (n+1) (Px.nx s st2)):=H2.out.2.2.2.good g3
     clear ho g3
     go_wp2_with fail
     refine (R.out.2.2.1 (Px.nx s st2) _ D3.out H3.out.2.1).mono ?_
     rintro e w4 ⟨k4,⟨m,st4,v,h4,rfl,hv4,r4⟩ | ⟨p,hp,ht⟩⟩
     ·have E4:Hid (_=_):=E3.out.trans (then_ok h4)
      have hfv:∃ a n c,v=.slice a n c:=by obtain ⟨vs,q1,q2⟩:=hv4;exact q1.form
      obtain ⟨a4,n4,c4,rfl⟩:=hfv
      have hg4:w4.heap[w2.heap.size]?=_:=(k4.block _ hq3 (by omega)).trans H3.out.2.2
      obtain ⟨e0,e1,e2,ef⟩:=cells3 hg4
      have H4:Hid (Kp b w3 w4∧BV w3 w4 m (.slice a4 n4 c4)∧Rd w4 b s st4 eT eN∧w4.heap[w2.heap.size]?=_):=⟨k4,hv4,r4,hg4⟩
      have z4:=k4.size
      clear k4 hv4 r4 hg4 h4 d0 d1 d2 df
      go_wp2_with fail
      go_ret
      have hne:∀ i,Ref.In w3 w4 i→i≠w2.heap.size:=fun i hi=>by have:=hi.1;omega
      have kS:∀ i,i≠w2.heap.size→(w4.setCell ⟨w2.heap.size,2,none⟩ (.slice a4 n4 c4)).heap[i]?=w4.heap[i]?:=fun i hi=>Ref.heap_set_ne _ hi
      have k24:=H3.out.1.trans H4.out.1
      have k14:=H2.out.1.trans k24
      have zS:(w4.setCell ⟨w2.heap.size,2,none⟩ (.slice a4 n4 c4)).heap.size=w4.heap.size:=Ref.size_set _ _ _
      refine ⟨(H1.out.1.trans k14).setN (by omega) _,Or.inl ⟨_,_,_,E4.out,rfl,⟨w2.heap.size,rfl,?_⟩,H4.out.2.2.1.setT H4.out.2.2.2 (by decide) (by omega) _⟩⟩
      obtain ⟨u1,f1,f2⟩:=BV.later (w0:=w1) (by omega) (Nat.le_refl _) H2.out.2.1 (Kp.refl b w2)
      obtain ⟨u3,f3,f4⟩:=H4.out.2.1
      have hk1:∀ i,Ref.In w1 w2 i→(w4.setCell ⟨w2.heap.size,2,none⟩ (.slice a4 n4 c4)).heap[i]?=w2.heap[i]?:=fun i hi=>(kS i (by have:=hi.2;omega)).trans (k24.block i hi.2 (by have:=hi.1;omega))
      have hm1:∀ i,Ref.In w1 w2 i→Ref.In w (w4.setCell ⟨w2.heap.size,2,none⟩ (.slice a4 n4 c4)) i:=fun i hi=>⟨by have:=hi.1;omega,by rw[zS];have:=hi.2;omega⟩
      have hk3:∀ i,Ref.In w3 w4 i→(w4.setCell ⟨w2.heap.size,2,none⟩ (.slice a4 n4 c4)).heap[i]?=w4.heap[i]?:=fun i hi=>kS i (hne i hi)
      have hm3:∀ i,Ref.In w3 w4 i→Ref.In w (w4.setCell ⟨w2.heap.size,2,none⟩ (.slice a4 n4 c4)) i:=fun i hi=>⟨by have:=hi.1;omega,by rw[zS];exact hi.2⟩
      refine ⟨.slice a2 n2 c2,.slice a4 n4 c4,u1,u3,⟨w2.heap.size,⟨by omega,by rw[zS];omega⟩,Or.inr (Or.inr (Or.inl ⟨rfl,rfl,qr,x,?_,rfl,?_⟩))⟩,(f1.keep hk1).mono hm1,(f2.keep hk1).mono hm1,(f3.keep hk3).mono hm3,(f4.keep hk3).mono hm3⟩
      ·rw[Ref.heap_set _ H4.out.2.2.2];simp[Ref.ptr]
      ·exact (H1.out.2.1.keep fun i hi=>(kS i (by have:=hi.2;omega)).trans (k14.block i hi.2 (by have:=hi.1;omega))).mono fun i hi=>⟨hi.1,by rw[zS];have:=hi.2;omega⟩
     ·obtain ⟨c,rfl⟩:=ht.form
      have k03:=(H1.out.1.trans H2.out.1).trans H3.out.1
      exact ⟨rfl,k03.trans k4,Or.inr ⟨p,by rw[E3.out];exact fin_then hp fun _ _ h=>fin_63 _ h,ht.low k03.size⟩⟩
   ·obtain ⟨c,rfl⟩:=ht.form
    have k02:=H1.out.1.trans H2.out.1
    exact ⟨rfl,k02.trans k3.of_alloc,Or.inr ⟨_,by rw[E2.out,kIf,if_pos ho];exact fin_then (block_late _ h63) fun _ _ h=>fin_63 _ h,ht.low (by have:=k02.size;simp;omega)⟩⟩
  ·obtain ⟨c,rfl⟩:=ht.form
   exact ⟨rfl,H1.out.1.trans k2,Or.inr ⟨p,by rw[E1.out];exact fin_then hp (kIf_late s g x),ht.low H1.out.1.size⟩⟩
 ·obtain ⟨c,rfl⟩:=ht.form
  exact ⟨rfl,k1,Or.inr ⟨p,by rw[E0.out];exact fin_then hp fun e st1 h=>fin_then (block_late st1 h) (kIf_late s g e),ht⟩⟩
open Go.RowKit
def someR (r:Except Nat (Px.Sm×Px.Ps)):Except Nat (Option Px.Sm×Px.Ps) :=
 match r with
 | .ok (x,st')=>.ok (some x,st')
 | .error p=>.error p
theorem U_of {s:ByteArray} {n:Nat} {st:Px.Ps} {r:Except Nat (Px.Sm×Px.Ps)} (hs:starts s st=true) (h:Px.stmt s n st=r):stmtU s (Px.stmt s n) st=someR r:=by
 unfold stmtU;rw[if_pos hs,h];rfl
theorem U_fin {s:ByteArray} {n:Nat} {st:Px.Ps} {r:Except Nat (Px.Sm×Px.Ps)} {p:Nat} (hs:starts s st=true) (h:Px.stmt s n st=r) (hp:fin r=.error p):fin (stmtU s (Px.stmt s n) st)=.error p:=by
 rw[U_of hs h]
 rcases fin_cases hp with rfl | ⟨x,st',rfl,h1,rfl⟩
 ·rfl
 ·exact fin_63 _ h1
theorem letS_late (s:ByteArray):Late (Px.letS s):=by
 intro st h;rw[let_eq];exact fin_then (kindU_late s (by decide) st h) (let_late1 s)
theorem call_late (s:ByteArray):Late (Px.call s):=by
 intro st h;rw[call_eq];exact fin_then (kindU_late s (by decide) st h) fun t st1 h1=>fin_then (needU_late s _ st1 h1) fun _ st2 h'=>arg_late s _ st2 h'
theorem ifS_late {s:ByteArray} {g:Px.Ps→Except Nat (Px.Sm×Px.Ps)}:Late (Px.ifS s g):=by
 intro st h;rw[if_eq];exact fin_then (exprOf_late s st h) fun e st1 h1=>fin_then (block_late st1 h1) (kIf_late s g e)
theorem tryS_late {s:ByteArray} {g:Px.Ps→Except Nat (Px.Sm×Px.Ps)}:Late (Px.tryS s g):=by
 intro st h;rw[try_eq];exact fin_then (block_late st h) fun _ st1 h=>fin_then (needU_late s _ st1 h) fun _ st2 h'=>fin_then (block_late st2 h') fun _ _ h''=>fin_63 _ h''
theorem repS_late {s:ByteArray} {g:Px.Ps→Except Nat (Px.Sm×Px.Ps)}:Late (Px.repeatS s g):=by
 intro st h;rw[rep_eq];exact fin_then (kindU_late s (by decide) st h) fun _ st1 h=>fin_then (block_late st1 h) fun _ _ h'=>fin_63 _ h'
theorem doms_on {s:ByteArray} {n:Nat} {st:Px.Ps} (hD:Ref.DomS s (n+1) st) {x:ByteArray} (ho:Px.onB s st.t x=true):Ref.DomS s (n+1) (Px.nx s st):=hD.good (Px.good_on hD.tk ho)
theorem SAt.low {w0 w w':World} {x:Px.Sm} {v:Value} (h:SAt w' x (Ref.In w w') v) (hz:w0.heap.size≤w.heap.size):SAt w' x (Ref.In w0 w') v:=h.mono fun i hi=>⟨by have:=hi.1;omega,hi.2⟩
set_option maxHeartbeats 4000000 in
theorem stmt_let (b:Nat) (s:ByteArray) (n:Nat) (eT eN:Addr) (hs:s.size≤maxLen) (st:Px.Ps) (w:World) (hD:Ref.DomS s (n+1) st) (r:Rd w b s st eT eN) (h1:Px.onB s st.t ⟨#[108,101,116]⟩=true) :
  Calls Tryz.prog 118 #[.pointer (some ⟨b,0,none⟩)] w (Out b s eT eN w (stmtU s (Px.stmt s (n+1)) st) (SoV w)):=by
 have hS:Hid (starts s st=true∧Px.stmt s (n+1) st=Px.letS s (Px.nx s st)):=⟨by unfold starts;rw[h1];simp,by rw[Px.stmt,if_pos h1]⟩
 have R:Hid (Rd w b s st eT eN∧True):=⟨r,trivial⟩
 have hn0:=hD.n0
 have hn1:st.nest+(s.size+1:Nat)≤1000000:=by have:=hD.n1;omega
 have D1:Hid (Ref.DomS s (n+1) (Px.nx s st)):=doms_on hD h1
 clear r hD
 go_enter Tryz.func118,Tryz.ntmps118
 go_wp2_with fail
 refine (take_yes b s _ st eT eN _ R.out.1 hs h1).mono ?_
 rintro e w1 ⟨k1,⟨u,st1,v,he,rfl,rfl,r1⟩ | ⟨p,hp,ht⟩⟩
 ·cases he
  have H1:Hid (Kp b w w1∧Rd w1 b s (Px.nx s st) eT eN):=⟨k1,r1⟩
  have z1:=k1.size
  clear k1 r1
  go_wp2_with fail
  refine (let_any b s eT eN hs _ _ H1.out.2 (show 0≤(Px.nx s st).nest from hn0) hn1).mono ?_
  rintro e w2 ⟨k2,⟨x,st2,v,h2,rfl,⟨q,rfl,hv⟩,r2⟩ | ⟨p,hp,ht⟩⟩
  ·have E:Hid (stmtU s (Px.stmt s (n+1)) st=.ok (some x,st2)):=by unfold Hid;rw[U_of hS.out.1 hS.out.2,h2];rfl
   have H2:Hid (Kp b w1 w2∧SAt w2 x (Ref.In w1 w2) (.iface 258 (Ref.ptr q))∧Rd w2 b s st2 eT eN):=⟨k2,hv,r2⟩
   clear k2 h2 hv r2
   unfold Ref.ptr at H2 ⊢
   go_wp2_with fail
   go_ret2
   exact ⟨H1.out.1.trans H2.out.1,Or.inl ⟨_,_,_,E.out,rfl,⟨_,rfl,H2.out.2.1.low z1⟩,H2.out.2.2⟩⟩
  ·obtain ⟨c,rfl⟩:=ht.form
   exact ⟨rfl,H1.out.1.trans k2,Or.inr ⟨p,U_fin hS.out.1 hS.out.2 hp,ht.low H1.out.1.size⟩⟩
 ·obtain ⟨c,rfl⟩:=ht.form
  obtain ⟨h63,rfl⟩:=fin_ok_k hp
  exact ⟨rfl,k1,Or.inr ⟨_,U_fin hS.out.1 hS.out.2 (letS_late s _ h63),ht⟩⟩
set_option maxHeartbeats 4000000 in
theorem stmt_call (b:Nat) (s:ByteArray) (n:Nat) (eT eN:Addr) (hs:s.size≤maxLen) (st:Px.Ps) (w:World) (hD:Ref.DomS s (n+1) st) (r:Rd w b s st eT eN) (h1:Px.onB s st.t ⟨#[108,101,116]⟩=false) (h2:Px.onB s st.t ⟨#[99,97,108,108]⟩=true) :
  Calls Tryz.prog 118 #[.pointer (some ⟨b,0,none⟩)] w (Out b s eT eN w (stmtU s (Px.stmt s (n+1)) st) (SoV w)):=by
 have hS:Hid (starts s st=true∧Px.stmt s (n+1) st=Px.call s (Px.nx s st)):=⟨by unfold starts;rw[h2];simp,by rw[Px.stmt,if_neg (by simp[h1]),if_pos h2]⟩
 have R:Hid (Rd w b s st eT eN∧True):=⟨r,trivial⟩
 have hn0:=hD.n0
 have hn1:st.nest+(s.size+1:Nat)≤1000000:=by have:=hD.n1;omega
 have D1:Hid (Ref.DomS s (n+1) (Px.nx s st)):=doms_on hD h2
 clear r hD
 go_enter Tryz.func118,Tryz.ntmps118
 go_wp2_with fail
 refine (take_no b s _ st eT eN _ R.out.1 h1).mono ?_
 rintro e w1 ⟨rfl,rfl⟩
 go_wp2_with fail
 refine (take_yes b s _ st eT eN _ R.out.1 hs h2).mono ?_
 rintro e w1 ⟨k1,⟨u,st1,v,he,rfl,rfl,r1⟩ | ⟨p,hp,ht⟩⟩
 ·cases he
  have H1:Hid (Kp b w w1∧Rd w1 b s (Px.nx s st) eT eN):=⟨k1,r1⟩
  have z1:=k1.size
  clear k1 r1
  go_wp2_with fail
  refine (call_any b s eT eN hs _ _ H1.out.2 (show 0≤(Px.nx s st).nest from hn0) hn1).mono ?_
  rintro e w2 ⟨k2,⟨x,st2,v,h2,rfl,⟨q,rfl,hv⟩,r2⟩ | ⟨p,hp,ht⟩⟩
  ·have E:Hid (stmtU s (Px.stmt s (n+1)) st=.ok (some x,st2)):=by unfold Hid;rw[U_of hS.out.1 hS.out.2,h2];rfl
   have H2:Hid (Kp b w1 w2∧SAt w2 x (Ref.In w1 w2) (.iface 268 (Ref.ptr q))∧Rd w2 b s st2 eT eN):=⟨k2,hv,r2⟩
   clear k2 h2 hv r2
   unfold Ref.ptr at H2 ⊢
   go_wp2_with fail
   go_ret2
   exact ⟨H1.out.1.trans H2.out.1,Or.inl ⟨_,_,_,E.out,rfl,⟨_,rfl,H2.out.2.1.low z1⟩,H2.out.2.2⟩⟩
  ·obtain ⟨c,rfl⟩:=ht.form
   exact ⟨rfl,H1.out.1.trans k2,Or.inr ⟨p,U_fin hS.out.1 hS.out.2 hp,ht.low H1.out.1.size⟩⟩
 ·obtain ⟨c,rfl⟩:=ht.form
  obtain ⟨h63,rfl⟩:=fin_ok_k hp
  exact ⟨rfl,k1,Or.inr ⟨_,U_fin hS.out.1 hS.out.2 (call_late s _ h63),ht⟩⟩
set_option maxHeartbeats 4000000 in
theorem stmt_if (b:Nat) (s:ByteArray) (n:Nat) (eT eN:Addr) (hB:BlockX b s n eT eN (Px.stmt s n)) (hs:s.size≤maxLen) (st:Px.Ps) (w:World) (hD:Ref.DomS s (n+1) st) (r:Rd w b s st eT eN) (h1:Px.onB s st.t ⟨#[108,101,116]⟩=false) (h2:Px.onB s st.t ⟨#[99,97,108,108]⟩=false) (h3:Px.onB s st.t ⟨#[105,102]⟩=true) :
  Calls Tryz.prog 118 #[.pointer (some ⟨b,0,none⟩)] w (Out b s eT eN w (stmtU s (Px.stmt s (n+1)) st) (SoV w)):=by
 have hS:Hid (starts s st=true∧Px.stmt s (n+1) st=Px.ifS s (Px.stmt s n) (Px.nx s st)):=⟨by unfold starts;rw[h3];simp,by rw[Px.stmt,if_neg (by simp[h1]),if_neg (by simp[h2]),if_pos h3]⟩
 have R:Hid (Rd w b s st eT eN∧BlockX b s n eT eN (Px.stmt s n)):=⟨r,hB⟩
 have hn0:=hD.n0
 have hn1:st.nest+(s.size+1:Nat)≤1000000:=by have:=hD.n1;omega
 have D1:Hid (Ref.DomS s (n+1) (Px.nx s st)):=doms_on hD h3
 clear r hD hB
 go_enter Tryz.func118,Tryz.ntmps118
 go_wp2_with fail
 refine (take_no b s _ st eT eN _ R.out.1 h1).mono ?_
 rintro e w1 ⟨rfl,rfl⟩
 go_wp2_with fail
 refine (take_no b s _ st eT eN _ R.out.1 h2).mono ?_
 rintro e w1 ⟨rfl,rfl⟩
 go_wp2_with fail
 refine (take_yes b s _ st eT eN _ R.out.1 hs h3).mono ?_
 rintro e w1 ⟨k1,⟨u,st1,v,he,rfl,rfl,r1⟩ | ⟨p,hp,ht⟩⟩
 ·cases he
  have H1:Hid (Kp b w w1∧Rd w1 b s (Px.nx s st) eT eN):=⟨k1,r1⟩
  have z1:=k1.size
  clear k1 r1
  go_wp2_with fail
  refine (choice_any b s n eT eN _ R.out.2 (Px.stmt_goes s n) hs _ _ D1.out H1.out.2).mono ?_
  rintro e w2 ⟨k2,⟨x,st2,v,h2,rfl,⟨q,rfl,hv⟩,r2⟩ | ⟨p,hp,ht⟩⟩
  ·have E:Hid (stmtU s (Px.stmt s (n+1)) st=.ok (some x,st2)):=by unfold Hid;rw[U_of hS.out.1 hS.out.2,h2];rfl
   have H2:Hid (Kp b w1 w2∧SAt w2 x (Ref.In w1 w2) (.iface 270 (Ref.ptr q))∧Rd w2 b s st2 eT eN):=⟨k2,hv,r2⟩
   clear k2 h2 hv r2
   unfold Ref.ptr at H2 ⊢
   go_wp2_with fail
   go_ret2
   exact ⟨H1.out.1.trans H2.out.1,Or.inl ⟨_,_,_,E.out,rfl,⟨_,rfl,H2.out.2.1.low z1⟩,H2.out.2.2⟩⟩
  ·obtain ⟨c,rfl⟩:=ht.form
   exact ⟨rfl,H1.out.1.trans k2,Or.inr ⟨p,U_fin hS.out.1 hS.out.2 hp,ht.low H1.out.1.size⟩⟩
 ·obtain ⟨c,rfl⟩:=ht.form
  obtain ⟨h63,rfl⟩:=fin_ok_k hp
  exact ⟨rfl,k1,Or.inr ⟨_,U_fin hS.out.1 hS.out.2 (ifS_late _ h63),ht⟩⟩
set_option maxHeartbeats 4000000 in
theorem stmt_try (b:Nat) (s:ByteArray) (n:Nat) (eT eN:Addr) (hB:BlockX b s n eT eN (Px.stmt s n)) (hs:s.size≤maxLen) (st:Px.Ps) (w:World) (hD:Ref.DomS s (n+1) st) (r:Rd w b s st eT eN) (h1:Px.onB s st.t ⟨#[108,101,116]⟩=false) (h2:Px.onB s st.t ⟨#[99,97,108,108]⟩=false) (h3:Px.onB s st.t ⟨#[105,102]⟩=false) (h4:Px.onB s st.t ⟨#[116,114,121]⟩=true) :
  Calls Tryz.prog 118 #[.pointer (some ⟨b,0,none⟩)] w (Out b s eT eN w (stmtU s (Px.stmt s (n+1)) st) (SoV w)):=by
 have hS:Hid (starts s st=true∧Px.stmt s (n+1) st=Px.tryS s (Px.stmt s n) (Px.nx s st)):=⟨by unfold starts;rw[h4];simp,by rw[Px.stmt,if_neg (by simp[h1]),if_neg (by simp[h2]),if_neg (by simp[h3]),if_pos h4]⟩
 have R:Hid (Rd w b s st eT eN∧BlockX b s n eT eN (Px.stmt s n)):=⟨r,hB⟩
 have hn0:=hD.n0
 have hn1:st.nest+(s.size+1:Nat)≤1000000:=by have:=hD.n1;omega
 have D1:Hid (Ref.DomS s (n+1) (Px.nx s st)):=doms_on hD h4
 clear r hD hB
 go_enter Tryz.func118,Tryz.ntmps118
 go_wp2_with fail
 refine (take_no b s _ st eT eN _ R.out.1 h1).mono ?_
 rintro e w1 ⟨rfl,rfl⟩
 go_wp2_with fail
 refine (take_no b s _ st eT eN _ R.out.1 h2).mono ?_
 rintro e w1 ⟨rfl,rfl⟩
 go_wp2_with fail
 refine (take_no b s _ st eT eN _ R.out.1 h3).mono ?_
 rintro e w1 ⟨rfl,rfl⟩
 go_wp2_with fail
 refine (take_yes b s _ st eT eN _ R.out.1 hs h4).mono ?_
 rintro e w1 ⟨k1,⟨u,st1,v,he,rfl,rfl,r1⟩ | ⟨p,hp,ht⟩⟩
 ·cases he
  have H1:Hid (Kp b w w1∧Rd w1 b s (Px.nx s st) eT eN):=⟨k1,r1⟩
  have z1:=k1.size
  clear k1 r1
  go_wp2_with fail
  refine (try_any b s n eT eN _ R.out.2 (Px.stmt_goes s n) hs _ _ D1.out H1.out.2).mono ?_
  rintro e w2 ⟨k2,⟨x,st2,v,h2,rfl,⟨q,rfl,hv⟩,r2⟩ | ⟨p,hp,ht⟩⟩
  ·have E:Hid (stmtU s (Px.stmt s (n+1)) st=.ok (some x,st2)):=by unfold Hid;rw[U_of hS.out.1 hS.out.2,h2];rfl
   have H2:Hid (Kp b w1 w2∧SAt w2 x (Ref.In w1 w2) (.iface 272 (Ref.ptr q))∧Rd w2 b s st2 eT eN):=⟨k2,hv,r2⟩
   clear k2 h2 hv r2
   unfold Ref.ptr at H2 ⊢
   go_wp2_with fail
   go_ret2
   exact ⟨H1.out.1.trans H2.out.1,Or.inl ⟨_,_,_,E.out,rfl,⟨_,rfl,H2.out.2.1.low z1⟩,H2.out.2.2⟩⟩
  ·obtain ⟨c,rfl⟩:=ht.form
   exact ⟨rfl,H1.out.1.trans k2,Or.inr ⟨p,U_fin hS.out.1 hS.out.2 hp,ht.low H1.out.1.size⟩⟩
 ·obtain ⟨c,rfl⟩:=ht.form
  obtain ⟨h63,rfl⟩:=fin_ok_k hp
  exact ⟨rfl,k1,Or.inr ⟨_,U_fin hS.out.1 hS.out.2 (tryS_late _ h63),ht⟩⟩
set_option maxHeartbeats 4000000 in
theorem stmt_rep (b:Nat) (s:ByteArray) (n:Nat) (eT eN:Addr) (hB:BlockX b s n eT eN (Px.stmt s n)) (hs:s.size≤maxLen) (st:Px.Ps) (w:World) (hD:Ref.DomS s (n+1) st) (r:Rd w b s st eT eN) (h1:Px.onB s st.t ⟨#[108,101,116]⟩=false) (h2:Px.onB s st.t ⟨#[99,97,108,108]⟩=false) (h3:Px.onB s st.t ⟨#[105,102]⟩=false) (h4:Px.onB s st.t ⟨#[116,114,121]⟩=false) (h5:Px.onB s st.t ⟨#[114,101,112,101,97,116]⟩=true) :
  Calls Tryz.prog 118 #[.pointer (some ⟨b,0,none⟩)] w (Out b s eT eN w (stmtU s (Px.stmt s (n+1)) st) (SoV w)):=by
 have hS:Hid (starts s st=true∧Px.stmt s (n+1) st=Px.repeatS s (Px.stmt s n) (Px.nx s st)):=⟨by unfold starts;rw[h5];simp,by rw[Px.stmt,if_neg (by simp[h1]),if_neg (by simp[h2]),if_neg (by simp[h3]),if_neg (by simp[h4]),if_pos h5]⟩
 have R:Hid (Rd w b s st eT eN∧BlockX b s n eT eN (Px.stmt s n)):=⟨r,hB⟩
 have hn0:=hD.n0
 have hn1:st.nest+(s.size+1:Nat)≤1000000:=by have:=hD.n1;omega
 have D1:Hid (Ref.DomS s (n+1) (Px.nx s st)):=doms_on hD h5
 clear r hD hB
 go_enter Tryz.func118,Tryz.ntmps118
 go_wp2_with fail
 refine (take_no b s _ st eT eN _ R.out.1 h1).mono ?_
 rintro e w1 ⟨rfl,rfl⟩
 go_wp2_with fail
 refine (take_no b s _ st eT eN _ R.out.1 h2).mono ?_
 rintro e w1 ⟨rfl,rfl⟩
 go_wp2_with fail
 refine (take_no b s _ st eT eN _ R.out.1 h3).mono ?_
 rintro e w1 ⟨rfl,rfl⟩
 go_wp2_with fail
 refine (take_no b s _ st eT eN _ R.out.1 h4).mono ?_
 rintro e w1 ⟨rfl,rfl⟩
 go_wp2_with fail
 refine (take_yes b s _ st eT eN _ R.out.1 hs h5).mono ?_
 rintro e w1 ⟨k1,⟨u,st1,v,he,rfl,rfl,r1⟩ | ⟨p,hp,ht⟩⟩
 ·cases he
  have H1:Hid (Kp b w w1∧Rd w1 b s (Px.nx s st) eT eN):=⟨k1,r1⟩
  have z1:=k1.size
  clear k1 r1
  go_wp2_with fail
  have E0:Hid (Px.repeatS s (Px.stmt s n) (Px.nx s st)=_):=rep_eq s (Px.stmt s n) (Px.nx s st)
  refine (number_any b s (Px.nx s st) eT eN _ H1.out.2 hs).mono ?_
  rintro e w2 ⟨k2,⟨t,st2,v,h2,rfl,⟨qn,rfl,hv⟩,r2⟩ | ⟨p,hp,ht⟩⟩
  ·have E2:Hid (_=_):=E0.out.trans (then_ok h2)
   have g2:=kindU_good H1.out.2.tk (by decide) (by decide) h2
   have H2:Hid (Kp b w1 w2∧NumAt w2 (Px.valOf (s.extract t.a t.b).toList) t.a (Ref.In w1 w2) qn∧Rd w2 b s st2 eT eN∧Ref.DomS s (n+1) st2):=⟨k2,hv,r2,D1.out.good g2⟩
   have z2:=k2.size
   clear k2 hv r2 g2 h2
   unfold Ref.ptr
   go_wp2_with fail
   refine (R.out.2 st2 _ H2.out.2.2.2 H2.out.2.2.1).mono ?_
   rintro e w3 ⟨k3,⟨l,st3,v,h3,rfl,hv3,r3⟩ | ⟨p,hp,ht⟩⟩
   ·have E3:Hid (stmtU s (Px.stmt s (n+1)) st=.ok (some (repX s t l),st3)):=by unfold Hid;rw[U_of hS.out.1 (hS.out.2.trans (E2.out.trans (then_ok h3)))];rfl
    have hfv:∃ a n c,v=.slice a n c:=by obtain ⟨vs,q1,q2⟩:=hv3;exact q1.form
    obtain ⟨a3,n3,c3,rfl⟩:=hfv
    have H3:Hid (Kp b w2 w3∧BV w2 w3 l (.slice a3 n3 c3)∧Rd w3 b s st3 eT eN):=⟨k3,hv3,r3⟩
    have z3:=k3.size
    clear k3 hv3 r3 h3
    go_wp2_with fail
    go_ret2
    have hbw:=R.out.1.lt
    obtain ⟨u3,f3,f4⟩:=BV.later hbw (by omega) H3.out.2.1 ((Kp.refl b w3).alloc (.cells #[.pointer (some ⟨qn,0,none⟩),.slice a3 n3 c3] 300))
    refine ⟨((H1.out.1.trans H2.out.1).trans H3.out.1).alloc _,Or.inl ⟨_,_,_,E3.out,rfl,⟨_,rfl,?_⟩,H3.out.2.2.alloc _⟩⟩
    refine ⟨.slice a3 n3 c3,.slice none 0 0,u3,[],⟨w3.heap.size,⟨by omega,by simp⟩,Or.inr (Or.inr (Or.inr (Or.inr (Or.inl ⟨rfl,rfl,qn,new1,?_⟩))))⟩,f3,f4,Or.inl ⟨rfl,rfl⟩,LsAt.nil_iff.2 rfl⟩
    exact (H2.out.2.1.keep fun i hi=>(H3.out.1.alloc _).block i hi.2 (by have:=hi.1;omega)).mono fun i hi=>⟨by have:=hi.1;omega,by have:=hi.2;simp;omega⟩
   ·obtain ⟨c,rfl⟩:=ht.form
    have k02:=H1.out.1.trans H2.out.1
    exact ⟨rfl,k02.trans k3,Or.inr ⟨p,U_fin hS.out.1 (hS.out.2.trans E2.out) (fin_then hp fun _ _ h=>fin_63 _ h),ht.low k02.size⟩⟩
  ·obtain ⟨c,rfl⟩:=ht.form
   exact ⟨rfl,H1.out.1.trans k2,Or.inr ⟨p,U_fin hS.out.1 (hS.out.2.trans E0.out) (fin_then hp fun _ st1 h=>fin_then (block_late st1 h) fun _ _ h'=>fin_63 _ h'),ht.low H1.out.1.size⟩⟩
 ·obtain ⟨c,rfl⟩:=ht.form
  obtain ⟨h63,rfl⟩:=fin_ok_k hp
  exact ⟨rfl,k1,Or.inr ⟨_,U_fin hS.out.1 hS.out.2 (repS_late _ h63),ht⟩⟩
theorem fail_U {s:ByteArray} {st:Px.Ps} (h:Px.onB s st.t ⟨#[102,97,105,108]⟩=true):Px.failS s st=andThen (needU s ⟨#[59]⟩ (Px.nx s st)) fun _ st2=>.ok ({ Px.zeroS with op:=102 },st2):=by
 unfold Px.failS
 rw[show Px.need s ⟨#[102,97,105,108]⟩ st=.ok (Px.nx s st) from by unfold Px.need;rw[if_pos h]]
 simp only
 rw[need_of]
 cases needU s ⟨#[59]⟩ (Px.nx s st) with
 | error p=>rfl
 | ok r=>obtain ⟨u,st2⟩:=r;rfl
set_option maxHeartbeats 4000000 in
theorem stmt_fail (b:Nat) (s:ByteArray) (n:Nat) (eT eN:Addr) (hs:s.size≤maxLen) (st:Px.Ps) (w:World) (hD:Ref.DomS s (n+1) st) (r:Rd w b s st eT eN) (h1:Px.onB s st.t ⟨#[108,101,116]⟩=false) (h2:Px.onB s st.t ⟨#[99,97,108,108]⟩=false) (h3:Px.onB s st.t ⟨#[105,102]⟩=false) (h4:Px.onB s st.t ⟨#[116,114,121]⟩=false) (h5:Px.onB s st.t ⟨#[114,101,112,101,97,116]⟩=false) (h6:Px.onB s st.t ⟨#[102,97,105,108]⟩=true) :
  Calls Tryz.prog 118 #[.pointer (some ⟨b,0,none⟩)] w (Out b s eT eN w (stmtU s (Px.stmt s (n+1)) st) (SoV w)):=by
 have hS:Hid (starts s st=true∧Px.stmt s (n+1) st=andThen (needU s ⟨#[59]⟩ (Px.nx s st)) fun _ st2=>.ok ({ Px.zeroS with op:=102 },st2)):=⟨by unfold starts;rw[h6];simp,by rw[Px.stmt,if_neg (by simp[h1]),if_neg (by simp[h2]),if_neg (by simp[h3]),if_neg (by simp[h4]),if_neg (by simp[h5]),fail_U h6]⟩
 have R:Hid (Rd w b s st eT eN∧True):=⟨r,trivial⟩
 have hn0:=hD.n0
 have hn1:st.nest+(s.size+1:Nat)≤1000000:=by have:=hD.n1;omega
 have D1:Hid (Ref.DomS s (n+1) (Px.nx s st)):=doms_on hD h6
 clear r hD
 go_enter Tryz.func118,Tryz.ntmps118
 go_wp2_with fail
 refine (take_no b s _ st eT eN _ R.out.1 h1).mono ?_
 rintro e w1 ⟨rfl,rfl⟩
 go_wp2_with fail
 refine (take_no b s _ st eT eN _ R.out.1 h2).mono ?_
 rintro e w1 ⟨rfl,rfl⟩
 go_wp2_with fail
 refine (take_no b s _ st eT eN _ R.out.1 h3).mono ?_
 rintro e w1 ⟨rfl,rfl⟩
 go_wp2_with fail
 refine (take_no b s _ st eT eN _ R.out.1 h4).mono ?_
 rintro e w1 ⟨rfl,rfl⟩
 go_wp2_with fail
 refine (take_no b s _ st eT eN _ R.out.1 h5).mono ?_
 rintro e w1 ⟨rfl,rfl⟩
 go_wp2_with fail
 refine (take_yes b s _ st eT eN _ R.out.1 hs h6).mono ?_
 rintro e w1 ⟨k1,⟨u,st1,v,he,rfl,rfl,r1⟩ | ⟨p,hp,ht⟩⟩
 ·cases he
  have H1:Hid (Kp b w w1∧Rd w1 b s (Px.nx s st) eT eN):=⟨k1,r1⟩
  have z1:=k1.size
  clear k1 r1
  go_wp2_with fail
  refine (must_any b s _ (Px.nx s st) eT eN _ H1.out.2 hs).mono ?_
  rintro e w2 ⟨k2,⟨u,st2,v,h2,rfl,rfl,r2⟩ | ⟨p,hp,ht⟩⟩
  ·have E:Hid (stmtU s (Px.stmt s (n+1)) st=.ok (some { Px.zeroS with op:=102 },st2)):=by unfold Hid;rw[U_of hS.out.1 (hS.out.2.trans (then_ok h2))];rfl
   have H2:Hid (Kp b w1 w2∧Rd w2 b s st2 eT eN):=⟨k2,r2⟩
   have z2:=k2.size
   clear k2 h2 r2
   go_wp2_with fail
   go_ret2
   exact ⟨(H1.out.1.trans H2.out.1).alloc _,Or.inl ⟨_,_,_,E.out,rfl,⟨_,rfl,⟨.slice none 0 0,.slice none 0 0,[],[],⟨w2.heap.size,⟨by omega,by simp⟩,Or.inr (Or.inr (Or.inr (Or.inr (Or.inr ⟨rfl,rfl⟩))))⟩,Or.inl ⟨rfl,rfl⟩,LsAt.nil_iff.2 rfl,Or.inl ⟨rfl,rfl⟩,LsAt.nil_iff.2 rfl⟩⟩,H2.out.2.alloc _⟩⟩
  ·obtain ⟨c,rfl⟩:=ht.form
   exact ⟨rfl,H1.out.1.trans k2,Or.inr ⟨p,U_fin hS.out.1 hS.out.2 (fin_then hp fun _ _ h=>fin_63 _ h),ht.low H1.out.1.size⟩⟩
 ·obtain ⟨c,rfl⟩:=ht.form
  obtain ⟨h63,rfl⟩:=fin_ok_k hp
  exact ⟨rfl,k1,Or.inr ⟨_,U_fin hS.out.1 hS.out.2 (fin_then (needU_late s _ _ h63) fun _ _ h=>fin_63 _ h),ht⟩⟩
theorem stmt_no (b:Nat) (s:ByteArray) (n:Nat) (eT eN:Addr) (st:Px.Ps) (w:World) (r:Rd w b s st eT eN) (hS:starts s st=false) :
  Calls Tryz.prog 118 #[.pointer (some ⟨b,0,none⟩)] w (Out b s eT eN w (stmtU s (Px.stmt s (n+1)) st) (SoV w)):=by
 have E:Hid (stmtU s (Px.stmt s (n+1)) st=.ok (none,st)):=by unfold Hid stmtU;rw[if_neg (by simp[hS])]
 unfold starts at hS
 simp only[Bool.or_eq_false_iff] at hS
 obtain ⟨⟨⟨⟨⟨h1,h2⟩,h3⟩,h4⟩,h5⟩,h6⟩:=hS
 have R:Hid (Rd w b s st eT eN):=r
 clear r
 go_enter Tryz.func118,Tryz.ntmps118
 go_wp2_with fail
 refine (take_no b s _ st eT eN _ R.out h1).mono ?_
 rintro e w1 ⟨rfl,rfl⟩
 go_wp2_with fail
 refine (take_no b s _ st eT eN _ R.out h2).mono ?_
 rintro e w1 ⟨rfl,rfl⟩
 go_wp2_with fail
 refine (take_no b s _ st eT eN _ R.out h3).mono ?_
 rintro e w1 ⟨rfl,rfl⟩
 go_wp2_with fail
 refine (take_no b s _ st eT eN _ R.out h4).mono ?_
 rintro e w1 ⟨rfl,rfl⟩
 go_wp2_with fail
 refine (take_no b s _ st eT eN _ R.out h5).mono ?_
 rintro e w1 ⟨rfl,rfl⟩
 go_wp2_with fail
 refine (take_no b s _ st eT eN _ R.out h6).mono ?_
 rintro e w1 ⟨rfl,rfl⟩
 go_wp2_with fail
 go_ret2
 exact ⟨Kp.refl _ _,Or.inl ⟨_,_,_,E.out,rfl,rfl,R.out⟩⟩
theorem stmt_any (b:Nat) (s:ByteArray) (eT eN:Addr) (hs3:s.size≤300) (n:Nat):StmtX b s n eT eN (Px.stmt s n):=by
 have hs:s.size≤maxLen:=by unfold maxLen;omega
 induction n with
 | zero=>intro st w hD r;have:=hD.room;omega
 | succ n ih =>
  intro st w hD r
  have hB:BlockX b s n eT eN (Px.stmt s n):=fun st w hD r=>block_any b s n eT eN _ ih (Px.stmt_goes s n) (fun st h=>stmt_off h) hs3 st w hD r
  cases h1:Px.onB s st.t ⟨#[108,101,116]⟩
  ·cases h2:Px.onB s st.t ⟨#[99,97,108,108]⟩
   ·cases h3:Px.onB s st.t ⟨#[105,102]⟩
    ·cases h4:Px.onB s st.t ⟨#[116,114,121]⟩
     ·cases h5:Px.onB s st.t ⟨#[114,101,112,101,97,116]⟩
      ·cases h6:Px.onB s st.t ⟨#[102,97,105,108]⟩
       ·exact stmt_no b s n eT eN st w r (by unfold starts;rw[h1,h2,h3,h4,h5,h6];rfl)
       ·exact stmt_fail b s n eT eN hs st w hD r h1 h2 h3 h4 h5 h6
      ·exact stmt_rep b s n eT eN hB hs st w hD r h1 h2 h3 h4 h5
     ·exact stmt_try b s n eT eN hB hs st w hD r h1 h2 h3 h4
    ·exact stmt_if b s n eT eN hB hs st w hD r h1 h2 h3
   ·exact stmt_call b s n eT eN hs st w hD r h1 h2
  ·exact stmt_let b s n eT eN hs st w hD r h1
open Go.RowKit
theorem recover_hit {P:Program} {Q:Exit→Act→List Frame→World→Prop} {a:Act} {c₀:Frame} {cs:List Frame} {w:World} {v:Value} {older:List PanicEntry} {d:Nat} {ty:TypeId} {pos:String} (hu:c₀.mode=.panicking ({ v:=v,recovered:=false }::older))
  (h:Q .normal (a.put (some d) v) ({ c₀ with mode:=.panicking ({ v:=v,recovered:=true }::older) }::cs) w) :
  wpOpsS P #[{ dst:=some d,op:=Op.call { callee:=.builtin .recover,args:=#[],argTypes:=#[] },type:=ty,pos:=pos,after:=#[],guard:=none }] Q (List.range 1) a (c₀::cs) w:=by
 simp[wpOpsS,go_sem,recoverD,hu]
 exact h
theorem recover_miss {P:Program} {Q:Exit→Act→List Frame→World→Prop} {a:Act} {c₀:Frame} {cs:List Frame} {w:World} {d:Nat} {ty:TypeId} {pos:String} (hu:c₀.mode=.returning)
  (h:Q .normal (a.put (some d) .nilIface) (c₀::cs) w) :
  wpOpsS P #[{ dst:=some d,op:=Op.call { callee:=.builtin .recover,args:=#[],argTypes:=#[] },type:=ty,pos:=pos,after:=#[],guard:=none }] Q (List.range 1) a (c₀::cs) w:=by
 simp[wpOpsS,go_sem,recoverD,hu]
 exact h
set_option maxRecDepth 100000 in
theorem catch_panicking (a0 a1 a2 f:Nat) (x0 x1:Value) (older:List PanicEntry) (w:World) (h0:w.cell? ⟨a0,0,none⟩=some x0) (z0:w.frozen? ⟨a0,0,none⟩=false) (h1:w.cell? ⟨a1,0,none⟩=some x1) (z1:w.frozen? ⟨a1,0,none⟩=false) (hne:¬ a0=a1) :
  CallsD Tryz.prog 57 #[.pointer (some ⟨a0,0,none⟩),.pointer (some ⟨a1,0,none⟩),.pointer (some ⟨a2,0,none⟩)] (.panicking ({ v:=.iface 87 (.pointer (some ⟨f,0,none⟩)),recovered:=false }::older)) w fun e u' w' =>
   e=.returned (.tuple #[])∧u'=.panicking ({ v:=.iface 87 (.pointer (some ⟨f,0,none⟩)),recovered:=true }::older)∧w'=(w.setCell ⟨a0,0,none⟩ (.slice none 0 0)).setCell ⟨a1,0,none⟩ (.iface 87 (.pointer (some ⟨f,0,none⟩))):=by
 have hta:∀ W:World,(Instr.typeAssert (.iface 87 (.pointer (some ⟨f,0,none⟩))) 20 87 true).run Tryz.prog W=.ok (.tuple #[.pointer (some ⟨f,0,none⟩),.bool true]) W:=fun _=>by kernel_rfl
 refine callsD_of_wpS Tryz.func57 rfl fun c₀ cs hu=>?_
 simp only[Tryz.ntmps57,List.size_toArray,List.length_cons,List.length_nil,Nat.reduceAdd,Nat.reduceSub,Array.replicate_succ,Array.replicate_zero,List.push_toArray,List.append_toArray,List.nil_append,List.cons_append]
 refine wpS_seq (wpS_region (recover_hit hu ?_))
 refine wpS_of_wp ?_
 simp only[Act.put,List.setIfInBounds_toArray,List.set_cons_succ,List.set_cons_zero]
 go_wp2_with fail
 exact ⟨rfl,_,rfl,.tuple #[],results_none rfl _ _ _,rfl,rfl,rfl⟩
theorem catch_idle (a0 a1 a2:Nat) (w:World) :
  CallsD Tryz.prog 57 #[.pointer (some ⟨a0,0,none⟩),.pointer (some ⟨a1,0,none⟩),.pointer (some ⟨a2,0,none⟩)] .returning w fun e u' w'=>e=.returned (.tuple #[])∧u'=.returning∧w'=w:=by
 refine callsD_of_wpS Tryz.func57 rfl fun c₀ cs hu=>?_
 simp only[Tryz.ntmps57,List.size_toArray,List.length_cons,List.length_nil,Nat.reduceAdd,Nat.reduceSub,Array.replicate_succ,Array.replicate_zero,List.push_toArray,List.append_toArray,List.nil_append,List.cons_append]
 refine wpS_seq (wpS_region (recover_miss hu ?_))
 refine wpS_of_wp ?_
 simp only[Act.put,List.setIfInBounds_toArray,List.set_cons_succ,List.set_cons_zero]
 go_wp2_with fail
 exact ⟨rfl,.returning,by cases c₀;simp_all,.tuple #[],results_none rfl _ _ _,rfl,rfl,rfl⟩
end Lg
namespace Px
structure Lk where
 vars:List (ByteArray×Nat)
 e:Nat
 pl:Nat
def say (e p:Nat) (c:Lk):Lk:=if c.e=0∨p < c.pl∨(p=c.pl∧e < c.e) then ⟨c.vars,e,p⟩ else c
def findV (l:List (ByteArray×Nat)) (w:ByteArray):Option Nat :=
 match l with
 | []=>none
 | (v,_)::r=>if v.toList == w.toList then some 0 else (findV r w).map (·+1)
def kindAt (l:List (ByteArray×Nat)) (i:Nat):Nat:=(l.getD i (⟨#[]⟩,0)).2
def isK (k want:Nat):Bool:=k == want || k == 63
def unlike (a b:Nat):Bool:=a != b && a != 63 && b != 63
def leafK (op:Nat) (word:ByteArray) (own:Nat) (c:Lk):Nat×Lk :=
 if op=110 then (105,c)
 else if op=116 then (98,c)
 else
  match findV c.vars word with
  | none=>(63,say 5 own c)
  | some i=>(kindAt c.vars i,c)
def notK (own:Nat) (r:Nat×Lk):Nat×Lk:=(98,if isK r.1 98 then r.2 else say 6 own r.2)
def binK (op own a:Nat) (r:Nat×Lk):Nat×Lk :=
 if op=61∨op=35 then (98,if unlike a r.1 then say 6 own r.2 else r.2)
 else (if op=60 then 98 else 105,if isK a 105 && isK r.1 105 then r.2 else say 6 own r.2)
def kindE:Ex→Lk→Nat×Lk
 | ⟨op,_,word,_,own,none,_⟩,c=>leafK op word own c
 | ⟨_,_,_,_,own,some l,none⟩,c=>notK own (kindE l c)
 | ⟨op,_,_,_,own,some l,some r⟩,c=>binK op own (kindE l c).1 (kindE r (kindE l c).2)
def WfE:Ex→Prop
 | ⟨op,_,_,_,_,none,none⟩=>op=110∨op=116∨op=119
 | ⟨op,_,_,_,_,some l,none⟩=>op=33∧WfE l
 | ⟨op,_,_,_,_,some l,some r⟩=>(op=42∨op=47∨op=43∨op=45∨op=60∨op=61∨op=35)∧WfE l∧WfE r
 | ⟨_,_,_,_,_,none,some _⟩=>False
theorem WfE.place {x:Ex} (h:WfE x) (a:Nat):WfE { x with pl:=a }:=by
 match x with
 | ⟨_,_,_,_,_,none,none⟩=>exact h
 | ⟨_,_,_,_,_,some _,none⟩=>exact h
 | ⟨_,_,_,_,_,some _,some _⟩=>exact h
 | ⟨_,_,_,_,_,none,some _⟩=>exact h
def Makes (g:Ps→Except Nat (Ex×Ps)):Prop:=∀ st x st',g st=.ok (x,st')→WfE x
def opB (a:UInt8):Prop:=a.toNat=42∨a.toNat=47∨a.toNat=43∨a.toNat=45∨a.toNat=60∨a.toNat=61∨a.toNat=35
theorem chain_makes {s:ByteArray} {g:Ps→Except Nat (Ex×Ps)} (hg:Makes g) {a b:UInt8} (ha:opB a) (hb:opB b) (n:Nat):∀ (pl:Nat) (e:Ex) (st:Ps) (x:Ex) (st':Ps),WfE e→chain s g a b n pl e st=.ok (x,st')→WfE x:=by
 induction n with
 | zero=>intro pl e st x st' _ h;simp[chain] at h
 | succ n ih =>
  intro pl e st x st' he h
  rw[chain] at h
  split at h
  ·cases hp:g (nx s st) with
   | error p=>rw[hp] at h;cases h
   | ok r =>
    obtain ⟨k,st1⟩:=r
    rw[hp] at h
    exact ih pl ⟨a.toNat,0,nowt,pl,st.t.a,some e,some k⟩ _ _ _ ⟨ha,he,hg _ _ _ hp⟩ h
  ·split at h
   ·cases hp:g (nx s st) with
    | error p=>rw[hp] at h;cases h
    | ok r =>
     obtain ⟨k,st1⟩:=r
     rw[hp] at h
     exact ih pl ⟨b.toNat,0,nowt,pl,st.t.a,some e,some k⟩ _ _ _ ⟨hb,he,hg _ _ _ hp⟩ h
   ·cases h;exact he
theorem row_makes {s:ByteArray} {g:Ps→Except Nat (Ex×Ps)} (hg:Makes g) {a b:UInt8} (ha:opB a) (hb:opB b):Makes (row s g a b):=by
 intro st x st' h
 unfold row at h
 cases hp:g st with
 | error p=>rw[hp] at h;cases h
 | ok r =>
  obtain ⟨e,st1⟩:=r
  rw[hp] at h
  exact chain_makes hg ha hb _ _ _ _ _ _ (hg _ _ _ hp) h
theorem sum_makes {s:ByteArray} {g:Ps→Except Nat (Ex×Ps)} (hg:Makes g):Makes (sum s g) :=
 row_makes (row_makes hg (by unfold opB;decide) (by unfold opB;decide)) (by unfold opB;decide) (by unfold opB;decide)
theorem expr_makes {s:ByteArray} {g:Ps→Except Nat (Ex×Ps)} (hg:Makes g):Makes (expr s g):=by
 intro st x st' h
 unfold expr at h
 cases hp:sum s g st with
 | error p=>rw[hp] at h;cases h
 | ok r =>
  obtain ⟨e,st1⟩:=r
  rw[hp] at h
  simp only at h
  cases hc:cmpOf s st1.t with
  | none=>rw[hc] at h;cases h;exact sum_makes hg _ _ _ hp
  | some o =>
   rw[hc] at h
   simp only at h
   have ho:o=60∨o=61∨o=35:=by
    unfold cmpOf at hc
    split at hc
    ·cases hc;simp
    ·split at hc
     ·cases hc;simp
     ·split at hc
      ·cases hc;simp
      ·cases hc
   cases hq:sum s g (nx s st1) with
   | error p=>rw[hq] at h;cases h
   | ok r2 =>
    obtain ⟨k,st2⟩:=r2
    rw[hq] at h
    cases h
    exact ⟨by omega,sum_makes hg _ _ _ hp,sum_makes hg _ _ _ hq⟩
theorem atom_makes (s:ByteArray) (n:Nat):Makes (atom s n):=by
 induction n with
 | zero=>intro st x st' h;simp[atom] at h
 | succ n ih =>
  intro st x st' h
  rw[atom] at h
  split at h
  ·cases h;exact Or.inl rfl
  ·split at h
   ·cases h;exact Or.inr (Or.inr rfl)
   ·split at h
    ·cases h;exact Or.inr (Or.inl rfl)
    ·split at h
     ·cases h;exact Or.inr (Or.inl rfl)
     ·split at h
      ·cases hp:atom s n (nx s st) with
       | error p=>rw[hp] at h;cases h
       | ok r =>
        obtain ⟨k,st1⟩:=r
        rw[hp] at h
        cases h
        exact ⟨rfl,ih _ _ _ hp⟩
      ·split at h
       ·cases hp:expr s (atom s n) (nx s (dn st)) with
        | error p=>rw[hp] at h;cases h
        | ok r =>
         obtain ⟨k,st1⟩:=r
         rw[hp] at h
         simp only at h
         split at h
         ·cases h
          exact (expr_makes ih _ _ _ hp).place _
         ·cases h
       ·cases h
theorem exprOf_makes (s:ByteArray):Makes (exprOf s):=expr_makes (atom_makes s _)
def giveV (w:ByteArray) (p k:Nat) (c:Lk):Lk :=
 match findV c.vars w with
 | none=>⟨c.vars++[(w,k)],c.e,c.pl⟩
 | some i=>if unlike (kindAt c.vars i) k then say 6 p c else c
def mustE (x:Option Ex) (k:Nat) (c:Lk):Lk :=
 match x with
 | none=>c
 | some x=>if isK (kindE x c).1 k then (kindE x c).2 else say 6 x.pl (kindE x c).2
def lookS:List Sm→Lk→Lk
 | [],c=>c
 | ⟨op,word,pl,ex,asw,asPl,_,n,nPl,one,two⟩::rest,c =>
  lookS rest (
   if op=108 then
    match ex with
    | none=>c
    | some x=>giveV word pl (kindE x c).1 (kindE x c).2
   else if op=99 then
    let c1:=mustE ex 105 c
    let c2:=if asw.toList.isEmpty then c1 else giveV asw asPl 105 c1
    if n < 1∨5 < n then say 4 nPl c2 else c2
   else if op=105 then lookS two (lookS one (mustE ex 98 c))
   else if op=116 then lookS two (lookS one c)
   else if op=114 then lookS one (if 9 < n then say 4 nPl c else c)
   else c)
def check (s:ByteArray):Nat×Nat :=
 match read s with
 | .error r=>r
 | .ok l=>let c:=lookS l ⟨[],0,0⟩;if c.e=0 then (0,0) else (c.e,c.pl)
def cnt:List Sm→Nat
 | []=>0
 | ⟨_,_,_,_,_,_,_,_,_,one,two⟩::rest=>1+cnt one+cnt two+cnt rest
def WfO (x:Option Ex):Prop:=∀ e,x=some e→WfE e
def WfH (x:Sm):Prop:=WfO x.ex∧((x.op=108∧x.ex≠none)∨x.op=99∨(x.op=105∧x.ex≠none)∨x.op=116∨x.op=114∨x.op=102)
def WfS:List Sm→Prop
 | []=>True
 | ⟨op,word,pl,ex,asw,asPl,undo,n,nPl,one,two⟩::rest=>WfH ⟨op,word,pl,ex,asw,asPl,undo,n,nPl,one,two⟩∧WfS one∧WfS two∧WfS rest
theorem WfS_nil:WfS []:=by rw[WfS];trivial
theorem WfS_cons {x:Sm} {l:List Sm}:WfS (x::l)↔WfH x∧WfS x.one∧WfS x.two∧WfS l:=by
 obtain ⟨op,word,pl,ex,asw,asPl,undo,n,nPl,one,two⟩:=x
 rw[WfS]
theorem WfS_snoc {l:List Sm} {x:Sm} (h:WfS l) (h1:WfH x) (h2:WfS x.one) (h3:WfS x.two):WfS (l++[x]):=by
 induction l with
 | nil=>exact WfS_cons.2 ⟨h1,h2,h3,WfS_nil⟩
 | cons y l ih =>
  obtain ⟨g1,g2,g3,g4⟩:=WfS_cons.1 h
  exact WfS_cons.2 ⟨g1,g2,g3,ih g4⟩
theorem cnt_nil:cnt []=0:=by rw[cnt]
theorem cnt_cons (x:Sm) (l:List Sm):cnt (x::l)=1+cnt x.one+cnt x.two+cnt l:=by
 obtain ⟨op,word,pl,ex,asw,asPl,undo,n,nPl,one,two⟩:=x
 rw[cnt]
theorem cnt_snoc (l:List Sm) (x:Sm):cnt (l++[x])=cnt l+1+cnt x.one+cnt x.two:=by
 induction l with
 | nil=>simp[cnt_cons,cnt_nil]
 | cons y l ih=>rw[List.cons_append,cnt_cons,cnt_cons,ih];omega
def MakesS (s:ByteArray) (g:Ps→Except Nat (Sm×Ps)):Prop:=∀ st x st',Tk s st.t→g st=.ok (x,st')→WfH x∧WfS x.one∧WfS x.two∧st.t.a+1+cnt x.one+cnt x.two≤st'.t.a
theorem stmts_makes {s:ByteArray} {g:Ps→Except Nat (Sm×Ps)} (hg:Goes s g) (hm:MakesS s g) (stop:Ps→Bool) (n:Nat):∀ (l:List Sm) (st:Ps) (x:List Sm) (st':Ps),Tk s st.t→WfS l→stmts s g stop n l st=.ok (x,st')→WfS x∧st.t.a+cnt x≤st'.t.a+cnt l:=by
 induction n with
 | zero=>intro l st x st' _ _ h;simp[stmts] at h
 | succ n ih =>
  intro l st x st' ht hl h
  rw[stmts] at h
  split at h
  ·cases h;exact ⟨hl,Nat.le_refl _⟩
  ·cases hp:g st with
   | error p=>rw[hp] at h;cases h
   | ok r =>
    obtain ⟨k,st1⟩:=r
    rw[hp] at h
    have g1:=hg _ _ _ ht hp
    obtain ⟨m1,m2,m3,m4⟩:=hm _ _ _ ht hp
    obtain ⟨i1,i2⟩:=ih _ _ _ _ g1.tk (WfS_snoc hl m1 m2 m3) h
    rw[cnt_snoc] at i2
    exact ⟨i1,by omega⟩
theorem block_makes {s:ByteArray} {g:Ps→Except Nat (Sm×Ps)} (hg:Goes s g) (hm:MakesS s g) {st:Ps} {x:List Sm} {st':Ps} (ht:Tk s st.t) (h:block s g st=.ok (x,st')):WfS x∧st.t.a+cnt x≤st'.t.a:=by
 unfold block at h
 split at h
 ·rename_i ho
  have g1:=good_on ht ho
  cases hp:stmts s g (fun st=>onB s st.t ⟨#[125]⟩) (s.size+1) [] (nx s (dn st)) with
  | error p=>rw[hp] at h;cases h
  | ok r =>
   obtain ⟨l,st1⟩:=r
   rw[hp] at h
   cases h
   obtain ⟨g2,hs⟩:=stmts_goes hg _ _ _ _ _ _ (show Tk s (nx s (dn st)).t from g1.tk) hp
   obtain ⟨i1,i2⟩:=stmts_makes hg hm _ _ _ _ _ _ (show Tk s (nx s (dn st)).t from g1.tk) WfS_nil hp
   have g3:=good_on g2.tk hs
   have h1:st.t.a < (nx s (dn st)).t.a:=g1.lt
   have h3:st1.t.a < (nx s st1).t.a:=g3.lt
   rw[cnt_nil] at i2
   refine ⟨i1,?_⟩
   show st.t.a+cnt _≤(nx s st1).t.a
   omega
 ·cases h
theorem wfO_none:WfO none:=fun e h=>by cases h
theorem wfO_some {e:Ex} (h:WfE e):WfO (some e):=fun e' h'=>by cases h';exact h
theorem letS_makes (s:ByteArray) {st:Ps} {x:Sm} {st':Ps} (h:letS s st=.ok (x,st')):WfH x∧x.one=[]∧x.two=[]:=by
 unfold letS at h
 cases h1:kind s 119 st with
 | error p=>rw[h1] at h;cases h
 | ok st1 =>
  rw[h1] at h;simp only at h
  cases h2:need s ⟨#[61]⟩ st1 with
  | error p=>rw[h2] at h;cases h
  | ok st2 =>
   rw[h2] at h;simp only at h
   cases h3:exprOf s st2 with
   | error p=>rw[h3] at h;cases h
   | ok r =>
    obtain ⟨e,st3⟩:=r
    rw[h3] at h;simp only at h
    cases h4:need s ⟨#[59]⟩ st3 with
    | error p=>rw[h4] at h;cases h
    | ok st4 =>
     rw[h4] at h
     cases h
     exact ⟨⟨wfO_some (exprOf_makes s _ _ _ h3),Or.inl ⟨rfl,by simp⟩⟩,rfl,rfl⟩
def WfC (x:Sm):Prop:=WfO x.ex∧x.op=99∧x.one=[]∧x.two=[]
theorem callAs_makes {s:ByteArray} {x:Sm} {st:Ps} {y:Sm} {st':Ps} (hx:WfC x) (h:callAs s x st=.ok (y,st')):WfC y:=by
 unfold callAs at h
 split at h
 ·cases h1:kind s 119 (nx s st) with
  | error p=>rw[h1] at h;cases h
  | ok st1=>rw[h1] at h;cases h;exact hx
 ·cases h;exact hx
theorem callUndo_makes {s:ByteArray} {x:Sm} {st:Ps} {y:Sm} {st':Ps} (hx:WfC x) (h:callUndo s x st=.ok (y,st')):WfC y:=by
 unfold callUndo at h
 split at h
 ·cases h1:kind s 119 (nx s st) with
  | error p=>rw[h1] at h;cases h
  | ok st1=>rw[h1] at h;cases h;exact hx
 ·cases h;exact hx
theorem callTries_makes {s:ByteArray} {x:Sm} {st:Ps} {y:Sm} {st':Ps} (hx:WfC x) (h:callTries s x st=.ok (y,st')):WfC y:=by
 unfold callTries at h
 split at h
 ·cases h1:kind s 110 (nx s st) with
  | error p=>rw[h1] at h;cases h
  | ok st1=>rw[h1] at h;cases h;exact hx
 ·cases h;exact hx
theorem callArg_makes {s:ByteArray} {x:Sm} {st:Ps} {y:Sm} {st':Ps} (hx:WfC x) (h:callArg s x st=.ok (y,st')):WfC y:=by
 unfold callArg at h
 split at h
 ·cases h;exact hx
 ·cases h1:exprOf s st with
  | error p=>rw[h1] at h;cases h
  | ok r=>obtain ⟨e,st1⟩:=r;rw[h1] at h;cases h;exact ⟨wfO_some (exprOf_makes s _ _ _ h1),hx.2⟩
theorem call_makes (s:ByteArray) {st:Ps} {x:Sm} {st':Ps} (h:call s st=.ok (x,st')):WfC x:=by
 unfold call at h
 cases h1:kind s 119 st with
 | error p=>rw[h1] at h;cases h
 | ok st1 =>
  rw[h1] at h;simp only at h
  cases h2:need s ⟨#[40]⟩ st1 with
  | error p=>rw[h2] at h;cases h
  | ok st2 =>
   rw[h2] at h;simp only at h
   cases h3:callArg s { zeroS with op:=99,word:=txt s st.t,pl:=st.t.a,n:=1 } st2 with
   | error p=>rw[h3] at h;cases h
   | ok r3 =>
    obtain ⟨x3,st3⟩:=r3
    rw[h3] at h;simp only at h
    have g3:WfC x3:=callArg_makes ⟨wfO_none,rfl,rfl,rfl⟩ h3
    cases h4:need s ⟨#[41]⟩ st3 with
    | error p=>rw[h4] at h;cases h
    | ok st4 =>
     rw[h4] at h;simp only at h
     cases h5:callAs s x3 st4 with
     | error p=>rw[h5] at h;cases h
     | ok r5 =>
      obtain ⟨x5,st5⟩:=r5
      rw[h5] at h;simp only at h
      have g5:=callAs_makes g3 h5
      cases h6:callUndo s x5 st5 with
      | error p=>rw[h6] at h;cases h
      | ok r6 =>
       obtain ⟨x6,st6⟩:=r6
       rw[h6] at h;simp only at h
       have g6:=callUndo_makes g5 h6
       cases h7:callTries s x6 st6 with
       | error p=>rw[h7] at h;cases h
       | ok r7 =>
        obtain ⟨x7,st7⟩:=r7
        rw[h7] at h;simp only at h
        have g7:=callTries_makes g6 h7
        cases h8:need s ⟨#[59]⟩ st7 with
        | error p=>rw[h8] at h;cases h
        | ok st8=>rw[h8] at h;cases h;exact g7
theorem ifS_makes {s:ByteArray} {g:Ps→Except Nat (Sm×Ps)} (hg:Goes s g) (hm:MakesS s g) {st:Ps} {x:Sm} {st':Ps} (ht:Tk s st.t) (h:ifS s g st=.ok (x,st')):WfH x∧WfS x.one∧WfS x.two∧st.t.a+cnt x.one+cnt x.two≤st'.t.a:=by
 unfold ifS at h
 cases h1:exprOf s st with
 | error p=>rw[h1] at h;cases h
 | ok r =>
  obtain ⟨e,st1⟩:=r
  rw[h1] at h;simp only at h
  have g1:=exprOf_goes s _ _ _ ht h1
  have w1:=exprOf_makes s _ _ _ h1
  have l1:=g1.lt
  cases h2:block s g st1 with
  | error p=>rw[h2] at h;cases h
  | ok r =>
   obtain ⟨l,st2⟩:=r
   rw[h2] at h;simp only at h
   have g2:=block_goes hg _ _ _ g1.tk h2
   obtain ⟨m1,m2⟩:=block_makes hg hm g1.tk h2
   split at h
   ·rename_i ho
    have g3:=good_on g2.tk ho
    have l3:=g3.lt
    cases h4:block s g (nx s st2) with
    | error p=>rw[h4] at h;cases h
    | ok r =>
     obtain ⟨m,st3⟩:=r
     obtain ⟨m3,m4⟩:=block_makes hg hm g3.tk h4
     rw[h4] at h;cases h
     exact ⟨⟨wfO_some w1,Or.inr (Or.inr (Or.inl ⟨rfl,by simp⟩))⟩,m1,m3,by simp only;omega⟩
   ·cases h
    exact ⟨⟨wfO_some w1,Or.inr (Or.inr (Or.inl ⟨rfl,by simp⟩))⟩,m1,WfS_nil,by simp only[zeroS,cnt_nil];omega⟩
theorem tryS_makes {s:ByteArray} {g:Ps→Except Nat (Sm×Ps)} (hg:Goes s g) (hm:MakesS s g) {st:Ps} {x:Sm} {st':Ps} (ht:Tk s st.t) (h:tryS s g st=.ok (x,st')):WfH x∧WfS x.one∧WfS x.two∧st.t.a+cnt x.one+cnt x.two≤st'.t.a:=by
 unfold tryS at h
 cases h1:block s g st with
 | error p=>rw[h1] at h;cases h
 | ok r =>
  obtain ⟨l,st1⟩:=r
  rw[h1] at h;simp only at h
  have g1:=block_goes hg _ _ _ ht h1
  obtain ⟨m1,m2⟩:=block_makes hg hm ht h1
  cases h2:need s ⟨#[101,108,115,101]⟩ st1 with
  | error p=>rw[h2] at h;cases h
  | ok st2 =>
   rw[h2] at h;simp only at h
   have g2:=need_good g1.tk h2
   have l2:=g2.lt
   cases h3:block s g st2 with
   | error p=>rw[h3] at h;cases h
   | ok r =>
    obtain ⟨m,st3⟩:=r
    obtain ⟨m3,m4⟩:=block_makes hg hm g2.tk h3
    rw[h3] at h;cases h
    exact ⟨⟨wfO_none,Or.inr (Or.inr (Or.inr (Or.inl rfl)))⟩,m1,m3,by simp only;omega⟩
theorem repeatS_makes {s:ByteArray} {g:Ps→Except Nat (Sm×Ps)} (hg:Goes s g) (hm:MakesS s g) {st:Ps} {x:Sm} {st':Ps} (ht:Tk s st.t) (h:repeatS s g st=.ok (x,st')):WfH x∧WfS x.one∧WfS x.two∧st.t.a+cnt x.one+cnt x.two≤st'.t.a:=by
 unfold repeatS at h
 cases h1:kind s 110 st with
 | error p=>rw[h1] at h;cases h
 | ok st1 =>
  rw[h1] at h;simp only at h
  have g1:=kind_good ht (by decide) (by decide) h1
  have l1:=g1.lt
  cases h2:block s g st1 with
  | error p=>rw[h2] at h;cases h
  | ok r =>
   obtain ⟨m,st3⟩:=r
   obtain ⟨m1,m2⟩:=block_makes hg hm g1.tk h2
   rw[h2] at h;cases h
   exact ⟨⟨wfO_none,Or.inr (Or.inr (Or.inr (Or.inr (Or.inl rfl))))⟩,m1,WfS_nil,by simp only[zeroS,cnt_nil];omega⟩
theorem failS_makes {s:ByteArray} {st:Ps} {x:Sm} {st':Ps} (h:failS s st=.ok (x,st')):WfH x∧x.one=[]∧x.two=[]:=by
 unfold failS at h
 cases h1:need s ⟨#[102,97,105,108]⟩ st with
 | error p=>rw[h1] at h;cases h
 | ok st1 =>
  rw[h1] at h;simp only at h
  cases h2:need s ⟨#[59]⟩ st1 with
  | error p=>rw[h2] at h;cases h
  | ok st2=>rw[h2] at h;cases h;exact ⟨⟨wfO_none,Or.inr (Or.inr (Or.inr (Or.inr (Or.inr rfl))))⟩,rfl,rfl⟩
theorem stmt_makes (s:ByteArray) (n:Nat):MakesS s (stmt s n):=by
 induction n with
 | zero=>intro st x st' _ h;simp[stmt] at h
 | succ n ih =>
  intro st x st' ht h
  have hgo:=stmt_goes s (n+1) _ _ _ ht h
  have hlt:=hgo.lt
  rw[stmt] at h
  split at h
  ·obtain ⟨m1,m2,m3⟩:=letS_makes s h
   rw[m2,m3,cnt_nil]
   exact ⟨m1,WfS_nil,WfS_nil,by omega⟩
  ·split at h
   ·obtain ⟨m1,m2,m3,m4⟩:=call_makes s h
    rw[m3,m4,cnt_nil]
    exact ⟨⟨m1,Or.inr (Or.inl m2)⟩,WfS_nil,WfS_nil,by omega⟩
   ·split at h
    ·rename_i ho
     have g1:=good_on ht ho
     have l1:=g1.lt
     obtain ⟨m1,m2,m3,m4⟩:=ifS_makes (stmt_goes s n) ih g1.tk h
     exact ⟨m1,m2,m3,by omega⟩
    ·split at h
     ·rename_i ho
      have g1:=good_on ht ho
      have l1:=g1.lt
      obtain ⟨m1,m2,m3,m4⟩:=tryS_makes (stmt_goes s n) ih g1.tk h
      exact ⟨m1,m2,m3,by omega⟩
     ·split at h
      ·rename_i ho
       have g1:=good_on ht ho
       have l1:=g1.lt
       obtain ⟨m1,m2,m3,m4⟩:=repeatS_makes (stmt_goes s n) ih g1.tk h
       exact ⟨m1,m2,m3,by omega⟩
      ·obtain ⟨m1,m2,m3⟩:=failS_makes h
       rw[m2,m3,cnt_nil]
       exact ⟨m1,WfS_nil,WfS_nil,by omega⟩
theorem read_makes {s:ByteArray} {l:List Sm} (h:read s=.ok l):WfS l∧cnt l≤300:=by
 unfold read at h
 split at h
 ·cases h
 ·rename_i hz
  cases hp:stmts s (stmt s (s.size+1)) (fun st=>st.t.k == 0) (s.size+1) [] ⟨tok s 0,0,-1⟩ with
  | error p=>rw[hp] at h;cases h
  | ok r =>
   obtain ⟨l',st⟩:=r
   rw[hp] at h
   simp only at h
   split at h
   ·cases h
   ·cases h
    have ht:=(tok_tk s 0 (Nat.zero_le _)).1
    obtain ⟨i1,i2⟩:=stmts_makes (stmt_goes s _) (stmt_makes s _) _ _ _ _ _ _ ht WfS_nil hp
    obtain ⟨g2,_⟩:=stmts_goes (stmt_goes s _) _ _ _ _ _ _ ht hp
    have h1:=g2.tk.ab
    have h2:=g2.tk.le
    rw[cnt_nil] at i2
    exact ⟨i1,by omega⟩
theorem say_vars (e p:Nat) (c:Lk):(say e p c).vars=c.vars:=by unfold say;split<;>rfl
theorem kindE_vars (x:Ex) (c:Lk):(kindE x c).2.vars=c.vars:=by
 match x with
 | ⟨op,_,word,_,own,none,_⟩ =>
  show (leafK op word own c).2.vars=_
  unfold leafK
  split
  ·rfl
  ·split
   ·rfl
   ·split
    ·exact say_vars _ _ _
    ·rfl
 | ⟨_,_,_,_,own,some l,none⟩ =>
  show (notK own (kindE l c)).2.vars=_
  unfold notK
  simp only
  split
  ·exact kindE_vars l c
  ·rw[say_vars];exact kindE_vars l c
 | ⟨op,_,_,_,own,some l,some r⟩ =>
  show (binK op own (kindE l c).1 (kindE r (kindE l c).2)).2.vars=_
  have h1:=kindE_vars l c
  have h2:=kindE_vars r (kindE l c).2
  unfold binK
  split
  ·simp only;split
   ·rw[say_vars,h2,h1]
   ·rw[h2,h1]
  ·simp only;split
   ·rw[h2,h1]
   ·rw[say_vars,h2,h1]
theorem giveV_vars (w:ByteArray) (p k:Nat) (c:Lk):(giveV w p k c).vars.length≤c.vars.length+1:=by
 unfold giveV
 split
 ·simp
 ·split
  ·rw[say_vars];omega
  ·omega
theorem mustE_vars (x:Option Ex) (k:Nat) (c:Lk):(mustE x k c).vars=c.vars:=by
 unfold mustE
 split
 ·rfl
 ·split
  ·exact kindE_vars _ _
  ·rw[say_vars];exact kindE_vars _ _
def lookX (x:Sm) (c:Lk):Lk :=
 if x.op=108 then
  match x.ex with
  | none=>c
  | some e=>giveV x.word x.pl (kindE e c).1 (kindE e c).2
 else if x.op=99 then
  let c1:=mustE x.ex 105 c
  let c2:=if x.asw.toList.isEmpty then c1 else giveV x.asw x.asPl 105 c1
  if x.n < 1∨5 < x.n then say 4 x.nPl c2 else c2
 else if x.op=105 then lookS x.two (lookS x.one (mustE x.ex 98 c))
 else if x.op=116 then lookS x.two (lookS x.one c)
 else if x.op=114 then lookS x.one (if 9 < x.n then say 4 x.nPl c else c)
 else c
theorem lookS_nil (c:Lk):lookS [] c=c:=by rw[lookS]
theorem lookS_cons (x:Sm) (l:List Sm) (c:Lk):lookS (x::l) c=lookS l (lookX x c):=by
 obtain ⟨op,word,pl,ex,asw,asPl,undo,n,nPl,one,two⟩:=x
 rw[lookS.eq_def]
 rfl
theorem lookS_vars (l:List Sm) (c:Lk):(lookS l c).vars.length≤c.vars.length+cnt l:=by
 match l with
 | []=>rw[lookS_nil,cnt_nil];omega
 | ⟨op,word,pl,ex,asw,asPl,undo,n,nPl,one,two⟩::rest =>
  rw[lookS_cons,cnt_cons]
  have h0:=lookS_vars rest (lookX ⟨op,word,pl,ex,asw,asPl,undo,n,nPl,one,two⟩ c)
  have h1:(lookX ⟨op,word,pl,ex,asw,asPl,undo,n,nPl,one,two⟩ c).vars.length≤c.vars.length+1+cnt one+cnt two:=by
   unfold lookX
   simp only
   split
   ·cases ex with
    | none=>simp only;omega
    | some e =>
     have:=giveV_vars word pl (kindE e c).1 (kindE e c).2
     rw[kindE_vars] at this;simp only;omega
   ·split
    ·have a1:=mustE_vars ex 105 c
     have a2:=giveV_vars asw asPl 105 (mustE ex 105 c)
     rw[a1] at a2
     split
     ·rw[say_vars];split
      ·rw[a1];omega
      ·omega
     ·split
      ·rw[a1];omega
      ·omega
    ·split
     ·have a1:=lookS_vars one (mustE ex 98 c)
      have a2:=lookS_vars two (lookS one (mustE ex 98 c))
      rw[mustE_vars] at a1;omega
     ·split
      ·have a1:=lookS_vars one c
       have a2:=lookS_vars two (lookS one c)
       omega
      ·split
       ·have a1:=lookS_vars one (if 9 < n then say 4 nPl c else c)
        have a3:(if 9 < n then say 4 nPl c else c).vars=c.vars:=by
         split
         ·exact say_vars _ _ _
         ·rfl
        rw[a3] at a1;omega
       ·omega
  have e1:(⟨op,word,pl,ex,asw,asPl,undo,n,nPl,one,two⟩:Sm).one=one:=rfl
  have e2:(⟨op,word,pl,ex,asw,asPl,undo,n,nPl,one,two⟩:Sm).two=two:=rfl
  rw[e1,e2]
  omega
def noteP (e p:Nat) (c:Lk):Lk:=if c.e=0∨p < c.pl then ⟨c.vars,e,p⟩ else c
def fitsP (a b:Nat):Bool:=a == b || (a == 63 || b == 63)
def leafP (op:Nat) (word:ByteArray) (own:Nat) (c:Lk):Nat×Lk :=
 if op=110 then (105,c)
 else if op=116 then (98,c)
 else
  match findV c.vars word with
  | none=>(63,noteP 5 own c)
  | some i=>(kindAt c.vars i,c)
def notP (own:Nat) (r:Nat×Lk):Nat×Lk:=(98,if fitsP r.1 98 then r.2 else noteP 6 own r.2)
def takesP (op:Nat):Nat:=if op=61∨op=35 then 63 else 105
def makesP (op:Nat):Nat:=if op=61∨op=35∨op=60 then 98 else 105
def binP (op own a:Nat) (r:Nat×Lk):Nat×Lk:=(makesP op,if fitsP a (takesP op) && fitsP r.1 (takesP op) && fitsP a r.1 then r.2 else noteP 6 own r.2)
def kindP:Ex→Lk→Nat×Lk
 | ⟨op,_,word,_,own,none,_⟩,c=>leafP op word own c
 | ⟨_,_,_,_,own,some l,none⟩,c=>notP own (kindP l c)
 | ⟨op,_,_,_,own,some l,some r⟩,c=>binP op own (kindP l c).1 (kindP r (kindP l c).2)
def giveP (w:ByteArray) (p k:Nat) (c:Lk):Lk :=
 match findV c.vars w with
 | none=>⟨c.vars++[(w,k)],c.e,c.pl⟩
 | some i=>if fitsP (kindAt c.vars i) k then c else noteP 6 p c
def rootP (x:Ex) (k:Nat) (c:Lk):Lk:=if fitsP (kindP x c).1 k then (kindP x c).2 else noteP 6 x.pl (kindP x c).2
def argP (x:Option Ex) (c:Lk):Lk :=
 match x with
 | none=>c
 | some x=>rootP x 105 c
def asP (w:ByteArray) (p:Nat) (c:Lk):Lk:=if w.size=0 then c else giveP w p 105 c
def countP (n p least most:Nat) (c:Lk):Lk:=if n < least∨most < n then noteP 4 p c else c
def lookP:List Sm→Lk→Lk
 | [],c=>c
 | ⟨op,word,pl,ex,asw,asPl,_,n,nPl,one,two⟩::rest,c =>
  lookP rest (
   if op=108 then
    match ex with
    | none=>c
    | some x=>giveP word pl (kindP x c).1 (kindP x c).2
   else if op=99 then countP n nPl 1 5 (asP asw asPl (argP ex c))
   else if op=105 then
    match ex with
    | none=>c
    | some x=>lookP two (lookP one (rootP x 98 c))
   else if op=116 then lookP two (lookP one c)
   else if op=114 then lookP one (countP n nPl 0 9 c)
   else c)
def Sp:Ex→Nat→Nat→Prop
 | ⟨_,_,_,_,own,none,none⟩,lo,hi=>lo≤own∧own < hi
 | ⟨_,_,_,_,own,some l,none⟩,lo,hi=>lo≤own∧own < hi∧Sp l lo hi
 | ⟨_,_,_,_,own,some l,some r⟩,lo,hi=>lo≤own∧own < hi∧∃ mid,lo≤mid∧mid≤hi∧Sp l lo mid∧Sp r mid hi
 | ⟨_,_,_,_,_,none,some _⟩,_,_=>False
theorem Sp.mono {x:Ex} {lo hi lo' hi':Nat} (h:Sp x lo hi) (h1:lo'≤lo) (h2:hi≤hi'):Sp x lo' hi':=by
 match x with
 | ⟨_,_,_,_,own,none,none⟩=>have h3:=h.1;have h4:=h.2;exact ⟨by omega,by omega⟩
 | ⟨_,_,_,_,own,some l,none⟩=>obtain ⟨h3,h4,h5⟩:=h;exact ⟨by omega,by omega,h5.mono h1 h2⟩
 | ⟨_,_,_,_,own,some l,some r⟩=>obtain ⟨h3,h4,mid,h5,h6,h7,h8⟩:=h;exact ⟨by omega,by omega,mid,by omega,by omega,h7.mono h1 (Nat.le_refl _),h8.mono (Nat.le_refl _) h2⟩
 | ⟨_,_,_,_,_,none,some _⟩=>exact h.elim
theorem Sp.place {x:Ex} {lo hi:Nat} (h:Sp x lo hi) (a:Nat):Sp { x with pl:=a } lo hi:=by
 match x with
 | ⟨_,_,_,_,own,none,none⟩=>exact h
 | ⟨_,_,_,_,own,some l,none⟩=>exact h
 | ⟨_,_,_,_,own,some l,some r⟩=>exact h
 | ⟨_,_,_,_,_,none,some _⟩=>exact h.elim
structure Inv (c:Lk) (n:Nat):Prop where
 e:c.e≤6
 p:c.e=0∨c.pl < n
theorem Inv.mono {c:Lk} {n m:Nat} (h:Inv c n) (hm:n≤m):Inv c m:=⟨h.e,by rcases h.p with h | h;exact Or.inl h;exact Or.inr (by omega)⟩
theorem note_say6 {c:Lk} {n:Nat} (p:Nat) (h:Inv c n):noteP 6 p c=say 6 p c:=by
 unfold noteP say
 have:=h.e
 by_cases h1:c.e=0∨p < c.pl
 ·rw[if_pos h1,if_pos (by omega)]
 ·rw[if_neg h1,if_neg (by omega)]
theorem note_say {c:Lk} {n e p:Nat} (h:Inv c n) (hp:n≤p):noteP e p c=say e p c:=by
 unfold noteP say
 by_cases h0:c.e=0
 ·rw[if_pos (Or.inl h0),if_pos (Or.inl h0)]
 ·have:=h.p
  rw[if_neg (by omega),if_neg (by omega)]
theorem Inv.say {c:Lk} {n m e p:Nat} (h:Inv c n) (he:e≤6) (hp:p < m) (hm:n≤m):Inv (say e p c) m:=by
 unfold Px.say
 split
 ·exact ⟨he,Or.inr hp⟩
 ·exact h.mono hm
theorem fits_isK (k want:Nat) (h:want≠63):fitsP k want=isK k want:=by
 unfold fitsP isK
 have:(want == 63)=false:=by simpa using h
 rw[this,Bool.or_false]
theorem fits_unlike (a b:Nat):fitsP a b=!unlike a b:=by
 unfold fitsP unlike
 cases h1:(a == b)<;>cases h2:(a == 63)<;>cases h3:(b == 63)<;>simp_all [bne]
def K3 (k:Nat):Prop:=k=105∨k=98∨k=63
def V3 (c:Lk):Prop:=∀ v∈c.vars,K3 v.2
theorem V3.say {c:Lk} (h:V3 c) (e p:Nat):V3 (say e p c):=by unfold Px.say;split<;>exact h
theorem findV_lt {l:List (ByteArray×Nat)} {w:ByteArray} {i:Nat} (h:findV l w=some i):i < l.length:=by
 induction l generalizing i with
 | nil=>cases h
 | cons x r ih =>
  obtain ⟨v,k⟩:=x
  unfold findV at h
  split at h
  ·cases h;simp
  ·cases hr:findV r w with
   | none=>rw[hr] at h;cases h
   | some j=>rw[hr] at h;cases h;have:=ih hr;simp;omega
theorem kindAt_mem {l:List (ByteArray×Nat)} {i:Nat} (h:i < l.length):∃ v∈l,kindAt l i=v.2:=by
 unfold kindAt
 rw[List.getD,List.getElem?_eq_getElem h]
 exact ⟨l[i],List.getElem_mem h,rfl⟩
theorem kindP_eq (x:Ex):∀ (c:Lk) (lo hi:Nat),WfE x→Sp x lo hi→Inv c lo→V3 c→kindP x c=kindE x c∧Inv (kindE x c).2 hi∧V3 (kindE x c).2∧K3 (kindE x c).1:=by
 match x with
 | ⟨op,n,word,pl,own,none,none⟩ =>
  intro c lo hi hw hs hi' hv
  have h1:=hs.1
  have h2:=hs.2
  simp only[kindP,kindE,leafP,leafK]
  split
  ·exact ⟨rfl,hi'.mono (by omega),hv,Or.inl rfl⟩
  ·split
   ·exact ⟨rfl,hi'.mono (by omega),hv,Or.inr (Or.inl rfl)⟩
   ·cases hf:findV c.vars word with
    | none=>exact ⟨by simp only;rw[note_say hi' h1],hi'.say (by omega) h2 (by omega),hv.say _ _,Or.inr (Or.inr rfl)⟩
    | some i =>
     obtain ⟨v,hv1,hv2⟩:=kindAt_mem (findV_lt hf)
     exact ⟨rfl,hi'.mono (by omega),hv,by simp only;rw[hv2];exact hv v hv1⟩
 | ⟨op,n,word,pl,own,some l,none⟩ =>
  intro c lo hi hw hs hi' hv
  obtain ⟨h1,h2,h3⟩:=hs
  obtain ⟨e1,e2,e3,e4⟩:=kindP_eq l c lo hi hw.2 h3 hi' hv
  simp only[kindP,kindE,notP,notK]
  rw[e1,fits_isK _ _ (by decide)]
  split
  ·exact ⟨rfl,e2,e3,Or.inr (Or.inl rfl)⟩
  ·exact ⟨by rw[note_say6 _ e2],e2.say (by omega) h2 (Nat.le_refl _),e3.say _ _,Or.inr (Or.inl rfl)⟩
 | ⟨op,n,word,pl,own,some l,some r⟩ =>
  intro c lo hi hw hs hi' hv
  obtain ⟨h1,h2,mid,h3,h4,h5,h6⟩:=hs
  obtain ⟨hop,hwl,hwr⟩:=hw
  obtain ⟨e1,e2,e3,e4⟩:=kindP_eq l c lo mid hwl h5 hi' hv
  obtain ⟨f1,f2,f3,f4⟩:=kindP_eq r (kindE l c).2 mid hi hwr h6 e2 e3
  simp only[kindP,kindE]
  rw[e1,f1]
  generalize kindE l c=kl at *
  generalize kindE r kl.2=kr at *
  unfold binP binK
  by_cases ho:op=61∨op=35
  ·rw[if_pos ho,takesP,if_pos ho,makesP,if_pos (by omega),fits_unlike kl.1 kr.1]
   have t1:∀ k,fitsP k 63=true:=by intro k;unfold fitsP;simp
   rw[t1,t1]
   cases hu:unlike kl.1 kr.1
   ·exact ⟨rfl,by simpa using f2,by simpa using f3,Or.inr (Or.inl rfl)⟩
   ·refine ⟨?_,?_,?_,Or.inr (Or.inl rfl)⟩
    ·simp[note_say6 _ f2]
    ·simpa using f2.say (by omega) h2 (Nat.le_refl _)
    ·simpa using f3.say _ _
  ·rw[if_neg ho,takesP,if_neg ho,fits_isK _ _ (by decide),fits_isK _ _ (by decide)]
   have hmk:makesP op=if op=60 then 98 else 105:=by unfold makesP;by_cases h:op=60<;>simp[h,ho]<;>omega
   rw[hmk]
   have hk3:K3 (if op=60 then 98 else 105):=by split;exact Or.inr (Or.inl rfl);exact Or.inl rfl
   cases ha:isK kl.1 105
   ·simp only[Bool.false_and,Bool.false_eq_true,if_false]
    exact ⟨by rw[note_say6 _ f2],f2.say (by omega) h2 (Nat.le_refl _),f3.say _ _,hk3⟩
   ·cases hb:isK kr.1 105
    ·simp only[Bool.true_and,Bool.false_and,Bool.false_eq_true,if_false]
     exact ⟨by rw[note_say6 _ f2],f2.say (by omega) h2 (Nat.le_refl _),f3.say _ _,hk3⟩
    ·have:fitsP kl.1 kr.1=true:=by
      unfold isK at ha hb
      unfold fitsP
      simp only[Bool.or_eq_true,beq_iff_eq] at ha hb ⊢
      omega
     rw[this]
     simp only[Bool.true_and,if_true]
     exact ⟨trivial,f2,f3,hk3⟩
 | ⟨_,_,_,_,_,none,some _⟩=>intro c lo hi hw;exact hw.elim
end Px
end Go.Proofs.YtnhkpbmplefnaaaGreatDoor
