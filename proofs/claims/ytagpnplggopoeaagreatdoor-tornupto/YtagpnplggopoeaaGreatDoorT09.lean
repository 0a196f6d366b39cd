import Derived.Test.YtagpnplggopoeaaGreatDoorT08
import Derived.Test.YtagpnplggopoeaaGreatDoorT05
import Derived.Maps.AppendAt
import Derived.Test.YtagpnplggopoeaaGreatDoorT00
import Derived.Deep.DeepCutAuto
set_option maxRecDepth 100000
set_option maxHeartbeats 4000000
namespace Go.Proofs.YtagpnplggopoeaaGreatDoor
open Go.RowKit
namespace Lg
theorem qtt {α β:Type} {q p:Nat} (h:fin (.error q:Except Nat (α×Px.Ps))=.error p):fin (.error q:Except Nat (β×Px.Ps))=.error p:=by
 cases h;rfl
theorem qrj {k:Nat}:((kd k:Int) == 3)=(k == 110):=by
 have:=@zan k
 cases h:(k == 110)<;>rw[h] at this<;>simpa using this
theorem qv6 {k:Nat}:((kd k:Int) == 2)=(k == 119):=by
 have:=@zql k
 cases h:(k == 119)<;>rw[h] at this<;>simpa using this
theorem zbc {s:ByteArray} {n:Nat} {st st':Px.Ps} (h:Ref.Dom s (n+1) st) (tk:Px.Tk s st'.t) (lt:st.t.a < st'.t.a) (hn:st'.nest=st.nest∨st'.nest=st.nest+1):Ref.Dom s n st':=by
 have h1:=h.room;have h2:=h.n0;have h3:=h.n1;have h4:=tk.ab;have h5:=tk.le;exact ⟨tk,by omega,by omega,by omega⟩
abbrev zvq (b:Nat) (s:ByteArray) (eT eN:Addr) (n:Nat):Prop:=qnq b s n eT eN 244 (Px.atom s n)
theorem quf (b:Nat) (s:ByteArray) (eT eN:Addr) (n:Nat) (hs:s.size≤maxLen) (st:Px.Ps) (w:World) (r:Rd w b s st eT eN) (hk:st.t.k=110) :
  Calls Tryz.prog 244 #[.pointer (some ⟨b,0,none⟩)] w (Out b s eT eN w (Px.atom s (n+1) st) (XV w)):=by
 obtain ⟨td,c0,c1,c2,c3,c4,c5,f⟩:=r.cells;have R:Hid (_):=r;have t1:((kd st.t.k:Int) == 3)=true:=by rw[qrj,hk];rfl
 have E:Hid (Px.atom s (n+1) st=.ok (Px.leaf 110 (Px.valOf (s.extract st.t.a st.t.b).toList) Px.nowt st.t.a,Px.nx s st)∧qda s 110 st=.ok (st.t,Px.nx s st)):=⟨by rw[Px.atom,if_pos hk];rfl,by rw[qda,if_pos hk]⟩
 clear r hk;go_enter Tryz.func244,Tryz.ntmps244
 go_wp2_with fail;refine (qd2 b s st eT eN _ R.out hs).mono ?_;rintro e w1 ⟨k1,⟨x,st1,v,he,rfl,⟨q,rfl,hv⟩,r1⟩ | ⟨p,hp,ht⟩⟩
 ·rw[E.out.2] at he;cases he;have H1:Hid (_∧_∧_):=⟨k1,hv,r1⟩;clear k1 hv r1 c0 c1 c2 c3 c4 c5 f;unfold Ref.ptr;go_wp2_with fail;go_ret;exact ⟨H1.out.1,Or.inl ⟨_,_,_,E.out.1,rfl,⟨q,H1.out.2.1.1,Or.inl ⟨rfl,rfl,H1.out.2.1.2⟩⟩,H1.out.2.2⟩⟩
 ·obtain ⟨c,rfl⟩:=ht.form;exact ⟨rfl,k1,Or.inr ⟨p,by rw[E.out.1];rw[E.out.2] at hp;exact qni hp,ht⟩⟩
theorem qqj (b:Nat) (s:ByteArray) (eT eN:Addr) (n:Nat) (hs:s.size≤maxLen) (st:Px.Ps) (w:World) (r:Rd w b s st eT eN) (hk:st.t.k=119) :
  Calls Tryz.prog 244 #[.pointer (some ⟨b,0,none⟩)] w (Out b s eT eN w (Px.atom s (n+1) st) (XV w)):=by
 obtain ⟨td,c0,c1,c2,c3,c4,c5,f⟩:=r.cells;have R:Hid (_):=r;have t1:((kd st.t.k:Int) == 3)=false:=by rw[qrj,hk];rfl
 have t2:((kd st.t.k:Int) == 2)=true:=by rw[qv6,hk];rfl
 have E:Hid (Px.atom s (n+1) st=.ok (Px.leaf 119 0 (s.extract st.t.a st.t.b) st.t.a,Px.nx s st)∧qda s 119 st=.ok (st.t,Px.nx s st)):=⟨by rw[Px.atom,if_neg (by omega),if_pos hk];rfl,by rw[qda,if_pos hk]⟩
 clear r hk;go_enter Tryz.func244,Tryz.ntmps244
 go_wp2_with fail;refine (qce b s st eT eN _ R.out hs).mono ?_;rintro e w1 ⟨k1,⟨x,st1,v,he,rfl,⟨q,rfl,hv⟩,r1⟩ | ⟨p,hp,ht⟩⟩
 ·rw[E.out.2] at he;cases he;have H1:Hid (_∧_∧_):=⟨k1,hv,r1⟩;clear k1 hv r1 c0 c1 c2 c3 c4 c5 f;unfold Ref.ptr;go_wp2_with fail;go_ret;exact ⟨H1.out.1,Or.inl ⟨_,_,_,E.out.1,rfl,⟨q,H1.out.2.1.1,Or.inr (Or.inl ⟨rfl,rfl,H1.out.2.1.2⟩)⟩,H1.out.2.2⟩⟩
 ·obtain ⟨c,rfl⟩:=ht.form;exact ⟨rfl,k1,Or.inr ⟨p,by rw[E.out.1];rw[E.out.2] at hp;exact qni hp,ht⟩⟩
theorem qqk (b:Nat) (s:ByteArray) (eT eN:Addr) (n:Nat) (hs:s.size≤maxLen) (st:Px.Ps) (w:World) (r:Rd w b s st eT eN) (h1:Px.onB s st.t ⟨#[116,114,117,101]⟩=true) :
  Calls Tryz.prog 244 #[.pointer (some ⟨b,0,none⟩)] w (Out b s eT eN w (Px.atom s (n+1) st) (XV w)):=by
 obtain ⟨td,c0,c1,c2,c3,c4,c5,f⟩:=r.cells;have R:Hid (_):=r;have hk:=Px.qjc h1;have t1:((kd st.t.k:Int) == 3)=false:=by rw[qrj,hk];rfl
 have t2:((kd st.t.k:Int) == 2)=false:=by rw[qv6,hk];rfl
 have E:Hid (Px.atom s (n+1) st=.ok (Px.leaf 116 1 Px.nowt st.t.a,Px.nx s st)):=by unfold Hid;rw[Px.atom,if_neg (by omega),if_neg (by omega),if_pos h1]
 clear r hk;go_enter Tryz.func244,Tryz.ntmps244
 go_wp2_with fail;refine (qek b s _ st eT eN _ R.out hs h1).mono ?_;rintro e w1 ⟨k1,⟨x,st1,v,he,rfl,rfl,r1⟩ | ⟨p,hp,ht⟩⟩
 ·cases he;have H1:Hid (_∧_):=⟨k1,r1⟩;have z:=k1.size;clear k1 r1 c0 c1 c2 c3 c4 c5 f;go_wp2_with fail;go_ret;exact ⟨H1.out.1.alloc _,Or.inl ⟨_,_,_,E.out,rfl,⟨w1.heap.size,⟨z,by simp⟩,Or.inr (Or.inr ⟨rfl,rfl,new1⟩)⟩,H1.out.2.alloc _⟩⟩
 ·obtain ⟨c,rfl⟩:=ht.form;exact ⟨rfl,k1,Or.inr ⟨p,by rw[E.out];exact qni hp,ht⟩⟩
theorem qm7 (b:Nat) (s:ByteArray) (eT eN:Addr) (n:Nat) (hs:s.size≤maxLen) (st:Px.Ps) (w:World) (r:Rd w b s st eT eN) (h1:Px.onB s st.t ⟨#[116,114,117,101]⟩=false) (h2:Px.onB s st.t ⟨#[102,97,108,115,101]⟩=true) :
  Calls Tryz.prog 244 #[.pointer (some ⟨b,0,none⟩)] w (Out b s eT eN w (Px.atom s (n+1) st) (XV w)):=by
 obtain ⟨td,c0,c1,c2,c3,c4,c5,f⟩:=r.cells;have R:Hid (_):=r;have hk:=Px.qjc h2;have t1:((kd st.t.k:Int) == 3)=false:=by rw[qrj,hk];rfl
 have t2:((kd st.t.k:Int) == 2)=false:=by rw[qv6,hk];rfl
 have E:Hid (Px.atom s (n+1) st=.ok (Px.leaf 116 0 Px.nowt st.t.a,Px.nx s st)):=by unfold Hid;rw[Px.atom,if_neg (by omega),if_neg (by omega),if_neg (by simp[h1]),if_pos h2]
 clear r hk;go_enter Tryz.func244,Tryz.ntmps244
 go_wp2_with fail;refine (qbn b s _ st eT eN _ R.out h1).mono ?_;rintro e w1 ⟨rfl,rfl⟩;go_wp2_with fail;refine (qek b s _ st eT eN _ R.out hs h2).mono ?_;rintro e w1 ⟨k1,⟨x,st1,v,he,rfl,rfl,r1⟩ | ⟨p,hp,ht⟩⟩
 ·cases he;have H1:Hid (_∧_):=⟨k1,r1⟩;have z:=k1.size;clear k1 r1 c0 c1 c2 c3 c4 c5 f;go_wp2_with fail;go_ret;exact ⟨H1.out.1.alloc _,Or.inl ⟨_,_,_,E.out,rfl,⟨w1.heap.size,⟨z,by simp⟩,Or.inr (Or.inr ⟨rfl,rfl,new1⟩)⟩,H1.out.2.alloc _⟩⟩
 ·obtain ⟨c,rfl⟩:=ht.form;exact ⟨rfl,k1,Or.inr ⟨p,by rw[E.out];exact qni hp,ht⟩⟩
theorem qug (b:Nat) (s:ByteArray) (eT eN:Addr) (n:Nat) (ih:zvq b s eT eN n) (hs:s.size≤maxLen) (st:Px.Ps) (w:World) (hD:Ref.Dom s (n+1) st) (r:Rd w b s st eT eN) (h1:Px.onB s st.t ⟨#[116,114,117,101]⟩=false) (h2:Px.onB s st.t ⟨#[102,97,108,115,101]⟩=false) (h3:Px.onB s st.t ⟨#[110,111,116]⟩=true) :
  Calls Tryz.prog 244 #[.pointer (some ⟨b,0,none⟩)] w (Out b s eT eN w (Px.atom s (n+1) st) (XV w)):=by
 obtain ⟨td,c0,c1,c2,c3,c4,c5,f⟩:=r.cells;have hb:=r.lt;have R:Hid (Rd w b s st eT eN∧zvq b s eT eN n):=⟨r,ih⟩;have hk:=Px.qjc h3;have t1:((kd st.t.k:Int) == 3)=false:=by rw[qrj,hk];rfl
 have t2:((kd st.t.k:Int) == 2)=false:=by rw[qv6,hk];rfl
 have E:Hid (Px.atom s (n+1) st=match Px.atom s n (Px.nx s st) with
   | .error p=>.error p
   | .ok (k,st')=>.ok (⟨33,0,Px.nowt,st.t.a,st.t.a,some k,none⟩,st')):=by unfold Hid;rw[Px.atom,if_neg (by omega),if_neg (by omega),if_neg (by simp[h1]),if_neg (by simp[h2]),if_pos h3];cases Px.atom s n (Px.nx s st)<;>rfl
 have D1:Hid (Ref.Dom s n (Px.nx s st)):=zbc hD (Px.qaf hD.tk h3).tk (Px.qaf hD.tk h3).lt (Or.inl rfl);clear r hk ih hD;go_enter Tryz.func244,Tryz.ntmps244
 go_wp2_with fail;refine (qbn b s _ st eT eN _ R.out.1 h1).mono ?_;rintro e w1 ⟨rfl,rfl⟩;go_wp2_with fail;refine (qbn b s _ st eT eN _ R.out.1 h2).mono ?_;rintro e w1 ⟨rfl,rfl⟩;go_wp2_with fail;refine (qek b s _ st eT eN _ R.out.1 hs h3).mono ?_;rintro e w1 ⟨k1,⟨x,st1,v,he,rfl,rfl,r1⟩ | ⟨p,hp,ht⟩⟩
 ·cases he;have H1:Hid (_∧_):=⟨k1,r1⟩;clear k1 r1 c0 c1 c2 c3 c4 c5 f;go_wp2_with fail;refine (R.out.2 (Px.nx s st) _ D1.out H1.out.2).mono ?_;rintro e w2 ⟨k2,⟨x,st2,v,he,rfl,hv,r2⟩ | ⟨p,hp,ht⟩⟩
  ·obtain ⟨tl,ql,rfl⟩:=XAt.form hv;have E2:Hid (Px.atom s (n+1) st=.ok (⟨33,0,Px.nowt,st.t.a,st.t.a,some x,none⟩,st2)):=by unfold Hid;rw[E.out,he]
   have z1:=H1.out.1.size;have z2:=k2.size;have X2:Hid (XAt w2 x (Ref.In w1 w2) (.iface tl (Ref.ptr ql))∧Kp b w1 w2∧Rd w2 b s st2 eT eN):=⟨hv,k2,r2⟩;clear he hv k2 r2;unfold Ref.ptr at X2 ⊢;go_wp2_with fail;go_ret;refine ⟨(H1.out.1.trans X2.out.2.1).alloc _,Or.inl ⟨_,_,_,E2.out,rfl,?_,X2.out.2.2.alloc _⟩⟩;refine ⟨rfl,w2.heap.size,tl,ql,⟨by omega,by simp⟩,rfl,new1,?_⟩
   exact (X2.out.1.keep fun i hi=>Below.heap_alloc _ _ _ hi.2).mono fun i hi=>⟨by have:=hi.1;omega,by have:=hi.2;simp;omega⟩
  ·obtain ⟨c,rfl⟩:=ht.form;refine ⟨rfl,H1.out.1.trans k2,Or.inr ⟨p,?_,ht.low H1.out.1.size⟩⟩;rw[E.out];rcases qdf hp with h4 | ⟨y,st3,h4,h5,rfl⟩
   ·rw[h4];rfl
   ·rw[h4];exact qbt _ h5
 ·obtain ⟨c,rfl⟩:=ht.form;refine ⟨rfl,k1,Or.inr ⟨p,?_,ht⟩⟩;obtain ⟨h4,rfl⟩:=qb3 hp;rw[E.out];rcases qdf (qjt s n _ h4) with h5 | ⟨y,st3,h5,h6,h7⟩
  ·rw[h5];rfl
  ·rw[h5,h7];exact qbt _ h6
def parX (s:ByteArray) (a:Nat) (r:Except Nat (Px.Ex×Px.Ps)):Except Nat (Px.Ex×Px.Ps) :=
 match r with
 | .error p=>.error p
 | .ok (e,st')=>if Px.onB s st'.t ⟨#[41]⟩ then .ok ({ e with pl:=a },Px.upp (Px.nx s st')) else .error st'.t.a
theorem qz4 {s:ByteArray} {a p:Nat} {r:Except Nat (Px.Ex×Px.Ps)} (h:fin r=.error p):fin (parX s a r)=.error p:=by
 rcases qdf h with rfl | ⟨x,st,rfl,h1,rfl⟩
 ·rfl
 ·unfold parX;simp only;rw[if_neg (by simp[qee h1])];rfl
theorem que (b:Nat) (s:ByteArray) (eT eN:Addr) (n:Nat) (ih:qnq b s n eT eN 214 (Px.expr s (Px.atom s n))) (hs:s.size≤maxLen) (st:Px.Ps) (w:World) (hD:Ref.Dom s (n+1) st) (r:Rd w b s st eT eN) (h0:¬ st.t.k=110) (h0':¬ st.t.k=119) (h1:Px.onB s st.t ⟨#[116,114,117,101]⟩=false) (h2:Px.onB s st.t ⟨#[102,97,108,115,101]⟩=false) (h3:Px.onB s st.t ⟨#[110,111,116]⟩=false) :
  Calls Tryz.prog 244 #[.pointer (some ⟨b,0,none⟩)] w (Out b s eT eN w (Px.atom s (n+1) st) (XV w)):=by
 obtain ⟨td,c0,c1,c2,c3,c4,c5,f⟩:=r.cells;have hb:=r.lt;have R:Hid (Rd w b s st eT eN∧qnq b s n eT eN 214 (Px.expr s (Px.atom s n))):=⟨r,ih⟩;have t1:((kd st.t.k:Int) == 3)=false:=by rw[qrj];simpa using h0
 have t2:((kd st.t.k:Int) == 2)=false:=by rw[qv6];simpa using h0'
 have E:Hid (Px.atom s (n+1) st=if Px.onB s st.t ⟨#[40]⟩=true then parX s st.t.a (Px.expr s (Px.atom s n) (Px.nx s (Px.dn st))) else .error st.t.a):=by
  unfold Hid;rw[Px.atom,if_neg h0,if_neg h0',if_neg (by simp[h1]),if_neg (by simp[h2]),if_neg (by simp[h3])]
  split
  ·unfold parX;cases Px.expr s (Px.atom s n) (Px.nx s (Px.dn st))<;>rfl
  ·rfl
 have HD:Hid (_):=hD;have hn0:=hD.n0;have hn1:st.nest≤1000000:=by have:=hD.n1;omega
 clear r h0 h0' ih hD;go_enter Tryz.func244,Tryz.ntmps244
 go_wp2_with fail;refine (qbn b s _ st eT eN _ R.out.1 h1).mono ?_;rintro e w1 ⟨rfl,rfl⟩;go_wp2_with fail;refine (qbn b s _ st eT eN _ R.out.1 h2).mono ?_;rintro e w1 ⟨rfl,rfl⟩;go_wp2_with fail;refine (qbn b s _ st eT eN _ R.out.1 h3).mono ?_;rintro e w1 ⟨rfl,rfl⟩;go_wp2_with fail;refine (qz7 b s _ st eT eN _ R.out.1 hs hn0 hn1).mono ?_;rintro e w1 ⟨k1,⟨x,st1,v,he,rfl,rfl,r1⟩ | ⟨p,hp,ht⟩⟩
 ·have ho:Px.onB s st.t ⟨#[40]⟩=true∧st1=Px.nx s (Px.dn st):=by
   unfold qs6 at he;split at he
   ·rename_i ho;cases he;exact ⟨ho,rfl⟩
   ·cases he
  obtain ⟨ho,rfl⟩:=ho;have E1:Hid (Px.atom s (n+1) st=parX s st.t.a (Px.expr s (Px.atom s n) (Px.nx s (Px.dn st)))):=by unfold Hid;rw[E.out,if_pos ho]
  have D1:Hid (Ref.Dom s n (Px.nx s (Px.dn st))):=zbc HD.out (Px.qaf HD.out.tk ho).tk (Px.qaf HD.out.tk ho).lt (Or.inr rfl);have H1:Hid (_∧_):=⟨k1,r1⟩;clear k1 r1 c0 c1 c2 c3 c4 c5 f ho he;go_wp2_with fail;refine (R.out.2 _ _ D1.out H1.out.2).mono ?_;rintro e w2 ⟨k2,⟨x,st2,v,he,rfl,hv,r2⟩ | ⟨p,hp,ht⟩⟩
  ·obtain ⟨tl,ql,rfl⟩:=XAt.form hv;have gd:=Px.qf3 (Px.qbj s n) _ _ _ D1.out.tk he;have gn:st2.nest=st.nest+1:=gd.nest;have X2:Hid (XAt w2 x (Ref.In w1 w2) (.iface tl (Ref.ptr ql))∧Kp b w1 w2∧Rd w2 b s st2 eT eN∧Px.expr s (Px.atom s n) (Px.nx s (Px.dn st))=.ok (x,st2)):=⟨hv,k2,r2,he⟩;clear he hv k2 r2 gd;unfold Ref.ptr at X2 ⊢;go_wp2_with fail;refine (qzp b s _ st2 eT eN _ X2.out.2.2.1 hs (by omega) (by omega)).mono ?_
   rintro e w3 ⟨k3,⟨u,st3,v,he,rfl,rfl,r3⟩ | ⟨p,hp,ht⟩⟩
   ·have ho:Px.onB s st2.t ⟨#[41]⟩=true∧st3=Px.upp (Px.nx s st2):=by
     unfold qsl at he;split at he
     ·rename_i ho;cases he;exact ⟨ho,rfl⟩
     ·cases he
    obtain ⟨ho,rfl⟩:=ho;have E3:Hid (Px.atom s (n+1) st=.ok ({ x with pl:=st.t.a },Px.upp (Px.nx s st2))):=by unfold Hid;rw[E1.out,X2.out.2.2.2];unfold parX;simp only;rw[if_pos ho]
    have H3:Hid (_∧_):=⟨k3,r3⟩;have z1:=H1.out.1.size;clear k3 r3 ho he;go_wp2_with fail;go_ret;have k12:=X2.out.2.1.trans H3.out.1;refine ⟨H1.out.1.trans k12,Or.inl ⟨_,_,_,E3.out,rfl,?_,H3.out.2⟩⟩;exact XAt.place ((XAt.kp X2.out.1 (by omega) H3.out.1).mono fun i hi=>⟨by have:=hi.1;omega,hi.2⟩) _
   ·obtain ⟨c,rfl⟩:=ht.form;refine ⟨rfl,(H1.out.1.trans X2.out.2.1).trans k3,Or.inr ⟨p,?_,ht.low (H1.out.1.trans X2.out.2.1).size⟩⟩;rw[E1.out,X2.out.2.2.2];unfold qsl at hp;unfold parX;simp only;split at hp
    ·rename_i ho;rw[if_pos ho];exact qni hp
    ·rename_i ho;rw[if_neg ho];exact qtt hp
  ·obtain ⟨c,rfl⟩:=ht.form;exact ⟨rfl,H1.out.1.trans k2,Or.inr ⟨p,by rw[E1.out];exact qz4 hp,ht.low H1.out.1.size⟩⟩
 ·obtain ⟨c,rfl⟩:=ht.form;refine ⟨rfl,k1,Or.inr ⟨p,?_,ht⟩⟩;rw[E.out];unfold qs6 at hp;split at hp
  ·rename_i ho;rw[if_pos ho];obtain ⟨h4,rfl⟩:=qb3 hp;exact qz4 (qwh s (qjt s n) _ h4)
  ·rename_i ho;rw[if_neg ho];exact qtt hp
theorem zpc (b:Nat) (s:ByteArray) (eT eN:Addr) (hs:s.size≤maxLen) (n:Nat):zvq b s eT eN n:=by
 induction n with
 | zero=>intro st w hD r;have:=hD.room;omega
 | succ n ih =>
  intro st w hD r;by_cases h0:st.t.k=110
  ·exact quf b s eT eN n hs st w r h0
  ·by_cases h0':st.t.k=119
   ·exact qqj b s eT eN n hs st w r h0'
   ·cases h1:Px.onB s st.t ⟨#[116,114,117,101]⟩
    ·cases h2:Px.onB s st.t ⟨#[102,97,108,115,101]⟩
     ·cases h3:Px.onB s st.t ⟨#[110,111,116]⟩
      ·exact que b s eT eN n (qih b s n eT eN _ ih (Px.qbj s n) (qjt s n) hs) hs st w hD r h0 h0' h1 h2 h3
      ·exact qug b s eT eN n ih hs st w hD r h1 h2 h3
     ·exact qm7 b s eT eN n hs st w r h1 h2
    ·exact qqk b s eT eN n hs st w r h1
theorem qrt (b:Nat) (s:ByteArray) (eT eN:Addr) (hs:s.size≤maxLen) (st:Px.Ps) (w:World) (r:Rd w b s st eT eN) (hn0:0≤st.nest) (hn1:st.nest+(s.size+1:Nat)≤1000000) :
  Calls Tryz.prog 214 #[.pointer (some ⟨b,0,none⟩)] w (Out b s eT eN w (Px.qa4 s st) (XV w)) :=
 qih b s (s.size+1) eT eN _ (zpc b s eT eN hs (s.size+1)) (Px.qbj s _) (qjt s _) hs st w ⟨r.tk,by omega,hn0,hn1⟩ r
open Go.RowKit
def SlL (w:World) (v:Value) (vs:List Value) (ok:Nat→Prop):Prop :=
 (v=.slice none 0 0∧vs=[]) ∨
 ∃ g cap cur,v=.slice (some ⟨g,0,none⟩) vs.length cap∧ok g∧w.heap[g]?=some (.cells cur 204)∧vs.length≤cap∧cap≤maxLen∧cur.size=cap∧cur.toList.take vs.length=vs
def RootAt (w:World) (e:Px.Ex) (ok:Nat→Prop) (q:Nat):Prop:=ok q∧∃ tl ql,w.heap[q]?=some (.cells #[.iface tl (Ref.ptr ql),.int .i64 (e.pl:Int)] 317)∧XAt w e ok (.iface tl (Ref.ptr ql))
def ArgAt (w:World) (x:Option Px.Ex) (ok:Nat→Prop) (v:Value):Prop :=
 match x with
 | none=>v=.pointer none
 | some e=>∃ q,v=Ref.ptr q∧RootAt w e ok q
def AsAt (w:World) (x:ByteArray) (a:Nat) (ok:Nat→Prop) (v:Value):Prop:=(x.size=0∧v=.pointer none)∨(0 < x.size∧∃ q,v=Ref.ptr q∧VarAt w x a ok q)
def Nd (w:World) (x:Px.Sm) (ok:Nat→Prop) (v v1 v2:Value):Prop :=
 ∃ q,ok q ∧
 ((x.op=108∧v=.iface 247 (Ref.ptr q)∧∃ qv tl ql e,w.heap[q]?=some (.cells #[Ref.ptr qv,.iface tl (Ref.ptr ql)] 253)∧VarAt w x.word x.pl ok qv∧x.ex=some e∧XAt w e ok (.iface tl (Ref.ptr ql))) ∨
  (x.op=99∧v=.iface 258 (Ref.ptr q)∧∃ pa ps qn,w.heap[q]?=some (.cells #[.string x.word,.pointer pa,.pointer ps,.string x.undo,Ref.ptr qn] 315)∧ArgAt w x.ex ok (.pointer pa)∧AsAt w x.asw x.asPl ok (.pointer ps)∧NumAt w x.n x.nPl ok qn) ∨
  (x.op=105∧v=.iface 260 (Ref.ptr q)∧∃ qr e,w.heap[q]?=some (.cells #[Ref.ptr qr,v1,v2] 319)∧x.ex=some e∧RootAt w e ok qr) ∨
  (x.op=116∧v=.iface 262 (Ref.ptr q)∧w.heap[q]?=some (.cells #[v1,v2] 322)) ∨
  (x.op=114∧v=.iface 264 (Ref.ptr q)∧∃ qn,w.heap[q]?=some (.cells #[Ref.ptr qn,v1] 293)∧NumAt w x.n x.nPl ok qn) ∨
  (x.op=102∧v=.iface 266 (Ref.ptr q)))
def LsAt (w:World):List Px.Sm→(Nat→Prop)→List Value→Prop
 | [],_,vs=>vs=[]
 | ⟨op,word,pl,ex,av,asPl,undo,n,nPl,one,two⟩::rest,ok,vs=>∃ v vs',vs=v::vs'∧LsAt w rest ok vs'∧∃ v1 v2 u1 u2,Nd w ⟨op,word,pl,ex,av,asPl,undo,n,nPl,[],[]⟩ ok v v1 v2∧SlL w v1 u1 ok∧LsAt w one ok u1∧SlL w v2 u2 ok∧LsAt w two ok u2
theorem LsAt.qbl {w:World} {ok:Nat→Prop} {vs:List Value}:LsAt w [] ok vs↔vs=[]:=by rw[LsAt]
def SAt (w:World) (x:Px.Sm) (ok:Nat→Prop) (v:Value):Prop :=
 ∃ v1 v2 u1 u2,Nd w x ok v v1 v2∧SlL w v1 u1 ok∧LsAt w x.one ok u1∧SlL w v2 u2 ok∧LsAt w x.two ok u2
theorem LsAt.qcy {w:World} {x:Px.Sm} {rest:List Px.Sm} {ok:Nat→Prop} {vs:List Value}:LsAt w (x::rest) ok vs↔∃ v vs',vs=v::vs'∧LsAt w rest ok vs'∧SAt w x ok v:=by
 obtain ⟨op,word,pl,ex,av,asPl,undo,n,nPl,one,two⟩:=x;rw[LsAt];rfl
theorem LsAt.cons {w:World} {x:Px.Sm} {rest:List Px.Sm} {ok:Nat→Prop} {v:Value} {vs:List Value} (h:SAt w x ok v) (hr:LsAt w rest ok vs):LsAt w (x::rest) ok (v::vs) :=
 LsAt.qcy.2 ⟨v,vs,rfl,hr,h⟩
theorem LsAt.snoc {w:World} {l:List Px.Sm} {x:Px.Sm} {ok:Nat→Prop} {v:Value} {vs:List Value} (h:LsAt w l ok vs) (hx:SAt w x ok v):LsAt w (l++[x]) ok (vs++[v]):=by
 induction l generalizing vs with
 | nil=>cases LsAt.qbl.1 h;exact LsAt.cons hx (LsAt.qbl.2 rfl)
 | cons y l ih =>
  obtain ⟨v',vs',rfl,h1,h2⟩:=LsAt.qcy.1 h;exact LsAt.cons h2 (ih h1)
theorem VarAt.mono {w:World} {x:ByteArray} {a q:Nat} {ok ok':Nat→Prop} (h:VarAt w x a ok q) (hk:∀ k,ok k→ok' k):VarAt w x a ok' q:=⟨hk _ h.1,h.2⟩
theorem VarAt.keep {w w':World} {x:ByteArray} {a q:Nat} {ok:Nat→Prop} (h:VarAt w x a ok q) (hk:∀ k,ok k→w'.heap[k]?=w.heap[k]?):VarAt w' x a ok q:=⟨h.1,by rw[hk _ h.1];exact h.2⟩
theorem NumAt.mono {w:World} {n a q:Nat} {ok ok':Nat→Prop} (h:NumAt w n a ok q) (hk:∀ k,ok k→ok' k):NumAt w n a ok' q:=⟨hk _ h.1,h.2⟩
theorem NumAt.keep {w w':World} {n a q:Nat} {ok:Nat→Prop} (h:NumAt w n a ok q) (hk:∀ k,ok k→w'.heap[k]?=w.heap[k]?):NumAt w' n a ok q:=⟨h.1,by rw[hk _ h.1];exact h.2⟩
theorem RootAt.mono {w:World} {e:Px.Ex} {q:Nat} {ok ok':Nat→Prop} (h:RootAt w e ok q) (hk:∀ k,ok k→ok' k):RootAt w e ok' q:=by
 obtain ⟨h1,tl,ql,h2,h3⟩:=h;exact ⟨hk _ h1,tl,ql,h2,h3.mono hk⟩
theorem RootAt.keep {w w':World} {e:Px.Ex} {q:Nat} {ok:Nat→Prop} (h:RootAt w e ok q) (hk:∀ k,ok k→w'.heap[k]?=w.heap[k]?):RootAt w' e ok q:=by
 obtain ⟨h1,tl,ql,h2,h3⟩:=h;exact ⟨h1,tl,ql,by rw[hk _ h1];exact h2,h3.keep hk⟩
theorem ArgAt.mono {w:World} {x:Option Px.Ex} {v:Value} {ok ok':Nat→Prop} (h:ArgAt w x ok v) (hk:∀ k,ok k→ok' k):ArgAt w x ok' v:=by
 cases x with
 | none=>exact h
 | some e=>obtain ⟨q,h1,h2⟩:=h;exact ⟨q,h1,h2.mono hk⟩
theorem ArgAt.keep {w w':World} {x:Option Px.Ex} {v:Value} {ok:Nat→Prop} (h:ArgAt w x ok v) (hk:∀ k,ok k→w'.heap[k]?=w.heap[k]?):ArgAt w' x ok v:=by
 cases x with
 | none=>exact h
 | some e=>obtain ⟨q,h1,h2⟩:=h;exact ⟨q,h1,h2.keep hk⟩
theorem AsAt.mono {w:World} {x:ByteArray} {a:Nat} {v:Value} {ok ok':Nat→Prop} (h:AsAt w x a ok v) (hk:∀ k,ok k→ok' k):AsAt w x a ok' v:=by
 rcases h with h | ⟨h0,q,h1,h2⟩
 ·exact Or.inl h
 ·exact Or.inr ⟨h0,q,h1,h2.mono hk⟩
theorem AsAt.keep {w w':World} {x:ByteArray} {a:Nat} {v:Value} {ok:Nat→Prop} (h:AsAt w x a ok v) (hk:∀ k,ok k→w'.heap[k]?=w.heap[k]?):AsAt w' x a ok v:=by
 rcases h with h | ⟨h0,q,h1,h2⟩
 ·exact Or.inl h
 ·exact Or.inr ⟨h0,q,h1,h2.keep hk⟩
theorem Nd.mono {w:World} {x:Px.Sm} {v v1 v2:Value} {ok ok':Nat→Prop} (h:Nd w x ok v v1 v2) (hk:∀ k,ok k→ok' k):Nd w x ok' v v1 v2:=by
 obtain ⟨q,hq,⟨h0,h1,qv,tl,ql,e,h2,h3,h4,h5⟩ | ⟨h0,h1,pa,ps,qn,h2,h3,h4,h5⟩ | ⟨h0,h1,qr,e,h2,h3,h4⟩ | ⟨h0,h1,h2⟩ | ⟨h0,h1,qn,h2,h3⟩ | ⟨h0,h1⟩⟩:=h
 ·exact ⟨q,hk _ hq,Or.inl ⟨h0,h1,qv,tl,ql,e,h2,h3.mono hk,h4,h5.mono hk⟩⟩
 ·exact ⟨q,hk _ hq,Or.inr (Or.inl ⟨h0,h1,pa,ps,qn,h2,h3.mono hk,h4.mono hk,h5.mono hk⟩)⟩
 ·exact ⟨q,hk _ hq,Or.inr (Or.inr (Or.inl ⟨h0,h1,qr,e,h2,h3,h4.mono hk⟩))⟩
 ·exact ⟨q,hk _ hq,Or.inr (Or.inr (Or.inr (Or.inl ⟨h0,h1,h2⟩)))⟩
 ·exact ⟨q,hk _ hq,Or.inr (Or.inr (Or.inr (Or.inr (Or.inl ⟨h0,h1,qn,h2,h3.mono hk⟩))))⟩
 ·exact ⟨q,hk _ hq,Or.inr (Or.inr (Or.inr (Or.inr (Or.inr ⟨h0,h1⟩))))⟩
theorem Nd.keep {w w':World} {x:Px.Sm} {v v1 v2:Value} {ok:Nat→Prop} (h:Nd w x ok v v1 v2) (hk:∀ k,ok k→w'.heap[k]?=w.heap[k]?):Nd w' x ok v v1 v2:=by
 obtain ⟨q,hq,⟨h0,h1,qv,tl,ql,e,h2,h3,h4,h5⟩ | ⟨h0,h1,pa,ps,qn,h2,h3,h4,h5⟩ | ⟨h0,h1,qr,e,h2,h3,h4⟩ | ⟨h0,h1,h2⟩ | ⟨h0,h1,qn,h2,h3⟩ | ⟨h0,h1⟩⟩:=h
 ·exact ⟨q,hq,Or.inl ⟨h0,h1,qv,tl,ql,e,by rw[hk _ hq];exact h2,h3.keep hk,h4,h5.keep hk⟩⟩
 ·exact ⟨q,hq,Or.inr (Or.inl ⟨h0,h1,pa,ps,qn,by rw[hk _ hq];exact h2,h3.keep hk,h4.keep hk,h5.keep hk⟩)⟩
 ·exact ⟨q,hq,Or.inr (Or.inr (Or.inl ⟨h0,h1,qr,e,by rw[hk _ hq];exact h2,h3,h4.keep hk⟩))⟩
 ·exact ⟨q,hq,Or.inr (Or.inr (Or.inr (Or.inl ⟨h0,h1,by rw[hk _ hq];exact h2⟩)))⟩
 ·exact ⟨q,hq,Or.inr (Or.inr (Or.inr (Or.inr (Or.inl ⟨h0,h1,qn,by rw[hk _ hq];exact h2,h3.keep hk⟩))))⟩
 ·exact ⟨q,hq,Or.inr (Or.inr (Or.inr (Or.inr (Or.inr ⟨h0,h1⟩))))⟩
theorem SlL.mono {w:World} {v:Value} {vs:List Value} {ok ok':Nat→Prop} (h:SlL w v vs ok) (hk:∀ k,ok k→ok' k):SlL w v vs ok':=by
 rcases h with h | ⟨g,cap,cur,h1,h2,h3⟩
 ·exact Or.inl h
 ·exact Or.inr ⟨g,cap,cur,h1,hk _ h2,h3⟩
theorem SlL.keep {w w':World} {v:Value} {vs:List Value} {ok:Nat→Prop} (h:SlL w v vs ok) (hk:∀ k,ok k→w'.heap[k]?=w.heap[k]?):SlL w' v vs ok:=by
 rcases h with h | ⟨g,cap,cur,h1,h2,h3,h4⟩
 ·exact Or.inl h
 ·exact Or.inr ⟨g,cap,cur,h1,h2,by rw[hk _ h2];exact h3,h4⟩
theorem LsAt.mono {w:World} {l:List Px.Sm} {ok ok':Nat→Prop} {vs:List Value} (h:LsAt w l ok vs) (hk:∀ k,ok k→ok' k):LsAt w l ok' vs:=by
 match l with
 | []=>exact LsAt.qbl.2 (LsAt.qbl.1 h)
 | ⟨op,word,pl,ex,av,asPl,undo,n,nPl,one,two⟩::rest =>
  obtain ⟨v,vs',h1,h2,v1,v2,u1,u2,h3,h4,h5,h6,h7⟩:=LsAt.qcy.1 h;exact LsAt.qcy.2 ⟨v,vs',h1,h2.mono hk,v1,v2,u1,u2,h3.mono hk,h4.mono hk,h5.mono hk,h6.mono hk,h7.mono hk⟩
theorem LsAt.keep {w w':World} {l:List Px.Sm} {ok:Nat→Prop} {vs:List Value} (h:LsAt w l ok vs) (hk:∀ k,ok k→w'.heap[k]?=w.heap[k]?):LsAt w' l ok vs:=by
 match l with
 | []=>exact LsAt.qbl.2 (LsAt.qbl.1 h)
 | ⟨op,word,pl,ex,av,asPl,undo,n,nPl,one,two⟩::rest =>
  obtain ⟨v,vs',h1,h2,v1,v2,u1,u2,h3,h4,h5,h6,h7⟩:=LsAt.qcy.1 h;exact LsAt.qcy.2 ⟨v,vs',h1,h2.keep hk,v1,v2,u1,u2,h3.keep hk,h4.keep hk,h5.keep hk,h6.keep hk,h7.keep hk⟩
theorem SAt.mono {w:World} {x:Px.Sm} {ok ok':Nat→Prop} {v:Value} (h:SAt w x ok v) (hk:∀ k,ok k→ok' k):SAt w x ok' v:=by
 obtain ⟨v1,v2,u1,u2,h3,h4,h5,h6,h7⟩:=h;exact ⟨v1,v2,u1,u2,h3.mono hk,h4.mono hk,h5.mono hk,h6.mono hk,h7.mono hk⟩
theorem SAt.keep {w w':World} {x:Px.Sm} {ok:Nat→Prop} {v:Value} (h:SAt w x ok v) (hk:∀ k,ok k→w'.heap[k]?=w.heap[k]?):SAt w' x ok v:=by
 obtain ⟨v1,v2,u1,u2,h3,h4,h5,h6,h7⟩:=h;exact ⟨v1,v2,u1,u2,h3.keep hk,h4.keep hk,h5.keep hk,h6.keep hk,h7.keep hk⟩
theorem SAt.form {w:World} {x:Px.Sm} {ok:Nat→Prop} {v:Value} (h:SAt w x ok v):∃ t q,v=.iface t (Ref.ptr q):=by
 obtain ⟨v1,v2,u1,u2,⟨q,hq,⟨h0,h1,_⟩ | ⟨h0,h1,_⟩ | ⟨h0,h1,_⟩ | ⟨h0,h1,_⟩ | ⟨h0,h1,_⟩ | ⟨h0,h1⟩⟩,_⟩:=h<;>exact ⟨_,q,h1⟩
def BV (w:World):World→List Px.Sm→Value→Prop:=fun w' l v=>∃ vs,SlL w' v vs (Ref.In w w')∧LsAt w' l (Ref.In w w') vs
theorem SlL.form {w:World} {v:Value} {vs:List Value} {ok:Nat→Prop} (h:SlL w v vs ok):∃ a n c,v=.slice a n c:=by
 rcases h with ⟨h,_⟩ | ⟨g,cap,cur,h1,_⟩
 ·exact ⟨_,_,_,h⟩
 ·exact ⟨_,_,_,h1⟩
def starts (s:ByteArray) (st:Px.Ps):Bool:=Px.onB s st.t ⟨#[108,101,116]⟩ || Px.onB s st.t ⟨#[99,97,108,108]⟩ || Px.onB s st.t ⟨#[105,102]⟩ || Px.onB s st.t ⟨#[116,114,121]⟩ || Px.onB s st.t ⟨#[114,101,112,101,97,116]⟩ || Px.onB s st.t ⟨#[102,97,105,108]⟩
def qf9 (s:ByteArray) (g:Px.Ps→Except Nat (Px.Sm×Px.Ps)) (st:Px.Ps):Except Nat (Option Px.Sm×Px.Ps) :=
 if starts s st then (match g st with
  | .ok (x,st')=>.ok (some x,st')
  | .error p=>.error p) else .ok (none,st)
def SoV (w:World):World→Option Px.Sm→Value→Prop:=fun w' o v =>
 match o with
 | none=>v=.tuple #[.nilIface,.bool false]
 | some x=>∃ u,v=.tuple #[u,.bool true]∧SAt w' x (Ref.In w w') u
def zkb (b:Nat) (s:ByteArray) (n:Nat) (eT eN:Addr) (g:Px.Ps→Except Nat (Px.Sm×Px.Ps)):Prop :=
 ∀ (st:Px.Ps) (w:World),Ref.DomS s n st→Rd w b s st eT eN→Calls Tryz.prog 137 #[.pointer (some ⟨b,0,none⟩)] w (Out b s eT eN w (qf9 s g st) (SoV w))
theorem qo9 {s:ByteArray} {st:Px.Ps} (h:st.t.k=63):starts s st=false:=by
 unfold starts;simp[qee h]
theorem qsk {s:ByteArray} {n:Nat} {st:Px.Ps} (h:starts s st=false):Px.stmt s n st=.error st.t.a:=by
 unfold starts at h;simp only[Bool.or_eq_false_iff] at h;obtain ⟨⟨⟨⟨⟨h1,h2⟩,h3⟩,h4⟩,h5⟩,h6⟩:=h;cases n with
 | zero=>rfl
 | succ n =>
  rw[Px.stmt,if_neg (by simp[h1]),if_neg (by simp[h2]),if_neg (by simp[h3]),if_neg (by simp[h4]),if_neg (by simp[h5])]
  unfold Px.qig Px.need;rw[if_neg (by simp[h6])]
structure Stp (s:ByteArray) (stop:Px.Ps→Bool):Prop where
 off:∀ st,stop st=true→starts s st=false
 k63:∀ st:Px.Ps,st.t.k=63→stop st=false
open Go.RowKit
theorem zxd:(Tryz.prog.info? 204).map (fun i=>(i.zero,i.size,i.bytes))=some (some .nilIface,1,16):=by kernel_rfl
def zvn (b:Nat) (s:ByteArray) (eT eN:Addr) (w:World) (g:Px.Ps→Except Nat (Px.Sm×Px.Ps)) (st:Px.Ps) (e:Ending) (w':World):Prop :=
 Kp b w w'∧((∃ l st' v,e=.returned v∧BV w w' l v∧Rd w' b s st' eT eN∧starts s st'=false∧Px.Good0 s st st'∧∀ stop,Stp s stop→∀ m,s.size - st.t.a < m→Px.stmts s g stop m [] st=if stop st' then .ok (l,st') else .error st'.t.a) ∨
  ∃ p,(∀ stop,Stp s stop→∀ m,s.size - st.t.a < m→fin (Px.stmts s g stop m [] st)=.error p)∧Thrown w' w.heap.size eT p e)
def zyl (b:Nat) (s:ByteArray) (n:Nat) (eT eN:Addr) (g:Px.Ps→Except Nat (Px.Sm×Px.Ps)) (st:Px.Ps) (w wr:World) (v:Value):Prop :=
 Kp b w wr∧∃ vs,wr.ownsRow w.heap.size 204 1 v vs.length vs∧∃ l st1,LsAt wr l (fun k=>Ref.In w wr k∧some k≠v.ownBlock) vs∧vs.length≤st1.t.a∧Rd wr b s st1 eT eN∧Ref.DomS s n st1∧Px.Good0 s st st1 ∧
  ∀ stop,Stp s stop→∀ m,s.size - st.t.a < m→∃ m',s.size - st1.t.a < m'∧Px.stmts s g stop m [] st=Px.stmts s g stop m' l st1
theorem zsj {w:World} {base:Nat} {v:Value} {vs:List Value} {ok:Nat→Prop} (h:w.ownsRow base 204 1 v vs.length vs) (hk:∀ k,v.ownBlock=some k→ok k):SlL w v vs ok:=by
 rcases h.2 with ⟨h1,h2⟩ | ⟨g,cap,cur,h1,h2,h3,h4,h5,h6,h7⟩
 ·exact Or.inl ⟨h1,List.length_eq_zero_iff.1 h2⟩
 ·refine Or.inr ⟨g,cap,cur,h1,hk g (by rw[h1];rfl),h3,h4,h5,by omega,?_⟩
  rw[Nat.mul_one] at h7;exact h7
theorem zb8 {s:ByteArray} {g:Px.Ps→Except Nat (Px.Sm×Px.Ps)} {st st':Px.Ps} {x:Px.Sm} (h:qf9 s g st=.ok (some x,st')):starts s st=true∧g st=.ok (x,st'):=by
 unfold qf9 at h;split at h
 ·rename_i hs;cases hg:g st with
  | error p=>rw[hg] at h;cases h
  | ok r=>obtain ⟨y,st1⟩:=r;rw[hg] at h;cases h;exact ⟨hs,rfl⟩
 ·cases h
theorem zb9 {s:ByteArray} {g:Px.Ps→Except Nat (Px.Sm×Px.Ps)} {st st':Px.Ps} (h:qf9 s g st=.ok (none,st')):starts s st=false∧st'=st:=by
 unfold qf9 at h;split at h
 ·cases hg:g st with
  | error p=>rw[hg] at h;cases h
  | ok r=>obtain ⟨y,st1⟩:=r;rw[hg] at h;cases h
 ·rename_i hs;cases h;exact ⟨by simpa using hs,rfl⟩
theorem qvc {s:ByteArray} {g:Px.Ps→Except Nat (Px.Sm×Px.Ps)} {st:Px.Ps} {p:Nat} (hk:st.t.k≠63) (h:fin (qf9 s g st)=.error p):starts s st=true∧(g st=.error p∨∃ x st',g st=.ok (x,st')∧st'.t.k=63∧p=st'.t.a):=by
 unfold qf9 at h;split at h
 ·rename_i hs;refine ⟨hs,?_⟩;cases hg:g st with
  | error q=>rw[hg] at h;cases h;exact Or.inl rfl
  | ok r=>obtain ⟨y,st1⟩:=r;rw[hg] at h;obtain ⟨h1,h2⟩:=qb3 h;exact Or.inr ⟨y,st1,rfl,h1,h2⟩
 ·exact absurd (qb3 h).1 hk
theorem zto {b:Nat} {s:ByteArray} {n:Nat} {eT eN:Addr} {g:Px.Ps→Except Nat (Px.Sm×Px.Ps)} {st:Px.Ps} {w wr w1 w2:World} {v v' u:Value} {vs:List Value} {l:List Px.Sm} {st1 st2:Px.Ps} {x:Px.Sm}
  (hb:b < w.heap.size) (hg:Px.Goes s g) (KR:Kp b w wr) (hown:wr.ownsRow w.heap.size 204 1 v vs.length vs) (L:LsAt wr l (fun k=>Ref.In w wr k∧some k≠v.ownBlock) vs) (hq:vs.length≤st1.t.a) (hD:Ref.DomS s n st1) (G0:Px.Good0 s st st1)
  (CH:∀ stop,Stp s stop→∀ m,s.size - st.t.a < m→∃ m',s.size - st1.t.a < m'∧Px.stmts s g stop m [] st=Px.stmts s g stop m' l st1) (hs:starts s st1=true) (hr:g st1=.ok (x,st2))
  (k1:Kp b wr w1) (hx:SAt w1 x (Ref.In wr w1) u) (r1:Rd w1 b s st2 eT eN)
  (hown':w2.ownsRow w.heap.size 204 1 v' (vs.length+1) (vs++[u])) (hgrow:(w1.alloc (.cells #[u] 204)).grownBy w2 v.ownBlock) (hloc:v'.ownBlock=v.ownBlock∨v'.ownBlock=some (w1.heap.size+1)) :
  zyl b s n eT eN g st w w2 v'∧rdM s b w2 < s.size+1 - st1.t.a:=by
 have hob:∀ k,v.ownBlock=some k→w.heap.size≤k∧k < wr.heap.size:=hown.lt;have kw1:Kp b w w1:=KR.trans k1;have kw2:Kp b w w2:=Ref.zal (kw1.alloc _) hgrow (fun k hk=>(hob k hk).1)
 have s1:=KR.size;have s2:=k1.size;have s3:w1.heap.size+1≤w2.heap.size:=by have:=hgrow.size;simpa using this
 have hkeep:∀ k,k < w1.heap.size→some k≠v.ownBlock→w2.heap[k]?=w1.heap[k]?:=fun k hk hne=>by
  rw[hgrow.block k (by simp;omega) hne,Below.heap_alloc _ _ _ hk]
 have r2:Rd w2 b s st2 eT eN:=by
  obtain ⟨td,ra,rd⟩:=r1.mem;have hlb:b < w1.heap.size:=r1.lt;have hlo:=r1.gl.lo;have gk:∀ k,k < w.heap.size→w2.heap[k]?=w1.heap[k]?:=fun k hk=>hkeep k (by omega) (fun e=>by have:=(hob k e.symm).1;omega)
  refine ⟨r1.tk,r1.k63,⟨?_,?_,?_,hlo⟩,td,⟨by rw[gk b hb];exact ra.h⟩,?_⟩
  ·rw[World.cell?_of_block (w:=w1) (gk _ (by show (_:Nat) < _;dsimp only;omega))];exact r1.gl.t
  ·rw[World.cell?_of_block (w:=w1) (gk _ (by show (_:Nat) < _;dsimp only;omega))];exact r1.gl.n
  ·intro j hj;rw[World.cell?_of_block (w:=w1) (gk _ (by show (_:Nat) < _;dsimp only;omega))];exact r1.gl.ops j hj
  ·rcases rd with d | ⟨d1,f,d2,d3,d4⟩
   ·exact Or.inl d
   ·refine Or.inr ⟨d1,f,d2,d3,?_⟩;have hfl:f < w1.heap.size:=(Array.getElem?_eq_some_iff.1 d4).1;rw[hkeep f hfl ?_]
    ·exact d4
    ·intro e;rcases hown.2 with ⟨h1,_⟩ | ⟨gb,cap,cur,h1,h2,h3,_⟩
     ·rw[h1] at e;cases e
     ·have e':f=gb:=by rw[h1] at e;exact Option.some.inj e
      subst e'
      have:w1.heap[f]?=some (.cells cur 204):=by rw[k1.block f (hob f (by rw[h1];rfl)).2 d3];exact h3
      rw[this] at d4;simp at d4
 have hd1:=hD.tk.le;have hd2:=hD.tk.ab;have hdr:=hD.room;have g1:=hg _ _ _ hD.tk hr;have g2:=g1.lt;have g3:=g1.tk.ab;have g4:=g1.tk.le;have hnew:∀ k,k < w1.heap.size→some k≠v.ownBlock→some k≠v'.ownBlock:=by
  intro k hk hne;rcases hloc with h | h
  ·rw[h];exact hne
  ·rw[h];simp;omega
 have hlen:(vs++[u]).length=vs.length+1:=by simp
 refine ⟨⟨kw2,vs++[u],by rw[hlen];exact hown',l++[x],st2,?_,by rw[hlen];omega,r2,hD.good g1,G0.trans g1.zero,?_⟩,?_⟩
 ·refine LsAt.snoc ?_ ?_
  ·have e1:LsAt w1 l (fun k=>Ref.In w wr k∧some k≠v.ownBlock) vs:=L.keep fun k hk=>k1.block k hk.1.2 (by have:=hk.1.1;omega)
   have e2:LsAt w2 l (fun k=>Ref.In w wr k∧some k≠v.ownBlock) vs:=e1.keep fun k hk=>hkeep k (by have:=hk.1.2;omega) hk.2
   exact e2.mono fun k hk=>⟨⟨hk.1.1,by have:=hk.1.2;omega⟩,hnew k (by have:=hk.1.2;omega) hk.2⟩
  ·have hne:∀ k,Ref.In wr w1 k→some k≠v.ownBlock:=fun k hk e=>by have:=(hob k e.symm).2;have:=hk.1;omega
   have e2:SAt w2 x (Ref.In wr w1) u:=hx.keep fun k hk=>hkeep k hk.2 (hne k hk)
   exact e2.mono fun k hk=>⟨⟨by have:=hk.1;omega,by have:=hk.2;omega⟩,hnew k hk.2 (hne k hk)⟩
 ·intro stop hstop m hm;obtain ⟨m',h1,h2⟩:=CH stop hstop m hm;obtain ⟨m',rfl⟩:∃ k,m'=k+1:=⟨m' - 1,by omega⟩
  refine ⟨m',by omega,h2.trans ?_⟩
  have hst:stop st1=false:=by
   cases h:stop st1
   ·rfl
   ·have:=hstop.off st1 h;rw[hs] at this;cases this
  rw[Px.stmts,if_neg (by simp[hst]),hr]
 ·rw[qvo r2];omega
theorem qvb (b:Nat) (s:ByteArray) (n:Nat) (eT eN:Addr) (g:Px.Ps→Except Nat (Px.Sm×Px.Ps)) (hst:zkb b s n eT eN g) (hg:Px.Goes s g) (hoff:∀ st,starts s st=false→g st=.error st.t.a) (hs3:s.size≤300) (st:Px.Ps) (w:World) (hD:Ref.DomS s n st) (r:Rd w b s st eT eN) :
  Calls Tryz.prog 74 #[.pointer (some ⟨b,0,none⟩)] w (zvn b s eT eN w g st):=by
 obtain ⟨i0,hi,hz0,hz1,hz2⟩:=info_parts zxd;have hs:s.size≤maxLen:=by unfold maxLen;omega
 have hb:=r.lt;have HG:Hid (Px.Goes s g∧∀ st,starts s st=false→g st=.error st.t.a):=⟨hg,hoff⟩;have HR:Hid (Ref.DomS s n st∧Rd w b s st eT eN∧zkb b s n eT eN g):=⟨hD,r,hst⟩;clear hD r hg hoff hst;go_enter Tryz.func74,Tryz.ntmps74
 go_wp2_with fail;go_loopw [3] (fun v wr=>Hid (zyl b s n eT eN g st w wr v)) (fun _ wr=>rdM s b wr)
 case atStart =>
  exact ⟨Kp.refl _ _,[],World.ownsRow_nil _ _ _ _,[],st,LsAt.qbl.2 rfl,by simp,HR.out.2.1,HR.out.1,Px.Good0.refl HR.out.1.tk,fun stop _ m hm=>⟨m,hm,rfl⟩⟩
 case round =>
  obtain ⟨kr,vs,hown,l,st1,hl,hq,r1,hD1,G0,CH⟩:=hrel.out;clear hrel;obtain ⟨va,vn,vc,rfl⟩:=Ref.qpi hown;have KR:Hid (Kp b w wr∧wr.ownsRow w.heap.size 204 1 (.slice va vn vc) vs.length vs∧LsAt wr l (fun k=>Ref.In w wr k∧some k≠(Value.slice va vn vc).ownBlock) vs∧Rd wr b s st1 eT eN∧Ref.DomS s n st1∧Px.Good0 s st st1 ∧
   ∀ stop,Stp s stop→∀ m,s.size - st.t.a < m→∃ m',s.size - st1.t.a < m'∧Px.stmts s g stop m [] st=Px.stmts s g stop m' l st1):=⟨kr,hown,hl,r1,hD1,G0,CH⟩
  clear kr hown hl r1 hD1 G0 CH;go_wp2_with fail;refine (HR.out.2.2 st1 _ KR.out.2.2.2.2.1 KR.out.2.2.2.1).mono ?_;rintro e w3 ⟨k3,⟨o,st2,v,he,rfl,hv,r3⟩ | ⟨p,hp,ht⟩⟩
  ·cases o with
   | none =>
    obtain ⟨h1,rfl⟩:=zb9 he;have hv':v=.tuple #[.nilIface,.bool false]:=hv;subst hv';have H3:Hid (Kp b wr w3∧Rd w3 b s st2 eT eN∧starts s st2=false):=⟨k3,r3,h1⟩;clear k3 r3 h1 he hv;go_wp2_with fail;go_ret;have hown3:w3.ownsRow w.heap.size 204 1 (.slice va vn vc) vs.length vs:=Ref.qle KR.out.2.1 fun k hk=>H3.out.1.block k (KR.out.2.1.lt k hk).2 (by have:=(KR.out.2.1.lt k hk).1;omega)
    have z3:=H3.out.1.size;refine ⟨KR.out.1.trans H3.out.1,Or.inl ⟨l,st2,_,rfl,⟨vs,zsj hown3 fun k hk=>⟨(hown3.lt k hk).1,(hown3.lt k hk).2⟩,?_⟩,H3.out.2.1,H3.out.2.2,KR.out.2.2.2.2.2.1,?_⟩⟩
    ·exact (KR.out.2.2.1.keep fun k hk=>H3.out.1.block k hk.1.2 (by have:=hk.1.1;omega)).mono fun k hk=>⟨hk.1.1,by have:=hk.1.2;omega⟩
    ·intro stop hstop m hm;obtain ⟨m',h1,h2⟩:=KR.out.2.2.2.2.2.2 stop hstop m hm;obtain ⟨m',rfl⟩:∃ k,m'=k+1:=⟨m' - 1,by omega⟩
     rw[h2,Px.stmts,HG.out.2 st2 H3.out.2.2]
   | some x =>
    obtain ⟨u,rfl,hu⟩:=hv;obtain ⟨h1,h2⟩:=zb8 he;obtain ⟨tu,qu,rfl⟩:=hu.form;have hown3:w3.ownsRow w.heap.size 204 1 (.slice va vn vc) vs.length vs:=Ref.qle KR.out.2.1 fun k hk=>k3.block k (KR.out.2.1.lt k hk).2 (by have:=(KR.out.2.1.lt k hk).1;omega)
    have hsz3:w.heap.size≤w3.heap.size:=by have:=k3.size;have:=KR.out.1.size;omega
    have hqb:vs.length≤300:=by have:=KR.out.2.2.2.2.1.tk.ab;have:=KR.out.2.2.2.2.1.tk.le;omega
    have H3:Hid (Kp b wr w3∧SAt w3 x (Ref.In wr w3) (.iface tu (Ref.ptr qu))∧Rd w3 b s st2 eT eN∧starts s st1=true∧g st1=.ok (x,st2)):=⟨k3,hu,r3,h1,h2⟩;clear k3 hu r3 h1 h2 he;unfold Ref.ptr at H3 ⊢;go_wp2_with (first
     | (at_builtin;refine wpList_append_own_at _ rfl _ _ 53 rfl w.heap.size 204 i0 .nilIface 1 16 Tryz.underlying53 hi hz0 hz1 hz2 rfl (by decide) _ _ _ rfl (hown3.alloc _) ⟨w3.heap.size,0,none⟩ 1 1 [.iface tu (.pointer (some ⟨qu,0,none⟩))] rfl rfl ?c1 ?c2 ?c3 ?c4 ?c5 ?_)
     | fail)
    case c1 =>
     intro j u hj;match j,hj with
     | 0,hj=>simp at hj;subst hj;simp[Addr.add]
    case c2=>intro u hu;simp at hu;subst hu;rfl
    case c3=>unfold maxLen;omega
    case c4=>omega
    case c5=>simp;omega
    ·intro v' w4 hown' hgrow _ hloc;have M:=qvo KR.out.2.2.2.1;obtain ⟨r1,r2⟩:=zto hb HG.out.1 KR.out.1 KR.out.2.1 KR.out.2.2.1 hq KR.out.2.2.2.2.1 KR.out.2.2.2.2.2.1 KR.out.2.2.2.2.2.2 H3.out.2.2.2.1 H3.out.2.2.2.2 H3.out.1 H3.out.2.1 H3.out.2.2.1 hown' hgrow hloc;rw[← M] at r2;have RR:Hid (_∧_):=⟨r1,r2⟩;clear r1 r2 hown' hgrow hloc hown3 M;go_wp2;exact ⟨RR.out.1,RR.out.2⟩
  ·obtain ⟨c,rfl⟩:=ht.form;obtain ⟨h1,h2⟩:=qvc KR.out.2.2.2.1.k63 hp;refine ⟨rfl,KR.out.1.trans k3,Or.inr ⟨p,?_,ht.low KR.out.1.size⟩⟩;intro stop hstop m hm;obtain ⟨m',h3,h4⟩:=KR.out.2.2.2.2.2.2 stop hstop m hm;obtain ⟨m',rfl⟩:∃ k,m'=k+1:=⟨m' - 1,by omega⟩
   have hst:stop st1=false:=by
    cases h:stop st1
    ·rfl
    ·have:=hstop.off st1 h;rw[h1] at this;cases this
   rw[h4,Px.stmts,if_neg (by simp[hst])]
   rcases h2 with h2 | ⟨x,st2,h2,h5,rfl⟩
   ·rw[h2];rfl
   ·rw[h2];simp only;cases m' with
    | zero=>rfl
    | succ m'=>rw[Px.stmts,if_neg (by simp[hstop.k63 st2 h5]),HG.out.2 st2 (qo9 h5)];rfl
open Go.RowKit
def andThen {α β:Type} (r:Except Nat (α×Px.Ps)) (c:α→Px.Ps→Except Nat (β×Px.Ps)):Except Nat (β×Px.Ps) :=
 match r with
 | .error p=>.error p
 | .ok (x,st)=>c x st
theorem then_ok {α β:Type} {r:Except Nat (α×Px.Ps)} {c:α→Px.Ps→Except Nat (β×Px.Ps)} {x:α} {st:Px.Ps} (h:r=.ok (x,st)):andThen r c=c x st:=by rw[h];rfl
theorem qan {α β:Type} {r:Except Nat (α×Px.Ps)} {c:α→Px.Ps→Except Nat (β×Px.Ps)} {p:Nat} (h:fin r=.error p) (hc:∀ x st,st.t.k=63→fin (c x st)=.error st.t.a):fin (andThen r c)=.error p:=by
 rcases qdf h with rfl | ⟨x,st,rfl,h1,rfl⟩
 ·rfl
 ·exact hc x st h1
theorem qc8 (s x:ByteArray):Late (qcb s x):=by
 intro st h;unfold qcb;rw[if_neg (by simp[qee h])];rfl
theorem qgm (s:ByteArray) {k:Nat} (hk:k≠63):Late (qda s k):=by
 intro st h;unfold qda;rw[if_neg (by omega)];rfl
theorem qj1 {s:ByteArray} {t:Px.Tok} {x y:ByteArray} (h:Px.onB s t x=true) (hne:(x.toList == y.toList)=false):Px.onB s t y=false:=by
 unfold Px.onB at h ⊢;simp only[Bool.and_eq_true,beq_iff_eq] at h;rw[h.2,hne,Bool.and_false]
theorem ze0 (s:ByteArray):Stp s (fun st=>st.t.k == 0):=by
 refine ⟨fun st h=>?_,fun st h=>by simp[h]⟩
 have hk:st.t.k=0:=by simpa using h
 unfold starts Px.onB;rw[hk];rfl
theorem qzk (s:ByteArray):Stp s (fun st=>Px.onB s st.t ⟨#[125]⟩):=by
 refine ⟨fun st h=>?_,fun st h=>qee h _⟩
 unfold starts;rw[qj1 h (by decide +kernel),qj1 h (by decide +kernel),qj1 h (by decide +kernel),qj1 h (by decide +kernel),qj1 h (by decide +kernel),qj1 h (by decide +kernel)]
 rfl
theorem zi3 {s:ByteArray} {n:Nat} {st:Px.Ps} (hD:Ref.DomS s (n+1) st) {x:ByteArray} (ho:Px.onB s st.t x=true):Ref.DomS s n (Px.nx s (Px.dn st)):=by
 have g1:=Px.qaf hD.tk ho;have h1:=hD.room;have h2:=g1.lt;have h3:=g1.tk.ab;have h4:=g1.tk.le;have h5:=hD.n1;have h6:st.t.a < (Px.nx s (Px.dn st)).t.a:=h2;have h8:=hD.n0;have h7:(Px.nx s (Px.dn st)).t.a≤s.size:=by have:(Px.nx s (Px.dn st)).t=(Px.nx s st).t:=rfl;rw[this];omega
 refine ⟨g1.tk,by omega,?_,?_⟩
 ·show 0≤st.nest+1;omega
 ·show st.nest+1+n+(s.size+1:Nat)≤1000000;push_cast at h5 ⊢;omega
theorem qqg (b:Nat) (s:ByteArray) (n:Nat) (eT eN:Addr) (g:Px.Ps→Except Nat (Px.Sm×Px.Ps)) (hst:zkb b s n eT eN g) (hg:Px.Goes s g) (hoff:∀ st,starts s st=false→g st=.error st.t.a) (hs3:s.size≤300) (st:Px.Ps) (w:World) (hD:Ref.DomS s (n+1) st) (r:Rd w b s st eT eN) :
  Calls Tryz.prog 187 #[.pointer (some ⟨b,0,none⟩)] w (Out b s eT eN w (Px.block s g st) (BV w)):=by
 have hs:s.size≤maxLen:=by unfold maxLen;omega
 have hb:=r.lt;have HG:Hid (Px.Goes s g∧(∀ st,starts s st=false→g st=.error st.t.a)∧zkb b s n eT eN g):=⟨hg,hoff,hst⟩;have HR:Hid (Ref.DomS s (n+1) st∧Rd w b s st eT eN):=⟨hD,r⟩;have hn0:=hD.n0;have hn1:st.nest≤1000000:=by have:=hD.n1;omega
 clear hD r hg hoff hst;go_enter Tryz.func187,Tryz.ntmps187
 go_wp2_with fail;refine (qz7 b s _ st eT eN _ HR.out.2 hs hn0 hn1).mono ?_;rintro e w1 ⟨k1,⟨x,st1,v,he,rfl,rfl,r1⟩ | ⟨p,hp,ht⟩⟩
 ·have ho:Px.onB s st.t ⟨#[123]⟩=true∧st1=Px.nx s (Px.dn st):=by
   unfold qs6 at he;split at he
   ·rename_i ho;cases he;exact ⟨ho,rfl⟩
   ·cases he
  obtain ⟨ho,rfl⟩:=ho;have D1:Hid (Ref.DomS s n (Px.nx s (Px.dn st))):=zi3 HR.out.1 ho;have E1:Hid (Px.block s g st=match Px.stmts s g (fun st=>Px.onB s st.t ⟨#[125]⟩) (s.size+1) [] (Px.nx s (Px.dn st)) with
   | .error p=>.error p
   | .ok (l,st')=>.ok (l,Px.upp (Px.nx s st'))):=by
   unfold Hid;rw[Px.block,if_pos ho];cases Px.stmts s g (fun st=>Px.onB s st.t ⟨#[125]⟩) (s.size+1) [] (Px.nx s (Px.dn st))<;>rfl
  have H1:Hid (Kp b w w1∧Rd w1 b s (Px.nx s (Px.dn st)) eT eN):=⟨k1,r1⟩;clear k1 r1 ho he;go_wp2_with fail;refine (qvb b s n eT eN g HG.out.2.2 HG.out.1 HG.out.2.1 hs3 _ _ D1.out H1.out.2).mono ?_;rintro e w2 ⟨k2,⟨l,st2,v,rfl,⟨vs,hv1,hv2⟩,r2,hst2,G2,CH⟩ | ⟨p,hp,ht⟩⟩
  ·obtain ⟨va,vn,vc,rfl⟩:=hv1.form;have ch:=CH _ (qzk s) (s.size+1) (by omega)
   have gn:st2.nest=st.nest+1:=G2.nest;have H2:Hid (Kp b w1 w2∧SlL w2 (.slice va vn vc) vs (Ref.In w1 w2)∧LsAt w2 l (Ref.In w1 w2) vs∧Rd w2 b s st2 eT eN∧Px.stmts s g (fun st=>Px.onB s st.t ⟨#[125]⟩) (s.size+1) [] (Px.nx s (Px.dn st))=if Px.onB s st2.t ⟨#[125]⟩=true then .ok (l,st2) else .error st2.t.a):=⟨k2,hv1,hv2,r2,ch⟩
   clear k2 hv1 hv2 r2 ch CH hst2 G2;go_wp2_with fail;refine (qzp b s _ st2 eT eN _ H2.out.2.2.2.1 hs (by omega) (by omega)).mono ?_
   rintro e w3 ⟨k3,⟨u,st3,v,he,rfl,rfl,r3⟩ | ⟨p,hp,ht⟩⟩
   ·have ho:Px.onB s st2.t ⟨#[125]⟩=true∧st3=Px.upp (Px.nx s st2):=by
     unfold qsl at he;split at he
     ·rename_i ho;cases he;exact ⟨ho,rfl⟩
     ·cases he
    obtain ⟨ho,rfl⟩:=ho;have E3:Hid (Px.block s g st=.ok (l,Px.upp (Px.nx s st2))):=by unfold Hid;rw[E1.out,H2.out.2.2.2.2,if_pos ho]
    have H3:Hid (_∧_):=⟨k3,r3⟩;have z1:=H1.out.1.size;have z3:=k3.size;clear k3 r3 ho he;go_wp2_with fail;go_ret;have hk:∀ i,Ref.In w1 w2 i→w3.heap[i]?=w2.heap[i]?:=fun i hi=>H3.out.1.block i hi.2 (by have:=hi.1;omega)
    have hm:∀ i,Ref.In w1 w2 i→Ref.In w w3 i:=fun i hi=>⟨by have:=hi.1;omega,by have:=hi.2;omega⟩
    exact ⟨(H1.out.1.trans H2.out.1).trans H3.out.1,Or.inl ⟨l,_,_,E3.out,rfl,⟨vs,(H2.out.2.1.keep hk).mono hm,(H2.out.2.2.1.keep hk).mono hm⟩,H3.out.2⟩⟩
   ·obtain ⟨c,rfl⟩:=ht.form;refine ⟨rfl,(H1.out.1.trans H2.out.1).trans k3,Or.inr ⟨p,?_,ht.low (H1.out.1.trans H2.out.1).size⟩⟩;rw[E1.out,H2.out.2.2.2.2];unfold qsl at hp;split at hp
    ·rename_i ho;rw[if_pos ho];exact qni hp
    ·rename_i ho;rw[if_neg ho];exact qtt hp
  ·obtain ⟨c,rfl⟩:=ht.form;refine ⟨rfl,H1.out.1.trans k2,Or.inr ⟨p,?_,ht.low H1.out.1.size⟩⟩;rw[E1.out];rcases qdf (hp _ (qzk s) (s.size+1) (by omega)) with h1 | ⟨l,st2,h1,h2,rfl⟩
   ·rw[h1];rfl
   ·have h3:=(Px.qcs HG.out.1 _ _ _ _ _ _ D1.out.tk h1).2;have h4:=qee (s:=s) h2 ⟨#[125]⟩;rw[h4] at h3;cases h3
 ·obtain ⟨c,rfl⟩:=ht.form;refine ⟨rfl,k1,Or.inr ⟨p,?_,ht⟩⟩;unfold qs6 at hp;unfold Px.block;split at hp
  ·rename_i ho;rw[if_pos ho];obtain ⟨h4,rfl⟩:=qb3 hp;rw[Px.stmts,if_neg (by simp[qee h4]),HG.out.2.1 _ (qo9 h4)]
   rfl
  ·rename_i ho;rw[if_neg ho];exact qtt hp
def RV (w:World):World→Px.Ex→Value→Prop:=fun w' e v=>∃ q,v=Ref.ptr q∧RootAt w' e (Ref.In w w') q
theorem qzx (b:Nat) (s:ByteArray) (eT eN:Addr) (hs:s.size≤maxLen) (st:Px.Ps) (w:World) (r:Rd w b s st eT eN) (hn0:0≤st.nest) (hn1:st.nest+(s.size+1:Nat)≤1000000) :
  Calls Tryz.prog 216 #[.pointer (some ⟨b,0,none⟩)] w (Out b s eT eN w (Px.qa4 s st) (RV w)):=by
 obtain ⟨td,c0,c1,c2,c3,c4,c5,f⟩:=r.cells;have R:Hid (_):=r;clear r;go_enter Tryz.func216,Tryz.ntmps216
 go_wp2_with fail;refine (qrt b s eT eN hs st _ R.out hn0 hn1).mono ?_;rintro e w1 ⟨k1,⟨x,st1,v,he,rfl,hv,r1⟩ | ⟨p,hp,ht⟩⟩
 ·obtain ⟨tl,ql,rfl⟩:=XAt.form hv;have hpl:=qm0 s _ _ _ he;have z:=k1.size;have H1:Hid (Kp b w w1∧Px.qa4 s st=.ok (x,st1)∧XAt w1 x (Ref.In w w1) (.iface tl (Ref.ptr ql))∧Rd w1 b s st1 eT eN∧x.pl=st.t.a):=⟨k1,he,hv,r1,hpl⟩;clear k1 he hv r1 hpl c0 c1 c2 c3 c4 c5 f;unfold Ref.ptr at H1 ⊢;go_wp2_with fail;go_ret;refine ⟨H1.out.1.alloc _,Or.inl ⟨x,st1,_,H1.out.2.1,rfl,⟨w1.heap.size,rfl,⟨z,by simp⟩,tl,ql,?_,?_⟩,H1.out.2.2.2.1.alloc _⟩⟩
  ·rw[H1.out.2.2.2.2];exact new1
  ·exact (H1.out.2.2.1.keep fun i hi=>Below.heap_alloc _ _ _ hi.2).mono fun i hi=>⟨hi.1,by have:=hi.2;simp;omega⟩
 ·obtain ⟨c,rfl⟩:=ht.form;exact ⟨rfl,k1,Or.inr ⟨p,hp,ht⟩⟩
open Go.RowKit
theorem qmx (s:ByteArray) (k:Nat) (st:Px.Ps):Px.kind s k st=(match qda s k st with
  | .error p=>.error p
  | .ok (_,st1)=>.ok st1):=by
 unfold Px.kind qda;split<;>rfl
theorem qmq (s x:ByteArray) (st:Px.Ps):Px.need s x st=(match qcb s x st with
  | .error p=>.error p
  | .ok (_,st1)=>.ok st1):=by
 unfold Px.need qcb;split<;>rfl
theorem qcw {s:ByteArray} {k:Nat} {st st1:Px.Ps} {t:Px.Tok} (h:qda s k st=.ok (t,st1)):t=st.t∧st1=Px.nx s st∧st.t.k=k:=by
 unfold qda at h;split at h
 ·rename_i hk;cases h;exact ⟨rfl,rfl,hk⟩
 ·cases h
theorem qn6 {s x:ByteArray} {st st1:Px.Ps} {u:Unit} (h:qcb s x st=.ok (u,st1)):st1=Px.nx s st∧Px.onB s st.t x=true:=by
 unfold qcb at h;split at h
 ·rename_i hk;cases h;exact ⟨rfl,hk⟩
 ·cases h
theorem qri {s:ByteArray} {k:Nat} {st st1:Px.Ps} {t:Px.Tok} (ht:Px.Tk s st.t) (h0:k≠0) (h63:k≠63) (h:qda s k st=.ok (t,st1)):Px.Good s st st1:=by
 obtain ⟨_,rfl,hk⟩:=qcw h;exact Px.qe5 ht (by omega) (by omega)
theorem qrd {s x:ByteArray} {st st1:Px.Ps} {u:Unit} (ht:Px.Tk s st.t) (h:qcb s x st=.ok (u,st1)):Px.Good s st st1:=by
 obtain ⟨rfl,hk⟩:=qn6 h;exact Px.qaf ht hk
def letT (s:ByteArray) (t:Px.Tok) (e:Px.Ex):Px.Sm:={ Px.qa8 with op:=108,word:=Px.txt s t,pl:=t.a,ex:=some e }
theorem zah (s:ByteArray) (st:Px.Ps):Px.letS s st=andThen (qda s 119 st) fun t st1=>andThen (qcb s ⟨#[61]⟩ st1) fun _ st2=>andThen (Px.qa4 s st2) fun e st3=>andThen (qcb s ⟨#[59]⟩ st3) fun _ st4=>.ok (letT s t e,st4):=by
 unfold Px.letS;rw[qmx];cases h1:qda s 119 st with
 | error p=>rfl
 | ok r =>
  obtain ⟨t,st1⟩:=r;obtain ⟨rfl,_,_⟩:=qcw h1;simp only[andThen];rw[qmq];cases qcb s ⟨#[61]⟩ st1 with
  | error p=>rfl
  | ok r =>
   obtain ⟨u,st2⟩:=r;simp only;cases Px.qa4 s st2 with
   | error p=>rfl
   | ok r =>
    obtain ⟨e,st3⟩:=r;simp only;rw[qmq];cases qcb s ⟨#[59]⟩ st3 with
    | error p=>rfl
    | ok r=>obtain ⟨u,st4⟩:=r;rfl
theorem qv0 (s:ByteArray) (t:Px.Tok):∀ (e:Px.Ex) (st:Px.Ps),st.t.k=63→fin (andThen (qcb s ⟨#[59]⟩ st) fun _ st4=>.ok (letT s t e,st4))=.error st.t.a :=
 fun _ st h=>qan (qc8 s _ st h) fun _ _ h'=>qbt _ h'
theorem qv1 (s:ByteArray) (t:Px.Tok):∀ (_:Unit) (st:Px.Ps),st.t.k=63→fin (andThen (Px.qa4 s st) fun e st3=>andThen (qcb s ⟨#[59]⟩ st3) fun _ st4=>.ok (letT s t e,st4))=.error st.t.a :=
 fun _ st h=>qan (qkv s st h) (qv0 s t)
theorem qv2 (s:ByteArray):∀ (t:Px.Tok) (st:Px.Ps),st.t.k=63→fin (andThen (qcb s ⟨#[61]⟩ st) fun _ st2=>andThen (Px.qa4 s st2) fun e st3=>andThen (qcb s ⟨#[59]⟩ st3) fun _ st4=>.ok (letT s t e,st4))=.error st.t.a :=
 fun t st h=>qan (qc8 s _ st h) (qv1 s t)
def PtrV (w:World) (T:Nat):World→Px.Sm→Value→Prop:=fun w' x v=>∃ q,v=Ref.ptr q∧SAt w' x (Ref.In w w') (.iface T (Ref.ptr q))
theorem zti (b:Nat) (s:ByteArray) (eT eN:Addr) (hs:s.size≤maxLen) (st:Px.Ps) (w:World) (r:Rd w b s st eT eN) (hn0:0≤st.nest) (hn1:st.nest+(s.size+1:Nat)≤1000000) :
  Calls Tryz.prog 182 #[.pointer (some ⟨b,0,none⟩)] w (Out b s eT eN w (Px.letS s st) (PtrV w 247)):=by
 have hb:=r.lt;have R:Hid (_):=r;clear r;have E0:Hid (_=_):=zah s st;go_enter Tryz.func182,Tryz.ntmps182
 go_wp2_with fail;refine (qce b s st eT eN _ R.out hs).mono ?_;rintro e w1 ⟨k1,⟨t,st1,v,h1,rfl,⟨qv,rfl,hv⟩,r1⟩ | ⟨p,hp,ht⟩⟩
 ·have E1:Hid (_=_):=E0.out.trans (then_ok h1);have g1:=qri R.out.tk (by decide) (by decide) h1
  obtain ⟨rfl,_,_⟩:=qcw h1;have H1:Hid (Kp b w w1∧VarAt w1 (s.extract st.t.a st.t.b) st.t.a (Ref.In w w1) qv∧Rd w1 b s st1 eT eN∧Px.Good s st st1):=⟨k1,hv,r1,g1⟩;clear k1 hv r1 h1 g1;unfold Ref.ptr;go_wp2_with fail;refine (qge b s _ st1 eT eN _ H1.out.2.2.1 hs).mono ?_;rintro e w2 ⟨k2,⟨u,st2,v,h2,rfl,rfl,r2⟩ | ⟨p,hp,ht⟩⟩
  ·have E2:Hid (_=_):=E1.out.trans (then_ok h2);have g2:=H1.out.2.2.2.trans (qrd H1.out.2.2.1.tk h2);have H2:Hid (Kp b w1 w2∧Rd w2 b s st2 eT eN∧Px.Good s st st2):=⟨k2,r2,g2⟩;have hn:=g2.nest;clear k2 r2 h2 g2;go_wp2_with fail;refine (qrt b s eT eN hs st2 _ H2.out.2.1 (by omega) (by omega)).mono ?_
   rintro e w3 ⟨k3,⟨x,st3,v,h3,rfl,hv,r3⟩ | ⟨p,hp,ht⟩⟩
   ·have E3:Hid (_=_):=E2.out.trans (then_ok h3);obtain ⟨tl,ql,rfl⟩:=XAt.form hv;have H3:Hid (Kp b w2 w3∧XAt w3 x (Ref.In w2 w3) (.iface tl (Ref.ptr ql))∧Rd w3 b s st3 eT eN):=⟨k3,hv,r3⟩;clear k3 r3 h3 hv;unfold Ref.ptr at H3 ⊢;go_wp2_with fail;refine (qge b s _ st3 eT eN _ H3.out.2.2 hs).mono ?_;rintro e w4 ⟨k4,⟨u,st4,v,h4,rfl,rfl,r4⟩ | ⟨p,hp,ht⟩⟩
    ·have E4:Hid (_=_):=E3.out.trans (then_ok h4);have H4:Hid (Kp b w3 w4∧Rd w4 b s st4 eT eN):=⟨k4,r4⟩;clear k4 r4 h4;go_wp2_with fail;go_ret;have k14:=(H2.out.1.trans H3.out.1).trans H4.out.1;have z1:=H1.out.1.size;have z2:=H2.out.1.size;have z3:=H3.out.1.size;have z4:=H4.out.1.size;refine ⟨(H1.out.1.trans k14).alloc _,Or.inl ⟨_,_,_,E4.out,rfl,⟨w4.heap.size,rfl,?_⟩,H4.out.2.alloc _⟩⟩;refine ⟨.slice none 0 0,.slice none 0 0,[],[],⟨w4.heap.size,⟨by omega,by simp⟩,Or.inl ⟨rfl,rfl,qv,tl,ql,x,new1,?_,rfl,?_⟩⟩,Or.inl ⟨rfl,rfl⟩,LsAt.qbl.2 rfl,Or.inl ⟨rfl,rfl⟩,LsAt.qbl.2 rfl⟩
     ·exact ((H1.out.2.1.keep fun i hi=>(k14.alloc _).block i hi.2 (by have:=hi.1;omega))).mono fun i hi=>⟨hi.1,by have:=hi.2;simp;omega⟩
     ·exact ((H3.out.2.1.keep fun i hi=>(H4.out.1.alloc _).block i hi.2 (by have:=hi.1;omega))).mono fun i hi=>⟨by have:=hi.1;omega,by have:=hi.2;simp;omega⟩
    ·obtain ⟨c,rfl⟩:=ht.form;have k03:=(H1.out.1.trans H2.out.1).trans H3.out.1;exact ⟨rfl,k03.trans k4,Or.inr ⟨p,by rw[E3.out];exact qan hp fun _ _ h=>qbt _ h,ht.low k03.size⟩⟩
   ·obtain ⟨c,rfl⟩:=ht.form;have k02:=H1.out.1.trans H2.out.1;exact ⟨rfl,k02.trans k3,Or.inr ⟨p,by rw[E2.out];exact qan hp (qv0 s _),ht.low k02.size⟩⟩
  ·obtain ⟨c,rfl⟩:=ht.form;exact ⟨rfl,H1.out.1.trans k2,Or.inr ⟨p,by rw[E1.out];exact qan hp (qv1 s _),ht.low H1.out.1.size⟩⟩
 ·obtain ⟨c,rfl⟩:=ht.form;exact ⟨rfl,k1,Or.inr ⟨p,by rw[E0.out];exact qan hp (qv2 s),ht⟩⟩
open Go.RowKit
def argU (s:ByteArray) (x:Px.Sm) (st:Px.Ps):Except Nat (Px.Sm×Px.Ps) :=
 if Px.onB s st.t ⟨#[41]⟩ then .ok (x,Px.nx s st) else andThen (Px.qa4 s st) fun e st'=>andThen (qcb s ⟨#[41]⟩ st') fun _ st''=>.ok ({ x with ex:=some e },st'')
def zc8 (s:ByteArray) (x:Px.Sm) (st:Px.Ps):Except Nat (Px.Sm×Px.Ps):=andThen (qcb s ⟨#[59]⟩ st) fun _ st'=>.ok (x,st')
def qrk (s:ByteArray) (x:Px.Sm) (st:Px.Ps):Except Nat (Px.Sm×Px.Ps):=andThen (Px.qas s x st) (zc8 s)
def zc7 (s:ByteArray) (x:Px.Sm) (st:Px.Ps):Except Nat (Px.Sm×Px.Ps):=andThen (Px.qat s x st) (qrk s)
def kAs (s:ByteArray) (x:Px.Sm) (st:Px.Ps):Except Nat (Px.Sm×Px.Ps):=andThen (Px.qa9 s x st) (zc7 s)
def kArg (s:ByteArray) (x:Px.Sm) (st:Px.Ps):Except Nat (Px.Sm×Px.Ps):=andThen (argU s x st) (kAs s)
def zoy (s:ByteArray) (t:Px.Tok):Px.Sm:={ Px.qa8 with op:=99,word:=Px.txt s t,pl:=t.a,n:=1 }
theorem qt7 (s:ByteArray) (st:Px.Ps):Px.call s st=andThen (qda s 119 st) fun t st1=>andThen (qcb s ⟨#[40]⟩ st1) fun _ st2=>kArg s (zoy s t) st2:=by
 unfold Px.call;rw[qmx];cases h1:qda s 119 st with
 | error p=>rfl
 | ok r =>
  obtain ⟨t,st1⟩:=r;obtain ⟨rfl,_,_⟩:=qcw h1;simp only[andThen];rw[qmq];cases qcb s ⟨#[40]⟩ st1 with
  | error p=>rfl
  | ok r =>
   obtain ⟨u,st2⟩:=r;simp only;unfold kArg argU Px.qaw;have key:∀ (y:Px.Sm) (sa sb:Px.Ps) (_:Px.need s ⟨#[41]⟩ sa=.ok sb),(match Px.need s ⟨#[41]⟩ sa with
     | .error p=>.error p
     | .ok st4=>(match Px.qa9 s y st4 with
      | .error p=>.error p
      | .ok (x5,st5)=>(match Px.qat s x5 st5 with
       | .error p=>.error p
       | .ok (x6,st6)=>(match Px.qas s x6 st6 with
        | .error p=>.error p
        | .ok (x7,st7)=>(match Px.need s ⟨#[59]⟩ st7 with
         | .error p=>(.error p:Except Nat (Px.Sm×Px.Ps))
         | .ok st8=>.ok (x7,st8))))))=kAs s y sb:=by
    intro y sa sb hsb;rw[hsb];simp only[kAs,andThen];cases Px.qa9 s y sb with
    | error p=>rfl
    | ok r =>
     obtain ⟨x5,st5⟩:=r;simp only[zc7,andThen];cases Px.qat s x5 st5 with
     | error p=>rfl
     | ok r =>
      obtain ⟨x6,st6⟩:=r;simp only[qrk,andThen];cases Px.qas s x6 st6 with
      | error p=>rfl
      | ok r =>
       obtain ⟨x7,st7⟩:=r;simp only[zc8,andThen];rw[qmq];cases qcb s ⟨#[59]⟩ st7 with
       | error p=>rfl
       | ok r=>obtain ⟨u,st8⟩:=r;rfl
   by_cases ho:Px.onB s st2.t ⟨#[41]⟩=true
   ·rw[if_pos ho,if_pos ho];exact key _ _ _ (by unfold Px.need;rw[if_pos ho])
   ·rw[if_neg ho,if_neg ho];simp only[andThen];cases Px.qa4 s st2 with
    | error p=>rfl
    | ok r =>
     obtain ⟨e,st3⟩:=r;simp only;by_cases ho':Px.onB s st3.t ⟨#[41]⟩=true
     ·rw[show qcb s ⟨#[41]⟩ st3=.ok ((),Px.nx s st3) from by unfold qcb;rw[if_pos ho']]
      exact key _ _ _ (by unfold Px.need;rw[if_pos ho'])
     ·rw[show qcb s ⟨#[41]⟩ st3=.error st3.t.a from by unfold qcb;rw[if_neg ho'],show Px.need s ⟨#[41]⟩ st3=.error st3.t.a from by unfold Px.need;rw[if_neg ho']]
theorem zvh {s:ByteArray} {x:Px.Sm} {st:Px.Ps} (h:Px.onB s st.t ⟨#[97,115]⟩=true):Px.qa9 s x st=andThen (qda s 119 (Px.nx s st)) fun t st'=>.ok ({ x with asw:=s.extract t.a t.b,asPl:=t.a },st'):=by
 unfold Px.qa9;rw[if_pos h,qmx];cases h1:qda s 119 (Px.nx s st) with
 | error p=>rfl
 | ok r=>obtain ⟨t,st1⟩:=r;obtain ⟨rfl,_,_⟩:=qcw h1;rfl
theorem qw7 {s:ByteArray} {x:Px.Sm} {st:Px.Ps} (h:Px.onB s st.t ⟨#[117,110,100,111]⟩=true):Px.qat s x st=andThen (qda s 119 (Px.nx s st)) fun t st'=>.ok ({ x with undo:=s.extract t.a t.b },st'):=by
 unfold Px.qat;rw[if_pos h,qmx];cases h1:qda s 119 (Px.nx s st) with
 | error p=>rfl
 | ok r=>obtain ⟨t,st1⟩:=r;obtain ⟨rfl,_,_⟩:=qcw h1;rfl
theorem qjy {s:ByteArray} {x:Px.Sm} {st:Px.Ps} (h:Px.onB s st.t ⟨#[116,114,105,101,115]⟩=true):Px.qas s x st=andThen (qda s 110 (Px.nx s st)) fun t st'=>.ok ({ x with n:=Px.valOf (s.extract t.a t.b).toList,nPl:=t.a },st'):=by
 unfold Px.qas;rw[if_pos h,qmx];cases h1:qda s 110 (Px.nx s st) with
 | error p=>rfl
 | ok r=>obtain ⟨t,st1⟩:=r;obtain ⟨rfl,_,_⟩:=qcw h1;rfl
theorem zqz {s:ByteArray} {x:Px.Sm} {st:Px.Ps} (h:Px.onB s st.t ⟨#[97,115]⟩=false):Px.qa9 s x st=.ok (x,st):=by unfold Px.qa9;rw[if_neg (by simp[h])]
theorem qy5 {s:ByteArray} {x:Px.Sm} {st:Px.Ps} (h:Px.onB s st.t ⟨#[117,110,100,111]⟩=false):Px.qat s x st=.ok (x,st):=by unfold Px.qat;rw[if_neg (by simp[h])]
theorem qu2 {s:ByteArray} {x:Px.Sm} {st:Px.Ps} (h:Px.onB s st.t ⟨#[116,114,105,101,115]⟩=false):Px.qas s x st=.ok (x,st):=by unfold Px.qas;rw[if_neg (by simp[h])]
theorem qo3 (s:ByteArray):∀ (x:Px.Sm) (st:Px.Ps),st.t.k=63→fin (zc8 s x st)=.error st.t.a:=fun _ st h=>qan (qc8 s _ st h) fun _ _ h'=>qbt _ h'
theorem qmf (s:ByteArray):∀ (x:Px.Sm) (st:Px.Ps),st.t.k=63→fin (qrk s x st)=.error st.t.a:=fun x st h=>qan (by rw[qu2 (qee h _)];exact qbt _ h) (qo3 s)
theorem qov (s:ByteArray):∀ (x:Px.Sm) (st:Px.Ps),st.t.k=63→fin (zc7 s x st)=.error st.t.a:=fun x st h=>qan (by rw[qy5 (qee h _)];exact qbt _ h) (qmf s)
theorem qum (s:ByteArray):∀ (x:Px.Sm) (st:Px.Ps),st.t.k=63→fin (kAs s x st)=.error st.t.a:=fun x st h=>qan (by rw[zqz (qee h _)];exact qbt _ h) (qov s)
theorem zj3 (s:ByteArray) (x:Px.Sm):Late (argU s x):=by
 intro st h;unfold argU;rw[if_neg (by simp[qee h])]
 exact qan (qkv s st h) fun _ st' h'=>qan (qc8 s _ st' h') fun _ _ h''=>qbt _ h''
theorem qun (s:ByteArray):∀ (x:Px.Sm) (st:Px.Ps),st.t.k=63→fin (kArg s x st)=.error st.t.a:=fun x st h=>qan (zj3 s x st h) (qum s)
def okq (w0 w:World) (q k:Nat):Prop:=Ref.In w0 w k∧k≠q
structure CallSt (b:Nat) (s:ByteArray) (eT eN:Addr) (w0:World) (q:Nat) (x:Px.Sm) (N:Int) (st:Px.Ps) (w:World):Prop where
 kp:Kp b w0 w
 rd:Rd w b s st eT eN
 hq:w0.heap.size≤q
 nest:st.nest=N
 op:x.op=99
 one:x.one=[]
 two:x.two=[]
 cell:∃ pa ps qn,w.heap[q]?=some (.cells #[.string x.word,.pointer pa,.pointer ps,.string x.undo,Ref.ptr qn] 315)∧ArgAt w x.ex (okq w0 w q) (.pointer pa)∧AsAt w x.asw x.asPl (okq w0 w q) (.pointer ps)∧NumAt w x.n x.nPl (okq w0 w q) qn
theorem CallSt.lt {b:Nat} {s:ByteArray} {eT eN:Addr} {w0 w:World} {q:Nat} {x:Px.Sm} {N:Int} {st:Px.Ps} (h:CallSt b s eT eN w0 q x N st w):q < w.heap.size:=by
 obtain ⟨pa,ps,qn,h1,_⟩:=h.cell;exact (Array.getElem?_eq_some_iff.1 h1).1
theorem CallSt.step {b:Nat} {s:ByteArray} {eT eN:Addr} {w0 w w':World} {q:Nat} {x:Px.Sm} {N:Int} {st st':Px.Ps} (hb:b < w0.heap.size) (h:CallSt b s eT eN w0 q x N st w) (k:Kp b w w') (r:Rd w' b s st' eT eN) (hn:st'.nest=st.nest):CallSt b s eT eN w0 q x N st' w':=by
 obtain ⟨pa,ps,qn,h1,h2,h3,h4⟩:=h.cell;have hq:=h.hq;have hk:∀ i,okq w0 w q i→w'.heap[i]?=w.heap[i]?:=fun i hi=>k.block i hi.1.2 (by have:=hi.1.1;omega)
 have hm:∀ i,okq w0 w q i→okq w0 w' q i:=fun i hi=>⟨⟨hi.1.1,Nat.lt_of_lt_of_le hi.1.2 k.size⟩,hi.2⟩
 exact ⟨h.kp.trans k,r,hq,hn.trans h.nest,h.op,h.one,h.two,pa,ps,qn,by rw[k.block q h.lt (by omega)];exact h1,(h2.keep hk).mono hm,(h3.keep hk).mono hm,(h4.keep hk).mono hm⟩
theorem CallSt.put {b:Nat} {s:ByteArray} {eT eN:Addr} {w0 w w':World} {q o:Nat} {x y:Px.Sm} {N:Int} {st st':Px.Ps} {v:Value} (hb:b < w0.heap.size) (h:CallSt b s eT eN w0 q x N st w) (k:Kp b w w') (r:Rd w' b s st' eT eN) (hn:st'.nest=st.nest)
  (hop:y.op=99) (h1:y.one=[]) (h2:y.two=[])
  (hc:∀ pa ps qn,w'.heap[q]?=some (.cells #[.string x.word,.pointer pa,.pointer ps,.string x.undo,Ref.ptr qn] 315)→ArgAt w' x.ex (okq w0 w' q) (.pointer pa)→AsAt w' x.asw x.asPl (okq w0 w' q) (.pointer ps)→NumAt w' x.n x.nPl (okq w0 w' q) qn →
   ∃ pa ps qn,(w'.setCell ⟨q,o,none⟩ v).heap[q]?=some (.cells #[.string y.word,.pointer pa,.pointer ps,.string y.undo,Ref.ptr qn] 315)∧ArgAt w' y.ex (okq w0 w' q) (.pointer pa)∧AsAt w' y.asw y.asPl (okq w0 w' q) (.pointer ps)∧NumAt w' y.n y.nPl (okq w0 w' q) qn) :
  CallSt b s eT eN w0 q y N st' (w'.setCell ⟨q,o,none⟩ v):=by
 have h':=h.step hb k r hn;obtain ⟨pa,ps,qn,e1,e2,e3,e4⟩:=h'.cell;have hq:=h.hq;obtain ⟨pa',ps',qn',f1,f2,f3,f4⟩:=hc pa ps qn e1 e2 e3 e4;have hk:∀ i,okq w0 w' q i→(w'.setCell ⟨q,o,none⟩ v).heap[i]?=w'.heap[i]?:=fun i hi=>Ref.qag _ hi.2
 have hm:∀ i,okq w0 w' q i→okq w0 (w'.setCell ⟨q,o,none⟩ v) q i:=fun i hi=>⟨⟨hi.1.1,by rw[Ref.size_set];exact hi.1.2⟩,hi.2⟩
 exact ⟨h'.kp.setN hq _,r.setT e1 (by decide) (by omega) v,hq,h'.nest,hop,h1,h2,pa',ps',qn',f1,(f2.keep hk).mono hm,(f3.keep hk).mono hm,(f4.keep hk).mono hm⟩
theorem qx1 {w0 w w':World} {q:Nat} (hz:w0.heap.size≤w.heap.size) (hq:q < w.heap.size):∀ i,Ref.In w w' i→okq w0 w' q i:=fun i hi=>⟨⟨by have:=hi.1;omega,hi.2⟩,by have:=hi.1;omega⟩
open Go.RowKit
def qnm (s x:ByteArray) (st:Px.Ps):Px.Ps:=if Px.onB s st.t x then Px.nx s st else st
theorem qmg {s x:ByteArray} {st:Px.Ps} (h:Px.onB s st.t x=true):qnm s x st=Px.nx s st:=by unfold qnm;rw[if_pos h]
theorem qjz {s x:ByteArray} {st:Px.Ps} (h:Px.onB s st.t x=false):qnm s x st=st:=by unfold qnm;rw[if_neg (by simp[h])]
theorem qk1 {s x:ByteArray} {st:Px.Ps}:(qnm s x st).nest=st.nest:=by unfold qnm;split<;>rfl
theorem qk3 (b:Nat) (s x:ByteArray) (st:Px.Ps) (eT eN:Addr) (w:World) (r:Rd w b s st eT eN) (hs:s.size≤maxLen) :
  Calls Tryz.prog 181 #[.pointer (some ⟨b,0,none⟩),.string x] w fun e w'=>Kp b w w'∧((e=.returned (.bool (Px.onB s st.t x))∧Rd w' b s (qnm s x st) eT eN) ∨
   (Px.onB s st.t x=true∧(Px.nx s st).t.k=63∧Thrown w' w.heap.size eT (Px.nx s st).t.a e)):=by
 cases h:Px.onB s st.t x
 ·refine (qbn b s x st eT eN w r h).mono ?_;rintro e w' ⟨rfl,rfl⟩;exact ⟨Kp.refl _ _,Or.inl ⟨rfl,by rw[qjz h];exact r⟩⟩
 ·refine (qek b s x st eT eN w r hs h).mono ?_;rintro e w' ⟨k,⟨u,st1,v,he,rfl,rfl,r1⟩ | ⟨p,hp,ht⟩⟩
  ·cases he;exact ⟨k,Or.inl ⟨rfl,by rw[qmg h];exact r1⟩⟩
  ·obtain ⟨h1,rfl⟩:=qb3 hp;exact ⟨k,Or.inr ⟨rfl,h1,ht⟩⟩
theorem cells5 {w:World} {k:Nat} {a b c d e:Value} {t:TypeId} (hh:w.heap[k]?=some (.cells #[a,b,c,d,e] t)) :
  w.cell? ⟨k,0,none⟩=some a∧w.cell? ⟨k,1,none⟩=some b∧w.cell? ⟨k,2,none⟩=some c∧w.cell? ⟨k,3,none⟩=some d∧w.cell? ⟨k,4,none⟩=some e∧∀ o,w.frozen? ⟨k,o,none⟩=false:=by
 refine ⟨?_,?_,?_,?_,?_,?_⟩<;>simp[World.cell?,World.frozen?,hh]
theorem zkl {s:ByteArray} {st:Px.Ps} (tk:Px.Tk s st.t) (h:st.t.k=119):0 < (s.extract st.t.a st.t.b).size:=by
 have h1:=tk.lt (by omega) (by omega)
 have h2:=tk.le;simp;omega
theorem qt8 (b:Nat) (s:ByteArray) (eT eN:Addr) (hs:s.size≤maxLen) (st:Px.Ps) (w:World) (r:Rd w b s st eT eN) (hn0:0≤st.nest) (hn1:st.nest+(s.size+1:Nat)≤1000000) :
  Calls Tryz.prog 183 #[.pointer (some ⟨b,0,none⟩)] w (Out b s eT eN w (Px.call s st) (PtrV w 258)):=by
 have hb:=r.lt;have R:Hid (_):=r;clear r;have E0:Hid (_=_):=qt7 s st;go_enter Tryz.func183,Tryz.ntmps183
 go_wp2_with fail;refine (qh0 b s st eT eN _ R.out hs).mono ?_;rintro e w1 ⟨k1,⟨t,st1,v,h1,rfl,rfl,r1⟩ | ⟨p,hp,ht⟩⟩
 ·have E1:Hid (_=_):=E0.out.trans (then_ok h1);obtain ⟨rfl,h1e,_⟩:=qcw h1;have H1:Hid (Kp b w w1∧Rd w1 b s st1 eT eN∧st1.nest=st.nest):=⟨k1,r1,by rw[h1e];rfl⟩
  clear k1 r1 h1 h1e;go_wp2_with fail;generalize hQ:w1.heap.size+1=q;have C0:Hid (CallSt b s eT eN w q (zoy s st.t) st.nest st1 ((w1.alloc (.cells #[.int .i64 1,.int .i64 0] 299)).alloc (.cells #[.string (s.extract st.t.a st.t.b),.pointer none,.pointer none,.string ⟨#[]⟩,.pointer (some ⟨w1.heap.size,0,none⟩)] 315))):=by
   have z:=H1.out.1.size;refine ⟨(H1.out.1.alloc _).alloc _,(H1.out.2.1.alloc _).alloc _,by omega,H1.out.2.2,rfl,rfl,rfl,none,none,w1.heap.size,?_,rfl,Or.inl ⟨rfl,rfl⟩,⟨⟨⟨z,by simp;omega⟩,by omega⟩,Ref.qi8⟩⟩
   rw[← hQ];exact new2
  generalize hW:((w1.alloc (.cells #[.int .i64 1,.int .i64 0] 299)).alloc (.cells #[.string (s.extract st.t.a st.t.b),.pointer none,.pointer none,.string ⟨#[]⟩,.pointer (some ⟨w1.heap.size,0,none⟩)] 315))=W;rw[hW] at C0;clear hW H1 hQ;refine (qge b s _ st1 eT eN _ C0.out.rd hs).mono ?_;rintro e w2 ⟨k2,⟨u,st2,v,h2,rfl,rfl,r2⟩ | ⟨p,hp,ht⟩⟩
  ·have E2:Hid (_=_):=E1.out.trans (then_ok h2);have C1:Hid (CallSt b s eT eN w q (zoy s st.t) st.nest st2 w2):=C0.out.step hb k2 r2 (by rw[(qn6 h2).1];rfl)
   clear k2 r2 h2;generalize zoy s st.t=x1 at E2 C1;go_wp2_with fail;refine (qk3 b s _ st2 eT eN _ C1.out.rd hs).mono ?_;rintro e w3 ⟨k3,⟨rfl,r3⟩ | ⟨ho,h63,ht⟩⟩
   ·have C2:Hid (CallSt b s eT eN w q x1 st.nest (qnm s ⟨#[41]⟩ st2) w3):=C1.out.step hb k3 r3 qk1;clear k3 r3 C1;generalize hB:Px.onB s st2.t ⟨#[41]⟩=B;have HB:Hid (_):=hB;clear hB;go_upto_if 14 with fail
    go_cut [3] (fun v wc=>v=.pointer (some ⟨q,0,none⟩)∧Hid (∃ x st',CallSt b s eT eN w q x st.nest st' wc∧Px.call s st=kAs s x st'))
    case first =>
     cases B
     ·rw[qjz HB.out] at C2;go_wp2_with fail;refine (qzx b s eT eN hs _ _ C2.out.rd (by rw[C2.out.nest];omega) (by rw[C2.out.nest];omega)).mono ?_
      rintro e w4 ⟨k4,⟨x,st4,v,h4,rfl,⟨qr,rfl,hv⟩,r4⟩ | ⟨p,hp,ht⟩⟩
      ·have gd:=Px.qbb s _ _ _ C2.out.rd.tk h4;have g4:=C2.out.step hb k4 r4 gd.nest;obtain ⟨pa,ps,qn,g4,_⟩:=g4.cell;obtain ⟨d0,d1,d2,d3,d4,df⟩:=cells5 g4;have hsz:=C2.out.kp.size;have hql:=C2.out.lt;have C3:Hid (CallSt b s eT eN w q { x1 with ex:=some x } st.nest st4 (w4.setCell ⟨q,1,none⟩ (Ref.ptr qr))):=C2.out.put hb k4 r4 gd.nest C2.out.op C2.out.one C2.out.two fun pa ps qn e1 e2 e3 e4 =>
        ⟨some ⟨qr,0,none⟩,ps,qn,by rw[Ref.heap_set _ e1];simp[Ref.ptr],⟨qr,rfl,hv.mono (qx1 hsz hql)⟩,e3,e4⟩
       have E3:Hid (Px.call s st=andThen (andThen (qcb s ⟨#[41]⟩ st4) fun _ st''=>.ok ({ x1 with ex:=some x },st'')) (kAs s)):=by
        unfold Hid;rw[E2.out,kArg,argU,if_neg (by simp[HB.out]),then_ok h4]
       clear g4 hv k4 r4 h4 gd hsz hql;unfold Ref.ptr at *;go_wp2_with fail;refine (qge b s _ st4 eT eN _ C3.out.rd hs).mono ?_;rintro e w5 ⟨k5,⟨u,st5,v,h5,rfl,rfl,r5⟩ | ⟨p,hp,ht⟩⟩
       ·have C4:Hid (CallSt b s eT eN w q { x1 with ex:=some x } st.nest st5 w5):=C3.out.step hb k5 r5 (by rw[(qn6 h5).1];rfl)
        have E4:Hid (Px.call s st=kAs s { x1 with ex:=some x } st5):=E3.out.trans (then_ok (then_ok h5))
        clear k5 r5 h5;go_wp2_with fail;go_meet
        case rel=>exact ⟨rfl,_,_,C4.out,E4.out⟩
       ·obtain ⟨c,rfl⟩:=ht.form;exact ⟨rfl,C3.out.kp.trans k5,Or.inr ⟨p,by rw[E3.out];exact qan (qan hp fun _ _ h=>qbt _ h) (qum s),ht.low C3.out.kp.size⟩⟩
      ·obtain ⟨c,rfl⟩:=ht.form;refine ⟨rfl,C2.out.kp.trans k4,Or.inr ⟨p,?_,ht.low C2.out.kp.size⟩⟩;rw[E2.out,kArg,argU,if_neg (by simp[HB.out])]
       exact qan (qan hp fun _ st' h'=>qan (qc8 s _ st' h') fun _ _ h''=>qbt _ h'') (qum s)
     ·rw[qmg HB.out] at C2;go_wp2_with fail;go_meet
      case rel =>
       exact ⟨rfl,x1,_,C2.out,by rw[E2.out,kArg,argU,if_pos HB.out];rfl⟩
    case rest =>
    obtain ⟨rfl,hcx⟩:=hcut;obtain ⟨xa,sta,Ca,EEa⟩:=hcx.out;have Da:Hid (CallSt b s eT eN w q xa st.nest sta wc∧Px.call s st=kAs s xa sta):=⟨Ca,EEa⟩;clear hcx Ca EEa;go_wp2_with fail;refine (qk3 b s _ sta eT eN _ Da.out.1.rd hs).mono ?_;rintro e w4 ⟨k4,⟨rfl,r4⟩ | ⟨ho,h63,ht⟩⟩
    rotate_left
    ·obtain ⟨c,rfl⟩:=ht.form;exact ⟨rfl,Da.out.1.kp.trans k4,Or.inr ⟨_,by rw[Da.out.2];exact qan (by rw[zvh ho];exact qan (qgm s (by decide) _ h63) fun _ _ h=>qbt _ h) (qov s),ht.low Da.out.1.kp.size⟩⟩
    have Fa:Hid (CallSt b s eT eN w q xa st.nest (qnm s ⟨#[97,115]⟩ sta) w4):=Da.out.1.step hb k4 r4 qk1;clear k4 r4;generalize hB:Px.onB s sta.t ⟨#[97,115]⟩=B;have HB:Hid (_):=hB;clear hB;go_upto_if 23 with fail
    go_cut [3] (fun v wc=>v=.pointer (some ⟨q,0,none⟩)∧Hid (∃ x st',CallSt b s eT eN w q x st.nest st' wc∧Px.call s st=zc7 s x st'))
    case first =>
     cases B
     ·rw[qjz HB.out] at Fa;go_wp2_with fail;go_meet
      case rel=>exact ⟨rfl,xa,sta,Fa.out,Da.out.2.trans (then_ok (zqz HB.out))⟩
     ·rw[qmg HB.out] at Fa;go_wp2_with fail;refine (qce b s (Px.nx s sta) eT eN _ Fa.out.rd hs).mono ?_;rintro e w5 ⟨k5,⟨t,st5,v,h5,rfl,⟨qv,rfl,hv⟩,r5⟩ | ⟨p,hp,ht⟩⟩
      ·have g5:=Fa.out.step hb k5 r5 (by rw[(qcw h5).2.1];rfl)
       obtain ⟨pa,ps,qn,g5,_⟩:=g5.cell;obtain ⟨d0,d1,d2,d3,d4,df⟩:=cells5 g5;have hsz:=Fa.out.kp.size;have hql:=Fa.out.lt;have G:Hid (CallSt b s eT eN w q { xa with asw:=s.extract t.a t.b,asPl:=t.a } st.nest st5 (w5.setCell ⟨q,2,none⟩ (Ref.ptr qv))):=Fa.out.put hb k5 r5 (by rw[(qcw h5).2.1];rfl) Fa.out.op Fa.out.one Fa.out.two fun pa ps qn e1 e2 e3 e4=>⟨pa,some ⟨qv,0,none⟩,qn,by rw[Ref.heap_set _ e1];simp[Ref.ptr],e2,Or.inr ⟨by rw[(qcw h5).1];exact zkl Fa.out.rd.tk (qcw h5).2.2,qv,rfl,hv.mono (qx1 hsz hql)⟩,e4⟩
       have EG:Hid (Px.call s st=zc7 s { xa with asw:=s.extract t.a t.b,asPl:=t.a } st5):=Da.out.2.trans (then_ok (by rw[zvh HB.out];exact then_ok h5))
       clear g5 k5 r5 h5 hsz hql hv;unfold Ref.ptr at *;go_wp2_with fail;go_meet
       case rel=>exact ⟨rfl,_,_,G.out,EG.out⟩
      ·obtain ⟨c,rfl⟩:=ht.form;exact ⟨rfl,Fa.out.kp.trans k5,Or.inr ⟨p,by rw[Da.out.2];exact qan (by rw[zvh HB.out];exact qan hp fun _ _ h=>qbt _ h) (qov s),ht.low Fa.out.kp.size⟩⟩
    case rest =>
    obtain ⟨rfl,hcx⟩:=hcut;obtain ⟨xu,stu,Cu,EEu⟩:=hcx.out;have Du:Hid (CallSt b s eT eN w q xu st.nest stu wc∧Px.call s st=zc7 s xu stu):=⟨Cu,EEu⟩;clear hcx Cu EEu;go_wp2_with fail;refine (qk3 b s _ stu eT eN _ Du.out.1.rd hs).mono ?_;rintro e w4 ⟨k4,⟨rfl,r4⟩ | ⟨ho,h63,ht⟩⟩
    rotate_left
    ·obtain ⟨c,rfl⟩:=ht.form;exact ⟨rfl,Du.out.1.kp.trans k4,Or.inr ⟨_,by rw[Du.out.2];exact qan (by rw[qw7 ho];exact qan (qgm s (by decide) _ h63) fun _ _ h=>qbt _ h) (qmf s),ht.low Du.out.1.kp.size⟩⟩
    have Fu:Hid (CallSt b s eT eN w q xu st.nest (qnm s ⟨#[117,110,100,111]⟩ stu) w4):=Du.out.1.step hb k4 r4 qk1;clear k4 r4;generalize hB:Px.onB s stu.t ⟨#[117,110,100,111]⟩=B;have HB:Hid (_):=hB;clear hB;go_upto_if 30 with fail
    go_cut [3] (fun v wc=>v=.pointer (some ⟨q,0,none⟩)∧Hid (∃ x st',CallSt b s eT eN w q x st.nest st' wc∧Px.call s st=qrk s x st'))
    case first =>
     cases B
     ·rw[qjz HB.out] at Fu;go_wp2_with fail;go_meet
      case rel=>exact ⟨rfl,xu,stu,Fu.out,Du.out.2.trans (then_ok (qy5 HB.out))⟩
     ·rw[qmg HB.out] at Fu;go_wp2_with fail;refine (qh0 b s (Px.nx s stu) eT eN _ Fu.out.rd hs).mono ?_;rintro e w5 ⟨k5,⟨t,st5,v,h5,rfl,rfl,r5⟩ | ⟨p,hp,ht⟩⟩
      ·have g5:=Fu.out.step hb k5 r5 (by rw[(qcw h5).2.1];rfl)
       obtain ⟨pa,ps,qn,g5,_⟩:=g5.cell;obtain ⟨d0,d1,d2,d3,d4,df⟩:=cells5 g5;have hsz:=Fu.out.kp.size;have hql:=Fu.out.lt;have G:Hid (CallSt b s eT eN w q { xu with undo:=s.extract t.a t.b } st.nest st5 (w5.setCell ⟨q,3,none⟩ (.string (s.extract t.a t.b)))):=Fu.out.put hb k5 r5 (by rw[(qcw h5).2.1];rfl) Fu.out.op Fu.out.one Fu.out.two fun pa ps qn e1 e2 e3 e4=>⟨pa,ps,qn,by rw[Ref.heap_set _ e1];simp,e2,e3,e4⟩
       have EG:Hid (Px.call s st=qrk s { xu with undo:=s.extract t.a t.b } st5):=Du.out.2.trans (then_ok (by rw[qw7 HB.out];exact then_ok h5))
       clear g5 k5 r5 h5 hsz hql;unfold Ref.ptr at *;go_wp2_with fail;go_meet
       case rel=>exact ⟨rfl,_,_,G.out,EG.out⟩
      ·obtain ⟨c,rfl⟩:=ht.form;exact ⟨rfl,Fu.out.kp.trans k5,Or.inr ⟨p,by rw[Du.out.2];exact qan (by rw[qw7 HB.out];exact qan hp fun _ _ h=>qbt _ h) (qmf s),ht.low Fu.out.kp.size⟩⟩
    case rest =>
    obtain ⟨rfl,hcx⟩:=hcut;obtain ⟨xr,str,Cr,EEr⟩:=hcx.out;have Dr:Hid (CallSt b s eT eN w q xr st.nest str wc∧Px.call s st=qrk s xr str):=⟨Cr,EEr⟩;clear hcx Cr EEr;go_wp2_with fail;refine (qk3 b s _ str eT eN _ Dr.out.1.rd hs).mono ?_;rintro e w4 ⟨k4,⟨rfl,r4⟩ | ⟨ho,h63,ht⟩⟩
    rotate_left
    ·obtain ⟨c,rfl⟩:=ht.form;exact ⟨rfl,Dr.out.1.kp.trans k4,Or.inr ⟨_,by rw[Dr.out.2];exact qan (by rw[qjy ho];exact qan (qgm s (by decide) _ h63) fun _ _ h=>qbt _ h) (qo3 s),ht.low Dr.out.1.kp.size⟩⟩
    have Fr:Hid (CallSt b s eT eN w q xr st.nest (qnm s ⟨#[116,114,105,101,115]⟩ str) w4):=Dr.out.1.step hb k4 r4 qk1;clear k4 r4;generalize hB:Px.onB s str.t ⟨#[116,114,105,101,115]⟩=B;have HB:Hid (_):=hB;clear hB;go_upto_if 37 with fail
    go_cut [3] (fun v wc=>v=.pointer (some ⟨q,0,none⟩)∧Hid (∃ x st',CallSt b s eT eN w q x st.nest st' wc∧Px.call s st=zc8 s x st'))
    case first =>
     cases B
     ·rw[qjz HB.out] at Fr;go_wp2_with fail;go_meet
      case rel=>exact ⟨rfl,xr,str,Fr.out,Dr.out.2.trans (then_ok (qu2 HB.out))⟩
     ·rw[qmg HB.out] at Fr;go_wp2_with fail;refine (qd2 b s (Px.nx s str) eT eN _ Fr.out.rd hs).mono ?_;rintro e w5 ⟨k5,⟨t,st5,v,h5,rfl,⟨qv,rfl,hv⟩,r5⟩ | ⟨p,hp,ht⟩⟩
      ·have g5:=Fr.out.step hb k5 r5 (by rw[(qcw h5).2.1];rfl)
       obtain ⟨pa,ps,qn,g5,_⟩:=g5.cell;obtain ⟨d0,d1,d2,d3,d4,df⟩:=cells5 g5;have hsz:=Fr.out.kp.size;have hql:=Fr.out.lt;have G:Hid (CallSt b s eT eN w q { xr with n:=Px.valOf (s.extract t.a t.b).toList,nPl:=t.a } st.nest st5 (w5.setCell ⟨q,4,none⟩ (Ref.ptr qv))):=Fr.out.put hb k5 r5 (by rw[(qcw h5).2.1];rfl) Fr.out.op Fr.out.one Fr.out.two fun pa ps qn e1 e2 e3 e4=>⟨pa,ps,qv,by rw[Ref.heap_set _ e1];simp,e2,e3,hv.mono (qx1 hsz hql)⟩
       have EG:Hid (Px.call s st=zc8 s { xr with n:=Px.valOf (s.extract t.a t.b).toList,nPl:=t.a } st5):=Dr.out.2.trans (then_ok (by rw[qjy HB.out];exact then_ok h5))
       clear g5 k5 r5 h5 hsz hql hv;unfold Ref.ptr at *;go_wp2_with fail;go_meet
       case rel=>exact ⟨rfl,_,_,G.out,EG.out⟩
      ·obtain ⟨c,rfl⟩:=ht.form;exact ⟨rfl,Fr.out.kp.trans k5,Or.inr ⟨p,by rw[Dr.out.2];exact qan (by rw[qjy HB.out];exact qan hp fun _ _ h=>qbt _ h) (qo3 s),ht.low Fr.out.kp.size⟩⟩
    case rest =>
    obtain ⟨rfl,hcx⟩:=hcut;obtain ⟨xz,stz,Cz,EEz⟩:=hcx.out;have Dz:Hid (CallSt b s eT eN w q xz st.nest stz wc∧Px.call s st=zc8 s xz stz):=⟨Cz,EEz⟩;clear hcx Cz EEz;go_wp2_with fail;refine (qge b s _ stz eT eN _ Dz.out.1.rd hs).mono ?_;rintro e w8 ⟨k8,⟨u,st8,v,h8,rfl,rfl,r8⟩ | ⟨p,hp,ht⟩⟩
    ·have E8:Hid (Px.call s st=.ok (xz,st8)):=Dz.out.2.trans (then_ok h8);have C8:Hid (CallSt b s eT eN w q xz st.nest st8 w8):=Dz.out.1.step hb k8 r8 (by rw[(qn6 h8).1];rfl)
     clear k8 r8 h8;go_wp2_with fail;go_ret;obtain ⟨pa,ps,qn,g1,g2,g3,g4⟩:=C8.out.cell;have hm:∀ i,okq w w8 q i→Ref.In w w8 i:=fun i hi=>hi.1
     refine ⟨C8.out.kp,Or.inl ⟨xz,st8,_,E8.out,rfl,⟨q,rfl,?_⟩,C8.out.rd⟩⟩;refine ⟨.slice none 0 0,.slice none 0 0,[],[],⟨q,⟨C8.out.hq,C8.out.lt⟩,Or.inr (Or.inl ⟨C8.out.op,rfl,pa,ps,qn,g1,g2.mono hm,g3.mono hm,g4.mono hm⟩)⟩,Or.inl ⟨rfl,rfl⟩,by rw[C8.out.one];exact LsAt.qbl.2 rfl,Or.inl ⟨rfl,rfl⟩,by rw[C8.out.two];exact LsAt.qbl.2 rfl⟩
    ·obtain ⟨c,rfl⟩:=ht.form;exact ⟨rfl,Dz.out.1.kp.trans k8,Or.inr ⟨p,by rw[Dz.out.2];exact qan hp fun _ _ h=>qbt _ h,ht.low Dz.out.1.kp.size⟩⟩
   ·obtain ⟨c,rfl⟩:=ht.form;exact ⟨rfl,C1.out.kp.trans k3,Or.inr ⟨_,by rw[E2.out,kArg,argU,if_pos ho];exact qum s _ _ h63,ht.low C1.out.kp.size⟩⟩
  ·obtain ⟨c,rfl⟩:=ht.form;exact ⟨rfl,C0.out.kp.trans k2,Or.inr ⟨p,by rw[E1.out];exact qan hp fun _ st2 h'=>qun s _ st2 h',ht.low C0.out.kp.size⟩⟩
 ·obtain ⟨c,rfl⟩:=ht.form;exact ⟨rfl,k1,Or.inr ⟨p,by rw[E0.out];exact qan hp fun t st1 h=>qan (qc8 s _ st1 h) fun _ st2 h'=>qun s _ st2 h',ht⟩⟩
end Lg
end Go.Proofs.YtagpnplggopoeaaGreatDoor
