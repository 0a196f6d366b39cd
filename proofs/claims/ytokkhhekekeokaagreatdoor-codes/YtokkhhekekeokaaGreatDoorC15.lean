import Derived.Test.YtokkhhekekeokaaGreatDoorC14
import Derived.Deep.DeepCutAuto
set_option maxRecDepth 100000
set_option maxHeartbeats 4000000
namespace Go.Proofs.YtokkhhekekeokaaGreatDoor
open Go.RowKit Tryz
namespace Lg
open Px Ref
variable {α β:Type}{a b k n p q:Nat}
theorem MN (h:fin (.error q:Except Nat (α×Px.Ps))=.error p):fin (.error q:Except Nat (β×Px.Ps))=.error p:=by
 cases h;rfl
theorem Fy:((kd k:Int) == 3)=(k == 110):=by
 have:=@WV k
 cases h:(k == 110)<;>rw[h] at this<;>simpa using this
theorem IV:((kd k:Int) == 2)=(k == 119):=by
 have:=@WU k
 cases h:(k == 119)<;>rw[h] at this<;>simpa using this
variable {s:fq}{st st' st1:Px.Ps}
theorem Xi (h:Ref.Dom s (n+1) st)(tk:Tk s st'.t)(lt:st.t.a < st'.t.a)(hn:st'.fF=st.fF\/st'.fF=st.fF+1):Ref.Dom s n st':=by
 have h1:=h.room;have h2:=h.n0;have h3:=h.n1;have h4:=tk.ab;have h5:=tk.le;exact ⟨tk,by omega,by omega,by omega⟩
abbrev Qm (b:Nat)(s:fq)(eT eN:Addr)(n:Nat):Prop:=xg b s n eT eN 192 (Px.atom s n)
theorem OV (b:Nat)(s:fq)(eT eN:Addr)(n:Nat)(hs:s.size<=maxLen)(st:Px.Ps)(w:fu)(r:Rd w b s st eT eN)(hk:st.t.k=110) :
  Calls prog 192 #[.pointer (some ⟨b,0,none⟩)] w (Out b s eT eN w (Px.atom s (n+1) st) (XV w)):=by
 obtain ⟨td,c0,c1,c2,c3,c4,c5,f⟩:=r.cells;have R:Hid (_):=r;have t1:((kd st.t.k:Int) == 3)=true:=by rw[Fy,hk];rfl
 have E:Hid (Px.atom s (n+1) st=.ok (Px.leaf 110 (Px.valOf (s.extract st.t.a st.t.b).toList) gM st.t.a,Px.nx s st)/\lT s 110 st=.ok (st.t,Px.nx s st)):=⟨by rw[Px.atom,if_pos hk];rfl,by rw[lT,if_pos hk]⟩
 clear r hk;go_enter func192,ntmps192
 go_wp2_with fail;refine (Af b s st eT eN _ R.o hs).mono ?_;rintro e w1 ⟨k1,⟨x,st1,v,he,rfl,⟨q,rfl,hv⟩,r1⟩ | ⟨p,hp,ht⟩⟩
 ·rw[E.o.2] at he;cases he;have H1:Hid (_/\_/\_):=⟨k1,hv,r1⟩;clear k1 hv r1 c0 c1 c2 c3 c4 c5 f;unfold Ref.ptr;go_wp2_with fail;go_ret;exact ⟨H1.o.1,ak ⟨_,_,_,E.o.1,rfl,⟨q,H1.o.2.1.1,ak ⟨rfl,rfl,H1.o.2.1.2⟩⟩,H1.o.2.2⟩⟩
 ·obtain ⟨c,rfl⟩:=ht.form;exact ⟨rfl,k1,ah ⟨p,by rw[E.o.1];rw[E.o.2] at hp;exact BA hp,ht⟩⟩
theorem OW (b:Nat)(s:fq)(eT eN:Addr)(n:Nat)(hs:s.size<=maxLen)(st:Px.Ps)(w:fu)(r:Rd w b s st eT eN)(hk:st.t.k=119) :
  Calls prog 192 #[.pointer (some ⟨b,0,none⟩)] w (Out b s eT eN w (Px.atom s (n+1) st) (XV w)):=by
 obtain ⟨td,c0,c1,c2,c3,c4,c5,f⟩:=r.cells;have R:Hid (_):=r;have t1:((kd st.t.k:Int) == 3)=false:=by rw[Fy,hk];rfl
 have t2:((kd st.t.k:Int) == 2)=true:=by rw[IV,hk];rfl
 have E:Hid (Px.atom s (n+1) st=.ok (Px.leaf 119 0 (s.extract st.t.a st.t.b) st.t.a,Px.nx s st)/\lT s 119 st=.ok (st.t,Px.nx s st)):=⟨by rw[Px.atom,if_neg (by omega),if_pos hk];rfl,by rw[lT,if_pos hk]⟩
 clear r hk;go_enter func192,ntmps192
 go_wp2_with fail;refine (zw b s st eT eN _ R.o hs).mono ?_;rintro e w1 ⟨k1,⟨x,st1,v,he,rfl,⟨q,rfl,hv⟩,r1⟩ | ⟨p,hp,ht⟩⟩
 ·rw[E.o.2] at he;cases he;have H1:Hid (_/\_/\_):=⟨k1,hv,r1⟩;clear k1 hv r1 c0 c1 c2 c3 c4 c5 f;unfold Ref.ptr;go_wp2_with fail;go_ret;exact ⟨H1.o.1,ak ⟨_,_,_,E.o.1,rfl,⟨q,H1.o.2.1.1,ah (ak ⟨rfl,rfl,H1.o.2.1.2⟩)⟩,H1.o.2.2⟩⟩
 ·obtain ⟨c,rfl⟩:=ht.form;exact ⟨rfl,k1,ah ⟨p,by rw[E.o.1];rw[E.o.2] at hp;exact BA hp,ht⟩⟩
theorem OX (b:Nat)(s:fq)(eT eN:Addr)(n:Nat)(hs:s.size<=maxLen)(st:Px.Ps)(w:fu)(r:Rd w b s st eT eN)(h1:gy s st.t ⟨#[116,114,117,101]⟩=true) :
  Calls prog 192 #[.pointer (some ⟨b,0,none⟩)] w (Out b s eT eN w (Px.atom s (n+1) st) (XV w)):=by
 obtain ⟨td,c0,c1,c2,c3,c4,c5,f⟩:=r.cells;have R:Hid (_):=r;have hk:=sU h1;have t1:((kd st.t.k:Int) == 3)=false:=by rw[Fy,hk];rfl
 have t2:((kd st.t.k:Int) == 2)=false:=by rw[IV,hk];rfl
 have E:Hid (Px.atom s (n+1) st=.ok (Px.leaf 116 1 gM st.t.a,Px.nx s st)):=by unfold Hid;rw[Px.atom,if_neg (by omega),if_neg (by omega),if_pos h1]
 clear r hk;go_enter func192,ntmps192
 go_wp2_with fail;refine (wY b s _ st eT eN _ R.o hs h1).mono ?_;rintro e w1 ⟨k1,⟨x,st1,v,he,rfl,rfl,r1⟩ | ⟨p,hp,ht⟩⟩
 ·cases he;have H1:Hid (_/\_):=⟨k1,r1⟩;have z:=k1.size;clear k1 r1 c0 c1 c2 c3 c4 c5 f;go_wp2_with fail;go_ret;exact ⟨H1.o.1.alloc _,ak ⟨_,_,_,E.o,rfl,⟨w1.heap.size,⟨z,by simp⟩,ah (ah ⟨rfl,rfl,new1⟩)⟩,H1.o.2.alloc _⟩⟩
 ·obtain ⟨c,rfl⟩:=ht.form;exact ⟨rfl,k1,ah ⟨p,by rw[E.o];exact BA hp,ht⟩⟩
theorem OY (b:Nat)(s:fq)(eT eN:Addr)(n:Nat)(hs:s.size<=maxLen)(st:Px.Ps)(w:fu)(r:Rd w b s st eT eN)(h1:gy s st.t ⟨#[116,114,117,101]⟩=false)(h2:gy s st.t ⟨#[102,97,108,115,101]⟩=true) :
  Calls prog 192 #[.pointer (some ⟨b,0,none⟩)] w (Out b s eT eN w (Px.atom s (n+1) st) (XV w)):=by
 obtain ⟨td,c0,c1,c2,c3,c4,c5,f⟩:=r.cells;have R:Hid (_):=r;have hk:=sU h2;have t1:((kd st.t.k:Int) == 3)=false:=by rw[Fy,hk];rfl
 have t2:((kd st.t.k:Int) == 2)=false:=by rw[IV,hk];rfl
 have E:Hid (Px.atom s (n+1) st=.ok (Px.leaf 116 0 gM st.t.a,Px.nx s st)):=by unfold Hid;rw[Px.atom,if_neg (by omega),if_neg (by omega),if_neg (by simp[h1]),if_pos h2]
 clear r hk;go_enter func192,ntmps192
 go_wp2_with fail;refine (nV b s _ st eT eN _ R.o h1).mono ?_;rintro e w1 ⟨rfl,rfl⟩;go_wp2_with fail;refine (wY b s _ st eT eN _ R.o hs h2).mono ?_;rintro e w1 ⟨k1,⟨x,st1,v,he,rfl,rfl,r1⟩ | ⟨p,hp,ht⟩⟩
 ·cases he;have H1:Hid (_/\_):=⟨k1,r1⟩;have z:=k1.size;clear k1 r1 c0 c1 c2 c3 c4 c5 f;go_wp2_with fail;go_ret;exact ⟨H1.o.1.alloc _,ak ⟨_,_,_,E.o,rfl,⟨w1.heap.size,⟨z,by simp⟩,ah (ah ⟨rfl,rfl,new1⟩)⟩,H1.o.2.alloc _⟩⟩
 ·obtain ⟨c,rfl⟩:=ht.form;exact ⟨rfl,k1,ah ⟨p,by rw[E.o];exact BA hp,ht⟩⟩
theorem OZ (b:Nat)(s:fq)(eT eN:Addr)(n:Nat)(ih:Qm b s eT eN n)(hs:s.size<=maxLen)(st:Px.Ps)(w:fu)(hD:Ref.Dom s (n+1) st)(r:Rd w b s st eT eN)(h1:gy s st.t ⟨#[116,114,117,101]⟩=false)(h2:gy s st.t ⟨#[102,97,108,115,101]⟩=false)(h3:gy s st.t ⟨#[110,111,116]⟩=true) :
  Calls prog 192 #[.pointer (some ⟨b,0,none⟩)] w (Out b s eT eN w (Px.atom s (n+1) st) (XV w)):=by
 obtain ⟨td,c0,c1,c2,c3,c4,c5,f⟩:=r.cells;have hb:=r.lt;have R:Hid (Rd w b s st eT eN/\Qm b s eT eN n):=⟨r,ih⟩;have hk:=sU h3;have t1:((kd st.t.k:Int) == 3)=false:=by rw[Fy,hk];rfl
 have t2:((kd st.t.k:Int) == 2)=false:=by rw[IV,hk];rfl
 have E:Hid (Px.atom s (n+1) st=match Px.atom s n (Px.nx s st) with
   | .error p=>.error p
   | .ok (k,st')=>.ok (⟨33,0,gM,st.t.a,st.t.a,some k,none⟩,st')):=by unfold Hid;rw[Px.atom,if_neg (by omega),if_neg (by omega),if_neg (by simp[h1]),if_neg (by simp[h2]),if_pos h3];cases Px.atom s n (Px.nx s st)<;>rfl
 have D1:Hid (Ref.Dom s n (Px.nx s st)):=Xi hD (gX hD.tk h3).tk (gX hD.tk h3).lt (ak rfl);clear r hk ih hD;go_enter func192,ntmps192
 go_wp2_with fail;refine (nV b s _ st eT eN _ R.o.1 h1).mono ?_;rintro e w1 ⟨rfl,rfl⟩;go_wp2_with fail;refine (nV b s _ st eT eN _ R.o.1 h2).mono ?_;rintro e w1 ⟨rfl,rfl⟩;go_wp2_with fail;refine (wY b s _ st eT eN _ R.o.1 hs h3).mono ?_;rintro e w1 ⟨k1,⟨x,st1,v,he,rfl,rfl,r1⟩ | ⟨p,hp,ht⟩⟩
 ·cases he;have H1:Hid (_/\_):=⟨k1,r1⟩;clear k1 r1 c0 c1 c2 c3 c4 c5 f;go_wp2_with fail;refine (R.o.2 (Px.nx s st) _ D1.o H1.o.2).mono ?_;rintro e w2 ⟨k2,⟨x,st2,v,he,rfl,hv,r2⟩ | ⟨p,hp,ht⟩⟩
  ·obtain ⟨tl,ql,rfl⟩:=jv.form hv;have E2:Hid (Px.atom s (n+1) st=.ok (⟨33,0,gM,st.t.a,st.t.a,some x,none⟩,st2)):=by unfold Hid;rw[E.o,he]
   have z1:=H1.o.1.size;have z2:=k2.size;have X2:Hid (jv w2 x (Ref.In w1 w2) (.iface tl (Ref.ptr ql))/\Kp b w1 w2/\Rd w2 b s st2 eT eN):=⟨hv,k2,r2⟩;clear he hv k2 r2;unfold Ref.ptr at X2 |-;go_wp2_with fail;go_ret;refine ⟨(H1.o.1.trans X2.o.2.1).alloc _,ak ⟨_,_,_,E2.o,rfl,?_,X2.o.2.2.alloc _⟩⟩;refine ⟨rfl,w2.heap.size,tl,ql,⟨by omega,by simp⟩,rfl,new1,?_⟩
   exact (X2.o.1.keep fun i hi=>aD _ _ _ hi.2).mono fun i hi=>⟨by have:=hi.1;omega,by have:=hi.2;simp;omega⟩
  ·obtain ⟨c,rfl⟩:=ht.form;refine ⟨rfl,H1.o.1.trans k2,ah ⟨p,?_,ht.low H1.o.1.size⟩⟩;rw[E.o];rcases wZ hp with h4 | ⟨y,gV,h4,h5,rfl⟩
   ·rw[h4];rfl
   ·rw[h4];exact mJ _ h5
 ·obtain ⟨c,rfl⟩:=ht.form;refine ⟨rfl,k1,ah ⟨p,?_,ht⟩⟩;obtain ⟨h4,rfl⟩:=rR hp;rw[E.o];rcases wZ (IQ s n _ h4) with h5 | ⟨y,gV,h5,h6,h7⟩
  ·rw[h5];rfl
  ·rw[h5,h7];exact mJ _ h6
def uO (s:fq)(a:Nat)(r:Except Nat (Px.Ex×Px.Ps)):Except Nat (Px.Ex×Px.Ps) :=
 match r with
 | .error p=>.error p
 | .ok (e,st')=>if gy s st'.t ⟨#[41]⟩ then .ok ({ e with pl:=a },qy (Px.nx s st')) else .error st'.t.a
theorem Xj {r:Except Nat (Px.Ex×Px.Ps)}(h:fin r=.error p):fin (uO s a r)=.error p:=by
 rcases wZ h with rfl | ⟨x,st,rfl,h1,rfl⟩
 ·rfl
 ·unfold uO;simp only;rw[if_neg (by simp[q9 h1])];rfl
theorem O7 (b:Nat)(s:fq)(eT eN:Addr)(n:Nat)(ih:xg b s n eT eN 172 (Px.expr s (Px.atom s n)))(hs:s.size<=maxLen)(st:Px.Ps)(w:fu)(hD:Ref.Dom s (n+1) st)(r:Rd w b s st eT eN)(h0:¬ st.t.k=110)(h0':¬ st.t.k=119)(h1:gy s st.t ⟨#[116,114,117,101]⟩=false)(h2:gy s st.t ⟨#[102,97,108,115,101]⟩=false)(h3:gy s st.t ⟨#[110,111,116]⟩=false) :
  Calls prog 192 #[.pointer (some ⟨b,0,none⟩)] w (Out b s eT eN w (Px.atom s (n+1) st) (XV w)):=by
 obtain ⟨td,c0,c1,c2,c3,c4,c5,f⟩:=r.cells;have hb:=r.lt;have R:Hid (Rd w b s st eT eN/\xg b s n eT eN 172 (Px.expr s (Px.atom s n))):=⟨r,ih⟩;have t1:((kd st.t.k:Int) == 3)=false:=by rw[Fy];simpa using h0
 have t2:((kd st.t.k:Int) == 2)=false:=by rw[IV];simpa using h0'
 have E:Hid (Px.atom s (n+1) st=if gy s st.t ⟨#[40]⟩=true then uO s st.t.a (Px.expr s (Px.atom s n) (Px.nx s (Px.dn st))) else .error st.t.a):=by
  unfold Hid;rw[Px.atom,if_neg h0,if_neg h0',if_neg (by simp[h1]),if_neg (by simp[h2]),if_neg (by simp[h3])]
  split
  ·unfold uO;cases Px.expr s (Px.atom s n) (Px.nx s (Px.dn st))<;>rfl
  ·rfl
 have HD:Hid (_):=hD;have hn0:=hD.n0;have hn1:st.fF<=1000000:=by have:=hD.n1;omega
 clear r h0 h0' ih hD;go_enter func192,ntmps192
 go_wp2_with fail;refine (nV b s _ st eT eN _ R.o.1 h1).mono ?_;rintro e w1 ⟨rfl,rfl⟩;go_wp2_with fail;refine (nV b s _ st eT eN _ R.o.1 h2).mono ?_;rintro e w1 ⟨rfl,rfl⟩;go_wp2_with fail;refine (nV b s _ st eT eN _ R.o.1 h3).mono ?_;rintro e w1 ⟨rfl,rfl⟩;go_wp2_with fail;refine (WY b s _ st eT eN _ R.o.1 hs hn0 hn1).mono ?_;rintro e w1 ⟨k1,⟨x,st1,v,he,rfl,rfl,r1⟩ | ⟨p,hp,ht⟩⟩
 ·have ho:gy s st.t ⟨#[40]⟩=true/\st1=Px.nx s (Px.dn st):=by
   unfold Ag at he;split at he
   ·rename_i ho;cases he;exact ⟨ho,rfl⟩
   ·cases he
  obtain ⟨ho,rfl⟩:=ho;have E1:Hid (Px.atom s (n+1) st=uO s st.t.a (Px.expr s (Px.atom s n) (Px.nx s (Px.dn st)))):=by unfold Hid;rw[E.o,if_pos ho]
  have D1:Hid (Ref.Dom s n (Px.nx s (Px.dn st))):=Xi HD.o (gX HD.o.tk ho).tk (gX HD.o.tk ho).lt (ah rfl);have H1:Hid (_/\_):=⟨k1,r1⟩;clear k1 r1 c0 c1 c2 c3 c4 c5 f ho he;go_wp2_with fail;refine (R.o.2 _ _ D1.o H1.o.2).mono ?_;rintro e w2 ⟨k2,⟨x,st2,v,he,rfl,hv,r2⟩ | ⟨p,hp,ht⟩⟩
  ·obtain ⟨tl,ql,rfl⟩:=jv.form hv;have gd:=A9 (qA s n) _ _ _ D1.o.tk he;have gn:st2.fF=st.fF+1:=gd.fF;have X2:Hid (jv w2 x (Ref.In w1 w2) (.iface tl (Ref.ptr ql))/\Kp b w1 w2/\Rd w2 b s st2 eT eN/\Px.expr s (Px.atom s n) (Px.nx s (Px.dn st))=.ok (x,st2)):=⟨hv,k2,r2,he⟩;clear he hv k2 r2 gd;unfold Ref.ptr at X2 |-;go_wp2_with fail;refine (WZ b s _ st2 eT eN _ X2.o.2.2.1 hs (by omega) (by omega)).mono ?_
   rintro e w3 ⟨k3,⟨u,gV,v,he,rfl,rfl,r3⟩ | ⟨p,hp,ht⟩⟩
   ·have ho:gy s st2.t ⟨#[41]⟩=true/\gV=qy (Px.nx s st2):=by
     unfold Ah at he;split at he
     ·rename_i ho;cases he;exact ⟨ho,rfl⟩
     ·cases he
    obtain ⟨ho,rfl⟩:=ho;have E3:Hid (Px.atom s (n+1) st=.ok ({ x with pl:=st.t.a },qy (Px.nx s st2))):=by unfold Hid;rw[E1.o,X2.o.2.2.2];unfold uO;simp only;rw[if_pos ho]
    have H3:Hid (_/\_):=⟨k3,r3⟩;have z1:=H1.o.1.size;clear k3 r3 ho he;go_wp2_with fail;go_ret;have k12:=X2.o.2.1.trans H3.o.1;refine ⟨H1.o.1.trans k12,ak ⟨_,_,_,E3.o,rfl,?_,H3.o.2⟩⟩;exact jv.fE ((jv.kp X2.o.1 (by omega) H3.o.1).mono fun i hi=>⟨by have:=hi.1;omega,hi.2⟩) _
   ·obtain ⟨c,rfl⟩:=ht.form;refine ⟨rfl,(H1.o.1.trans X2.o.2.1).trans k3,ah ⟨p,?_,ht.low (H1.o.1.trans X2.o.2.1).size⟩⟩;rw[E1.o,X2.o.2.2.2];unfold Ah at hp;unfold uO;simp only;split at hp
    ·rename_i ho;rw[if_pos ho];exact BA hp
    ·rename_i ho;rw[if_neg ho];exact MN hp
  ·obtain ⟨c,rfl⟩:=ht.form;exact ⟨rfl,H1.o.1.trans k2,ah ⟨p,by rw[E1.o];exact Xj hp,ht.low H1.o.1.size⟩⟩
 ·obtain ⟨c,rfl⟩:=ht.form;refine ⟨rfl,k1,ah ⟨p,?_,ht⟩⟩;rw[E.o];unfold Ag at hp;split at hp
  ·rename_i ho;rw[if_pos ho];obtain ⟨h4,rfl⟩:=rR hp;exact Xj (Xc s (IQ s n) _ h4)
  ·rename_i ho;rw[if_neg ho];exact MN hp
theorem Th (b:Nat)(s:fq)(eT eN:Addr)(hs:s.size<=maxLen)(n:Nat):Qm b s eT eN n:=by
 induction n with
 | zero=>intro st w hD r;have:=hD.room;omega
 | succ n ih =>
  intro st w hD r;by_cases h0:st.t.k=110
  ·exact OV b s eT eN n hs st w r h0
  ·by_cases h0':st.t.k=119
   ·exact OW b s eT eN n hs st w r h0'
   ·cases h1:gy s st.t ⟨#[116,114,117,101]⟩
    ·cases h2:gy s st.t ⟨#[102,97,108,115,101]⟩
     ·cases h3:gy s st.t ⟨#[110,111,116]⟩
      ·exact O7 b s eT eN n (Dv b s n eT eN _ ih (qA s n) (IQ s n) hs) hs st w hD r h0 h0' h1 h2 h3
      ·exact OZ b s eT eN n ih hs st w hD r h1 h2 h3
     ·exact OY b s eT eN n hs st w r h1 h2
    ·exact OX b s eT eN n hs st w r h1
theorem Xk (b:Nat)(s:fq)(eT eN:Addr)(hs:s.size<=maxLen)(st:Px.Ps)(w:fu)(r:Rd w b s st eT eN)(hn0:0<=st.fF)(hn1:st.fF+(s.size+1:Nat)<=1000000) :
  Calls prog 172 #[.pointer (some ⟨b,0,none⟩)] w (Out b s eT eN w (jN s st) (XV w)) :=
 Dv b s (s.size+1) eT eN _ (Th b s eT eN hs (s.size+1)) (qA s _) (IQ s _) hs st w ⟨r.tk,by omega,hn0,hn1⟩ r
def kg (w:fu)(v:fC)(vs:List fC)(ok:Nat->Prop):Prop :=
 (v=.slice none 0 0/\vs=[]) \/
 ∃ g cap cur,v=.slice (some ⟨g,0,none⟩) vs.length cap/\ok g/\w.heap[g]?=some (.cells cur 176)/\vs.length<=cap/\cap<=maxLen/\cur.size=cap/\cur.toList.take vs.length=vs
def jK (w:fu)(e:Px.Ex)(ok:Nat->Prop)(q:Nat):Prop:=ok q/\∃ tl ql,w.heap[q]?=some (.cells #[.iface tl (Ref.ptr ql),.int .i64 (e.pl:Int)] 305)/\jv w e ok (.iface tl (Ref.ptr ql))
def kZ (w:fu)(x:Option Px.Ex)(ok:Nat->Prop)(v:fC):Prop :=
 match x with
 | none=>v=.pointer none
 | some e=>∃ q,v=Ref.ptr q/\jK w e ok q
def qc (w:fu)(x:fq)(a:Nat)(ok:Nat->Prop)(v:fC):Prop:=(x.size=0/\v=.pointer none)\/(0 < x.size/\∃ q,v=Ref.ptr q/\jQ w x a ok q)
def Nd (w:fu)(x:Sm)(ok:Nat->Prop)(v v1 v2:fC):Prop :=
 ∃ q,ok q /\
 ((x.op=108/\v=.iface 226 (Ref.ptr q)/\∃ qv tl ql e,w.heap[q]?=some (.cells #[Ref.ptr qv,.iface tl (Ref.ptr ql)] 232)/\jQ w x.fD x.pl ok qv/\x.ex=some e/\jv w e ok (.iface tl (Ref.ptr ql))) \/
  (x.op=99/\v=.iface 237 (Ref.ptr q)/\∃ pa ps qn,w.heap[q]?=some (.cells #[.string x.fD,.pointer pa,.pointer ps,.string x.undo,Ref.ptr qn] 303)/\kZ w x.ex ok (.pointer pa)/\qc w x.gu x.fZ ok (.pointer ps)/\ji w x.n x.gG ok qn) \/
  (x.op=105/\v=.iface 239 (Ref.ptr q)/\∃ qr e,w.heap[q]?=some (.cells #[Ref.ptr qr,v1,v2] 307)/\x.ex=some e/\jK w e ok qr) \/
  (x.op=116/\v=.iface 241 (Ref.ptr q)/\w.heap[q]?=some (.cells #[v1,v2] 310)) \/
  (x.op=114/\v=.iface 243 (Ref.ptr q)/\∃ qn,w.heap[q]?=some (.cells #[Ref.ptr qn,v1] 280)/\ji w x.n x.gG ok qn) \/
  (x.op=102/\v=.iface 245 (Ref.ptr q)))
def gF (w:fu):List Sm->(Nat->Prop)->List fC->Prop
 | [],_,vs=>vs=[]
 | ⟨op,fD,pl,ex,av,fZ,undo,n,gG,one,two⟩::rest,ok,vs=>∃ v vs',vs=v::vs'/\gF w rest ok vs'/\∃ v1 v2 u1 u2,Nd w ⟨op,fD,pl,ex,av,fZ,undo,n,gG,[],[]⟩ ok v v1 v2/\kg w v1 u1 ok/\gF w one ok u1/\kg w v2 u2 ok/\gF w two ok u2
variable {w w' w0:fu}{ok ok':Nat->Prop}{vs:List fC}
theorem gF.nQ:gF w [] ok vs↔vs=[]:=by rw[gF]
def nS (w:fu)(x:Sm)(ok:Nat->Prop)(v:fC):Prop :=
 ∃ v1 v2 u1 u2,Nd w x ok v v1 v2/\kg w v1 u1 ok/\gF w x.one ok u1/\kg w v2 u2 ok/\gF w x.two ok u2
variable {x:Sm}{l rest:List Sm}
theorem gF.sW:gF w (x::rest) ok vs↔∃ v vs',vs=v::vs'/\gF w rest ok vs'/\nS w x ok v:=by
 obtain ⟨op,fD,pl,ex,av,fZ,undo,n,gG,one,two⟩:=x;rw[gF];rfl
variable {v:fC}
theorem gF.cons (h:nS w x ok v)(hr:gF w rest ok vs):gF w (x::rest) ok (v::vs) :=
 gF.sW.2 ⟨v,vs,rfl,hr,h⟩
theorem gF.snoc (h:gF w l ok vs)(hx:nS w x ok v):gF w (l++[x]) ok (vs++[v]):=by
 induction l generalizing vs with
 | nil=>cases gF.nQ.1 h;exact gF.cons hx (gF.nQ.2 rfl)
 | cons y l ih =>
  obtain ⟨v',vs',rfl,h1,h2⟩:=gF.sW.1 h;exact gF.cons h2 (ih h1)
theorem jQ.mono {x:fq}(h:jQ w x a ok q)(hk:∀ k,ok k->ok' k):jQ w x a ok' q:=⟨hk _ h.1,h.2⟩
theorem jQ.keep {x:fq}(h:jQ w x a ok q)(hk:∀ k,ok k->w'.heap[k]?=w.heap[k]?):jQ w' x a ok q:=⟨h.1,by rw[hk _ h.1];exact h.2⟩
theorem ji.mono (h:ji w n a ok q)(hk:∀ k,ok k->ok' k):ji w n a ok' q:=⟨hk _ h.1,h.2⟩
theorem ji.keep (h:ji w n a ok q)(hk:∀ k,ok k->w'.heap[k]?=w.heap[k]?):ji w' n a ok q:=⟨h.1,by rw[hk _ h.1];exact h.2⟩
theorem jK.mono {w:fu}{e:Px.Ex}{q:Nat}{ok ok':Nat->Prop}(h:jK w e ok q)(hk:∀ k,ok k->ok' k):jK w e ok' q:=by
 obtain ⟨h1,tl,ql,h2,h3⟩:=h;exact ⟨hk _ h1,tl,ql,h2,h3.mono hk⟩
theorem jK.keep {w w':fu}{e:Px.Ex}{q:Nat}{ok:Nat->Prop}(h:jK w e ok q)(hk:∀ k,ok k->w'.heap[k]?=w.heap[k]?):jK w' e ok q:=by
 obtain ⟨h1,tl,ql,h2,h3⟩:=h;exact ⟨h1,tl,ql,by rw[hk _ h1];exact h2,h3.keep hk⟩
theorem kZ.mono {w:fu}{x:Option Px.Ex}{v:fC}{ok ok':Nat->Prop}(h:kZ w x ok v)(hk:∀ k,ok k->ok' k):kZ w x ok' v:=by
 cases x with
 | none=>exact h
 | some e=>obtain ⟨q,h1,h2⟩:=h;exact ⟨q,h1,h2.mono hk⟩
theorem kZ.keep {w w':fu}{x:Option Px.Ex}{v:fC}{ok:Nat->Prop}(h:kZ w x ok v)(hk:∀ k,ok k->w'.heap[k]?=w.heap[k]?):kZ w' x ok v:=by
 cases x with
 | none=>exact h
 | some e=>obtain ⟨q,h1,h2⟩:=h;exact ⟨q,h1,h2.keep hk⟩
theorem qc.mono {w:fu}{x:fq}{a:Nat}{v:fC}{ok ok':Nat->Prop}(h:qc w x a ok v)(hk:∀ k,ok k->ok' k):qc w x a ok' v:=by
 rcases h with h | ⟨h0,q,h1,h2⟩
 ·exact ak h
 ·exact ah ⟨h0,q,h1,h2.mono hk⟩
theorem qc.keep {w w':fu}{x:fq}{a:Nat}{v:fC}{ok:Nat->Prop}(h:qc w x a ok v)(hk:∀ k,ok k->w'.heap[k]?=w.heap[k]?):qc w' x a ok v:=by
 rcases h with h | ⟨h0,q,h1,h2⟩
 ·exact ak h
 ·exact ah ⟨h0,q,h1,h2.keep hk⟩
theorem Nd.mono {w:fu}{x:Sm}{v v1 v2:fC}{ok ok':Nat->Prop}(h:Nd w x ok v v1 v2)(hk:∀ k,ok k->ok' k):Nd w x ok' v v1 v2:=by
 obtain ⟨q,hq,⟨h0,h1,qv,tl,ql,e,h2,h3,h4,h5⟩ | ⟨h0,h1,pa,ps,qn,h2,h3,h4,h5⟩ | ⟨h0,h1,qr,e,h2,h3,h4⟩ | ⟨h0,h1,h2⟩ | ⟨h0,h1,qn,h2,h3⟩ | ⟨h0,h1⟩⟩:=h
 ·exact ⟨q,hk _ hq,ak ⟨h0,h1,qv,tl,ql,e,h2,h3.mono hk,h4,h5.mono hk⟩⟩
 ·exact ⟨q,hk _ hq,ah (ak ⟨h0,h1,pa,ps,qn,h2,h3.mono hk,h4.mono hk,h5.mono hk⟩)⟩
 ·exact ⟨q,hk _ hq,ah (ah (ak ⟨h0,h1,qr,e,h2,h3,h4.mono hk⟩))⟩
 ·exact ⟨q,hk _ hq,ah (ah (ah (ak ⟨h0,h1,h2⟩)))⟩
 ·exact ⟨q,hk _ hq,ah (ah (ah (ah (ak ⟨h0,h1,qn,h2,h3.mono hk⟩))))⟩
 ·exact ⟨q,hk _ hq,ah (ah (ah (ah (ah ⟨h0,h1⟩))))⟩
theorem Nd.keep {w w':fu}{x:Sm}{v v1 v2:fC}{ok:Nat->Prop}(h:Nd w x ok v v1 v2)(hk:∀ k,ok k->w'.heap[k]?=w.heap[k]?):Nd w' x ok v v1 v2:=by
 obtain ⟨q,hq,⟨h0,h1,qv,tl,ql,e,h2,h3,h4,h5⟩ | ⟨h0,h1,pa,ps,qn,h2,h3,h4,h5⟩ | ⟨h0,h1,qr,e,h2,h3,h4⟩ | ⟨h0,h1,h2⟩ | ⟨h0,h1,qn,h2,h3⟩ | ⟨h0,h1⟩⟩:=h
 ·exact ⟨q,hq,ak ⟨h0,h1,qv,tl,ql,e,by rw[hk _ hq];exact h2,h3.keep hk,h4,h5.keep hk⟩⟩
 ·exact ⟨q,hq,ah (ak ⟨h0,h1,pa,ps,qn,by rw[hk _ hq];exact h2,h3.keep hk,h4.keep hk,h5.keep hk⟩)⟩
 ·exact ⟨q,hq,ah (ah (ak ⟨h0,h1,qr,e,by rw[hk _ hq];exact h2,h3,h4.keep hk⟩))⟩
 ·exact ⟨q,hq,ah (ah (ah (ak ⟨h0,h1,by rw[hk _ hq];exact h2⟩)))⟩
 ·exact ⟨q,hq,ah (ah (ah (ah (ak ⟨h0,h1,qn,by rw[hk _ hq];exact h2,h3.keep hk⟩))))⟩
 ·exact ⟨q,hq,ah (ah (ah (ah (ah ⟨h0,h1⟩))))⟩
theorem kg.mono (h:kg w v vs ok)(hk:∀ k,ok k->ok' k):kg w v vs ok':=by
 rcases h with h | ⟨g,cap,cur,h1,h2,h3⟩
 ·exact ak h
 ·exact ah ⟨g,cap,cur,h1,hk _ h2,h3⟩
theorem kg.keep (h:kg w v vs ok)(hk:∀ k,ok k->w'.heap[k]?=w.heap[k]?):kg w' v vs ok:=by
 rcases h with h | ⟨g,cap,cur,h1,h2,h3,h4⟩
 ·exact ak h
 ·exact ah ⟨g,cap,cur,h1,h2,by rw[hk _ h2];exact h3,h4⟩
theorem gF.mono {w:fu}{l:List Sm}{ok ok':Nat->Prop}{vs:List fC}(h:gF w l ok vs)(hk:∀ k,ok k->ok' k):gF w l ok' vs:=by
 match l with
 | []=>exact gF.nQ.2 (gF.nQ.1 h)
 | ⟨op,fD,pl,ex,av,fZ,undo,n,gG,one,two⟩::rest =>
  obtain ⟨v,vs',h1,h2,v1,v2,u1,u2,h3,h4,h5,h6,h7⟩:=gF.sW.1 h;exact gF.sW.2 ⟨v,vs',h1,h2.mono hk,v1,v2,u1,u2,h3.mono hk,h4.mono hk,h5.mono hk,h6.mono hk,h7.mono hk⟩
theorem gF.keep {w w':fu}{l:List Sm}{ok:Nat->Prop}{vs:List fC}(h:gF w l ok vs)(hk:∀ k,ok k->w'.heap[k]?=w.heap[k]?):gF w' l ok vs:=by
 match l with
 | []=>exact gF.nQ.2 (gF.nQ.1 h)
 | ⟨op,fD,pl,ex,av,fZ,undo,n,gG,one,two⟩::rest =>
  obtain ⟨v,vs',h1,h2,v1,v2,u1,u2,h3,h4,h5,h6,h7⟩:=gF.sW.1 h;exact gF.sW.2 ⟨v,vs',h1,h2.keep hk,v1,v2,u1,u2,h3.keep hk,h4.keep hk,h5.keep hk,h6.keep hk,h7.keep hk⟩
theorem nS.mono {w:fu}{x:Sm}{ok ok':Nat->Prop}{v:fC}(h:nS w x ok v)(hk:∀ k,ok k->ok' k):nS w x ok' v:=by
 obtain ⟨v1,v2,u1,u2,h3,h4,h5,h6,h7⟩:=h;exact ⟨v1,v2,u1,u2,h3.mono hk,h4.mono hk,h5.mono hk,h6.mono hk,h7.mono hk⟩
theorem nS.keep {w w':fu}{x:Sm}{ok:Nat->Prop}{v:fC}(h:nS w x ok v)(hk:∀ k,ok k->w'.heap[k]?=w.heap[k]?):nS w' x ok v:=by
 obtain ⟨v1,v2,u1,u2,h3,h4,h5,h6,h7⟩:=h;exact ⟨v1,v2,u1,u2,h3.keep hk,h4.keep hk,h5.keep hk,h6.keep hk,h7.keep hk⟩
theorem nS.form (h:nS w x ok v):∃ t q,v=.iface t (Ref.ptr q):=by
 obtain ⟨v1,v2,u1,u2,⟨q,hq,⟨h0,h1,_⟩ | ⟨h0,h1,_⟩ | ⟨h0,h1,_⟩ | ⟨h0,h1,_⟩ | ⟨h0,h1,_⟩ | ⟨h0,h1⟩⟩,_⟩:=h<;>exact ⟨_,q,h1⟩
def BV (w:fu):fu->List Sm->fC->Prop:=fun w' l v=>∃ vs,kg w' v vs (Ref.In w w')/\gF w' l (Ref.In w w') vs
theorem kg.form (h:kg w v vs ok):∃ a n c,v=.slice a n c:=by
 rcases h with ⟨h,_⟩ | ⟨g,cap,cur,h1,_⟩
 ·exact ⟨_,_,_,h⟩
 ·exact ⟨_,_,_,h1⟩
def starts (s:fq)(st:Px.Ps):Bool:=gy s st.t ⟨#[108,101,116]⟩ || gy s st.t ⟨#[99,97,108,108]⟩ || gy s st.t ⟨#[105,102]⟩ || gy s st.t ⟨#[116,114,121]⟩ || gy s st.t ⟨#[114,101,112,101,97,116]⟩ || gy s st.t ⟨#[102,97,105,108]⟩
def qd (s:fq)(g:Px.Ps->Except Nat (Sm×Px.Ps))(st:Px.Ps):Except Nat (Option Sm×Px.Ps) :=
 if starts s st then (match g st with
  | .ok (x,st')=>.ok (some x,st')
  | .error p=>.error p) else .ok (none,st)
def BG (w:fu):fu->Option Sm->fC->Prop:=fun w' o v =>
 match o with
 | none=>v=.tuple #[.nilIface,.bool false]
 | some x=>∃ u,v=.tuple #[u,.bool true]/\nS w' x (Ref.In w w') u
def IW (b:Nat)(s:fq)(n:Nat)(eT eN:Addr)(g:Px.Ps->Except Nat (Sm×Px.Ps)):Prop :=
 ∀ (st:Px.Ps) (w:fu),gP s n st->Rd w b s st eT eN->Calls prog 95 #[.pointer (some ⟨b,0,none⟩)] w (Out b s eT eN w (qd s g st) (BG w))
theorem Qn (h:st.t.k=63):starts s st=false:=by
 unfold starts;simp[q9 h]
theorem Qo (h:starts s st=false):Px.stmt s n st=.error st.t.a:=by
 unfold starts at h;simp only[dS] at h;obtain ⟨⟨⟨⟨⟨h1,h2⟩,h3⟩,h4⟩,h5⟩,h6⟩:=h;cases n with
 | zero=>rfl
 | succ n =>
  rw[Px.stmt,if_neg (by simp[h1]),if_neg (by simp[h2]),if_neg (by simp[h3]),if_neg (by simp[h4]),if_neg (by simp[h5])]
  unfold uh Px.need;rw[if_neg (by simp[h6])]
structure Stp (s:fq)(stop:Px.Ps->Bool):Prop where
 off:∀ st,stop st=true->starts s st=false
 wX:∀ st:Px.Ps,st.t.k=63->stop st=false
theorem Tl:(prog.info? 176).map (fun i=>(i.zero,i.size,i.bytes))=some (some .nilIface,1,16):=by kernel_rfl
def To (b:Nat)(s:fq)(eT eN:Addr)(w:fu)(g:Px.Ps->Except Nat (Sm×Px.Ps))(st:Px.Ps)(e:Ending)(w':fu):Prop :=
 Kp b w w'/\((∃ l st' v,e=.returned v/\BV w w' l v/\Rd w' b s st' eT eN/\starts s st'=false/\iW s st st'/\∀ stop,Stp s stop->∀ m,s.size - st.t.a < m->Px.stmts s g stop m [] st=if stop st' then .ok (l,st') else .error st'.t.a) \/
  ∃ p,(∀ stop,Stp s stop->∀ m,s.size - st.t.a < m->fin (Px.stmts s g stop m [] st)=.error p)/\jV w' w.heap.size eT p e)
def Xl (b:Nat)(s:fq)(n:Nat)(eT eN:Addr)(g:Px.Ps->Except Nat (Sm×Px.Ps))(st:Px.Ps)(w wr:fu)(v:fC):Prop :=
 Kp b w wr/\∃ vs,wr.ownsRow w.heap.size 176 1 v vs.length vs/\∃ l st1,gF wr l (fun k=>Ref.In w wr k/\some k≠v.ownBlock) vs/\vs.length<=st1.t.a/\Rd wr b s st1 eT eN/\gP s n st1/\iW s st st1 /\
  ∀ stop,Stp s stop->∀ m,s.size - st.t.a < m->∃ m',s.size - st1.t.a < m'/\Px.stmts s g stop m [] st=Px.stmts s g stop m' l st1
theorem Tr {base:Nat}(h:w.ownsRow base 176 1 v vs.length vs)(hk:∀ k,v.ownBlock=some k->ok k):kg w v vs ok:=by
 rcases h.2 with ⟨h1,h2⟩ | ⟨g,cap,cur,h1,h2,h3,h4,h5,h6,h7⟩
 ·exact ak ⟨h1,aY.1 h2⟩
 ·refine ah ⟨g,cap,cur,h1,hk g (by rw[h1];rfl),h3,h4,h5,by omega,?_⟩
  rw[Nat.mul_one] at h7;exact h7
variable {g:Px.Ps->Except Nat (Sm×Px.Ps)}
theorem Ts (h:qd s g st=.ok (some x,st')):starts s st=true/\g st=.ok (x,st'):=by
 unfold qd at h;split at h
 ·rename_i hs;cases hg:g st with
  | error p=>rw[hg] at h;cases h
  | ok r=>obtain ⟨y,st1⟩:=r;rw[hg] at h;cases h;exact ⟨hs,rfl⟩
 ·cases h
theorem Tu (h:qd s g st=.ok (none,st')):starts s st=false/\st'=st:=by
 unfold qd at h;split at h
 ·cases hg:g st with
  | error p=>rw[hg] at h;cases h
  | ok r=>obtain ⟨y,st1⟩:=r;rw[hg] at h;cases h
 ·rename_i hs;cases h;exact ⟨by simpa using hs,rfl⟩
theorem Ty (hk:st.t.k≠63)(h:fin (qd s g st)=.error p):starts s st=true/\(g st=.error p\/∃ x st',g st=.ok (x,st')/\st'.t.k=63/\p=st'.t.a):=by
 unfold qd at h;split at h
 ·rename_i hs;refine ⟨hs,?_⟩;cases hg:g st with
  | error q=>rw[hg] at h;cases h;exact ak rfl
  | ok r=>obtain ⟨y,st1⟩:=r;rw[hg] at h;obtain ⟨h1,h2⟩:=rR h;exact ah ⟨y,st1,rfl,h1,h2⟩
 ·exact absurd (rR h).1 hk
variable {eN eT:Addr}
theorem T0 {wr w1 w2:fu}{v' u:fC}{st2:Px.Ps}(hb:b < w.heap.size)(hg:Px.Goes s g)(KR:Kp b w wr)(hown:wr.ownsRow w.heap.size 176 1 v vs.length vs)(L:gF wr l (fun k=>Ref.In w wr k/\some k≠v.ownBlock) vs)(hq:vs.length<=st1.t.a)(hD:gP s n st1)(G0:iW s st st1)(CH:∀ stop,Stp s stop->∀ m,s.size - st.t.a < m->∃ m',s.size - st1.t.a < m'/\Px.stmts s g stop m [] st=Px.stmts s g stop m' l st1)(hs:starts s st1=true)(hr:g st1=.ok (x,st2))(k1:Kp b wr w1)(hx:nS w1 x (Ref.In wr w1) u)(r1:Rd w1 b s st2 eT eN)(hown':w2.ownsRow w.heap.size 176 1 v' (vs.length+1) (vs++[u]))(hgrow:(w1.alloc (.cells #[u] 176)).grownBy w2 v.ownBlock)(hloc:v'.ownBlock=v.ownBlock\/v'.ownBlock=some (w1.heap.size+1)) :
  Xl b s n eT eN g st w w2 v'/\Dp s b w2 < s.size+1 - st1.t.a:=by
 have oP:∀ k,v.ownBlock=some k->w.heap.size<=k/\k < wr.heap.size:=hown.lt;have Pj:Kp b w w1:=KR.trans k1;have LQ:Kp b w w2:=VY (Pj.alloc _) hgrow (fun k hk=>(oP k hk).1)
 have s1:=KR.size;have s2:=k1.size;have s3:w1.heap.size+1<=w2.heap.size:=by have:=hgrow.size;simpa using this
 have hkeep:∀ k,k < w1.heap.size->some k≠v.ownBlock->w2.heap[k]?=w1.heap[k]?:=fun k hk hne=>by
  rw[hgrow.block k (by simp;omega) hne,aD _ _ _ hk]
 have r2:Rd w2 b s st2 eT eN:=by
  obtain ⟨td,ra,rd⟩:=r1.mem;have hlb:b < w1.heap.size:=r1.lt;have hlo:=r1.gl.lo;have gk:∀ k,k < w.heap.size->w2.heap[k]?=w1.heap[k]?:=fun k hk=>hkeep k (by omega) (fun e=>by have:=(oP k e.symm).1;omega)
  refine ⟨r1.tk,r1.wX,⟨?_,?_,?_,hlo⟩,td,⟨by rw[gk b hb];exact ra.h⟩,?_⟩
  ·rw[aF (w:=w1) (gk _ (by show (_:Nat) < _;dsimp only;omega))];exact r1.gl.t
  ·rw[aF (w:=w1) (gk _ (by show (_:Nat) < _;dsimp only;omega))];exact r1.gl.n
  ·intro j hj;rw[aF (w:=w1) (gk _ (by show (_:Nat) < _;dsimp only;omega))];exact r1.gl.ops j hj
  ·rcases rd with d | ⟨d1,f,d2,d3,d4⟩
   ·exact ak d
   ·refine ah ⟨d1,f,d2,d3,?_⟩;have hfl:f < w1.heap.size:=(aG.1 d4).1;rw[hkeep f hfl ?_]
    ·exact d4
    ·intro e;rcases hown.2 with ⟨h1,_⟩ | ⟨gb,cap,cur,h1,h2,h3,_⟩
     ·rw[h1] at e;cases e
     ·have e':f=gb:=by rw[h1] at e;exact Option.some.inj e
      subst e'
      have:w1.heap[f]?=some (.cells cur 176):=by rw[k1.block f (oP f (by rw[h1];rfl)).2 d3];exact h3
      rw[this] at d4;simp at d4
 have hd1:=hD.tk.le;have hd2:=hD.tk.ab;have hdr:=hD.room;have g1:=hg _ _ _ hD.tk hr;have g2:=g1.lt;have g3:=g1.tk.ab;have g4:=g1.tk.le;have hnew:∀ k,k < w1.heap.size->some k≠v.ownBlock->some k≠v'.ownBlock:=by
  intro k hk hne;rcases hloc with h | h
  ·rw[h];exact hne
  ·rw[h];simp;omega
 have hlen:(vs++[u]).length=vs.length+1:=by simp
 refine ⟨⟨LQ,vs++[u],by rw[hlen];exact hown',l++[x],st2,?_,by rw[hlen];omega,r2,hD.good g1,G0.trans g1.zero,?_⟩,?_⟩
 ·refine gF.snoc ?_ ?_
  ·have e1:gF w1 l (fun k=>Ref.In w wr k/\some k≠v.ownBlock) vs:=L.keep fun k hk=>k1.block k hk.1.2 (by have:=hk.1.1;omega)
   have e2:gF w2 l (fun k=>Ref.In w wr k/\some k≠v.ownBlock) vs:=e1.keep fun k hk=>hkeep k (by have:=hk.1.2;omega) hk.2
   exact e2.mono fun k hk=>⟨⟨hk.1.1,by have:=hk.1.2;omega⟩,hnew k (by have:=hk.1.2;omega) hk.2⟩
  ·have hne:∀ k,Ref.In wr w1 k->some k≠v.ownBlock:=fun k hk e=>by have:=(oP k e.symm).2;have:=hk.1;omega
   have e2:nS w2 x (Ref.In wr w1) u:=hx.keep fun k hk=>hkeep k hk.2 (hne k hk)
   exact e2.mono fun k hk=>⟨⟨by have:=hk.1;omega,by have:=hk.2;omega⟩,hnew k hk.2 (hne k hk)⟩
 ·intro stop hstop m hm;obtain ⟨m',h1,h2⟩:=CH stop hstop m hm;obtain ⟨m',rfl⟩:∃ k,m'=k+1:=⟨m' - 1,by omega⟩
  refine ⟨m',by omega,h2.trans ?_⟩
  have hst:stop st1=false:=by
   cases h:stop st1
   ·rfl
   ·have:=hstop.off st1 h;rw[hs] at this;cases this
  rw[Px.stmts,if_neg (by simp[hst]),hr]
 ·rw[IL r2];omega
theorem Xm (b:Nat)(s:fq)(n:Nat)(eT eN:Addr)(g:Px.Ps->Except Nat (Sm×Px.Ps))(hst:IW b s n eT eN g)(hg:Px.Goes s g)(hoff:∀ st,starts s st=false->g st=.error st.t.a)(hs3:s.size<=300)(st:Px.Ps)(w:fu)(hD:gP s n st)(r:Rd w b s st eT eN) :
  Calls prog 41 #[.pointer (some ⟨b,0,none⟩)] w (To b s eT eN w g st):=by
 obtain ⟨i0,hi,hz0,hz1,hz2⟩:=info_parts Tl;have hs:s.size<=maxLen:=by unfold maxLen;omega
 have hb:=r.lt;have HG:Hid (Px.Goes s g/\∀ st,starts s st=false->g st=.error st.t.a):=⟨hg,hoff⟩;have HR:Hid (gP s n st/\Rd w b s st eT eN/\IW b s n eT eN g):=⟨hD,r,hst⟩;clear hD r hg hoff hst;go_enter func41,ntmps41
 go_wp2_with fail;go_loopw [3] (fun v wr=>Hid (Xl b s n eT eN g st w wr v)) (fun _ wr=>Dp s b wr)
 case atStart =>
  exact ⟨Kp.refl _ _,[],aT _ _ _ _,[],st,gF.nQ.2 rfl,by simp,HR.o.2.1,HR.o.1,iW.refl HR.o.1.tk,fun stop _ m hm=>⟨m,hm,rfl⟩⟩
 case round =>
  obtain ⟨kr,vs,hown,l,st1,hl,hq,r1,hD1,G0,CH⟩:=hrel.o;clear hrel;obtain ⟨va,vn,vc,rfl⟩:=Pk hown;have KR:Hid (Kp b w wr/\wr.ownsRow w.heap.size 176 1 (.slice va vn vc) vs.length vs/\gF wr l (fun k=>Ref.In w wr k/\some k≠(Value.slice va vn vc).ownBlock) vs/\Rd wr b s st1 eT eN/\gP s n st1/\iW s st st1 /\
   ∀ stop,Stp s stop->∀ m,s.size - st.t.a < m->∃ m',s.size - st1.t.a < m'/\Px.stmts s g stop m [] st=Px.stmts s g stop m' l st1):=⟨kr,hown,hl,r1,hD1,G0,CH⟩
  clear kr hown hl r1 hD1 G0 CH;go_wp2_with fail;refine (HR.o.2.2 st1 _ KR.o.2.2.2.2.1 KR.o.2.2.2.1).mono ?_;rintro e w3 ⟨k3,⟨o,st2,v,he,rfl,hv,r3⟩ | ⟨p,hp,ht⟩⟩
  ·cases o with
   | none =>
    obtain ⟨h1,rfl⟩:=Tu he;have hv':v=.tuple #[.nilIface,.bool false]:=hv;subst hv';have H3:Hid (Kp b wr w3/\Rd w3 b s st2 eT eN/\starts s st2=false):=⟨k3,r3,h1⟩;clear k3 r3 h1 he hv;go_wp2_with fail;go_ret;have hown3:w3.ownsRow w.heap.size 176 1 (.slice va vn vc) vs.length vs:=Hg KR.o.2.1 fun k hk=>H3.o.1.block k (KR.o.2.1.lt k hk).2 (by have:=(KR.o.2.1.lt k hk).1;omega)
    have z3:=H3.o.1.size;refine ⟨KR.o.1.trans H3.o.1,ak ⟨l,st2,_,rfl,⟨vs,Tr hown3 fun k hk=>⟨(hown3.lt k hk).1,(hown3.lt k hk).2⟩,?_⟩,H3.o.2.1,H3.o.2.2,KR.o.2.2.2.2.2.1,?_⟩⟩
    ·exact (KR.o.2.2.1.keep fun k hk=>H3.o.1.block k hk.1.2 (by have:=hk.1.1;omega)).mono fun k hk=>⟨hk.1.1,by have:=hk.1.2;omega⟩
    ·intro stop hstop m hm;obtain ⟨m',h1,h2⟩:=KR.o.2.2.2.2.2.2 stop hstop m hm;obtain ⟨m',rfl⟩:∃ k,m'=k+1:=⟨m' - 1,by omega⟩
     rw[h2,Px.stmts,HG.o.2 st2 H3.o.2.2]
   | some x =>
    obtain ⟨u,rfl,hu⟩:=hv;obtain ⟨h1,h2⟩:=Ts he;obtain ⟨tu,qu,rfl⟩:=hu.form;have hown3:w3.ownsRow w.heap.size 176 1 (.slice va vn vc) vs.length vs:=Hg KR.o.2.1 fun k hk=>k3.block k (KR.o.2.1.lt k hk).2 (by have:=(KR.o.2.1.lt k hk).1;omega)
    have Hl:w.heap.size<=w3.heap.size:=by have:=k3.size;have:=KR.o.1.size;omega
    have Pm:vs.length<=300:=by have:=KR.o.2.2.2.2.1.tk.ab;have:=KR.o.2.2.2.2.1.tk.le;omega
    have H3:Hid (Kp b wr w3/\nS w3 x (Ref.In wr w3) (.iface tu (Ref.ptr qu))/\Rd w3 b s st2 eT eN/\starts s st1=true/\g st1=.ok (x,st2)):=⟨k3,hu,r3,h1,h2⟩;clear k3 hu r3 h1 h2 he;unfold Ref.ptr at H3 |-;go_wp2_with (first
     | (at_builtin;refine wpList_append_own_at _ rfl _ _ 41 rfl w.heap.size 176 i0 .nilIface 1 16 underlying41 hi hz0 hz1 hz2 rfl (by decide) _ _ _ rfl (hown3.alloc _) ⟨w3.heap.size,0,none⟩ 1 1 [.iface tu (.pointer (some ⟨qu,0,none⟩))] rfl rfl ?c1 ?c2 ?c3 ?c4 ?c5 ?_)
     | fail)
    case c1 =>
     intro j u hj;match j,hj with
     | 0,hj=>simp at hj;subst hj;simp[Addr.add]
    case c2=>intro u hu;simp at hu;subst hu;rfl
    case c3=>unfold maxLen;omega
    case c4=>omega
    case c5=>simp;omega
    ·intro v' w4 hown' hgrow _ hloc;have M:=IL KR.o.2.2.2.1;obtain ⟨r1,r2⟩:=T0 hb HG.o.1 KR.o.1 KR.o.2.1 KR.o.2.2.1 hq KR.o.2.2.2.2.1 KR.o.2.2.2.2.2.1 KR.o.2.2.2.2.2.2 H3.o.2.2.2.1 H3.o.2.2.2.2 H3.o.1 H3.o.2.1 H3.o.2.2.1 hown' hgrow hloc;rw[<- M] at r2;have RR:Hid (_/\_):=⟨r1,r2⟩;clear r1 r2 hown' hgrow hloc hown3 M;go_wp2;exact ⟨RR.o.1,RR.o.2⟩
  ·obtain ⟨c,rfl⟩:=ht.form;obtain ⟨h1,h2⟩:=Ty KR.o.2.2.2.1.wX hp;refine ⟨rfl,KR.o.1.trans k3,ah ⟨p,?_,ht.low KR.o.1.size⟩⟩;intro stop hstop m hm;obtain ⟨m',h3,h4⟩:=KR.o.2.2.2.2.2.2 stop hstop m hm;obtain ⟨m',rfl⟩:∃ k,m'=k+1:=⟨m' - 1,by omega⟩
   have hst:stop st1=false:=by
    cases h:stop st1
    ·rfl
    ·have:=hstop.off st1 h;rw[h1] at this;cases this
   rw[h4,Px.stmts,if_neg (by simp[hst])]
   rcases h2 with h2 | ⟨x,st2,h2,h5,rfl⟩
   ·rw[h2];rfl
   ·rw[h2];simp only;cases m' with
    | zero=>rfl
    | succ m'=>rw[Px.stmts,if_neg (by simp[hstop.wX st2 h5]),HG.o.2 st2 (Qn h5)];rfl
def andThen {α β:Type}(r:Except Nat (α×Px.Ps))(c:α->Px.Ps->Except Nat (β×Px.Ps)):Except Nat (β×Px.Ps) :=
 match r with
 | .error p=>.error p
 | .ok (x,st)=>c x st
theorem then_ok {r:Except Nat (α×Px.Ps)}{c:α->Px.Ps->Except Nat (β×Px.Ps)}{x:α}(h:r=.ok (x,st)):andThen r c=c x st:=by rw[h];rfl
theorem jB {r:Except Nat (α×Px.Ps)}{c:α->Px.Ps->Except Nat (β×Px.Ps)}(h:fin r=.error p)(hc:∀ x st,st.t.k=63->fin (c x st)=.error st.t.a):fin (andThen r c)=.error p:=by
 rcases wZ h with rfl | ⟨x,st,rfl,h1,rfl⟩
 ·rfl
 ·exact hc x st h1
theorem zx (s x:fq):Late (kI s x):=by
 intro st h;unfold kI;rw[if_neg (by simp[q9 h])];rfl
theorem Fz (s:fq)(hk:k≠63):Late (lT s k):=by
 intro st h;unfold lT;rw[if_neg (by omega)];rfl
variable {t:Px.Tok}
theorem FB {x y:fq}(h:gy s t x=true)(hne:(x.toList == y.toList)=false):gy s t y=false:=by
 unfold gy at h |-;simp only[aZ,beq_iff_eq] at h;rw[h.2,hne,Bool.and_false]
theorem Xn (s:fq):Stp s (fun st=>st.t.k == 0):=by
 refine ⟨fun st h=>?_,fun st h=>by simp[h]⟩
 have hk:st.t.k=0:=by simpa using h
 unfold starts gy;rw[hk];rfl
theorem Xo (s:fq):Stp s (fun st=>gy s st.t ⟨#[125]⟩):=by
 refine ⟨fun st h=>?_,fun st h=>q9 h _⟩
 unfold starts;rw[FB h (by decide +kernel),FB h (by decide +kernel),FB h (by decide +kernel),FB h (by decide +kernel),FB h (by decide +kernel),FB h (by decide +kernel)]
 rfl
theorem T3 (hD:gP s (n+1) st){x:fq}(ho:gy s st.t x=true):gP s n (Px.nx s (Px.dn st)):=by
 have g1:=gX hD.tk ho;have h1:=hD.room;have h2:=g1.lt;have h3:=g1.tk.ab;have h4:=g1.tk.le;have h5:=hD.n1;have h6:st.t.a < (Px.nx s (Px.dn st)).t.a:=h2;have h8:=hD.n0;have h7:(Px.nx s (Px.dn st)).t.a<=s.size:=by have:(Px.nx s (Px.dn st)).t=(Px.nx s st).t:=rfl;rw[this];omega
 refine ⟨g1.tk,by omega,?_,?_⟩
 ·show 0<=st.fF+1;omega
 ·show st.fF+1+n+(s.size+1:Nat)<=1000000;push_cast at h5 |-;omega
theorem Qp (b:Nat)(s:fq)(n:Nat)(eT eN:Addr)(g:Px.Ps->Except Nat (Sm×Px.Ps))(hst:IW b s n eT eN g)(hg:Px.Goes s g)(hoff:∀ st,starts s st=false->g st=.error st.t.a)(hs3:s.size<=300)(st:Px.Ps)(w:fu)(hD:gP s (n+1) st)(r:Rd w b s st eT eN) :
  Calls prog 150 #[.pointer (some ⟨b,0,none⟩)] w (Out b s eT eN w (Px.block s g st) (BV w)):=by
 have hs:s.size<=maxLen:=by unfold maxLen;omega
 have hb:=r.lt;have HG:Hid (Px.Goes s g/\(∀ st,starts s st=false->g st=.error st.t.a)/\IW b s n eT eN g):=⟨hg,hoff,hst⟩;have HR:Hid (gP s (n+1) st/\Rd w b s st eT eN):=⟨hD,r⟩;have hn0:=hD.n0;have hn1:st.fF<=1000000:=by have:=hD.n1;omega
 clear hD r hg hoff hst;go_enter func150,ntmps150
 go_wp2_with fail;refine (WY b s _ st eT eN _ HR.o.2 hs hn0 hn1).mono ?_;rintro e w1 ⟨k1,⟨x,st1,v,he,rfl,rfl,r1⟩ | ⟨p,hp,ht⟩⟩
 ·have ho:gy s st.t ⟨#[123]⟩=true/\st1=Px.nx s (Px.dn st):=by
   unfold Ag at he;split at he
   ·rename_i ho;cases he;exact ⟨ho,rfl⟩
   ·cases he
  obtain ⟨ho,rfl⟩:=ho;have D1:Hid (gP s n (Px.nx s (Px.dn st))):=T3 HR.o.1 ho;have E1:Hid (Px.block s g st=match Px.stmts s g (fun st=>gy s st.t ⟨#[125]⟩) (s.size+1) [] (Px.nx s (Px.dn st)) with
   | .error p=>.error p
   | .ok (l,st')=>.ok (l,qy (Px.nx s st'))):=by
   unfold Hid;rw[Px.block,if_pos ho];cases Px.stmts s g (fun st=>gy s st.t ⟨#[125]⟩) (s.size+1) [] (Px.nx s (Px.dn st))<;>rfl
  have H1:Hid (Kp b w w1/\Rd w1 b s (Px.nx s (Px.dn st)) eT eN):=⟨k1,r1⟩;clear k1 r1 ho he;go_wp2_with fail;refine (Xm b s n eT eN g HG.o.2.2 HG.o.1 HG.o.2.1 hs3 _ _ D1.o H1.o.2).mono ?_;rintro e w2 ⟨k2,⟨l,st2,v,rfl,⟨vs,hv1,hv2⟩,r2,tF,G2,CH⟩ | ⟨p,hp,ht⟩⟩
  ·obtain ⟨va,vn,vc,rfl⟩:=hv1.form;have ch:=CH _ (Xo s) (s.size+1) (by omega)
   have gn:st2.fF=st.fF+1:=G2.fF;have H2:Hid (Kp b w1 w2/\kg w2 (.slice va vn vc) vs (Ref.In w1 w2)/\gF w2 l (Ref.In w1 w2) vs/\Rd w2 b s st2 eT eN/\Px.stmts s g (fun st=>gy s st.t ⟨#[125]⟩) (s.size+1) [] (Px.nx s (Px.dn st))=if gy s st2.t ⟨#[125]⟩=true then .ok (l,st2) else .error st2.t.a):=⟨k2,hv1,hv2,r2,ch⟩
   clear k2 hv1 hv2 r2 ch CH tF G2;go_wp2_with fail;refine (WZ b s _ st2 eT eN _ H2.o.2.2.2.1 hs (by omega) (by omega)).mono ?_
   rintro e w3 ⟨k3,⟨u,gV,v,he,rfl,rfl,r3⟩ | ⟨p,hp,ht⟩⟩
   ·have ho:gy s st2.t ⟨#[125]⟩=true/\gV=qy (Px.nx s st2):=by
     unfold Ah at he;split at he
     ·rename_i ho;cases he;exact ⟨ho,rfl⟩
     ·cases he
    obtain ⟨ho,rfl⟩:=ho;have E3:Hid (Px.block s g st=.ok (l,qy (Px.nx s st2))):=by unfold Hid;rw[E1.o,H2.o.2.2.2.2,if_pos ho]
    have H3:Hid (_/\_):=⟨k3,r3⟩;have z1:=H1.o.1.size;have z3:=k3.size;clear k3 r3 ho he;go_wp2_with fail;go_ret;have hk:∀ i,Ref.In w1 w2 i->w3.heap[i]?=w2.heap[i]?:=fun i hi=>H3.o.1.block i hi.2 (by have:=hi.1;omega)
    have hm:∀ i,Ref.In w1 w2 i->Ref.In w w3 i:=fun i hi=>⟨by have:=hi.1;omega,by have:=hi.2;omega⟩
    exact ⟨(H1.o.1.trans H2.o.1).trans H3.o.1,ak ⟨l,_,_,E3.o,rfl,⟨vs,(H2.o.2.1.keep hk).mono hm,(H2.o.2.2.1.keep hk).mono hm⟩,H3.o.2⟩⟩
   ·obtain ⟨c,rfl⟩:=ht.form;refine ⟨rfl,(H1.o.1.trans H2.o.1).trans k3,ah ⟨p,?_,ht.low (H1.o.1.trans H2.o.1).size⟩⟩;rw[E1.o,H2.o.2.2.2.2];unfold Ah at hp;split at hp
    ·rename_i ho;rw[if_pos ho];exact BA hp
    ·rename_i ho;rw[if_neg ho];exact MN hp
  ·obtain ⟨c,rfl⟩:=ht.form;refine ⟨rfl,H1.o.1.trans k2,ah ⟨p,?_,ht.low H1.o.1.size⟩⟩;rw[E1.o];rcases wZ (hp _ (Xo s) (s.size+1) (by omega)) with h1 | ⟨l,st2,h1,h2,rfl⟩
   ·rw[h1];rfl
   ·have h3:=(wQ HG.o.1 _ _ _ _ _ _ D1.o.tk h1).2;have h4:=q9 (s:=s) h2 ⟨#[125]⟩;rw[h4] at h3;cases h3
 ·obtain ⟨c,rfl⟩:=ht.form;refine ⟨rfl,k1,ah ⟨p,?_,ht⟩⟩;unfold Ag at hp;unfold Px.block;split at hp
  ·rename_i ho;rw[if_pos ho];obtain ⟨h4,rfl⟩:=rR hp;rw[Px.stmts,if_neg (by simp[q9 h4]),HG.o.2.1 _ (Qn h4)]
   rfl
  ·rename_i ho;rw[if_neg ho];exact MN hp
def RV (w:fu):fu->Px.Ex->fC->Prop:=fun w' e v=>∃ q,v=Ref.ptr q/\jK w' e (Ref.In w w') q
theorem Xp (b:Nat)(s:fq)(eT eN:Addr)(hs:s.size<=maxLen)(st:Px.Ps)(w:fu)(r:Rd w b s st eT eN)(hn0:0<=st.fF)(hn1:st.fF+(s.size+1:Nat)<=1000000) :
  Calls prog 174 #[.pointer (some ⟨b,0,none⟩)] w (Out b s eT eN w (jN s st) (RV w)):=by
 obtain ⟨td,c0,c1,c2,c3,c4,c5,f⟩:=r.cells;have R:Hid (_):=r;clear r;go_enter func174,ntmps174
 go_wp2_with fail;refine (Xk b s eT eN hs st _ R.o hn0 hn1).mono ?_;rintro e w1 ⟨k1,⟨x,st1,v,he,rfl,hv,r1⟩ | ⟨p,hp,ht⟩⟩
 ·obtain ⟨tl,ql,rfl⟩:=jv.form hv;have hpl:=Oa s _ _ _ he;have z:=k1.size;have H1:Hid (Kp b w w1/\jN s st=.ok (x,st1)/\jv w1 x (Ref.In w w1) (.iface tl (Ref.ptr ql))/\Rd w1 b s st1 eT eN/\x.pl=st.t.a):=⟨k1,he,hv,r1,hpl⟩;clear k1 he hv r1 hpl c0 c1 c2 c3 c4 c5 f;unfold Ref.ptr at H1 |-;go_wp2_with fail;go_ret;refine ⟨H1.o.1.alloc _,ak ⟨x,st1,_,H1.o.2.1,rfl,⟨w1.heap.size,rfl,⟨z,by simp⟩,tl,ql,?_,?_⟩,H1.o.2.2.2.1.alloc _⟩⟩
  ·rw[H1.o.2.2.2.2];exact new1
  ·exact (H1.o.2.2.1.keep fun i hi=>aD _ _ _ hi.2).mono fun i hi=>⟨hi.1,by have:=hi.2;simp;omega⟩
 ·obtain ⟨c,rfl⟩:=ht.form;exact ⟨rfl,k1,ah ⟨p,hp,ht⟩⟩
theorem FC (s:fq)(k:Nat)(st:Px.Ps):Px.kind s k st=(match lT s k st with
  | .error p=>.error p
  | .ok (_,st1)=>.ok st1):=by
 unfold Px.kind lT;split<;>rfl
theorem FD (s x:fq)(st:Px.Ps):Px.need s x st=(match kI s x st with
  | .error p=>.error p
  | .ok (_,st1)=>.ok st1):=by
 unfold Px.need kI;split<;>rfl
theorem tJ (h:lT s k st=.ok (t,st1)):t=st.t/\st1=Px.nx s st/\st.t.k=k:=by
 unfold lT at h;split at h
 ·rename_i hk;cases h;exact ⟨rfl,rfl,hk⟩
 ·cases h
variable {u:Unit}
theorem MO {x:fq}(h:kI s x st=.ok (u,st1)):st1=Px.nx s st/\gy s st.t x=true:=by
 unfold kI at h;split at h
 ·rename_i hk;cases h;exact ⟨rfl,hk⟩
 ·cases h
theorem Xq (ht:Tk s st.t)(h0:k≠0)(h63:k≠63)(h:lT s k st=.ok (t,st1)):Px.Good s st st1:=by
 obtain ⟨_,rfl,hk⟩:=tJ h;exact vg ht (by omega) (by omega)
theorem Xr {x:fq}(ht:Tk s st.t)(h:kI s x st=.ok (u,st1)):Px.Good s st st1:=by
 obtain ⟨rfl,hk⟩:=MO h;exact gX ht hk
def Ai (s:fq)(t:Px.Tok)(e:Px.Ex):Sm:={ jk with op:=108,fD:=Px.txt s t,pl:=t.a,ex:=some e }
theorem LY (s:fq)(st:Px.Ps):kJ s st=andThen (lT s 119 st) fun t st1=>andThen (kI s ⟨#[61]⟩ st1) fun _ st2=>andThen (jN s st2) fun e gV=>andThen (kI s ⟨#[59]⟩ gV) fun _ jL=>.ok (Ai s t e,jL):=by
 unfold kJ;rw[FC];cases h1:lT s 119 st with
 | error p=>rfl
 | ok r =>
  obtain ⟨t,st1⟩:=r;obtain ⟨rfl,_,_⟩:=tJ h1;simp only[andThen];rw[FD];cases kI s ⟨#[61]⟩ st1 with
  | error p=>rfl
  | ok r =>
   obtain ⟨u,st2⟩:=r;simp only;cases jN s st2 with
   | error p=>rfl
   | ok r =>
    obtain ⟨e,gV⟩:=r;simp only;rw[FD];cases kI s ⟨#[59]⟩ gV with
    | error p=>rfl
    | ok r=>obtain ⟨u,jL⟩:=r;rfl
theorem Xt (s:fq)(t:Px.Tok):∀ (e:Px.Ex) (st:Px.Ps),st.t.k=63->fin (andThen (kI s ⟨#[59]⟩ st) fun _ jL=>.ok (Ai s t e,jL))=.error st.t.a :=
 fun _ st h=>jB (zx s _ st h) fun _ _ h'=>mJ _ h'
theorem Xu (s:fq)(t:Px.Tok):∀ (_:Unit) (st:Px.Ps),st.t.k=63->fin (andThen (jN s st) fun e gV=>andThen (kI s ⟨#[59]⟩ gV) fun _ jL=>.ok (Ai s t e,jL))=.error st.t.a :=
 fun _ st h=>jB (Ql s st h) (Xt s t)
theorem Xv (s:fq):∀ (t:Px.Tok) (st:Px.Ps),st.t.k=63->fin (andThen (kI s ⟨#[61]⟩ st) fun _ st2=>andThen (jN s st2) fun e gV=>andThen (kI s ⟨#[59]⟩ gV) fun _ jL=>.ok (Ai s t e,jL))=.error st.t.a :=
 fun t st h=>jB (zx s _ st h) (Xu s t)
def Aj (w:fu)(T:Nat):fu->Sm->fC->Prop:=fun w' x v=>∃ q,v=Ref.ptr q/\nS w' x (Ref.In w w') (.iface T (Ref.ptr q))
theorem T4 (b:Nat)(s:fq)(eT eN:Addr)(hs:s.size<=maxLen)(st:Px.Ps)(w:fu)(r:Rd w b s st eT eN)(hn0:0<=st.fF)(hn1:st.fF+(s.size+1:Nat)<=1000000) :
  Calls prog 145 #[.pointer (some ⟨b,0,none⟩)] w (Out b s eT eN w (kJ s st) (Aj w 226)):=by
 have hb:=r.lt;have R:Hid (_):=r;clear r;have E0:Hid (_=_):=LY s st;go_enter func145,ntmps145
 go_wp2_with fail;refine (zw b s st eT eN _ R.o hs).mono ?_;rintro e w1 ⟨k1,⟨t,st1,v,h1,rfl,⟨qv,rfl,hv⟩,r1⟩ | ⟨p,hp,ht⟩⟩
 ·have E1:Hid (_=_):=E0.o.trans (then_ok h1);have g1:=Xq R.o.tk (by decide) (by decide) h1
  obtain ⟨rfl,_,_⟩:=tJ h1;have H1:Hid (Kp b w w1/\jQ w1 (s.extract st.t.a st.t.b) st.t.a (Ref.In w w1) qv/\Rd w1 b s st1 eT eN/\Px.Good s st st1):=⟨k1,hv,r1,g1⟩;clear k1 hv r1 h1 g1;unfold Ref.ptr;go_wp2_with fail;refine (Ad b s _ st1 eT eN _ H1.o.2.2.1 hs).mono ?_;rintro e w2 ⟨k2,⟨u,st2,v,h2,rfl,rfl,r2⟩ | ⟨p,hp,ht⟩⟩
  ·have E2:Hid (_=_):=E1.o.trans (then_ok h2);have g2:=H1.o.2.2.2.trans (Xr H1.o.2.2.1.tk h2);have H2:Hid (Kp b w1 w2/\Rd w2 b s st2 eT eN/\Px.Good s st st2):=⟨k2,r2,g2⟩;have hn:=g2.fF;clear k2 r2 h2 g2;go_wp2_with fail;refine (Xk b s eT eN hs st2 _ H2.o.2.1 (by omega) (by omega)).mono ?_
   rintro e w3 ⟨k3,⟨x,gV,v,h3,rfl,hv,r3⟩ | ⟨p,hp,ht⟩⟩
   ·have E3:Hid (_=_):=E2.o.trans (then_ok h3);obtain ⟨tl,ql,rfl⟩:=jv.form hv;have H3:Hid (Kp b w2 w3/\jv w3 x (Ref.In w2 w3) (.iface tl (Ref.ptr ql))/\Rd w3 b s gV eT eN):=⟨k3,hv,r3⟩;clear k3 r3 h3 hv;unfold Ref.ptr at H3 |-;go_wp2_with fail;refine (Ad b s _ gV eT eN _ H3.o.2.2 hs).mono ?_;rintro e w4 ⟨k4,⟨u,jL,v,h4,rfl,rfl,r4⟩ | ⟨p,hp,ht⟩⟩
    ·have E4:Hid (_=_):=E3.o.trans (then_ok h4);have H4:Hid (Kp b w3 w4/\Rd w4 b s jL eT eN):=⟨k4,r4⟩;clear k4 r4 h4;go_wp2_with fail;go_ret;have k14:=(H2.o.1.trans H3.o.1).trans H4.o.1;have z1:=H1.o.1.size;have z2:=H2.o.1.size;have z3:=H3.o.1.size;have z4:=H4.o.1.size;refine ⟨(H1.o.1.trans k14).alloc _,ak ⟨_,_,_,E4.o,rfl,⟨w4.heap.size,rfl,?_⟩,H4.o.2.alloc _⟩⟩;refine ⟨.slice none 0 0,.slice none 0 0,[],[],⟨w4.heap.size,⟨by omega,by simp⟩,ak ⟨rfl,rfl,qv,tl,ql,x,new1,?_,rfl,?_⟩⟩,ak ⟨rfl,rfl⟩,gF.nQ.2 rfl,ak ⟨rfl,rfl⟩,gF.nQ.2 rfl⟩
     ·exact ((H1.o.2.1.keep fun i hi=>(k14.alloc _).block i hi.2 (by have:=hi.1;omega))).mono fun i hi=>⟨hi.1,by have:=hi.2;simp;omega⟩
     ·exact ((H3.o.2.1.keep fun i hi=>(H4.o.1.alloc _).block i hi.2 (by have:=hi.1;omega))).mono fun i hi=>⟨by have:=hi.1;omega,by have:=hi.2;simp;omega⟩
    ·obtain ⟨c,rfl⟩:=ht.form;have IX:=(H1.o.1.trans H2.o.1).trans H3.o.1;exact ⟨rfl,IX.trans k4,ah ⟨p,by rw[E3.o];exact jB hp fun _ _ h=>mJ _ h,ht.low IX.size⟩⟩
   ·obtain ⟨c,rfl⟩:=ht.form;have yt:=H1.o.1.trans H2.o.1;exact ⟨rfl,yt.trans k3,ah ⟨p,by rw[E2.o];exact jB hp (Xt s _),ht.low yt.size⟩⟩
  ·obtain ⟨c,rfl⟩:=ht.form;exact ⟨rfl,H1.o.1.trans k2,ah ⟨p,by rw[E1.o];exact jB hp (Xu s _),ht.low H1.o.1.size⟩⟩
 ·obtain ⟨c,rfl⟩:=ht.form;exact ⟨rfl,k1,ah ⟨p,by rw[E0.o];exact jB hp (Xv s),ht⟩⟩
def tK (s:fq)(x:Sm)(st:Px.Ps):Except Nat (Sm×Px.Ps) :=
 if gy s st.t ⟨#[41]⟩ then .ok (x,Px.nx s st) else andThen (jN s st) fun e st'=>andThen (kI s ⟨#[41]⟩ st') fun _ st''=>.ok ({ x with ex:=some e },st'')
def FE (s:fq)(x:Sm)(st:Px.Ps):Except Nat (Sm×Px.Ps):=andThen (kI s ⟨#[59]⟩ st) fun _ st'=>.ok (x,st')
def FH (s:fq)(x:Sm)(st:Px.Ps):Except Nat (Sm×Px.Ps):=andThen (nC s x st) (FE s)
def FI (s:fq)(x:Sm)(st:Px.Ps):Except Nat (Sm×Px.Ps):=andThen (lY s x st) (FH s)
def BH (s:fq)(x:Sm)(st:Px.Ps):Except Nat (Sm×Px.Ps):=andThen (lg s x st) (FI s)
def uP (s:fq)(x:Sm)(st:Px.Ps):Except Nat (Sm×Px.Ps):=andThen (tK s x st) (BH s)
def MP (s:fq)(t:Px.Tok):Sm:={ jk with op:=99,fD:=Px.txt s t,pl:=t.a,n:=1 }
theorem LV (s:fq)(st:Px.Ps):Px.call s st=andThen (lT s 119 st) fun t st1=>andThen (kI s ⟨#[40]⟩ st1) fun _ st2=>uP s (MP s t) st2:=by
 unfold Px.call;rw[FC];cases h1:lT s 119 st with
 | error p=>rfl
 | ok r =>
  obtain ⟨t,st1⟩:=r;obtain ⟨rfl,_,_⟩:=tJ h1;simp only[andThen];rw[FD];cases kI s ⟨#[40]⟩ st1 with
  | error p=>rfl
  | ok r =>
   obtain ⟨u,st2⟩:=r;simp only;unfold uP tK lJ;have key:∀ (y:Sm) (sa sb:Px.Ps) (_:Px.need s ⟨#[41]⟩ sa=.ok sb),(match Px.need s ⟨#[41]⟩ sa with
     | .error p=>.error p
     | .ok jL=>(match lg s y jL with
      | .error p=>.error p
      | .ok (x5,kT)=>(match lY s x5 kT with
       | .error p=>.error p
       | .ok (x6,mF)=>(match nC s x6 mF with
        | .error p=>.error p
        | .ok (x7,pz)=>(match Px.need s ⟨#[59]⟩ pz with
         | .error p=>(.error p:Except Nat (Sm×Px.Ps))
         | .ok uz=>.ok (x7,uz))))))=BH s y sb:=by
    intro y sa sb hsb;rw[hsb];simp only[BH,andThen];cases lg s y sb with
    | error p=>rfl
    | ok r =>
     obtain ⟨x5,kT⟩:=r;simp only[FI,andThen];cases lY s x5 kT with
     | error p=>rfl
     | ok r =>
      obtain ⟨x6,mF⟩:=r;simp only[FH,andThen];cases nC s x6 mF with
      | error p=>rfl
      | ok r =>
       obtain ⟨x7,pz⟩:=r;simp only[FE,andThen];rw[FD];cases kI s ⟨#[59]⟩ pz with
       | error p=>rfl
       | ok r=>obtain ⟨u,uz⟩:=r;rfl
   by_cases ho:gy s st2.t ⟨#[41]⟩=true
   ·rw[if_pos ho,if_pos ho];exact key _ _ _ (by unfold Px.need;rw[if_pos ho])
   ·rw[if_neg ho,if_neg ho];simp only[andThen];cases jN s st2 with
    | error p=>rfl
    | ok r =>
     obtain ⟨e,gV⟩:=r;simp only;by_cases ho':gy s gV.t ⟨#[41]⟩=true
     ·rw[show kI s ⟨#[41]⟩ gV=.ok ((),Px.nx s gV) from by unfold kI;rw[if_pos ho']]
      exact key _ _ _ (by unfold Px.need;rw[if_pos ho'])
     ·rw[show kI s ⟨#[41]⟩ gV=.error gV.t.a from by unfold kI;rw[if_neg ho'],show Px.need s ⟨#[41]⟩ gV=.error gV.t.a from by unfold Px.need;rw[if_neg ho']]
theorem Qq (h:gy s st.t ⟨#[97,115]⟩=true):lg s x st=andThen (lT s 119 (Px.nx s st)) fun t st'=>.ok ({ x with gu:=s.extract t.a t.b,fZ:=t.a },st'):=by
 unfold lg;rw[if_pos h,FC];cases h1:lT s 119 (Px.nx s st) with
 | error p=>rfl
 | ok r=>obtain ⟨t,st1⟩:=r;obtain ⟨rfl,_,_⟩:=tJ h1;rfl
theorem Qr (h:gy s st.t ⟨#[117,110,100,111]⟩=true):lY s x st=andThen (lT s 119 (Px.nx s st)) fun t st'=>.ok ({ x with undo:=s.extract t.a t.b },st'):=by
 unfold lY;rw[if_pos h,FC];cases h1:lT s 119 (Px.nx s st) with
 | error p=>rfl
 | ok r=>obtain ⟨t,st1⟩:=r;obtain ⟨rfl,_,_⟩:=tJ h1;rfl
theorem Qs (h:gy s st.t ⟨#[116,114,105,101,115]⟩=true):nC s x st=andThen (lT s 110 (Px.nx s st)) fun t st'=>.ok ({ x with n:=Px.valOf (s.extract t.a t.b).toList,gG:=t.a },st'):=by
 unfold nC;rw[if_pos h,FC];cases h1:lT s 110 (Px.nx s st) with
 | error p=>rfl
 | ok r=>obtain ⟨t,st1⟩:=r;obtain ⟨rfl,_,_⟩:=tJ h1;rfl
theorem Xw (h:gy s st.t ⟨#[97,115]⟩=false):lg s x st=.ok (x,st):=by unfold lg;rw[if_neg (by simp[h])]
theorem Xx (h:gy s st.t ⟨#[117,110,100,111]⟩=false):lY s x st=.ok (x,st):=by unfold lY;rw[if_neg (by simp[h])]
theorem Xy (h:gy s st.t ⟨#[116,114,105,101,115]⟩=false):nC s x st=.ok (x,st):=by unfold nC;rw[if_neg (by simp[h])]
theorem Qt (s:fq):∀ (x:Sm) (st:Px.Ps),st.t.k=63->fin (FE s x st)=.error st.t.a:=fun _ st h=>jB (zx s _ st h) fun _ _ h'=>mJ _ h'
theorem Qu (s:fq):∀ (x:Sm) (st:Px.Ps),st.t.k=63->fin (FH s x st)=.error st.t.a:=fun x st h=>jB (by rw[Xy (q9 h _)];exact mJ _ h) (Qt s)
theorem Qv (s:fq):∀ (x:Sm) (st:Px.Ps),st.t.k=63->fin (FI s x st)=.error st.t.a:=fun x st h=>jB (by rw[Xx (q9 h _)];exact mJ _ h) (Qu s)
theorem MQ (s:fq):∀ (x:Sm) (st:Px.Ps),st.t.k=63->fin (BH s x st)=.error st.t.a:=fun x st h=>jB (by rw[Xw (q9 h _)];exact mJ _ h) (Qv s)
theorem T5 (s:fq)(x:Sm):Late (tK s x):=by
 intro st h;unfold tK;rw[if_neg (by simp[q9 h])]
 exact jB (Ql s st h) fun _ st' h'=>jB (zx s _ st' h') fun _ _ h''=>mJ _ h''
theorem Qw (s:fq):∀ (x:Sm) (st:Px.Ps),st.t.k=63->fin (uP s x st)=.error st.t.a:=fun x st h=>jB (T5 s x st h) (MQ s)
def tL (w0 w:fu)(q k:Nat):Prop:=Ref.In w0 w k/\k≠q
structure gY (b:Nat)(s:fq)(eT eN:Addr)(w0:fu)(q:Nat)(x:Sm)(N:Int)(st:Px.Ps)(w:fu):Prop where
 kp:Kp b w0 w
 rd:Rd w b s st eT eN
 hq:w0.heap.size<=q
 fF:st.fF=N
 op:x.op=99
 one:x.one=[]
 two:x.two=[]
 cell:∃ pa ps qn,w.heap[q]?=some (.cells #[.string x.fD,.pointer pa,.pointer ps,.string x.undo,Ref.ptr qn] 303)/\kZ w x.ex (tL w0 w q) (.pointer pa)/\qc w x.gu x.fZ (tL w0 w q) (.pointer ps)/\ji w x.n x.gG (tL w0 w q) qn
variable {N:Int}
theorem gY.lt (h:gY b s eT eN w0 q x N st w):q < w.heap.size:=by
 obtain ⟨pa,ps,qn,h1,_⟩:=h.cell;exact (aG.1 h1).1
theorem gY.step (hb:b < w0.heap.size)(h:gY b s eT eN w0 q x N st w)(k:Kp b w w')(r:Rd w' b s st' eT eN)(hn:st'.fF=st.fF):gY b s eT eN w0 q x N st' w':=by
 obtain ⟨pa,ps,qn,h1,h2,h3,h4⟩:=h.cell;have hq:=h.hq;have hk:∀ i,tL w0 w q i->w'.heap[i]?=w.heap[i]?:=fun i hi=>k.block i hi.1.2 (by have:=hi.1.1;omega)
 have hm:∀ i,tL w0 w q i->tL w0 w' q i:=fun i hi=>⟨⟨hi.1.1,aV hi.1.2 k.size⟩,hi.2⟩
 exact ⟨h.kp.trans k,r,hq,hn.trans h.fF,h.op,h.one,h.two,pa,ps,qn,by rw[k.block q h.lt (by omega)];exact h1,(h2.keep hk).mono hm,(h3.keep hk).mono hm,(h4.keep hk).mono hm⟩
theorem gY.put {o:Nat}{y:Sm}(hb:b < w0.heap.size)(h:gY b s eT eN w0 q x N st w)(k:Kp b w w')(r:Rd w' b s st' eT eN)(hn:st'.fF=st.fF)(hop:y.op=99)(h1:y.one=[])(h2:y.two=[])(hc:∀ pa ps qn,w'.heap[q]?=some (.cells #[.string x.fD,.pointer pa,.pointer ps,.string x.undo,Ref.ptr qn] 303)->kZ w' x.ex (tL w0 w' q) (.pointer pa)->qc w' x.gu x.fZ (tL w0 w' q) (.pointer ps)->ji w' x.n x.gG (tL w0 w' q) qn ->
   ∃ pa ps qn,(w'.setCell ⟨q,o,none⟩ v).heap[q]?=some (.cells #[.string y.fD,.pointer pa,.pointer ps,.string y.undo,Ref.ptr qn] 303)/\kZ w' y.ex (tL w0 w' q) (.pointer pa)/\qc w' y.gu y.fZ (tL w0 w' q) (.pointer ps)/\ji w' y.n y.gG (tL w0 w' q) qn) :
  gY b s eT eN w0 q y N st' (w'.setCell ⟨q,o,none⟩ v):=by
 have h':=h.step hb k r hn;obtain ⟨pa,ps,qn,e1,e2,e3,e4⟩:=h'.cell;have hq:=h.hq;obtain ⟨pa',ps',qn',f1,f2,f3,f4⟩:=hc pa ps qn e1 e2 e3 e4;have hk:∀ i,tL w0 w' q i->(w'.setCell ⟨q,o,none⟩ v).heap[i]?=w'.heap[i]?:=fun i hi=>jr _ hi.2
 have hm:∀ i,tL w0 w' q i->tL w0 (w'.setCell ⟨q,o,none⟩ v) q i:=fun i hi=>⟨⟨hi.1.1,by rw[Ref.size_set];exact hi.1.2⟩,hi.2⟩
 exact ⟨h'.kp.gI hq _,r.yj e1 (by decide) (by omega) v,hq,h'.fF,hop,h1,h2,pa',ps',qn',f1,(f2.keep hk).mono hm,(f3.keep hk).mono hm,(f4.keep hk).mono hm⟩
theorem Qx (hz:w0.heap.size<=w.heap.size)(hq:q < w.heap.size):∀ i,Ref.In w w' i->tL w0 w' q i:=fun i hi=>⟨⟨by have:=hi.1;omega,hi.2⟩,by have:=hi.1;omega⟩
def xk (s x:fq)(st:Px.Ps):Px.Ps:=if gy s st.t x then Px.nx s st else st
theorem FJ {x:fq}(h:gy s st.t x=true):xk s x st=Px.nx s st:=by unfold xk;rw[if_pos h]
theorem FK {x:fq}(h:gy s st.t x=false):xk s x st=st:=by unfold xk;rw[if_neg (by simp[h])]
theorem MR {x:fq}:(xk s x st).fF=st.fF:=by unfold xk;split<;>rfl
theorem IY (b:Nat)(s x:fq)(st:Px.Ps)(eT eN:Addr)(w:fu)(r:Rd w b s st eT eN)(hs:s.size<=maxLen) :
  Calls prog 144 #[.pointer (some ⟨b,0,none⟩),.string x] w fun e w'=>Kp b w w'/\((e=.returned (.bool (gy s st.t x))/\Rd w' b s (xk s x st) eT eN) \/
   (gy s st.t x=true/\(Px.nx s st).t.k=63/\jV w' w.heap.size eT (Px.nx s st).t.a e)):=by
 cases h:gy s st.t x
 ·refine (nV b s x st eT eN w r h).mono ?_;rintro e w' ⟨rfl,rfl⟩;exact ⟨Kp.refl _ _,ak ⟨rfl,by rw[FK h];exact r⟩⟩
 ·refine (wY b s x st eT eN w r hs h).mono ?_;rintro e w' ⟨k,⟨u,st1,v,he,rfl,rfl,r1⟩ | ⟨p,hp,ht⟩⟩
  ·cases he;exact ⟨k,ak ⟨rfl,by rw[FJ h];exact r1⟩⟩
  ·obtain ⟨h1,rfl⟩:=rR hp;exact ⟨k,ah ⟨rfl,h1,ht⟩⟩
theorem cells5 {a b c d e:fC}{t:TypeId}(hh:w.heap[k]?=some (.cells #[a,b,c,d,e] t)) :
  w.cell? ⟨k,0,none⟩=some a/\w.cell? ⟨k,1,none⟩=some b/\w.cell? ⟨k,2,none⟩=some c/\w.cell? ⟨k,3,none⟩=some d/\w.cell? ⟨k,4,none⟩=some e/\∀ o,w.frozen? ⟨k,o,none⟩=false:=by
 refine ⟨?_,?_,?_,?_,?_,?_⟩<;>simp[World.cell?,World.frozen?,hh]
theorem T6 (tk:Tk s st.t)(h:st.t.k=119):0 < (s.extract st.t.a st.t.b).size:=by
 have h1:=tk.lt (by omega) (by omega)
 have h2:=tk.le;simp;omega
theorem Qy (b:Nat)(s:fq)(eT eN:Addr)(hs:s.size<=maxLen)(st:Px.Ps)(w:fu)(r:Rd w b s st eT eN)(hn0:0<=st.fF)(hn1:st.fF+(s.size+1:Nat)<=1000000) :
  Calls prog 146 #[.pointer (some ⟨b,0,none⟩)] w (Out b s eT eN w (Px.call s st) (Aj w 237)):=by
 have hb:=r.lt;have R:Hid (_):=r;clear r;have E0:Hid (_=_):=LV s st;go_enter func146,ntmps146
 go_wp2_with fail;refine (Dm b s st eT eN _ R.o hs).mono ?_;rintro e w1 ⟨k1,⟨t,st1,v,h1,rfl,rfl,r1⟩ | ⟨p,hp,ht⟩⟩
 ·have E1:Hid (_=_):=E0.o.trans (then_ok h1);obtain ⟨rfl,Xz,_⟩:=tJ h1;have H1:Hid (Kp b w w1/\Rd w1 b s st1 eT eN/\st1.fF=st.fF):=⟨k1,r1,by rw[Xz];rfl⟩
  clear k1 r1 h1 Xz;go_wp2_with fail;generalize hQ:w1.heap.size+1=q;have C0:Hid (gY b s eT eN w q (MP s st.t) st.fF st1 ((w1.alloc (.cells #[.int .i64 1,.int .i64 0] 287)).alloc (.cells #[.string (s.extract st.t.a st.t.b),.pointer none,.pointer none,.string ⟨#[]⟩,.pointer (some ⟨w1.heap.size,0,none⟩)] 303))):=by
   have z:=H1.o.1.size;refine ⟨(H1.o.1.alloc _).alloc _,(H1.o.2.1.alloc _).alloc _,by omega,H1.o.2.2,rfl,rfl,rfl,none,none,w1.heap.size,?_,rfl,ak ⟨rfl,rfl⟩,⟨⟨⟨z,by simp;omega⟩,by omega⟩,G6⟩⟩
   rw[<- hQ];exact new2
  generalize hW:((w1.alloc (.cells #[.int .i64 1,.int .i64 0] 287)).alloc (.cells #[.string (s.extract st.t.a st.t.b),.pointer none,.pointer none,.string ⟨#[]⟩,.pointer (some ⟨w1.heap.size,0,none⟩)] 303))=W;rw[hW] at C0;clear hW H1 hQ;refine (Ad b s _ st1 eT eN _ C0.o.rd hs).mono ?_;rintro e w2 ⟨k2,⟨u,st2,v,h2,rfl,rfl,r2⟩ | ⟨p,hp,ht⟩⟩
  ·have E2:Hid (_=_):=E1.o.trans (then_ok h2);have C1:Hid (gY b s eT eN w q (MP s st.t) st.fF st2 w2):=C0.o.step hb k2 r2 (by rw[(MO h2).1];rfl)
   clear k2 r2 h2;generalize MP s st.t=x1 at E2 C1;go_wp2_with fail;refine (IY b s _ st2 eT eN _ C1.o.rd hs).mono ?_;rintro e w3 ⟨k3,⟨rfl,r3⟩ | ⟨ho,h63,ht⟩⟩
   ·have C2:Hid (gY b s eT eN w q x1 st.fF (xk s ⟨#[41]⟩ st2) w3):=C1.o.step hb k3 r3 MR;clear k3 r3 C1;generalize hB:gy s st2.t ⟨#[41]⟩=B;have HB:Hid (_):=hB;clear hB;go_upto_if 14 with fail
    go_cut [3] (fun v wc=>v=.pointer (some ⟨q,0,none⟩)/\Hid (∃ x st',gY b s eT eN w q x st.fF st' wc/\Px.call s st=BH s x st'))
    case first =>
     cases B
     ·rw[FK HB.o] at C2;go_wp2_with fail;refine (Xp b s eT eN hs _ _ C2.o.rd (by rw[C2.o.fF];omega) (by rw[C2.o.fF];omega)).mono ?_
      rintro e w4 ⟨k4,⟨x,jL,v,h4,rfl,⟨qr,rfl,hv⟩,r4⟩ | ⟨p,hp,ht⟩⟩
      ·have gd:=rX s _ _ _ C2.o.rd.tk h4;have g4:=C2.o.step hb k4 r4 gd.fF;obtain ⟨pa,ps,qn,g4,_⟩:=g4.cell;obtain ⟨d0,d1,d2,d3,d4,df⟩:=cells5 g4;have hsz:=C2.o.kp.size;have qM:=C2.o.lt;have C3:Hid (gY b s eT eN w q { x1 with ex:=some x } st.fF jL (w4.setCell ⟨q,1,none⟩ (Ref.ptr qr))):=C2.o.put hb k4 r4 gd.fF C2.o.op C2.o.one C2.o.two fun pa ps qn e1 e2 e3 e4 =>
        ⟨some ⟨qr,0,none⟩,ps,qn,by rw[Ref.heap_set _ e1];simp[Ref.ptr],⟨qr,rfl,hv.mono (Qx hsz qM)⟩,e3,e4⟩
       have E3:Hid (Px.call s st=andThen (andThen (kI s ⟨#[41]⟩ jL) fun _ st''=>.ok ({ x1 with ex:=some x },st'')) (BH s)):=by
        unfold Hid;rw[E2.o,uP,tK,if_neg (by simp[HB.o]),then_ok h4]
       clear g4 hv k4 r4 h4 gd hsz qM;unfold Ref.ptr at *;go_wp2_with fail;refine (Ad b s _ jL eT eN _ C3.o.rd hs).mono ?_;rintro e w5 ⟨k5,⟨u,kT,v,h5,rfl,rfl,r5⟩ | ⟨p,hp,ht⟩⟩
       ·have C4:Hid (gY b s eT eN w q { x1 with ex:=some x } st.fF kT w5):=C3.o.step hb k5 r5 (by rw[(MO h5).1];rfl)
        have E4:Hid (Px.call s st=BH s { x1 with ex:=some x } kT):=E3.o.trans (then_ok (then_ok h5))
        clear k5 r5 h5;go_wp2_with fail;go_meet
        case rel=>exact ⟨rfl,_,_,C4.o,E4.o⟩
       ·obtain ⟨c,rfl⟩:=ht.form;exact ⟨rfl,C3.o.kp.trans k5,ah ⟨p,by rw[E3.o];exact jB (jB hp fun _ _ h=>mJ _ h) (MQ s),ht.low C3.o.kp.size⟩⟩
      ·obtain ⟨c,rfl⟩:=ht.form;refine ⟨rfl,C2.o.kp.trans k4,ah ⟨p,?_,ht.low C2.o.kp.size⟩⟩;rw[E2.o,uP,tK,if_neg (by simp[HB.o])]
       exact jB (jB hp fun _ st' h'=>jB (zx s _ st' h') fun _ _ h''=>mJ _ h'') (MQ s)
     ·rw[FJ HB.o] at C2;go_wp2_with fail;go_meet
      case rel =>
       exact ⟨rfl,x1,_,C2.o,by rw[E2.o,uP,tK,if_pos HB.o];rfl⟩
    case rest =>
    obtain ⟨rfl,hcx⟩:=hcut;obtain ⟨xa,Dw,Ca,XA⟩:=hcx.o;have Da:Hid (gY b s eT eN w q xa st.fF Dw wc/\Px.call s st=BH s xa Dw):=⟨Ca,XA⟩;clear hcx Ca XA;go_wp2_with fail;refine (IY b s _ Dw eT eN _ Da.o.1.rd hs).mono ?_;rintro e w4 ⟨k4,⟨rfl,r4⟩ | ⟨ho,h63,ht⟩⟩
    rotate_left
    ·obtain ⟨c,rfl⟩:=ht.form;exact ⟨rfl,Da.o.1.kp.trans k4,ah ⟨_,by rw[Da.o.2];exact jB (by rw[Qq ho];exact jB (Fz s (by decide) _ h63) fun _ _ h=>mJ _ h) (Qv s),ht.low Da.o.1.kp.size⟩⟩
    have Fa:Hid (gY b s eT eN w q xa st.fF (xk s ⟨#[97,115]⟩ Dw) w4):=Da.o.1.step hb k4 r4 MR;clear k4 r4;generalize hB:gy s Dw.t ⟨#[97,115]⟩=B;have HB:Hid (_):=hB;clear hB;go_upto_if 23 with fail
    go_cut [3] (fun v wc=>v=.pointer (some ⟨q,0,none⟩)/\Hid (∃ x st',gY b s eT eN w q x st.fF st' wc/\Px.call s st=FI s x st'))
    case first =>
     cases B
     ·rw[FK HB.o] at Fa;go_wp2_with fail;go_meet
      case rel=>exact ⟨rfl,xa,Dw,Fa.o,Da.o.2.trans (then_ok (Xw HB.o))⟩
     ·rw[FJ HB.o] at Fa;go_wp2_with fail;refine (zw b s (Px.nx s Dw) eT eN _ Fa.o.rd hs).mono ?_;rintro e w5 ⟨k5,⟨t,kT,v,h5,rfl,⟨qv,rfl,hv⟩,r5⟩ | ⟨p,hp,ht⟩⟩
      ·have g5:=Fa.o.step hb k5 r5 (by rw[(tJ h5).2.1];rfl)
       obtain ⟨pa,ps,qn,g5,_⟩:=g5.cell;obtain ⟨d0,d1,d2,d3,d4,df⟩:=cells5 g5;have hsz:=Fa.o.kp.size;have qM:=Fa.o.lt;have G:Hid (gY b s eT eN w q { xa with gu:=s.extract t.a t.b,fZ:=t.a } st.fF kT (w5.setCell ⟨q,2,none⟩ (Ref.ptr qv))):=Fa.o.put hb k5 r5 (by rw[(tJ h5).2.1];rfl) Fa.o.op Fa.o.one Fa.o.two fun pa ps qn e1 e2 e3 e4=>⟨pa,some ⟨qv,0,none⟩,qn,by rw[Ref.heap_set _ e1];simp[Ref.ptr],e2,ah ⟨by rw[(tJ h5).1];exact T6 Fa.o.rd.tk (tJ h5).2.2,qv,rfl,hv.mono (Qx hsz qM)⟩,e4⟩
       have EG:Hid (Px.call s st=FI s { xa with gu:=s.extract t.a t.b,fZ:=t.a } kT):=Da.o.2.trans (then_ok (by rw[Qq HB.o];exact then_ok h5))
       clear g5 k5 r5 h5 hsz qM hv;unfold Ref.ptr at *;go_wp2_with fail;go_meet
       case rel=>exact ⟨rfl,_,_,G.o,EG.o⟩
      ·obtain ⟨c,rfl⟩:=ht.form;exact ⟨rfl,Fa.o.kp.trans k5,ah ⟨p,by rw[Da.o.2];exact jB (by rw[Qq HB.o];exact jB hp fun _ _ h=>mJ _ h) (Qv s),ht.low Fa.o.kp.size⟩⟩
    case rest =>
    obtain ⟨rfl,hcx⟩:=hcut;obtain ⟨xu,Dx,Cu,XB⟩:=hcx.o;have Du:Hid (gY b s eT eN w q xu st.fF Dx wc/\Px.call s st=FI s xu Dx):=⟨Cu,XB⟩;clear hcx Cu XB;go_wp2_with fail;refine (IY b s _ Dx eT eN _ Du.o.1.rd hs).mono ?_;rintro e w4 ⟨k4,⟨rfl,r4⟩ | ⟨ho,h63,ht⟩⟩
    rotate_left
    ·obtain ⟨c,rfl⟩:=ht.form;exact ⟨rfl,Du.o.1.kp.trans k4,ah ⟨_,by rw[Du.o.2];exact jB (by rw[Qr ho];exact jB (Fz s (by decide) _ h63) fun _ _ h=>mJ _ h) (Qu s),ht.low Du.o.1.kp.size⟩⟩
    have Fu:Hid (gY b s eT eN w q xu st.fF (xk s ⟨#[117,110,100,111]⟩ Dx) w4):=Du.o.1.step hb k4 r4 MR;clear k4 r4;generalize hB:gy s Dx.t ⟨#[117,110,100,111]⟩=B;have HB:Hid (_):=hB;clear hB;go_upto_if 30 with fail
    go_cut [3] (fun v wc=>v=.pointer (some ⟨q,0,none⟩)/\Hid (∃ x st',gY b s eT eN w q x st.fF st' wc/\Px.call s st=FH s x st'))
    case first =>
     cases B
     ·rw[FK HB.o] at Fu;go_wp2_with fail;go_meet
      case rel=>exact ⟨rfl,xu,Dx,Fu.o,Du.o.2.trans (then_ok (Xx HB.o))⟩
     ·rw[FJ HB.o] at Fu;go_wp2_with fail;refine (Dm b s (Px.nx s Dx) eT eN _ Fu.o.rd hs).mono ?_;rintro e w5 ⟨k5,⟨t,kT,v,h5,rfl,rfl,r5⟩ | ⟨p,hp,ht⟩⟩
      ·have g5:=Fu.o.step hb k5 r5 (by rw[(tJ h5).2.1];rfl)
       obtain ⟨pa,ps,qn,g5,_⟩:=g5.cell;obtain ⟨d0,d1,d2,d3,d4,df⟩:=cells5 g5;have hsz:=Fu.o.kp.size;have qM:=Fu.o.lt;have G:Hid (gY b s eT eN w q { xu with undo:=s.extract t.a t.b } st.fF kT (w5.setCell ⟨q,3,none⟩ (.string (s.extract t.a t.b)))):=Fu.o.put hb k5 r5 (by rw[(tJ h5).2.1];rfl) Fu.o.op Fu.o.one Fu.o.two fun pa ps qn e1 e2 e3 e4=>⟨pa,ps,qn,by rw[Ref.heap_set _ e1];simp,e2,e3,e4⟩
       have EG:Hid (Px.call s st=FH s { xu with undo:=s.extract t.a t.b } kT):=Du.o.2.trans (then_ok (by rw[Qr HB.o];exact then_ok h5))
       clear g5 k5 r5 h5 hsz qM;unfold Ref.ptr at *;go_wp2_with fail;go_meet
       case rel=>exact ⟨rfl,_,_,G.o,EG.o⟩
      ·obtain ⟨c,rfl⟩:=ht.form;exact ⟨rfl,Fu.o.kp.trans k5,ah ⟨p,by rw[Du.o.2];exact jB (by rw[Qr HB.o];exact jB hp fun _ _ h=>mJ _ h) (Qu s),ht.low Fu.o.kp.size⟩⟩
    case rest =>
    obtain ⟨rfl,hcx⟩:=hcut;obtain ⟨xr,str,Cr,XC⟩:=hcx.o;have Dr:Hid (gY b s eT eN w q xr st.fF str wc/\Px.call s st=FH s xr str):=⟨Cr,XC⟩;clear hcx Cr XC;go_wp2_with fail;refine (IY b s _ str eT eN _ Dr.o.1.rd hs).mono ?_;rintro e w4 ⟨k4,⟨rfl,r4⟩ | ⟨ho,h63,ht⟩⟩
    rotate_left
    ·obtain ⟨c,rfl⟩:=ht.form;exact ⟨rfl,Dr.o.1.kp.trans k4,ah ⟨_,by rw[Dr.o.2];exact jB (by rw[Qs ho];exact jB (Fz s (by decide) _ h63) fun _ _ h=>mJ _ h) (Qt s),ht.low Dr.o.1.kp.size⟩⟩
    have Fr:Hid (gY b s eT eN w q xr st.fF (xk s ⟨#[116,114,105,101,115]⟩ str) w4):=Dr.o.1.step hb k4 r4 MR;clear k4 r4;generalize hB:gy s str.t ⟨#[116,114,105,101,115]⟩=B;have HB:Hid (_):=hB;clear hB;go_upto_if 37 with fail
    go_cut [3] (fun v wc=>v=.pointer (some ⟨q,0,none⟩)/\Hid (∃ x st',gY b s eT eN w q x st.fF st' wc/\Px.call s st=FE s x st'))
    case first =>
     cases B
     ·rw[FK HB.o] at Fr;go_wp2_with fail;go_meet
      case rel=>exact ⟨rfl,xr,str,Fr.o,Dr.o.2.trans (then_ok (Xy HB.o))⟩
     ·rw[FJ HB.o] at Fr;go_wp2_with fail;refine (Af b s (Px.nx s str) eT eN _ Fr.o.rd hs).mono ?_;rintro e w5 ⟨k5,⟨t,kT,v,h5,rfl,⟨qv,rfl,hv⟩,r5⟩ | ⟨p,hp,ht⟩⟩
      ·have g5:=Fr.o.step hb k5 r5 (by rw[(tJ h5).2.1];rfl)
       obtain ⟨pa,ps,qn,g5,_⟩:=g5.cell;obtain ⟨d0,d1,d2,d3,d4,df⟩:=cells5 g5;have hsz:=Fr.o.kp.size;have qM:=Fr.o.lt;have G:Hid (gY b s eT eN w q { xr with n:=Px.valOf (s.extract t.a t.b).toList,gG:=t.a } st.fF kT (w5.setCell ⟨q,4,none⟩ (Ref.ptr qv))):=Fr.o.put hb k5 r5 (by rw[(tJ h5).2.1];rfl) Fr.o.op Fr.o.one Fr.o.two fun pa ps qn e1 e2 e3 e4=>⟨pa,ps,qv,by rw[Ref.heap_set _ e1];simp,e2,e3,hv.mono (Qx hsz qM)⟩
       have EG:Hid (Px.call s st=FE s { xr with n:=Px.valOf (s.extract t.a t.b).toList,gG:=t.a } kT):=Dr.o.2.trans (then_ok (by rw[Qs HB.o];exact then_ok h5))
       clear g5 k5 r5 h5 hsz qM hv;unfold Ref.ptr at *;go_wp2_with fail;go_meet
       case rel=>exact ⟨rfl,_,_,G.o,EG.o⟩
      ·obtain ⟨c,rfl⟩:=ht.form;exact ⟨rfl,Fr.o.kp.trans k5,ah ⟨p,by rw[Dr.o.2];exact jB (by rw[Qs HB.o];exact jB hp fun _ _ h=>mJ _ h) (Qt s),ht.low Fr.o.kp.size⟩⟩
    case rest =>
    obtain ⟨rfl,hcx⟩:=hcut;obtain ⟨xz,Qz,Cz,XD⟩:=hcx.o;have Dz:Hid (gY b s eT eN w q xz st.fF Qz wc/\Px.call s st=FE s xz Qz):=⟨Cz,XD⟩;clear hcx Cz XD;go_wp2_with fail;refine (Ad b s _ Qz eT eN _ Dz.o.1.rd hs).mono ?_;rintro e w8 ⟨k8,⟨u,uz,v,h8,rfl,rfl,r8⟩ | ⟨p,hp,ht⟩⟩
    ·have E8:Hid (Px.call s st=.ok (xz,uz)):=Dz.o.2.trans (then_ok h8);have C8:Hid (gY b s eT eN w q xz st.fF uz w8):=Dz.o.1.step hb k8 r8 (by rw[(MO h8).1];rfl)
     clear k8 r8 h8;go_wp2_with fail;go_ret;obtain ⟨pa,ps,qn,g1,g2,g3,g4⟩:=C8.o.cell;have hm:∀ i,tL w w8 q i->Ref.In w w8 i:=fun i hi=>hi.1
     refine ⟨C8.o.kp,ak ⟨xz,uz,_,E8.o,rfl,⟨q,rfl,?_⟩,C8.o.rd⟩⟩;refine ⟨.slice none 0 0,.slice none 0 0,[],[],⟨q,⟨C8.o.hq,C8.o.lt⟩,ah (ak ⟨C8.o.op,rfl,pa,ps,qn,g1,g2.mono hm,g3.mono hm,g4.mono hm⟩)⟩,ak ⟨rfl,rfl⟩,by rw[C8.o.one];exact gF.nQ.2 rfl,ak ⟨rfl,rfl⟩,by rw[C8.o.two];exact gF.nQ.2 rfl⟩
    ·obtain ⟨c,rfl⟩:=ht.form;exact ⟨rfl,Dz.o.1.kp.trans k8,ah ⟨p,by rw[Dz.o.2];exact jB hp fun _ _ h=>mJ _ h,ht.low Dz.o.1.kp.size⟩⟩
   ·obtain ⟨c,rfl⟩:=ht.form;exact ⟨rfl,C1.o.kp.trans k3,ah ⟨_,by rw[E2.o,uP,tK,if_pos ho];exact MQ s _ _ h63,ht.low C1.o.kp.size⟩⟩
  ·obtain ⟨c,rfl⟩:=ht.form;exact ⟨rfl,C0.o.kp.trans k2,ah ⟨p,by rw[E1.o];exact jB hp fun _ st2 h'=>Qw s _ st2 h',ht.low C0.o.kp.size⟩⟩
 ·obtain ⟨c,rfl⟩:=ht.form;exact ⟨rfl,k1,ah ⟨p,by rw[E0.o];exact jB hp fun t st1 h=>jB (zx s _ st1 h) fun _ st2 h'=>Qw s _ st2 h',ht⟩⟩
