import Derived.Test.YtokkhhekekeokaaGreatDoorC03
set_option maxRecDepth 100000
set_option maxHeartbeats 4000000
namespace Go.Proofs.YtokkhhekekeokaaGreatDoor
open Go.RowKit Tryz
namespace Ref
open Px
def EY (b:Nat)(s:fq)(n:Nat)(g:Px.Ps->Except Nat (Px.Ex×Px.Ps)):Prop :=
 ∀ (st:Px.Ps) (w:fu),Dom s n st->fQ w b s st.t (-1) st.fF st.fH ->
  Calls prog 189 #[.pointer (some ⟨b,0,none⟩)] w (mQ b s w (g st))
theorem uA (b:Nat)(s:fq)(n:Nat)(g:Px.Ps->Except Nat (Px.Ex×Px.Ps))(h:EY b s n g):OO b s n false g:=by
 intro st w hD p;have HD:Hid (Dom s n st/\fQ w b s st.t (-1) st.fF st.fH):=⟨hD,p⟩;clear hD p;go_enter func181,ntmps181
 go_wp2_with fail;refine (h st _ HD.o.1 HD.o.2).mono ?_;rintro e w1 ⟨k1,q,rfl,h1⟩;have H1:Hid (_/\_):=⟨k1,h1⟩;clear k1 h1;go_wp2_with fail;go_ret;exact ⟨H1.o.1,q,rfl,H1.o.2⟩
theorem uB (b:Nat)(s:fq)(n:Nat)(g:Px.Ps->Except Nat (Px.Ex×Px.Ps))(h:EY b s n g)(hg:Px.Goes s g)(hs:s.size<=maxLen):OO b s n true (Px.term s g):=by
 intro st w hD p;have HG:Hid (_):=hg;have HD:Hid (Dom s n st/\fQ w b s st.t (-1) st.fF st.fH):=⟨hD,p⟩;clear hD p hg;go_enter func181,ntmps181
 go_wp2_with fail;refine (VQ b s n false g (uA b s n g h) HG.o 42 47 st _ HD.o.1 HD.o.2 hs).mono ?_;rintro e w1 ⟨k1,q,rfl,h1⟩;have H1:Hid (_/\_):=⟨k1,h1⟩;clear k1 h1;go_wp2_with fail;go_ret;exact ⟨H1.o.1,q,rfl,H1.o.2⟩
theorem LH (b:Nat)(s:fq)(n:Nat)(g:Px.Ps->Except Nat (Px.Ex×Px.Ps))(h:EY b s n g)(hg:Px.Goes s g)(hs:s.size<=maxLen)(st:Px.Ps)(w:fu)(hD:Dom s n st)(p:fQ w b s st.t (-1) st.fF st.fH) :
  Calls prog 159 #[.pointer (some ⟨b,0,none⟩),.string ⟨#[43]⟩,.string ⟨#[45]⟩,.bool true] w (mQ b s w (Px.sum s g st)) :=
 VQ b s n true (Px.term s g) (uB b s n g h hg hs) (Co hg) 43 45 st w hD p hs
variable {s:fq}{t:Px.Tok}
theorem OT (h1:gy s t ⟨#[60]⟩=false)(h2:gy s t ⟨#[61]⟩=false)(h3:gy s t ⟨#[35]⟩=false):qj s t=none:=by
 simp[qj,h1,h2,h3]
def VR (b:Nat)(s:fq)(n:Nat)(g:Px.Ps->Except Nat (Px.Ex×Px.Ps)):Prop :=
 ∀ (st:Px.Ps) (w:fu),Dom s n st->fQ w b s st.t (-1) st.fF st.fH ->
  Calls prog 117 #[.pointer (some ⟨b,0,none⟩)] w (mQ b s w (Px.expr s g st))
theorem VT (b:Nat)(s:fq)(n:Nat)(g:Px.Ps->Except Nat (Px.Ex×Px.Ps))(h:EY b s n g)(hg:Px.Goes s g)(hs:s.size<=maxLen):VR b s n g:=by
 intro st w hD p;obtain ⟨c0,c1,c2,c3,c4,c5,c6,c7,f,hb⟩:=p.cells;have HG:Hid (_):=hg;have HD:Hid (Dom s n st/\fQ w b s st.t (-1) st.fF st.fH):=⟨hD,p⟩;clear hD p hg;go_enter func117,ntmps117
 go_wp2_with fail;refine (LH b s n g h HG.o hs st _ HD.o.1 HD.o.2).mono ?_;rintro e w1 ⟨k1,q,rfl,h1⟩;clear c0 c1 c2 c3 c4 c5 c6 c7 f;cases hr:Px.sum s g st with
 | error pe =>
  have e1:Hid (Px.expr s g st=.error pe):=by unfold Hid Px.expr;rw[hr]
  rw[hr] at h1;obtain ⟨hq,hv,t,fF,fH,p1⟩:=h1;have P1:Hid (_):=p1;have V:Hid (_/\_/\_):=⟨k1,hq,hv⟩;clear k1 hq hv p1 hr;go_wp2_with (first | (go_at_call 156;refine (C9 b s _ t (pe:Int) fF fH _ P1.o (by omega)).mono ?_;rintro e w' ⟨rfl,rfl⟩))
  go_ret;rw[e1.o];exact ⟨V.o.1,q,rfl,V.o.2.1,V.o.2.2,t,fF,fH,P1.o⟩
 | ok r =>
  obtain ⟨x,st1⟩:=r;have HR:Hid (_):=hr;rw[hr] at h1;obtain ⟨hx,p1⟩:=h1;have X:Hid (Kp b w w1/\ig w1 x (In w w1) q):=⟨k1,hx⟩;have P1:Hid (_):=p1;have D1:Hid (Dom s n st1):=HD.o.1.good (zJ HG.o _ _ _ HD.o.1.tk hr);clear k1 hx p1 hr;have fin:∀ (o:UInt8) (hc:qj s st1.t=some o.toNat) (w2 w3 W:fu) (q2:Nat) (O:Obj) (K2:Kp b w1 w2) (H3:mQ b s (w2.alloc O) (Px.sum s g (Px.nx s st1)) (.returned (.pointer (some ⟨q2,0,none⟩))) w3)
   (hW:W.heap=(w3.heap.push (.cells #[.pointer (some ⟨q,0,none⟩),.pointer (some ⟨q2,0,none⟩)] 248)).push (.cells #[.int .u8 (o.toNat:Int),.int .i64 0,.string ⟨#[]⟩,.int .i64 (st.t.a:Int),.int .i64 (st1.t.a:Int),.slice (some ⟨w3.heap.size,0,none⟩) 2 2] 260))
   (hK:Kp b w3 W),mQ b s w (Px.expr s g st) (.returned (.pointer (some ⟨w3.heap.size+1,0,none⟩))) W:=by
   intro o hc w2 w3 W q2 O K2 H3 hW hK;obtain ⟨k3,q2',he,h3⟩:=H3;obtain rfl:q2=q2':=by simpa using he
   have Df:Kp b w1 w3:=K2.trans k3.vR;have kw:Kp b w W:=(X.o.1.trans Df).trans hK;have s1:=X.o.1.size;have s2:=Df.size;have s3:=K2.size;have oo:∀ {t:Px.Tok} {bad fF fH:Int},fQ w3 b s t bad fF fH->fQ W b s t bad fF fH:=fun p=>⟨by rw[hW,LD p.lt];exact p.h⟩
   refine ⟨kw,_,rfl,?_⟩;unfold Px.expr;rw[HR.o];simp only[hc];cases hr:Px.sum s g (Px.nx s st1) with
   | error p =>
    rw[hr] at h3;obtain ⟨hq,hv,t,fF,fH,hp⟩:=h3;exact ⟨by omega,⟨_,_,_,_,_,_,by rw[hW];exact wV⟩,t,fF,fH,oo hp⟩
   | ok r =>
    obtain ⟨k,st'⟩:=r;rw[hr] at h3;obtain ⟨hk,hp⟩:=h3;exact ⟨ig.pair (X.o.2.kp hb Df) hk (by simp;omega) s2 (by omega) hW,oo hp⟩
  have FIN:Hid (_):=fin;clear fin;cases EZ:gy s st1.t ⟨#[60]⟩
  ·cases G8:gy s st1.t ⟨#[61]⟩
   ·cases Dg:gy s st1.t ⟨#[35]⟩
    ·go_wp2_with (first | (go_at_call 156;refine (vD b s _ st1.t st1.fF st1.fH _ P1.o).mono ?_;rintro e w' ⟨rfl,rfl⟩))
     go_ret;refine ⟨X.o.1,q,rfl,?_⟩;unfold Px.expr;rw[HR.o];simp only[OT EZ G8 Dg];exact ⟨X.o.2,P1.o⟩
    ·go_wp2_with (first | (go_at_call 156;refine (vD b s _ st1.t st1.fF st1.fH _ P1.o).mono ?_;rintro e w' ⟨rfl,rfl⟩))
     refine (vF b s st1.t st1.fF st1.fH _ P1.o D1.o.tk.le hs).mono ?_;unfold kY;rw[G7 Dg];rintro e w2 ⟨rfl,p2,k2⟩;have P2:Hid (_):=p2;have K2:Hid (_):=k2;have hb2:b < w2.heap.size:=p2.lt;clear p2 k2;go_wp2_with fail;refine (LH b s n g h HG.o hs (Px.nx s st1) _ (D1.o.good (gX D1.o.tk Dg)) (P2.o.alloc _)).mono ?_;rintro e w3 ⟨k3,q2,rfl,h3⟩;obtain ⟨a0,a1,a2,a3,af⟩:=pq (xQ k3 hb2);have hz3:w2.heap.size < w3.heap.size:=by have:=k3.size;simp at this;omega
     have H3:Hid (mQ b s (w2.alloc _) (Px.sum s g (Px.nx s st1)) (.returned (.pointer (some ⟨q2,0,none⟩))) w3):=⟨k3,q2,rfl,h3⟩;clear k3 h3;go_wp2_with fail;go_region
     go_wp2;go_ret;exact FIN.o 35 (by simp[qj,EZ,G8,Dg]) w2 w3 _ q2 _ K2.o H3.o rfl (((Kp.refl _ _).alloc _).alloc _).drew
   ·go_wp2_with (first | (go_at_call 156;refine (vD b s _ st1.t st1.fF st1.fH _ P1.o).mono ?_;rintro e w' ⟨rfl,rfl⟩))
    refine (vF b s st1.t st1.fF st1.fH _ P1.o D1.o.tk.le hs).mono ?_;unfold kY;rw[G7 G8];rintro e w2 ⟨rfl,p2,k2⟩;have P2:Hid (_):=p2;have K2:Hid (_):=k2;have hb2:b < w2.heap.size:=p2.lt;clear p2 k2;go_wp2_with fail;refine (LH b s n g h HG.o hs (Px.nx s st1) _ (D1.o.good (gX D1.o.tk G8)) (P2.o.alloc _)).mono ?_;rintro e w3 ⟨k3,q2,rfl,h3⟩;obtain ⟨a0,a1,a2,a3,af⟩:=pq (xQ k3 hb2);have hz3:w2.heap.size < w3.heap.size:=by have:=k3.size;simp at this;omega
    have H3:Hid (mQ b s (w2.alloc _) (Px.sum s g (Px.nx s st1)) (.returned (.pointer (some ⟨q2,0,none⟩))) w3):=⟨k3,q2,rfl,h3⟩;clear k3 h3;go_wp2_with fail;go_region
    go_wp2;go_ret;exact FIN.o 61 (by simp[qj,EZ,G8]) w2 w3 _ q2 _ K2.o H3.o rfl (((Kp.refl _ _).alloc _).alloc _).drew
  ·go_wp2_with (first | (go_at_call 156;refine (vD b s _ st1.t st1.fF st1.fH _ P1.o).mono ?_;rintro e w' ⟨rfl,rfl⟩))
   refine (vF b s st1.t st1.fF st1.fH _ P1.o D1.o.tk.le hs).mono ?_;unfold kY;rw[G7 EZ];rintro e w2 ⟨rfl,p2,k2⟩;have P2:Hid (_):=p2;have K2:Hid (_):=k2;have hb2:b < w2.heap.size:=p2.lt;clear p2 k2;go_wp2_with fail;refine (LH b s n g h HG.o hs (Px.nx s st1) _ (D1.o.good (gX D1.o.tk EZ)) (P2.o.alloc _)).mono ?_;rintro e w3 ⟨k3,q2,rfl,h3⟩;obtain ⟨a0,a1,a2,a3,af⟩:=pq (xQ k3 hb2);have hz3:w2.heap.size < w3.heap.size:=by have:=k3.size;simp at this;omega
   have H3:Hid (mQ b s (w2.alloc _) (Px.sum s g (Px.nx s st1)) (.returned (.pointer (some ⟨q2,0,none⟩))) w3):=⟨k3,q2,rfl,h3⟩;clear k3 h3;go_wp2_with fail;go_region
   go_wp2;go_ret;exact FIN.o 60 (by simp[qj,EZ]) w2 w3 _ q2 _ K2.o H3.o rfl (((Kp.refl _ _).alloc _).alloc _).drew
theorem OU (h:Tk s t)(hk:t.k=110):(s.extract t.a t.b).size<=4/\∀ j (hj:j < (s.extract t.a t.b).size),kC (s.extract t.a t.b)[j]=true:=by
 obtain ⟨h1,h2⟩:=h.num hk;have hz:(s.extract t.a t.b).size=t.b - t.a:=by
  have:=h.le;simp;omega
 refine ⟨by omega,fun j hj=>?_⟩
 have e:(s.extract t.a t.b)[j]=s[t.a+j]'(by have:=h.le;omega):=by
  simp[ByteArray.getElem_extract]
 rw[e];exact h2 _ _ (by omega) (by omega)
theorem vG (hk:t.k=107)(l:List UInt8):gy s t ⟨⟨l⟩⟩=((s.extract t.a t.b).toList == l):=by
 unfold gy;rw[hk,aN ⟨⟨l⟩⟩];simp
variable {w w' w1 w2 w3:fu}{a b base k n q:Nat}
theorem nH {a b c d e f:fC}{t:TypeId}(h:w.heap[k]?=some (.cells #[a,b,c,d,e,f] t)) :
  w.cell? ⟨k,0,none⟩=some a/\w.cell? ⟨k,1,none⟩=some b/\w.cell? ⟨k,2,none⟩=some c/\w.cell? ⟨k,3,none⟩=some d/\w.cell? ⟨k,4,none⟩=some e/\w.cell? ⟨k,5,none⟩=some f/\∀ o,w.frozen? ⟨k,o,none⟩=false:=by
 refine ⟨?_,?_,?_,?_,?_,?_,?_⟩<;>simp[World.cell?,World.frozen?,h]
theorem Bo {W:fu}{o p:Obj}(hW:W.heap=(w.heap.push o).push p)(h:Kp b W w1)(hb:b < w.heap.size):w1.heap[w.heap.size]?=some o/\w1.heap[w.heap.size+1]?=some p/\w.heap.size+2<=w1.heap.size:=by
 have e0:W.heap.size=w.heap.size+2:=by rw[hW];simp
 have:=h.size
 refine ⟨?_,?_,by omega⟩
 ·rw[h.block _ (by omega) (by omega),hW];exact G6
 ·rw[h.block _ (by omega) (by omega),hW];exact wV
variable {st st':Px.Ps}{T:Obj}
theorem LJ {op pl:Nat}{fD:fq}(hb:b < w.heap.size)(k:Kp b ((w.alloc (.cells #[.int .u8 (op:Int),.int .i64 (n:Int),.string fD,.int .i64 (pl:Int),.int .i64 (pl:Int),.slice none 0 0] 260)).alloc T).drew w')(p:fQ w' b s st.t (-1) st.fF st.fH) :
  mQ b s w (.ok (Px.leaf op n fD pl,st)) (.returned (.pointer (some ⟨w.heap.size,0,none⟩))) w':=by
 obtain ⟨h1,h2,h3⟩:=Bo rfl k hb;exact ⟨((((Kp.refl b w).alloc _).alloc _).drew).trans k,_,rfl,⟨⟨aj _,by omega⟩,h1⟩,p⟩
theorem OV (b:Nat)(s:fq)(n:Nat)(hs:s.size<=maxLen)(st:Px.Ps)(w:fu)(hD:Dom s (n+1) st)(p:fQ w b s st.t (-1) st.fF st.fH)(hk:st.t.k=110) :
  Calls prog 189 #[.pointer (some ⟨b,0,none⟩)] w (mQ b s w (Px.atom s (n+1) st)):=by
 obtain ⟨c0,c1,c2,c3,c4,c5,c6,c7,f,hb⟩:=p.cells;have HD:Hid (Dom s (n+1) st/\fQ w b s st.t (-1) st.fF st.fH):=⟨hD,p⟩;have e1:Hid (Px.atom s (n+1) st=.ok (Px.leaf 110 (Px.valOf (Px.txt s st.t).toList) gM st.t.a,Px.nx s st)):=by
  unfold Hid;rw[Px.atom,if_pos hk]
 have V:Hid (_/\_):=OU hD.tk hk;have t1:((st.t.k:Int) == 110)=true:=by rw[hk];rfl
 clear hD p hk;go_enter func189,ntmps189
 go_wp2_with fail;go_region
 go_wp2_with fail;refine (OM _ _ V.o.1 V.o.2).mono ?_;rintro e w' ⟨rfl,hw⟩;rw[hw];clear hw;go_wp2_with fail;refine (vF b s st.t st.fF st.fH _ ((HD.o.2.alloc _).alloc _).drew HD.o.1.tk.le hs).mono ?_;rintro e w2 ⟨rfl,p2,k2⟩;have P2:Hid (_/\_):=⟨p2,k2⟩;clear p2 k2;go_wp2_with fail;go_ret;rw[e1.o];exact LJ hb P2.o.2 P2.o.1
theorem OW (b:Nat)(s:fq)(n:Nat)(hs:s.size<=maxLen)(st:Px.Ps)(w:fu)(hD:Dom s (n+1) st)(p:fQ w b s st.t (-1) st.fF st.fH)(hk:st.t.k=119) :
  Calls prog 189 #[.pointer (some ⟨b,0,none⟩)] w (mQ b s w (Px.atom s (n+1) st)):=by
 obtain ⟨c0,c1,c2,c3,c4,c5,c6,c7,f,hb⟩:=p.cells;have HD:Hid (Dom s (n+1) st/\fQ w b s st.t (-1) st.fF st.fH):=⟨hD,p⟩;have e1:Hid (Px.atom s (n+1) st=.ok (Px.leaf 119 0 (Px.txt s st.t) st.t.a,Px.nx s st)):=by
  unfold Hid;rw[Px.atom,if_neg (by omega),if_pos hk]
 have t1:((st.t.k:Int) == 110)=false:=by rw[hk];rfl
 have t2:((st.t.k:Int) == 119)=true:=by rw[hk];rfl
 clear hD p hk;go_enter func189,ntmps189
 go_wp2_with fail;go_region
 go_wp2_with fail;refine (vF b s st.t st.fF st.fH _ ((HD.o.2.alloc _).alloc _).drew HD.o.1.tk.le hs).mono ?_;rintro e w2 ⟨rfl,p2,k2⟩;have P2:Hid (_/\_):=⟨p2,k2⟩;clear p2 k2;go_wp2_with fail;go_ret;rw[e1.o];exact LJ hb P2.o.2 P2.o.1
theorem OX (b:Nat)(s:fq)(n:Nat)(hs:s.size<=maxLen)(st:Px.Ps)(w:fu)(hD:Dom s (n+1) st)(p:fQ w b s st.t (-1) st.fF st.fH)(ho:gy s st.t ⟨#[116,114,117,101]⟩=true) :
  Calls prog 189 #[.pointer (some ⟨b,0,none⟩)] w (mQ b s w (Px.atom s (n+1) st)):=by
 obtain ⟨c0,c1,c2,c3,c4,c5,c6,c7,f,hb⟩:=p.cells;have HD:Hid (Dom s (n+1) st/\fQ w b s st.t (-1) st.fF st.fH):=⟨hD,p⟩;have hk:=sU ho;have e1:Hid (Px.atom s (n+1) st=.ok (Px.leaf 116 1 gM st.t.a,Px.nx s st)):=by
  unfold Hid;rw[Px.atom,if_neg (by omega),if_neg (by omega),if_pos ho]
 have t1:((st.t.k:Int) == 110)=false:=by rw[hk];rfl
 have t2:((st.t.k:Int) == 119)=false:=by rw[hk];rfl
 have t3:((st.t.k:Int) == 107)=true:=by rw[hk];rfl
 have t4:((s.extract st.t.a st.t.b).toList == [116,114,117,101])=true:=by rw[<- vG hk];exact ho
 clear hD p hk ho;go_enter func189,ntmps189
 go_wp2_with fail;go_region
 go_wp2_with fail;refine (vF b s st.t st.fF st.fH _ ((HD.o.2.alloc _).alloc _).drew HD.o.1.tk.le hs).mono ?_;rintro e w2 ⟨rfl,p2,k2⟩;have P2:Hid (_/\_):=⟨p2,k2⟩;clear p2 k2;go_wp2_with fail;go_ret;rw[e1.o];exact LJ hb P2.o.2 P2.o.1
theorem OY (b:Nat)(s:fq)(n:Nat)(hs:s.size<=maxLen)(st:Px.Ps)(w:fu)(hD:Dom s (n+1) st)(p:fQ w b s st.t (-1) st.fF st.fH)(hk:st.t.k=107)(h1:gy s st.t ⟨#[116,114,117,101]⟩=false)(ho:gy s st.t ⟨#[102,97,108,115,101]⟩=true) :
  Calls prog 189 #[.pointer (some ⟨b,0,none⟩)] w (mQ b s w (Px.atom s (n+1) st)):=by
 obtain ⟨c0,c1,c2,c3,c4,c5,c6,c7,f,hb⟩:=p.cells;have HD:Hid (Dom s (n+1) st/\fQ w b s st.t (-1) st.fF st.fH):=⟨hD,p⟩;have e1:Hid (Px.atom s (n+1) st=.ok (Px.leaf 116 0 gM st.t.a,Px.nx s st)):=by
  unfold Hid;rw[Px.atom,if_neg (by omega),if_neg (by omega),if_neg (by simp[h1]),if_pos ho]
 have t1:((st.t.k:Int) == 110)=false:=by rw[hk];rfl
 have t2:((st.t.k:Int) == 119)=false:=by rw[hk];rfl
 have t3:((st.t.k:Int) == 107)=true:=by rw[hk];rfl
 have t4:((s.extract st.t.a st.t.b).toList == [116,114,117,101])=false:=by rw[<- vG hk];exact h1
 have t5:((s.extract st.t.a st.t.b).toList == [102,97,108,115,101])=true:=by rw[<- vG hk];exact ho
 clear hD p hk ho h1;go_enter func189,ntmps189
 go_wp2_with fail;go_region
 go_wp2_with fail;refine (vF b s st.t st.fF st.fH _ ((HD.o.2.alloc _).alloc _).drew HD.o.1.tk.le hs).mono ?_;rintro e w2 ⟨rfl,p2,k2⟩;have P2:Hid (_/\_):=⟨p2,k2⟩;clear p2 k2;go_wp2_with fail;go_ret;rw[e1.o];exact LJ hb P2.o.2 P2.o.1
def jF (w:fu)(b:Nat)(s:fq)(r:Except Nat Px.Ps):Prop :=
 match r with
 | .ok st=>fQ w b s st.t (-1) st.fF st.fH/\Tk s st.t
 | .error p=>∃ t fF fH,fQ w b s t ((p:Nat):Int) fF fH
theorem jF.lt {w:fu}{b:Nat}{s:fq}{r:Except Nat Px.Ps}(h:jF w b s r):b < w.heap.size:=by
 cases r with
 | error p=>obtain ⟨t,fF,fH,hp⟩:=h;exact hp.lt
 | ok st=>exact h.1.lt
theorem jF.eqv {r:Except Nat Px.Ps}(h:jF w b s r)(he:w'.heap[b]?=w.heap[b]?):jF w' b s r:=by
 cases r with
 | error p=>obtain ⟨t,fF,fH,hp⟩:=h;exact ⟨t,fF,fH,⟨by rw[he];exact hp.h⟩⟩
 | ok st=>exact ⟨⟨by rw[he];exact h.1.h⟩,h.2⟩
theorem jF.alloc {w:fu}{b:Nat}{s:fq}{r:Except Nat Px.Ps}(h:jF w b s r)(o:Obj):jF (w.alloc o) b s r:=h.eqv (aD _ _ _ h.lt)
theorem jF.gI {o:Nat}{r:Except Nat Px.Ps}(h:jF w b s r)(hk:b≠k)(v:fC):jF (w.setCell ⟨k,o,none⟩ v) b s r:=h.eqv (jr _ hk)
def qX (s:fq)(r:Except Nat Px.Ps)(x:fq):Bool :=
 match r with
 | .ok st=>gy s st.t x
 | .error _=>false
theorem uC (b:Nat)(s x:fq)(r:Except Nat Px.Ps)(w:fu)(p:jF w b s r) :
  Calls prog 156 #[.pointer (some ⟨b,0,none⟩),.string x] w fun e w'=>e=.returned (.bool (qX s r x))/\w=w':=by
 cases r with
 | error pe=>obtain ⟨t,fF,fH,hp⟩:=p;exact C9 b s x t _ fF fH w hp (by omega)
 | ok st=>exact vD b s x st.t st.fF st.fH w p.1
def xX (s:fq)(r:Except Nat Px.Ps)(x:fq):Except Nat Px.Ps :=
 match r with
 | .ok st=>if gy s st.t x then .ok (Px.nx s st) else .ok st
 | .error p=>.error p
theorem zV (b:Nat)(s x:fq)(r:Except Nat Px.Ps)(w:fu)(p:jF w b s r)(hs:s.size<=maxLen) :
  Calls prog 114 #[.pointer (some ⟨b,0,none⟩),.string x] w fun e w'=>e=.returned (.bool (qX s r x))/\Kp b w w'/\jF w' b s (xX s r x):=by
 cases r with
 | error pe =>
  obtain ⟨t,fF,fH,hp⟩:=p;refine (VI b s x t _ fF fH w hp (by omega)).mono ?_
  rintro e w' ⟨rfl,rfl⟩;exact ⟨rfl,Kp.refl _ _,t,fF,fH,hp⟩
 | ok st =>
  cases ho:gy s st.t x
  ·refine (sV b s x st.t st.fF st.fH w p.1 ho).mono ?_;rintro e w' ⟨rfl,rfl⟩;exact ⟨by simp[qX,ho],Kp.refl _ _,by simp[xX,ho];exact p⟩
  ·refine (Db b s x st.t st.fF st.fH w p.1 p.2.le hs ho).mono ?_;rintro e w' ⟨rfl,p1,k1⟩;exact ⟨by simp[qX,ho],k1,by simp[xX,ho];exact ⟨p1,xR p.2⟩⟩
theorem kI (b:Nat)(s x:fq)(r:Except Nat Px.Ps)(w:fu)(p:jF w b s r)(hs:s.size<=maxLen) :
  Calls prog 116 #[.pointer (some ⟨b,0,none⟩),.string x] w fun e w'=>e=.returned (.tuple #[])/\Kp b w w'/\jF w' b s (r.bind (Px.need s x)):=by
 cases r with
 | error pe =>
  obtain ⟨t,fF,fH,hp⟩:=p;refine (VK b s x t _ fF fH w hp (by omega)).mono ?_
  rintro e w' ⟨rfl,rfl⟩;exact ⟨rfl,Kp.refl _ _,t,fF,fH,hp⟩
 | ok st =>
  cases ho:gy s st.t x
  ·refine (tP b s x st.t st.fF st.fH w p.1 ho).mono ?_;rintro e w' ⟨rfl,p1,k1⟩;exact ⟨rfl,k1,by simp[Except.bind,Px.need,ho];exact ⟨_,_,_,p1⟩⟩
  ·refine (VJ b s x st.t st.fF st.fH w p.1 p.2.le hs ho).mono ?_;rintro e w' ⟨rfl,p1,k1⟩;exact ⟨rfl,k1,by simp[Except.bind,Px.need,ho];exact ⟨p1,xR p.2⟩⟩
def mg (s:fq)(r:Except Nat Px.Ps)(k:Nat):fq :=
 match r with
 | .ok st=>if st.t.k=k then s.extract st.t.a st.t.b else ⟨#[]⟩
 | .error _=>⟨#[]⟩
def pI (r:Except Nat Px.Ps)(k:Nat):Nat :=
 match r with
 | .ok st=>if st.t.k=k then st.t.a else 0
 | .error _=>0
theorem lT (b:Nat)(s:fq)(k:Nat)(r:Except Nat Px.Ps)(w:fu)(p:jF w b s r)(hs:s.size<=maxLen) :
  Calls prog 115 #[.pointer (some ⟨b,0,none⟩),.int .u8 (k:Int)] w fun e w'=>(∃ v x:Int,e=.returned (.agg #[.int .u8 v,.string (mg s r k),.int .i64 (pI r k:Int),.int .i64 x]))/\Kp b w w'/\jF w' b s (r.bind (Px.kind s k)):=by
 cases r with
 | error pe =>
  obtain ⟨t,fF,fH,hp⟩:=p;refine (tU b s k t _ fF fH w hp (by omega)).mono ?_
  rintro e w' ⟨rfl,p1,k1⟩;exact ⟨⟨0,0,rfl⟩,k1,t,fF,fH,p1⟩
 | ok st =>
  by_cases ho:st.t.k=k
  ·refine (tR b s k st.t st.fF st.fH w p.1 p.2.le hs (by omega)).mono ?_
   rintro e w' ⟨rfl,p1,k1⟩;exact ⟨⟨st.t.k,st.t.b,by simp[mg,pI,ho,kY]⟩,k1,by simp[Except.bind,Px.kind,ho];exact ⟨p1,xR p.2⟩⟩
  ·refine (tS b s k st.t st.fF st.fH w p.1 (by omega)).mono ?_
   rintro e w' ⟨rfl,p1,k1⟩;exact ⟨⟨0,0,by simp[mg,pI,ho,Dc]⟩,k1,by simp[Except.bind,Px.kind,ho];exact ⟨_,_,_,p1⟩⟩
theorem VU (b:Nat)(s:fq)(r:Except Nat Px.Ps)(w:fu)(p:jF w b s r)(hn:∀ st,r=.ok st->0<=st.fF/\st.fF<=2000000) :
  Calls prog 161 #[.pointer (some ⟨b,0,none⟩)] w fun e w'=>e=.returned (.tuple #[])/\Kp b w w'/\jF w' b s (r.map qy):=by
 cases r with
 | error pe =>
  obtain ⟨t,fF,fH,hp⟩:=p;refine (OJ b s t _ fF fH w hp).mono ?_;rintro e w' ⟨rfl,p1,k1⟩;exact ⟨rfl,k1,t,_,fH,p1⟩
 | ok st =>
  refine (OJ b s st.t _ st.fF st.fH w p.1).mono ?_;rintro e w' ⟨rfl,p1,k1⟩;have h:=hn st rfl;refine ⟨rfl,k1,?_,p.2⟩;have e1:wrap64 (st.fF - 1)=st.fF - 1:=(by unfold wrap64;omega)
  rw[e1] at p1;exact p1
theorem Kp.heap {b:Nat}{w w':fu}(h:Kp b w w'){k:Nat}{o:Obj}(hk:w.heap[k]?=some o)(hb:k≠b):w'.heap[k]?=some o:=by
 rcases dD k w.heap.size with h1 | h1
 ·rw[h.block k h1 hb];exact hk
 ·simp[h1] at hk
theorem vA (b:Nat)(s:fq)(n:Nat)(st:Px.Ps)(w:fu)(p:fQ w b s st.t (-1) st.fF st.fH)(h0:st.t.k≠110)(h0':st.t.k≠119)(h1:gy s st.t ⟨#[116,114,117,101]⟩=false)(h2:gy s st.t ⟨#[102,97,108,115,101]⟩=false)(h3:gy s st.t ⟨#[110,111,116]⟩=false)(h4:gy s st.t ⟨#[40]⟩=false) :
  Calls prog 189 #[.pointer (some ⟨b,0,none⟩)] w (mQ b s w (Px.atom s (n+1) st)):=by
 obtain ⟨c0,c1,c2,c3,c4,c5,c6,c7,f,hb⟩:=p.cells;have HD:Hid (_):=p;have e1:Hid (Px.atom s (n+1) st=.error st.t.a):=by
  unfold Hid;rw[Px.atom,if_neg h0,if_neg h0',if_neg (by simp[h1]),if_neg (by simp[h2]),if_neg (by simp[h3]),if_neg (by simp[h4])]
 have t1:((st.t.k:Int) == 110)=false:=by rw[beq_eq_false_iff_ne];omega
 have t2:((st.t.k:Int) == 119)=false:=by rw[beq_eq_false_iff_ne];omega
 have fin:∀ (w1:fu) (E T:Obj),(∃ v0 v1 v2 v3 v4 v5,E=.cells #[v0,v1,v2,v3,v4,v5] 260)->fQ w1 b s st.t (st.t.a:Int) st.fF st.fH->Kp b ((w.alloc E).alloc T).drew w1->mQ b s w (Px.atom s (n+1) st) (.returned (.pointer (some ⟨w.heap.size,0,none⟩))) w1:=by
  intro w1 E T hE p1 k1;obtain ⟨g1,g2,g3⟩:=Bo rfl k1 hb;rw[e1.o];obtain ⟨v0,v1,v2,v3,v4,v5,rfl⟩:=hE;exact ⟨((((Kp.refl b w).alloc _).alloc _).drew).trans k1,_,rfl,aj _,⟨_,_,_,_,_,_,g1⟩,_,_,_,p1⟩
 have FIN:Hid (_):=fin;clear fin p h0 h0';by_cases hk:st.t.k=107
 ·have t3:((st.t.k:Int) == 107)=true:=by rw[hk];rfl
  have t4:((s.extract st.t.a st.t.b).toList == [116,114,117,101])=false:=by rw[<- vG hk];exact h1
  have t5:((s.extract st.t.a st.t.b).toList == [102,97,108,115,101])=false:=by rw[<- vG hk];exact h2
  have t6:((s.extract st.t.a st.t.b).toList == [110,111,116])=false:=by rw[<- vG hk];exact h3
  have t7:((s.extract st.t.a st.t.b).toList == [40])=false:=by rw[<- vG hk];exact h4
  clear h1 h2 h3 h4 hk;go_enter func189,ntmps189
  go_wp2_with fail;go_region
  go_wp2_with fail;refine (G5 b s st.t st.fF st.fH _ ((HD.o.alloc _).alloc _).drew).mono ?_;rintro e w2 ⟨rfl,p2,k2⟩;have P2:Hid (_/\_):=⟨p2,k2⟩;clear p2 k2;go_wp2_with fail;go_ret;exact FIN.o _ _ _ ⟨_,_,_,_,_,_,rfl⟩ P2.o.1 P2.o.2
 ·have t3:((st.t.k:Int) == 107)=false:=by rw[beq_eq_false_iff_ne];omega
  clear h1 h2 h3 h4 hk;go_enter func189,ntmps189
  go_wp2_with fail;go_region
  go_wp2_with fail;refine (G5 b s st.t st.fF st.fH _ ((HD.o.alloc _).alloc _).drew).mono ?_;rintro e w2 ⟨rfl,p2,k2⟩;have P2:Hid (_/\_):=⟨p2,k2⟩;clear p2 k2;go_wp2_with fail;go_ret;exact FIN.o _ _ _ ⟨_,_,_,_,_,_,rfl⟩ P2.o.1 P2.o.2
theorem Dom.down (h:Dom s (n+1) st)(tk:Tk s st'.t)(lt:st.t.a < st'.t.a)(hn:st'.fF=st.fF\/st'.fF=st.fF+1):Dom s n st':=by
 have h1:=h.room;have h2:=tk.ab;have h3:=tk.le;have h4:=h.n0;have h5:=h.n1;refine ⟨tk,by omega,by omega,?_⟩
 rcases hn with hn | hn<;>rw[hn]<;>push_cast at h5<;>omega
theorem size_set (w:fu)(a:Addr)(v:fC):(w.setCell a v).heap.size=w.heap.size:=by simp[World.setCell]
def G9 (a:Nat)(r:Except Nat (Px.Ex×Px.Ps)):Except Nat (Px.Ex×Px.Ps) :=
 match r with
 | .error p=>.error p
 | .ok (k,st')=>.ok (⟨33,0,gM,a,a,some k,none⟩,st')
def wu (s:fq)(a:Nat)(r:Except Nat (Px.Ex×Px.Ps)):Except Nat (Px.Ex×Px.Ps) :=
 match r with
 | .error p=>.error p
 | .ok (e,st')=>if gy s st'.t ⟨#[41]⟩ then .ok ({ e with pl:=a },qy (Px.nx s st')) else .error st'.t.a
variable {v:fC}{r:Except Nat (Px.Ex×Px.Ps)}
theorem wA {E:Obj}(hb:b < w.heap.size)(k2:Kp b ((w.alloc E).alloc T).drew w2)(H3:mQ b s (w2.setCell ⟨w.heap.size,0,none⟩ v) r (.returned (.pointer (some ⟨q,0,none⟩))) w3)(g:w3.heap[w.heap.size]?=some (.cells #[.int .u8 33,.int .i64 0,.string ⟨#[]⟩,.int .i64 (a:Int),.int .i64 (a:Int),.slice none 0 0] 260)) :
  mQ b s w (G9 a r) (.returned (.pointer (some ⟨w.heap.size,0,none⟩)))
   ((w3.setCell ⟨w.heap.size,5,none⟩ (.slice (some ⟨w3.heap.size,0,none⟩) 1 1)).alloc (.cells #[.pointer (some ⟨q,0,none⟩)] 248)):=by
 obtain ⟨k3,q',he,h3⟩:=H3;obtain rfl:q=q':=by simpa using he
 have z0:w.heap.size+2<=w2.heap.size:=(Bo rfl k2 hb).2.2;have z1:w2.heap.size<=w3.heap.size:=by have:=k3.size;rw[size_set] at this;exact this
 have ka:Kp b w w2:=((((Kp.refl b w).alloc _).alloc _).drew).trans k2;have kb:Kp b w w3:=(ka.gI (aj _) v).trans k3;generalize hW:(w3.setCell ⟨w.heap.size,5,none⟩ (.slice (some ⟨w3.heap.size,0,none⟩) 1 1)).alloc (.cells #[.pointer (some ⟨q,0,none⟩)] 248)=W;have kW:Kp b w W:=by rw[<- hW];exact (kb.gI (aj _) _).alloc _
 have zW:W.heap.size=w3.heap.size+1:=by rw[<- hW];simp
 have gE:W.heap[w.heap.size]?=some (.cells #[.int .u8 33,.int .i64 0,.string ⟨#[]⟩,.int .i64 (a:Int),.int .i64 (a:Int),.slice (some ⟨w3.heap.size,0,none⟩) 1 1] 260):=by
  rw[<- hW,aD _ _ _ (by rw[size_set];omega),heap_set _ g];simp
 have gK:W.heap[w3.heap.size]?=some (.cells #[.pointer (some ⟨q,0,none⟩)] 248):=by
  rw[<- hW];show ((w3.setCell _ _).heap.push _)[w3.heap.size]?=_
  rw[aB,if_pos (by rw[size_set])]
 have gO:∀ k,k < w3.heap.size->k≠w.heap.size->W.heap[k]?=w3.heap[k]?:=by
  intro k h1 h2;rw[<- hW,aD _ _ _ (by rw[size_set];omega),jr _ h2]
 refine ⟨kW,_,rfl,?_⟩;cases r with
 | error p =>
  obtain ⟨hq,hv,t,fF,fH,hp⟩:=h3;have hpl:=hp.lt;exact ⟨aj _,⟨_,_,_,_,_,_,gE⟩,t,fF,fH,⟨by rw[gO b hpl (by omega)];exact hp.h⟩⟩
 | ok r =>
  obtain ⟨k,st'⟩:=r;obtain ⟨hk,hp⟩:=h3;have hpl:=hp.lt;have hsz:=size_set w2 ⟨w.heap.size,0,none⟩ v;refine ⟨⟨⟨aj _,by omega⟩,w3.heap.size,q,⟨by omega,by omega⟩,by omega,gE,gK,?_⟩,⟨by rw[gO b hpl (by omega)];exact hp.h⟩⟩
  refine (hk.keep fun i hi=>gO i hi.2 (by have:=hi.1;omega)).mono fun i hi=>?_
  have h1:=hi.1;have h2:=hi.2;exact ⟨⟨by omega,by omega⟩,by omega,by omega⟩
theorem OZ (b:Nat)(s:fq)(n:Nat)(ih:EY b s n (Px.atom s n))(hs:s.size<=maxLen)(st:Px.Ps)(w:fu)(hD:Dom s (n+1) st)(p:fQ w b s st.t (-1) st.fF st.fH)(hk:st.t.k=107)(h1:gy s st.t ⟨#[116,114,117,101]⟩=false)(h2:gy s st.t ⟨#[102,97,108,115,101]⟩=false)(h3:gy s st.t ⟨#[110,111,116]⟩=true) :
  Calls prog 189 #[.pointer (some ⟨b,0,none⟩)] w (mQ b s w (Px.atom s (n+1) st)):=by
 obtain ⟨c0,c1,c2,c3,c4,c5,c6,c7,f,hb⟩:=p.cells;have HD:Hid (Dom s (n+1) st/\fQ w b s st.t (-1) st.fF st.fH):=⟨hD,p⟩;have e1:Hid (Px.atom s (n+1) st=G9 st.t.a (Px.atom s n (Px.nx s st))):=by
  unfold Hid;rw[Px.atom,if_neg (by omega),if_neg (by omega),if_neg (by simp[h1]),if_neg (by simp[h2]),if_pos h3];cases Px.atom s n (Px.nx s st)<;>rfl
 have t1:((st.t.k:Int) == 110)=false:=by rw[hk];rfl
 have t2:((st.t.k:Int) == 119)=false:=by rw[hk];rfl
 have t3:((st.t.k:Int) == 107)=true:=by rw[hk];rfl
 have t4:((s.extract st.t.a st.t.b).toList == [116,114,117,101])=false:=by rw[<- vG hk];exact h1
 have t5:((s.extract st.t.a st.t.b).toList == [102,97,108,115,101])=false:=by rw[<- vG hk];exact h2
 have t6:((s.extract st.t.a st.t.b).toList == [110,111,116])=true:=by rw[<- vG hk];exact h3
 have D1:Hid (Dom s n (Px.nx s st)):=hD.down (gX hD.tk h3).tk (gX hD.tk h3).lt (ak rfl);clear hD p hk h1 h2 h3;go_enter func189,ntmps189
 go_wp2_with fail;go_region
 go_wp2_with fail;refine (vF b s st.t st.fF st.fH _ ((HD.o.2.alloc _).alloc _).drew HD.o.1.tk.le hs).mono ?_;rintro e w2 ⟨rfl,p2,k2⟩;obtain ⟨g1,g2,g3⟩:=Bo rfl k2 hb;obtain ⟨d0,d1,d2,d3,d4,d5,df⟩:=nH g1;have P2:Hid (_/\_):=⟨p2,k2⟩;have G1:Hid (_):=g1;clear p2 k2 g1 g2 c0 c1 c2 c3 c4 c5 c6 c7 f;go_wp2_with fail;refine (ih (Px.nx s st) _ D1.o (P2.o.1.gI (by omega) _)).mono ?_
 rintro e w3 ⟨k3,q,rfl,h3⟩;have g3':w3.heap[w.heap.size]?=_:=Kp.heap k3 (heap_set _ G1.o) (by omega)
 simp only[dR,List.set_cons_zero] at g3';obtain ⟨r0,r1,r2,r3,r4,r5,rf⟩:=nH g3';have hz3:w.heap.size < w3.heap.size:=lt_of_cell r0;have H3:Hid (mQ b s (w2.setCell ⟨w.heap.size,0,none⟩ (.int .u8 33)) (Px.atom s n (Px.nx s st)) (.returned (.pointer (some ⟨q,0,none⟩))) w3/\_):=⟨⟨k3,q,rfl,h3⟩,g3'⟩;clear k3 h3 g3' d0 d1 d2 d3 d4 d5 df;go_wp2_with fail;go_wp2;go_ret;rw[e1.o];exact wA hb P2.o.2 H3.o.1 H3.o.2
theorem xF {w4 w5:fu}{v0 v1 v2 v3 v4 v5:fC}(hb:b < w.heap.size)(hwq:w.heap.size<=q)(k3:Kp b w w3)(H3:mQ b s w2 r (.returned (.pointer (some ⟨q,0,none⟩))) w3)(hq:w3.heap[q]?=some (.cells #[v0,v1,v2,v3,v4,v5] 260))(k4:Kp b (w3.setCell ⟨q,3,none⟩ (.int .i64 (a:Int))) w4)(k5:Kp b w4 w5)(p5:jF w5 b s (((r.map Prod.snd).bind (Px.need s ⟨#[41]⟩)).map qy))(z2:w.heap.size<=w2.heap.size) :
  mQ b s w (wu s a r) (.returned (.pointer (some ⟨q,0,none⟩))) w5:=by
 obtain ⟨k3',q',he,h3⟩:=H3;obtain rfl:q=q':=by simpa using he
 have LM:=k4.trans k5;have kW:Kp b w w5:=(k3.gI hwq _).trans LM;have hsz:=size_set w3 ⟨q,3,none⟩ (.int .i64 (a:Int));have z5:=LM.size;have Bp:w5.heap[q]?=_:=Kp.heap LM (heap_set (o:=3) (.int .i64 (a:Int)) hq) (by omega)
 refine ⟨kW,q,rfl,?_⟩;cases r with
 | error p=>exact ⟨hwq,⟨_,_,_,_,_,_,Bp⟩,p5⟩
 | ok r =>
  obtain ⟨x,st'⟩:=r;cases ho:gy s st'.t ⟨#[41]⟩
  ·have e1:wu s a (.ok (x,st'))=.error st'.t.a:=by simp[wu,ho]
   rw[e1];simp[Except.map,Except.bind,Px.need,ho] at p5;exact ⟨hwq,⟨_,_,_,_,_,_,Bp⟩,p5⟩
  ·have e1:wu s a (.ok (x,st'))=.ok ({ x with pl:=a },qy (Px.nx s st')):=by simp[wu,ho]
   rw[e1];simp[Except.map,Except.bind,Px.need,ho] at p5;refine ⟨?_,p5.1⟩;have h6:=h3.1.fE a;have h7:ig w5 { x with pl:=a } (In w2 w3) q:=h6.keep fun i hi=>by
    have h1:=hi.1;have h2:=hi.2;exact LM.block i (by omega) (by omega)
   exact h7.mono fun i hi=>⟨by have:=hi.1;omega,by have:=hi.2;omega⟩
theorem O7 (b:Nat)(s:fq)(n:Nat)(ih:VR b s n (Px.atom s n))(hs:s.size<=maxLen)(st:Px.Ps)(w:fu)(hD:Dom s (n+1) st)(p:fQ w b s st.t (-1) st.fF st.fH)(hk:st.t.k=107)(h1:gy s st.t ⟨#[116,114,117,101]⟩=false)(h2:gy s st.t ⟨#[102,97,108,115,101]⟩=false)(h3:gy s st.t ⟨#[110,111,116]⟩=false)(h4:gy s st.t ⟨#[40]⟩=true) :
  Calls prog 189 #[.pointer (some ⟨b,0,none⟩)] w (mQ b s w (Px.atom s (n+1) st)):=by
 obtain ⟨c0,c1,c2,c3,c4,c5,c6,c7,f,hb⟩:=p.cells;have HD:Hid (Dom s (n+1) st/\fQ w b s st.t (-1) st.fF st.fH):=⟨hD,p⟩;have e1:Hid (Px.atom s (n+1) st=wu s st.t.a (Px.expr s (Px.atom s n) (Px.nx s (Px.dn st)))):=by
  unfold Hid;rw[Px.atom,if_neg (by omega),if_neg (by omega),if_neg (by simp[h1]),if_neg (by simp[h2]),if_neg (by simp[h3]),if_pos h4];cases Px.expr s (Px.atom s n) (Px.nx s (Px.dn st))<;>rfl
 have t1:((st.t.k:Int) == 110)=false:=by rw[hk];rfl
 have t2:((st.t.k:Int) == 119)=false:=by rw[hk];rfl
 have t3:((st.t.k:Int) == 107)=true:=by rw[hk];rfl
 have t4:((s.extract st.t.a st.t.b).toList == [116,114,117,101])=false:=by rw[<- vG hk];exact h1
 have t5:((s.extract st.t.a st.t.b).toList == [102,97,108,115,101])=false:=by rw[<- vG hk];exact h2
 have t6:((s.extract st.t.a st.t.b).toList == [110,111,116])=false:=by rw[<- vG hk];exact h3
 have t7:((s.extract st.t.a st.t.b).toList == [40])=true:=by rw[<- vG hk];exact h4
 have D1:Hid (Dom s n (Px.nx s (Px.dn st))):=hD.down (gX hD.tk h4).tk (gX hD.tk h4).lt (ah rfl);have hn0:=hD.n0;have hn1:st.fF<=1000000:=by have:=hD.n1;omega
 clear hD p hk h1 h2 h3 h4;go_enter func189,ntmps189
 go_wp2_with fail;go_region
 go_wp2_with fail;refine (VH b s st.t st.fF st.fH _ ((HD.o.2.alloc _).alloc _).drew hn0 hn1).mono ?_;rintro e w1 ⟨rfl,p1,k1⟩;have P1:Hid (_/\_):=⟨p1,k1⟩;clear p1 k1 c0 c1 c2 c3 c4 c5 c6 c7 f;go_wp2_with fail;refine (vF b s st.t (st.fF+1) _ _ P1.o.1 HD.o.1.tk.le hs).mono ?_;rintro e w2 ⟨rfl,p2,k2⟩;have P2:Hid (_/\_):=⟨p2,k2⟩;clear p2 k2;go_wp2_with fail;refine (ih (Px.nx s (Px.dn st)) _ D1.o P2.o.1).mono ?_;rintro e w3 ⟨k3,q,rfl,h3⟩;have k23:=(P1.o.2.trans P2.o.2).trans k3;obtain ⟨g1,g2,g3⟩:=Bo rfl k23 hb;obtain ⟨d0,d1,d2,d3,df⟩:=pq g2;have hq:∃ v0 v1 v2 v3 v4 v5,w3.heap[q]?=some (.cells #[v0,v1,v2,v3,v4,v5] 260):=by
  cases hr:Px.expr s (Px.atom s n) (Px.nx s (Px.dn st)) with
  | error p=>rw[hr] at h3;exact h3.2.1
  | ok r =>
   obtain ⟨x,st'⟩:=r;rw[hr] at h3;obtain ⟨_,v,hv⟩:=h3.1.root;exact ⟨_,_,_,_,_,_,hv⟩
 obtain ⟨v0,v1,v2,v3,v4,v5,hq⟩:=hq;obtain ⟨r0,r1,r2,r3,r4,r5,rf⟩:=nH hq;have hwq:w.heap.size<=q:=by
  have z2:w.heap.size<=w2.heap.size:=by have:=(Bo rfl (P1.o.2.trans P2.o.2) hb).2.2;omega
  cases hr:Px.expr s (Px.atom s n) (Px.nx s (Px.dn st)) with
  | error p=>rw[hr] at h3;have:=h3.1;omega
  | ok r =>
   obtain ⟨x,st'⟩:=r;rw[hr] at h3
   have:=h3.1.root.1.1
   omega
 have hps:jF w3 b s ((Px.expr s (Px.atom s n) (Px.nx s (Px.dn st))).map Prod.snd)/\∀ x st',Px.expr s (Px.atom s n) (Px.nx s (Px.dn st))=.ok (x,st')->Px.Good s (Px.nx s (Px.dn st)) st':=by
  have hgo:∀ x st',Px.expr s (Px.atom s n) (Px.nx s (Px.dn st))=.ok (x,st')->Px.Good s (Px.nx s (Px.dn st)) st':=fun x st' hr=>A9 (qA s n) _ _ _ D1.o.tk hr
  refine ⟨?_,hgo⟩;cases hr:Px.expr s (Px.atom s n) (Px.nx s (Px.dn st)) with
  | error p=>rw[hr] at h3;exact h3.2.2
  | ok r =>
   obtain ⟨x,st'⟩:=r;rw[hr] at h3;exact ⟨h3.2,(hgo x st' hr).tk⟩
 have H3:Hid ((Kp b w w3/\mQ b s w2 (Px.expr s (Px.atom s n) (Px.nx s (Px.dn st))) (.returned (.pointer (some ⟨q,0,none⟩))) w3/\w3.heap[q]?=some (.cells #[v0,v1,v2,v3,v4,v5] 260))/\_):=⟨⟨((((Kp.refl b w).alloc _).alloc _).drew).trans k23,⟨k3,q,rfl,h3⟩,hq⟩,hps⟩;clear k3 h3 g1 g2 k23 hq hps;go_wp2_with fail;refine (kI b s _ _ _ (H3.o.2.1.gI (by omega) _) hs).mono ?_
 rintro e w4 ⟨rfl,k4,p4⟩;have P4:Hid (_/\_):=⟨k4,p4⟩;clear k4 p4;go_wp2_with fail;refine (VU b s _ _ P4.o.2 ?qC).mono ?_
 case qC =>
  intro st0 h0;cases hr:Px.expr s (Px.atom s n) (Px.nx s (Px.dn st)) with
  | error p=>rw[hr] at h0;cases h0
  | ok r =>
   obtain ⟨x,st'⟩:=r;rw[hr] at h0;have hg:=(H3.o.2.2 x st' hr).fF;have hg':st'.fF=st.fF+1:=hg;cases ho:gy s st'.t ⟨#[41]⟩
   ·simp[Except.map,Except.bind,Px.need,ho] at h0
   ·simp[Except.map,Except.bind,Px.need,ho] at h0;rw[<- h0];show 0<=st'.fF/\st'.fF<=2000000
    omega
 rintro e w5 ⟨rfl,k5,p5⟩;have P5:Hid (_/\_):=⟨k5,p5⟩;clear k5 p5;go_wp2_with fail;go_ret;rw[e1.o];exact xF hb hwq H3.o.1.1 H3.o.1.2.1 H3.o.1.2.2 P4.o.1 P5.o.1 P5.o.2 (by have:=(Bo rfl (P1.o.2.trans P2.o.2) hb).2.2;omega)
theorem xN (b:Nat)(s:fq)(hs:s.size<=maxLen)(n:Nat):EY b s n (Px.atom s n):=by
 induction n with
 | zero=>intro st w hD p;have:=hD.room;omega
 | succ n ih =>
  intro st w hD p;by_cases h0:st.t.k=110
  ·exact OV b s n hs st w hD p h0
  ·by_cases h0':st.t.k=119
   ·exact OW b s n hs st w hD p h0'
   ·cases h1:gy s st.t ⟨#[116,114,117,101]⟩
    ·cases h2:gy s st.t ⟨#[102,97,108,115,101]⟩
     ·cases h3:gy s st.t ⟨#[110,111,116]⟩
      ·cases h4:gy s st.t ⟨#[40]⟩
       ·exact vA b s n st w p h0 h0' h1 h2 h3 h4
       ·exact O7 b s n (VT b s n _ ih (qA s n) hs) hs st w hD p (sU h4) h1 h2 h3 h4
      ·exact OZ b s n ih hs st w hD p (sU h3) h1 h2 h3
     ·exact OY b s n hs st w hD p (sU h2) h1 h2
    ·exact OX b s n hs st w hD p h1
theorem yW {pe:Nat}{fF fH:Int}(p:fQ w b s t (pe:Int) fF fH)(v0 v1 v2 v3 v4 v5:fC) :
  mQ b s w (.error pe) (.returned (.pointer (some ⟨w.heap.size,0,none⟩))) (w.alloc (.cells #[v0,v1,v2,v3,v4,v5] 260)).drew:=by
 refine ⟨((Kp.refl _ _).alloc _).drew,w.heap.size,rfl,aj _,⟨v0,v1,v2,v3,v4,v5,?_⟩,t,fF,fH,(p.alloc _).drew⟩;show (w.heap.push _)[w.heap.size]?=_
 rw[aB,if_pos rfl]
theorem zE (b:Nat)(s:fq)(t:Px.Tok)(pe:Nat)(fF fH:Int)(w:fu)(p:fQ w b s t (pe:Int) fF fH) :
  Calls prog 189 #[.pointer (some ⟨b,0,none⟩)] w (mQ b s w (.error pe)):=by
 obtain ⟨c0,c1,c2,c3,c4,c5,c6,c7,f,hb⟩:=p.cells;have HP:Hid (_):=p;have hpe:(0:Int)<=pe:=by omega
 clear p;go_enter func189,ntmps189
 go_wp2_with fail;go_region
 go_wp2_with fail;go_ret;exact yW HP.o _ _ _ _ _ _
def O8 (b:Nat)(s:fq)(sum:Bool):Prop :=
 ∀ (t:Px.Tok) (pe:Nat) (fF fH:Int) (w:fu),fQ w b s t (pe:Int) fF fH ->
  Calls prog 181 #[.pointer (some ⟨b,0,none⟩),.bool sum] w (mQ b s w (.error pe))
theorem VW (b:Nat)(s:fq)(sum:Bool)(hp:O8 b s sum)(x y:fq)(t:Px.Tok)(pe:Nat)(fF fH:Int)(w:fu)(p:fQ w b s t (pe:Int) fF fH) :
  Calls prog 159 #[.pointer (some ⟨b,0,none⟩),.string x,.string y,.bool sum] w (mQ b s w (.error pe)):=by
 obtain ⟨c0,c1,c2,c3,c4,c5,c6,c7,f,hb⟩:=p.cells;have HP:Hid (_):=p;clear p;go_enter func159,ntmps159
 go_wp2_with fail;refine (hp t pe fF fH _ HP.o).mono ?_;rintro e w1 ⟨k1,q,rfl,hq,hv,t',nest',deep',p1⟩;have P1:Hid (_):=p1;have V:Hid (_/\_/\_):=⟨k1,hq,hv⟩;clear k1 hq hv p1 c0 c1 c2 c3 c4 c5 c6 c7 f;go_wp2_with fail;refine wp_loop_rounds 1 ?_;rw[rounds_succ];go_wp2_with (first | (go_at_call 156;refine (C9 b s _ t' (pe:Int) nest' deep' _ P1.o (by omega)).mono ?_;rintro e w' ⟨rfl,rfl⟩))
 go_ret;exact ⟨V.o.1,q,rfl,V.o.2.1,V.o.2.2,t',nest',deep',P1.o⟩
theorem An (b:Nat)(s:fq):O8 b s false:=by
 intro t pe fF fH w p;have HP:Hid (_):=p;clear p;go_enter func181,ntmps181
 go_wp2_with fail;refine (zE b s t pe fF fH _ HP.o).mono ?_;rintro e w1 ⟨k1,q,rfl,h1⟩;have H1:Hid (_/\_):=⟨k1,h1⟩;clear k1 h1;go_wp2_with fail;go_ret;exact ⟨H1.o.1,q,rfl,H1.o.2⟩
theorem As (b:Nat)(s:fq):O8 b s true:=by
 intro t pe fF fH w p;have HP:Hid (_):=p;clear p;go_enter func181,ntmps181
 go_wp2_with fail;refine (VW b s false (An b s) _ _ t pe fF fH _ HP.o).mono ?_;rintro e w1 ⟨k1,q,rfl,h1⟩;have H1:Hid (_/\_):=⟨k1,h1⟩;clear k1 h1;go_wp2_with fail;go_ret;exact ⟨H1.o.1,q,rfl,H1.o.2⟩
theorem At (b:Nat)(s:fq)(t:Px.Tok)(pe:Nat)(fF fH:Int)(w:fu)(p:fQ w b s t (pe:Int) fF fH) :
  Calls prog 117 #[.pointer (some ⟨b,0,none⟩)] w (mQ b s w (.error pe)):=by
 obtain ⟨c0,c1,c2,c3,c4,c5,c6,c7,f,hb⟩:=p.cells;have HP:Hid (_):=p;clear p;go_enter func117,ntmps117
 go_wp2_with fail;refine (VW b s true (As b s) _ _ t pe fF fH _ HP.o).mono ?_;rintro e w1 ⟨k1,q,rfl,hq,hv,t',nest',deep',p1⟩;have P1:Hid (_):=p1;have V:Hid (_/\_/\_):=⟨k1,hq,hv⟩;clear k1 hq hv p1 c0 c1 c2 c3 c4 c5 c6 c7 f;go_wp2_with (first | (go_at_call 156;refine (C9 b s _ t' (pe:Int) nest' deep' _ P1.o (by omega)).mono ?_;rintro e w' ⟨rfl,rfl⟩))
 go_ret;exact ⟨V.o.1,q,rfl,V.o.2.1,V.o.2.2,t',nest',deep',P1.o⟩
theorem O9 (b:Nat)(s:fq)(r:Except Nat Px.Ps)(w:fu)(p:jF w b s r)(hs:s.size<=maxLen)(hn:∀ st,r=.ok st->0<=st.fF/\st.fF+(s.size+1:Nat)<=1000000) :
  Calls prog 117 #[.pointer (some ⟨b,0,none⟩)] w (mQ b s w (r.bind (jN s))):=by
 cases r with
 | error pe=>obtain ⟨t,fF,fH,hp⟩:=p;exact At b s t pe fF fH w hp
 | ok st =>
  have h:=hn st rfl;exact VT b s (s.size+1) _ (xN b s hs (s.size+1)) (qA s _) hs st w ⟨p.2,by omega,h.1,h.2⟩ p.1
def ptr (q:Nat):fC:=.pointer (some ⟨q,0,none⟩)
def wW (w:fu)(x:Option Px.Ex)(ok:Nat->Prop)(v:fC):Prop :=
 match x with
 | none=>v=.pointer none
 | some e=>∃ q,v=ptr q/\ig w e ok q
def iq (w:fu)(v:fC)(qs:List Nat)(ok:Nat->Prop):Prop :=
 (v=.slice none 0 0/\qs=[]) \/
 ∃ g cap cur,v=.slice (some ⟨g,0,none⟩) qs.length cap/\ok g/\w.heap[g]?=some (.cells cur 184)/\qs.length<=cap/\cap<=maxLen/\cur.size=cap/\cur.toList.take qs.length=qs.map ptr
def oI (x:Sm)(ve v1 v2:fC):Array fC :=
 #[.int .u8 (x.op:Int),.string x.fD,.int .i64 (x.pl:Int),ve,.string x.gu,.int .i64 (x.fZ:Int),.string x.undo,.int .i64 (x.n:Int),.int .i64 (x.gG:Int),v1,v2]
def fV (w:fu):List Sm->(Nat->Prop)->List Nat->Prop
 | [],_,qs=>qs=[]
 | ⟨op,fD,pl,ex,av,fZ,undo,n,gG,one,two⟩::rest,ok,qs=>∃ q qs',qs=q::qs'/\ok q/\fV w rest ok qs'/\∃ ve v1 v2 q1 q2,
   w.heap[q]?=some (.cells #[.int .u8 (op:Int),.string fD,.int .i64 (pl:Int),ve,.string av,.int .i64 (fZ:Int),.string undo,.int .i64 (n:Int),.int .i64 (gG:Int),v1,v2] 250) /\
   wW w ex ok ve/\iq w v1 q1 ok/\fV w one ok q1/\iq w v2 q2 ok/\fV w two ok q2
variable {ok:Nat->Prop}{qs:List Nat}
theorem fV.nQ:fV w [] ok qs↔qs=[]:=by rw[fV]
def mh (w:fu)(x:Sm)(ok:Nat->Prop)(q:Nat):Prop :=
 ok q/\∃ ve v1 v2 q1 q2,w.heap[q]?=some (.cells (oI x ve v1 v2) 250)/\wW w x.ex ok ve/\iq w v1 q1 ok/\fV w x.one ok q1/\iq w v2 q2 ok/\fV w x.two ok q2
variable {x:Sm}{l rest:List Sm}
theorem fV.sW:fV w (x::rest) ok qs↔∃ q qs',qs=q::qs'/\ok q/\fV w rest ok qs'/\∃ ve v1 v2 q1 q2,
   w.heap[q]?=some (.cells (oI x ve v1 v2) 250)/\wW w x.ex ok ve/\iq w v1 q1 ok/\fV w x.one ok q1/\iq w v2 q2 ok/\fV w x.two ok q2:=by
 obtain ⟨op,fD,pl,ex,av,fZ,undo,n,gG,one,two⟩:=x;rw[fV];rfl
theorem fV.cons (h:mh w x ok q)(hr:fV w rest ok qs):fV w (x::rest) ok (q::qs) :=
 fV.sW.2 ⟨q,qs,rfl,h.1,hr,h.2⟩
theorem fV.Ph (h:fV w (x::rest) ok qs):∃ q qs',qs=q::qs'/\mh w x ok q/\fV w rest ok qs':=by
 obtain ⟨q,qs',h1,h2,h3,h4⟩:=fV.sW.1 h;exact ⟨q,qs',h1,⟨h2,h4⟩,h3⟩
theorem fV.snoc (h:fV w l ok qs)(hx:mh w x ok q):fV w (l++[x]) ok (qs++[q]):=by
 induction l generalizing qs with
 | nil=>cases fV.nQ.1 h;exact fV.cons hx (fV.nQ.2 rfl)
 | cons y l ih =>
  obtain ⟨q',qs',rfl,h1,h2⟩:=h.Ph;exact fV.cons h1 (ih h2)
theorem fV.len (h:fV w l ok qs):qs.length=l.length:=by
 induction l generalizing qs with
 | nil=>cases fV.nQ.1 h;rfl
 | cons y l ih =>
  obtain ⟨q',qs',rfl,h1,h2⟩:=h.Ph;simp[ih h2]
theorem wW.mono {w:fu}{x:Option Px.Ex}{ok ok':Nat->Prop}{v:fC}(h:wW w x ok v)(hk:∀ k,ok k->ok' k):wW w x ok' v:=by
 cases x with
 | none=>exact h
 | some e=>obtain ⟨q,h1,h2⟩:=h;exact ⟨q,h1,h2.mono hk⟩
theorem wW.keep {w w':fu}{x:Option Px.Ex}{ok:Nat->Prop}{v:fC}(h:wW w x ok v)(hk:∀ k,ok k->w'.heap[k]?=w.heap[k]?):wW w' x ok v:=by
 cases x with
 | none=>exact h
 | some e=>obtain ⟨q,h1,h2⟩:=h;exact ⟨q,h1,h2.keep hk⟩
theorem iq.mono {ok':Nat->Prop}(h:iq w v qs ok)(hk:∀ k,ok k->ok' k):iq w v qs ok':=by
 rcases h with h | ⟨g,cap,cur,h1,h2,h3⟩
 ·exact ak h
 ·exact ah ⟨g,cap,cur,h1,hk _ h2,h3⟩
theorem iq.keep (h:iq w v qs ok)(hk:∀ k,ok k->w'.heap[k]?=w.heap[k]?):iq w' v qs ok:=by
 rcases h with h | ⟨g,cap,cur,h1,h2,h3,h4⟩
 ·exact ak h
 ·exact ah ⟨g,cap,cur,h1,h2,by rw[hk _ h2];exact h3,h4⟩
theorem fV.mono {w:fu}{l:List Sm}{ok ok':Nat->Prop}{qs:List Nat}(h:fV w l ok qs)(hk:∀ k,ok k->ok' k):fV w l ok' qs:=by
 match l with
 | []=>exact fV.nQ.2 (fV.nQ.1 h)
 | ⟨op,fD,pl,ex,av,fZ,undo,n,gG,one,two⟩::rest =>
  obtain ⟨q,qs',h1,h2,h3,ve,v1,v2,q1,q2,h4,h5,h6,h7,h8,h9⟩:=fV.sW.1 h;exact fV.sW.2 ⟨q,qs',h1,hk _ h2,h3.mono hk,ve,v1,v2,q1,q2,h4,h5.mono hk,h6.mono hk,h7.mono hk,h8.mono hk,h9.mono hk⟩
theorem fV.keep {w w':fu}{l:List Sm}{ok:Nat->Prop}{qs:List Nat}(h:fV w l ok qs)(hk:∀ k,ok k->w'.heap[k]?=w.heap[k]?):fV w' l ok qs:=by
 match l with
 | []=>exact fV.nQ.2 (fV.nQ.1 h)
 | ⟨op,fD,pl,ex,av,fZ,undo,n,gG,one,two⟩::rest =>
  obtain ⟨q,qs',h1,h2,h3,ve,v1,v2,q1,q2,h4,h5,h6,h7,h8,h9⟩:=fV.sW.1 h;exact fV.sW.2 ⟨q,qs',h1,h2,h3.keep hk,ve,v1,v2,q1,q2,by rw[hk _ h2];exact h4,h5.keep hk,h6.keep hk,h7.keep hk,h8.keep hk,h9.keep hk⟩
theorem mh.mono {w:fu}{x:Sm}{ok ok':Nat->Prop}{q:Nat}(h:mh w x ok q)(hk:∀ k,ok k->ok' k):mh w x ok' q:=by
 obtain ⟨h2,ve,v1,v2,q1,q2,h4,h5,h6,h7,h8,h9⟩:=h;exact ⟨hk _ h2,ve,v1,v2,q1,q2,h4,h5.mono hk,h6.mono hk,h7.mono hk,h8.mono hk,h9.mono hk⟩
theorem mh.keep {w w':fu}{x:Sm}{ok:Nat->Prop}{q:Nat}(h:mh w x ok q)(hk:∀ k,ok k->w'.heap[k]?=w.heap[k]?):mh w' x ok q:=by
 obtain ⟨h2,ve,v1,v2,q1,q2,h4,h5,h6,h7,h8,h9⟩:=h;exact ⟨h2,ve,v1,v2,q1,q2,by rw[hk _ h2];exact h4,h5.keep hk,h6.keep hk,h7.keep hk,h8.keep hk,h9.keep hk⟩
def E9 (b:Nat)(s:fq)(w:fu)(r:Except Nat (List Sm×Px.Ps))(e:Ending)(w':fu):Prop :=
 Kp b w w'/\∃ a n c,e=.returned (.slice a n c) /\
  match r with
  | .ok (l,st)=>∃ qs,iq w' (.slice a n c) qs (In w w')/\fV w' l (In w w') qs/\fQ w' b s st.t (-1) st.fF st.fH
  | .error p=>∃ t fF fH,fQ w' b s t ((p:Nat):Int) fF fH
def xY (b:Nat)(s:fq)(w:fu)(r:Except Nat (Sm×Px.Ps))(e:Ending)(w':fu):Prop :=
 Kp b w w'/\∃ q,e=.returned (ptr q) /\
  match r with
  | .ok (x,st)=>mh w' x (In w w') q/\fQ w' b s st.t (-1) st.fF st.fH
  | .error p=>∃ t fF fH,fQ w' b s t ((p:Nat):Int) fF fH
def LP (b:Nat)(s:fq)(g:Px.Ps->Except Nat (Sm×Px.Ps))(stop:Px.Ps->Bool)(D:Px.Ps->Prop)(R:Except Nat (List Sm×Px.Ps))(w wr:fu)(v:fC):Prop :=
 Kp b w wr/\∃ qs,wr.ownsRow w.heap.size 184 1 v qs.length (qs.map ptr) /\
 ((∃ l st m,fV wr l (fun k=>In w wr k/\some k≠v.ownBlock) qs/\qs.length<=st.t.a/\fQ wr b s st.t (-1) st.fF st.fH/\D st/\Px.stmts s g stop m l st=R/\s.size - st.t.a < m) \/
  (∃ p t fF fH,R=.error p/\qs.length<=s.size+1/\fQ wr b s t ((p:Nat):Int) fF fH))
structure gP (s:fq)(n:Nat)(st:Px.Ps):Prop where
 tk:Tk s st.t
 room:s.size - st.t.a < n
 n0:0<=st.fF
 n1:st.fF+n+(s.size+1:Nat)<=1000000
theorem gP.Hf (h:gP s n st)(g:iW s st st'):gP s n st' :=
 ⟨g.tk,by have:=h.room;have:=g.le;omega,by rw[g.fF];exact h.n0,by rw[g.fF];exact h.n1⟩
theorem gP.good (h:gP s n st)(g:Px.Good s st st'):gP s n st':=h.Hf g.zero
def Fb (b:Nat)(s:fq)(n:Nat)(g:Px.Ps->Except Nat (Sm×Px.Ps)):Prop :=
 ∀ (st:Px.Ps) (w:fu),gP s n st->fQ w b s st.t (-1) st.fF st.fH ->
  Calls prog 84 #[.pointer (some ⟨b,0,none⟩)] w (xY b s w (g st))
theorem VX:(prog.info? 184).map (fun i=>(i.zero,i.size,i.bytes))=some (some (.pointer none),1,8):=by kernel_rfl
theorem VY {row:Option Nat}(h:Kp b w w1)(hg:w1.grownBy w2 row)(hr:∀ k,row=some k->w.heap.size<=k):Kp b w w2 :=
 ⟨hg.os.trans h.os,hg.tape.trans h.tape,hg.output.trans h.output,aP h.size hg.size,fun k hk hb=>(hg.block k (aV hk h.size) (fun e=>by have:=hr k e.symm;omega)).trans (h.block k hk hb)⟩
theorem VZ {g:Px.Ps->Except Nat (Sm×Px.Ps)}{stop:Px.Ps->Bool}{R:Except Nat (List Sm×Px.Ps)}{wr:fu}{v':fC}{m:Nat}(hb:b < w.heap.size)(hg:Px.Goes s g)(KR:Kp b w wr)(hown:wr.ownsRow w.heap.size 184 1 v qs.length (qs.map ptr))(L:fV wr l (fun k=>In w wr k/\some k≠v.ownBlock) qs)(hq:qs.length<=st.t.a)(hD:gP s n st)(hm:s.size - st.t.a < m+1)(CH:(match g st with
   | .error p=>.error p
   | .ok (x,st')=>Px.stmts s g stop m (l++[x]) st')=R)(H1:xY b s wr (g st) (.returned (ptr q)) w1)(hown':w2.ownsRow w.heap.size 184 1 v' (qs.length+1) (qs.map ptr++[ptr q]))(hgrow:(w1.alloc (.cells #[ptr q] 184)).grownBy w2 v.ownBlock)(hloc:v'.ownBlock=v.ownBlock\/v'.ownBlock=some (w1.heap.size+1)) :
  LP b s g stop (gP s n) R w w2 v'/\qW s b w2 < s.size+1 - st.t.a:=by
 obtain ⟨k1,q',he,h1⟩:=H1;obtain rfl:q=q':=by simpa [ptr] using he
 have oP:∀ k,v.ownBlock=some k->w.heap.size<=k/\k < wr.heap.size:=hown.lt;have Pj:Kp b w w1:=KR.trans k1;have LQ:Kp b w w2:=VY (Pj.alloc _) hgrow (fun k hk=>(oP k hk).1)
 have s1:=KR.size;have s2:=k1.size;have s3:w1.heap.size+1<=w2.heap.size:=by have:=hgrow.size;simpa using this
 have oo:∀ {t:Px.Tok} {bad fF fH:Int},fQ w1 b s t bad fF fH->fQ w2 b s t bad fF fH:=fun p=>⟨by
  have hl:=p.lt;rw[hgrow.block b (by simp;omega) (fun e=>by have:=(oP b e.symm).1;omega),aD _ _ _ hl];exact p.h⟩
 have hkeep:∀ k,k < w1.heap.size->some k≠v.ownBlock->w2.heap[k]?=w1.heap[k]?:=fun k hk hne=>by
  rw[hgrow.block k (by simp;omega) hne,aD _ _ _ hk]
 have hlen:(qs++[q]).length=qs.length+1:=by simp
 have hmap:(qs++[q]).map ptr=qs.map ptr++[ptr q]:=by simp
 have hd1:=hD.tk.le;have hd2:=hD.tk.ab;have hdr:=hD.room;refine (show (LP b s g stop (gP s n) R w w2 v'/\qW s b w2 < s.size+1 - st.t.a) from ?_);cases hr:g st with
 | error p =>
  rw[hr] at CH h1;obtain ⟨t,fF,fH,hp⟩:=h1;refine ⟨⟨LQ,qs++[q],by rw[hlen,hmap];exact hown',ah ⟨p,t,fF,fH,CH.symm,by rw[hlen];omega,oo hp⟩⟩,?_⟩
  rw[VP (oo hp) (by omega)]
  omega
 | ok r =>
  obtain ⟨x,st'⟩:=r;rw[hr] at CH h1;obtain ⟨hx,hp⟩:=h1;have g1:=hg _ _ _ hD.tk hr;have g2:=g1.lt;have g3:=g1.tk.ab;have g4:=g1.tk.le;have hnew:∀ k,k < w1.heap.size->some k≠v.ownBlock->some k≠v'.ownBlock:=by
   intro k hk hne;rcases hloc with h | h
   ·rw[h];exact hne
   ·rw[h];simp;omega
  refine ⟨⟨LQ,qs++[q],by rw[hlen,hmap];exact hown',ak ⟨l++[x],st',m,?_,by rw[hlen];omega,oo hp,hD.good g1,CH,by omega⟩⟩,?_⟩
  ·refine fV.snoc ?_ ?_
   ·have e1:fV w1 l (fun k=>In w wr k/\some k≠v.ownBlock) qs:=L.keep fun k hk=>k1.block k hk.1.2 (by have:=hk.1.1;omega)
    have e2:fV w2 l (fun k=>In w wr k/\some k≠v.ownBlock) qs:=e1.keep fun k hk=>hkeep k (by have:=hk.1.2;omega) hk.2
    exact e2.mono fun k hk=>⟨⟨hk.1.1,by have:=hk.1.2;omega⟩,hnew k (by have:=hk.1.2;omega) hk.2⟩
   ·have hne:∀ k,In wr w1 k->some k≠v.ownBlock:=fun k hk e=>by have:=(oP k e.symm).2;have:=hk.1;omega
    have e2:mh w2 x (In wr w1) q:=hx.keep fun k hk=>hkeep k hk.2 (hne k hk)
    exact e2.mono fun k hk=>⟨⟨by have:=hk.1;omega,by have:=hk.2;omega⟩,hnew k hk.2 (hne k hk)⟩
  ·rw[EX (oo hp)];omega
theorem V4 (h:w.ownsRow base 184 1 v qs.length (qs.map ptr))(hk:∀ k,v.ownBlock=some k->ok k):iq w v qs ok:=by
 rcases h.2 with ⟨h1,h2⟩ | ⟨g,cap,cur,h1,h2,h3,h4,h5,h6,h7⟩
 ·exact ak ⟨h1,aY.1 h2⟩
 ·refine ah ⟨g,cap,cur,h1,hk g (by rw[h1];rfl),h3,h4,h5,by omega,?_⟩
  rw[Nat.mul_one] at h7;exact h7
variable {e:TypeId}{xs:List fC}
theorem Pk (h:w.ownsRow base e 1 v n xs):∃ a k c,v=.slice a k c:=by
 rcases h.2 with ⟨h1,_⟩ | ⟨g,cap,cur,h1,_⟩
 ·exact ⟨_,_,_,h1⟩
 ·exact ⟨_,_,_,h1⟩
theorem Hg (h:w.ownsRow base e 1 v n xs)(hk:∀ k,v.ownBlock=some k->w'.heap[k]?=w.heap[k]?):w'.ownsRow base e 1 v n xs:=by
 refine ⟨h.1,?_⟩;rcases h.2 with h1 | ⟨g,cap,cur,h1,h2,h3,h4⟩
 ·exact ak h1
 ·exact ah ⟨g,cap,cur,h1,h2,by rw[hk g (by rw[h1];rfl)];exact h3,h4⟩
theorem Ax (b:Nat)(s:fq)(n:Nat)(g:Px.Ps->Except Nat (Sm×Px.Ps))(hst:Fb b s n g)(hg:Px.Goes s g)(hs3:s.size<=300)(st:Px.Ps)(w:fu)(hD:gP s (n+1) st)(p:fQ w b s st.t (-1) st.fF st.fH)(ho:gy s st.t ⟨#[123]⟩=true) :
  Calls prog 119 #[.pointer (some ⟨b,0,none⟩)] w (E9 b s w (Px.block s g st)):=by
 obtain ⟨i0,hi,hz0,hz1,hz2⟩:=info_parts VX;have hs:s.size<=maxLen:=by unfold maxLen;omega
 have hb:=p.lt;have HG:Hid (_):=hg;have HD:Hid (gP s (n+1) st/\fQ w b s st.t (-1) st.fF st.fH):=⟨hD,p⟩;have hn0:=hD.n0;have hn1:st.fF<=1000000:=by have:=hD.n1;omega
 have D1:Hid (gP s n (Px.nx s (Px.dn st))):=by
  have g1:=gX hD.tk ho;have h1:=hD.room;have h2:=g1.lt;have h3:=g1.tk.ab;have h4:=g1.tk.le;have h5:=hD.n1;have h6:st.t.a < (Px.nx s (Px.dn st)).t.a:=h2;have h7:(Px.nx s (Px.dn st)).t.a<=s.size:=by have:(Px.nx s (Px.dn st)).t=(Px.nx s st).t:=rfl;rw[this];omega
  refine ⟨g1.tk,by omega,?_,?_⟩
  ·show 0<=st.fF+1;omega
  ·show st.fF+1+n+(s.size+1:Nat)<=1000000;push_cast at h5 |-;omega
 have e1:Hid (Px.block s g st=match Px.stmts s g (fun st=>gy s st.t ⟨#[125]⟩) (s.size+1) [] (Px.nx s (Px.dn st)) with
  | .error p=>.error p
  | .ok (l,st')=>.ok (l,qy (Px.nx s st'))):=by
  unfold Hid;rw[Px.block,if_pos ho];cases Px.stmts s g (fun st=>gy s st.t ⟨#[125]⟩) (s.size+1) [] (Px.nx s (Px.dn st))<;>rfl
 clear hD p hg;go_enter func119,ntmps119
 go_wp2_with fail;refine (vD b s _ st.t st.fF st.fH _ HD.o.2).mono ?_;rintro e w' ⟨rfl,rfl⟩;go_wp2_with fail;refine (VH b s st.t st.fF st.fH _ HD.o.2 hn0 hn1).mono ?_;rintro e w1 ⟨rfl,p1,k1⟩;have P1:Hid (_/\_):=⟨p1,k1⟩;clear p1 k1;go_wp2_with fail;refine (vF b s st.t (st.fF+1) _ _ P1.o.1 HD.o.1.tk.le hs).mono ?_;rintro e w2 ⟨rfl,p2,k2⟩;have P2:Hid (_/\_):=⟨p2,k2⟩;clear p2 k2;go_wp2_with fail;generalize hR:Px.stmts s g (fun st=>gy s st.t ⟨#[125]⟩) (s.size+1) [] (Px.nx s (Px.dn st))=R at e1
 have HR:=hR;have HRR:Hid (_):=hR;clear HR hR;go_loopw [4] (fun v wr=>Hid (LP b s g (fun st=>gy s st.t ⟨#[125]⟩) (gP s n) R w wr v)) (fun _ wr=>qW s b wr)
 case atStart =>
  refine ⟨P1.o.2.trans P2.o.2,[],aT _ _ _ _,ak ⟨[],Px.nx s (Px.dn st),s.size+1,fV.nQ.2 rfl,by simp,P2.o.1,D1.o,HRR.o,by omega⟩⟩
 case round =>
  obtain ⟨kr,qs,hown,hcase⟩:=hrel.o;clear hrel;obtain ⟨va,vn,vc,rfl⟩:=Pk hown;have KR:Hid (Kp b w wr/\wr.ownsRow w.heap.size 184 1 (.slice va vn vc) qs.length (qs.map ptr)):=⟨kr,hown⟩;clear kr hown;rcases hcase with ⟨l,st1,m,hl,hq,p1,hD1,hch,hm⟩ | ⟨pe,t,fF,fH,hRe,hq,p1⟩
  ·obtain ⟨m,rfl⟩:∃ m',m=m'+1:=⟨m - 1,by omega⟩
   obtain ⟨c0,c1,c2,c3,c4,c5,c6,c7,f,hbr⟩:=p1.cells;have L:Hid (_):=hl;have PP:Hid (_):=p1;have DD:Hid (_):=hD1;have CH:Hid (_):=hch;clear hl p1 hD1 hch;cases hc:gy s st1.t ⟨#[125]⟩
   ·go_wp2_with (first | (go_at_call 156;refine (vD b s _ st1.t st1.fF st1.fH _ PP.o).mono ?_;rintro e w' ⟨rfl,rfl⟩))
    refine (hst st1 _ DD.o PP.o).mono ?_;rintro e w3 ⟨k3,q,rfl,h3⟩;have hown3:w3.ownsRow w.heap.size 184 1 (.slice va vn vc) qs.length (qs.map ptr):=Hg KR.o.2 fun k hk=>k3.block k (KR.o.2.lt k hk).2 (by have:=(KR.o.2.lt k hk).1;omega)
    have Hl:w.heap.size<=w3.heap.size:=by have:=k3.size;have:=KR.o.1.size;omega
    have Pm:qs.length<=300:=by have:=DD.o.tk.ab;have:=DD.o.tk.le;omega
    have H3:Hid (xY b s wr (g st1) (.returned (ptr q)) w3):=⟨k3,q,rfl,h3⟩;unfold ptr;clear k3 h3 c0 c1 c2 c3 c4 c5 c6 c7 f;go_wp2_with (first
     | (at_builtin;refine wpList_append_own_at _ rfl _ _ 51 rfl w.heap.size 184 i0 (.pointer none) 1 8 underlying51 hi hz0 hz1 hz2 rfl (by decide) _ _ _ rfl (hown3.alloc _) ⟨w3.heap.size,0,none⟩ 1 1 [.pointer (some ⟨q,0,none⟩)] rfl rfl ?c1 ?c2 ?c3 ?c4 ?c5 ?_)
     | fail)
    case c1 =>
     intro j u hj;match j,hj with
     | 0,hj=>simp at hj;subst hj;simp[Addr.add]
    case c2=>intro u hu;simp at hu;subst hu;rfl
    case c3=>unfold maxLen;omega
    case c4=>omega
    case c5=>simp;omega
    ·intro v' w4 hown' hgrow _ hloc;obtain ⟨r1,r2⟩:=VZ hb HG.o KR.o.1 KR.o.2 L.o hq DD.o hm (R:=R) (stop:=fun st=>gy s st.t ⟨#[125]⟩) (by rw[<- CH.o,Px.stmts,if_neg (by simp[hc])];cases g st1<;>rfl) H3.o hown' hgrow hloc
     have RR:Hid (_/\_):=⟨r1,r2⟩;clear r1 r2 hown' hgrow hloc hown3;go_wp2;exact ⟨RR.o.1,by rw[EX PP.o];exact RR.o.2⟩
   ·have zX:Hid (R=.ok (l,st1)):=by unfold Hid;rw[<- CH.o,Px.stmts,if_pos hc]
    go_wp2_with (first | (go_at_call 156;refine (vD b s _ st1.t st1.fF st1.fH _ PP.o).mono ?_;rintro e w' ⟨rfl,rfl⟩))
    refine (VJ b s _ st1.t st1.fF st1.fH _ PP.o DD.o.tk.le hs hc).mono ?_;rintro e w3 ⟨rfl,p3,k3⟩;have P3:Hid (_/\_):=⟨p3,k3⟩;clear p3 k3 c0 c1 c2 c3 c4 c5 c6 c7 f;go_wp2_with fail;refine (VU b s (.ok (Px.nx s st1)) _ ⟨P3.o.1,xR DD.o.tk⟩ ?qC).mono ?_
    case qC =>
     intro st0 h0;cases h0;have h1:=DD.o.n0;have h2:=DD.o.n1;show 0<=st1.fF/\st1.fF<=2000000
     omega
    rintro e w4 ⟨rfl,k4,p4⟩;have P4:Hid (Kp b w3 w4/\jF w4 b s (.ok (qy (Px.nx s st1)))):=⟨k4,p4⟩;clear k4 p4;go_wp2_with fail;go_ret;have LU:Kp b wr w4:=P3.o.2.trans P4.o.1;have z4:=LU.size;have z1:=KR.o.1.size;refine ⟨KR.o.1.trans LU,va,vn,vc,rfl,?_⟩;rw[e1.o,zX.o];refine ⟨qs,?_,?_,P4.o.2.1⟩
    ·refine V4 (Hg KR.o.2 fun k hk=>LU.block k (KR.o.2.lt k hk).2 (by have:=(KR.o.2.lt k hk).1;omega)) fun k hk=>?_
     have:=KR.o.2.lt k hk
     exact ⟨this.1,by omega⟩
    ·exact (L.o.keep fun k hk=>LU.block k hk.1.2 (by have:=hk.1.1;omega)).mono fun k hk=>⟨hk.1.1,by have:=hk.1.2;omega⟩
  ·obtain ⟨c0,c1,c2,c3,c4,c5,c6,c7,f,hbr⟩:=p1.cells;have PP:Hid (R=.error pe/\fQ wr b s t (pe:Int) fF fH):=⟨hRe,p1⟩;have hpe:(0:Int)<=pe:=by omega
   clear p1 hRe;go_wp2_with fail;refine (VK b s _ t (pe:Int) fF fH _ PP.o.2 (by omega)).mono ?_
   rintro e w' ⟨rfl,rfl⟩;go_wp2_with fail;refine (OJ b s t (pe:Int) fF fH _ PP.o.2).mono ?_;rintro e w4 ⟨rfl,p4,k4⟩;have P4:Hid (_/\_):=⟨p4,k4⟩;clear k4 p4;go_wp2_with fail;go_ret;refine ⟨KR.o.1.trans P4.o.2,va,vn,vc,rfl,?_⟩;rw[e1.o,PP.o.1];exact ⟨_,_,_,P4.o.1⟩
theorem A0 (b:Nat)(s:fq)(g:Px.Ps->Except Nat (Sm×Px.Ps))(st:Px.Ps)(w:fu)(p:fQ w b s st.t (-1) st.fF st.fH)(ho:gy s st.t ⟨#[123]⟩=false) :
  Calls prog 119 #[.pointer (some ⟨b,0,none⟩)] w (E9 b s w (Px.block s g st)):=by
 have P0:Hid (_):=p;have e1:Hid (Px.block s g st=.error st.t.a):=by unfold Hid;rw[Px.block,if_neg (by simp[ho])]
 clear p;go_enter func119,ntmps119
 go_wp2_with fail;refine (vD b s _ st.t st.fF st.fH _ P0.o).mono ?_;rintro e w' ⟨rfl,rfl⟩;go_wp2_with fail;refine (G5 b s st.t st.fF st.fH _ P0.o).mono ?_;rintro e w1 ⟨rfl,p1,k1⟩;have P1:Hid (_/\_):=⟨p1,k1⟩;clear p1 k1;go_wp2_with fail;go_ret;refine ⟨P1.o.2,none,0,0,rfl,?_⟩;rw[e1.o];exact ⟨_,_,_,P1.o.1⟩
theorem A4 (b:Nat)(s:fq)(t:Px.Tok)(pe:Nat)(fF fH:Int)(w:fu)(p:fQ w b s t (pe:Int) fF fH) :
  Calls prog 119 #[.pointer (some ⟨b,0,none⟩)] w (E9 b s w (.error pe)):=by
 have P0:Hid (_):=p;clear p;go_enter func119,ntmps119
 go_wp2_with fail;refine (C9 b s _ t (pe:Int) fF fH _ P0.o (by omega)).mono ?_
 rintro e w' ⟨rfl,rfl⟩;go_wp2_with fail;refine (OI b s t (pe:Int) fF fH _ P0.o (by omega)).mono ?_
 rintro e w' ⟨rfl,rfl⟩;go_wp2_with fail;go_ret;exact ⟨Kp.refl _ _,none,0,0,rfl,_,_,_,P0.o⟩
theorem Ho (b:Nat)(s:fq)(n:Nat)(g:Px.Ps->Except Nat (Sm×Px.Ps))(hst:Fb b s n g)(hg:Px.Goes s g)(hs3:s.size<=300)(r:Except Nat Px.Ps)(w:fu)(p:jF w b s r)(hD:∀ st,r=.ok st->gP s (n+1) st) :
  Calls prog 119 #[.pointer (some ⟨b,0,none⟩)] w (E9 b s w (r.bind (Px.block s g))):=by
 cases r with
 | error pe=>obtain ⟨t,fF,fH,hp⟩:=p;exact A4 b s t pe fF fH w hp
 | ok st =>
  cases ho:gy s st.t ⟨#[123]⟩
  ·exact A0 b s g st w p.1 ho
  ·exact Ax b s n g hst hg hs3 st w (hD st rfl) p.1 ho
