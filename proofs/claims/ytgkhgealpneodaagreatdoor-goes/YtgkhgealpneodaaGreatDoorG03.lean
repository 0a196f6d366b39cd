import Derived.Test.YtgkhgealpneodaaGreatDoorG02
import Derived.Deep.DeepCutAuto
set_option maxRecDepth 100000
set_option maxHeartbeats 4000000
namespace Go.Proofs.YtgkhgealpneodaaGreatDoor
open Go.RowKit Tryz
namespace Ref
open Px
def GD(b:Nat)(s:dX)(n:Nat)(g:eO->Except Nat (fG×eO)):Prop:=
 ∀(st:eO)(w:dY),iH s n st->fQ w b s st.t (-1) st.eP st.fu ->
  fI 231 #[fq b] w (nV b s w (g st))
theorem Q3(b:Nat)(s:dX)(n:Nat)(g:eO->Except Nat (fG×eO))(h:GD b s n g):Qu b s n false g:=by intro st w hD p;have HD:Hid (iH s n st/\fQ w b s st.t (-1) st.eP st.fu):=⟨hD,p⟩;go_enter func183,ntmps183;go_wp2_with fail;refine(h st _ HD.o.1 HD.o.2).mono ?_;rintro e w1 ⟨k1,q,rfl,h1⟩;have H1:Hid (_/\_):=⟨k1,h1⟩;go_wp2_with fail;go_ret;exact⟨H1.o.1,q,rfl,H1.o.2⟩
theorem Q4(b:Nat)(s:dX)(n:Nat)(g:eO->Except Nat (fG×eO))(h:GD b s n g)(hg:fP s g)(hs:s.size<=maxLen):Qu b s n true (qm s g):=by intro st w hD p;have HG:Hid _:=hg;have HD:Hid (iH s n st/\fQ w b s st.t (-1) st.eP st.fu):=⟨hD,p⟩;go_enter func183,ntmps183;go_wp2_with fail;refine(WM b s n false g (Q3 b s n g h) HG.o 42 47 st _ HD.o.1 HD.o.2 hs).mono ?_;rintro e w1 ⟨k1,q,rfl,h1⟩;have H1:Hid (_/\_):=⟨k1,h1⟩;go_wp2_with fail;go_ret;exact⟨H1.o.1,q,rfl,H1.o.2⟩
theorem MW(b:Nat)(s:dX)(n:Nat)(g:eO->Except Nat (fG×eO))(h:GD b s n g)(hg:fP s g)(hs:s.size<=maxLen)(st:eO)(w:dY)(hD:iH s n st)(p:fQ w b s st.t (-1) st.eP st.fu):fI 149 #[fq b,.string ⟨#[43]⟩,.string ⟨#[45]⟩,.bool true] w (nV b s w (Px.sum s g st)):=WM b s n true (qm s g) (Q4 b s n g h hg hs) (D7 hg) 43 45 st w hD p hs
variable{s z:dX}{t:iy}
theorem Qw(h1:gN s t ⟨#[60]⟩=false)(h2:gN s t ⟨#[61]⟩=false)(h3:gN s t ⟨#[35]⟩=false):qU s t=none:=by simp[qU,h1,h2,h3]
def WO(b:Nat)(s:dX)(n:Nat)(g:eO->Except Nat (fG×eO)):Prop:=
 ∀(st:eO)(w:dY),iH s n st->fQ w b s st.t (-1) st.eP st.fu ->
  fI 71 #[fq b] w (nV b s w (Px.expr s g st))
theorem WQ(b:Nat)(s:dX)(n:Nat)(g:eO->Except Nat (fG×eO))(h:GD b s n g)(hg:fP s g)(hs:s.size<=maxLen):WO b s n g:=by
 intro st w hD p;obtain⟨c0,c1,c2,c3,c4,c5,c6,c7,f,hb⟩:=p.cells;have HG:Hid _:=hg;have HD:Hid (iH s n st/\fQ w b s st.t (-1) st.eP st.fu):=⟨hD,p⟩;go_enter func71,ntmps71;go_wp2_with fail;refine(MW b s n g h HG.o hs st _ HD.o.1 HD.o.2).mono ?_;rintro e w1 ⟨k1,q,rfl,h1⟩;cases hr:Px.sum s g st with
 |error pe=>
  have e1:Hid (Px.expr s g st=.error pe):=by unfold Hid Px.expr;rw[hr]
  rw[hr]at h1;obtain⟨hq,hv,t,eP,fu,p1⟩:=h1;have P1:Hid _:=p1;have V:Hid (_/\_/\_):=⟨k1,hq,hv⟩;go_wp2_with (first|(go_at_call 146;refine(Et b s _ t (pe:Int) eP fu _ P1.o (by omega)).mono ?_;rintro e w' ⟨rfl,rfl⟩))
  go_ret;rw[e1.o];exact⟨V.o.1,q,rfl,V.o.2.1,V.o.2.2,t,eP,fu,P1.o⟩
 |ok r=>
 obtain⟨x,st1⟩:=r;have HR:Hid _:=hr;rw[hr]at h1;obtain⟨hx,p1⟩:=h1;have X:Hid (Kp b w w1/\ji w1 x (gD w w1) q):=⟨k1,hx⟩;have P1:Hid _:=p1;have D1:Hid (iH s n st1):=HD.o.1.good (AY HG.o _ _ _ HD.o.1.tk hr);have fin:∀(o:UInt8)(hc:qU s st1.t=some o.toNat)(w2 w3 W:dY)(q2:Nat)(O:Obj)(K2:Kp b w1 w2)(H3:nV b s (w2.alloc O) (Px.sum s g (eZ s st1)) (fM (fq q2)) w3)
  (hW:W.heap=(w3.heap.push (.cells #[fq q,fq q2] 170)).push (.cells #[.int .u8 (o.toNat:Int),eF 0,.string ⟨#[]⟩,eF (st.t.a:Int),eF (st1.t.a:Int),.slice (some ⟨w3.heap.size,0,none⟩) 2 2] 184))
  (hK:Kp b w3 W),nV b s w (Px.expr s g st) (fM (.pointer (some ⟨w3.heap.size+1,0,none⟩))) W:=by
  intro o hc w2 w3 W q2 O K2 H3 hW hK;obtain⟨k3,q2',he,h3⟩:=H3;obtain rfl:q2=q2':=by simpa using he
  have Ey:Kp b w1 w3:=K2.trans k3.wZ;have kw:Kp b w W:=(X.o.1.trans Ey).trans hK;have s1:=X.o.1.size;have s2:=Ey.size;have s3:=K2.size;have pO:∀{t:iy}{bad eP fu:Int},fQ w3 b s t bad eP fu->fQ W b s t bad eP fu:=fun p=>⟨by rw[hW,MS p.lt];exact p.h⟩;refine⟨kw,_,rfl,?_⟩;unfold Px.expr;rw[HR.o];simp only[hc];cases hr:Px.sum s g (eZ s st1)with
  |error p=>rw[hr]at h3;obtain⟨hq,hv,t,eP,fu,hp⟩:=h3;exact⟨by omega,⟨_,_,_,_,_,_,by rw[hW];exact xJ⟩,t,eP,fu,pO hp⟩
  |ok r=>
  obtain⟨k,st'⟩:=r;rw[hr]at h3;obtain⟨hk,hp⟩:=h3;exact⟨ji.pair (X.o.2.kp hb Ey) hk (by simp;omega) s2 (by omega) hW,pO hp⟩
 have FIN:Hid _:=fin;cases GH:gN s st1.t ⟨#[60]⟩
 ·cases Ja:gN s st1.t ⟨#[61]⟩
  ·cases Ez:gN s st1.t ⟨#[35]⟩
   ·go_wp2_with (first|(go_at_call 146;refine(wL b s _ st1.t st1.eP st1.fu _ P1.o).mono ?_;rintro e w' ⟨rfl,rfl⟩))
    go_ret;refine⟨X.o.1,q,rfl,?_⟩;unfold Px.expr;rw[HR.o];simp only[Qw GH Ja Ez];exact⟨X.o.2,P1.o⟩
   go_wp2_with (first|(go_at_call 146;refine(wL b s _ st1.t st1.eP st1.fu _ P1.o).mono ?_;rintro e w' ⟨rfl,rfl⟩))
   refine(wM b s st1.t st1.eP st1.fu _ P1.o D1.o.tk.le hs).mono ?_;unfold mh;rw[I9 Ez];rintro e w2 ⟨rfl,p2,k2⟩;have P2:Hid _:=p2;have K2:Hid _:=k2;have hb2:b<w2.heap.size:=p2.lt;go_wp2_with fail;refine(MW b s n g h HG.o hs (eZ s st1) _ (D1.o.good (jh D1.o.tk Ez)) (P2.o.alloc _)).mono ?_;rintro e w3 ⟨k3,q2,rfl,h3⟩;obtain⟨a0,a1,a2,a3,af⟩:=qR (yY k3 hb2);have hz3:w2.heap.size<w3.heap.size:=by have:=k3.size;simp at this;omega
   have H3:Hid (nV b s (w2.alloc _) (Px.sum s g (eZ s st1)) (fM (fq q2)) w3):=⟨k3,q2,rfl,h3⟩;go_wp2_with fail;go_region
   go_wp2;go_ret;exact FIN.o 35 (by simp[qU,GH,Ja,Ez]) w2 w3 _ q2 _ K2.o H3.o rfl (((Kp.refl _ _).alloc _).alloc _).drew
  go_wp2_with (first|(go_at_call 146;refine(wL b s _ st1.t st1.eP st1.fu _ P1.o).mono ?_;rintro e w' ⟨rfl,rfl⟩))
  refine(wM b s st1.t st1.eP st1.fu _ P1.o D1.o.tk.le hs).mono ?_;unfold mh;rw[I9 Ja];rintro e w2 ⟨rfl,p2,k2⟩;have P2:Hid _:=p2;have K2:Hid _:=k2;have hb2:b<w2.heap.size:=p2.lt;go_wp2_with fail;refine(MW b s n g h HG.o hs (eZ s st1) _ (D1.o.good (jh D1.o.tk Ja)) (P2.o.alloc _)).mono ?_;rintro e w3 ⟨k3,q2,rfl,h3⟩;obtain⟨a0,a1,a2,a3,af⟩:=qR (yY k3 hb2);have hz3:w2.heap.size<w3.heap.size:=by have:=k3.size;simp at this;omega
  have H3:Hid (nV b s (w2.alloc _) (Px.sum s g (eZ s st1)) (fM (fq q2)) w3):=⟨k3,q2,rfl,h3⟩;go_wp2_with fail;go_region
  go_wp2;go_ret;exact FIN.o 61 (by simp[qU,GH,Ja]) w2 w3 _ q2 _ K2.o H3.o rfl (((Kp.refl _ _).alloc _).alloc _).drew
 go_wp2_with (first|(go_at_call 146;refine(wL b s _ st1.t st1.eP st1.fu _ P1.o).mono ?_;rintro e w' ⟨rfl,rfl⟩))
 refine(wM b s st1.t st1.eP st1.fu _ P1.o D1.o.tk.le hs).mono ?_;unfold mh;rw[I9 GH];rintro e w2 ⟨rfl,p2,k2⟩;have P2:Hid _:=p2;have K2:Hid _:=k2;have hb2:b<w2.heap.size:=p2.lt;go_wp2_with fail;refine(MW b s n g h HG.o hs (eZ s st1) _ (D1.o.good (jh D1.o.tk GH)) (P2.o.alloc _)).mono ?_;rintro e w3 ⟨k3,q2,rfl,h3⟩;obtain⟨a0,a1,a2,a3,af⟩:=qR (yY k3 hb2);have hz3:w2.heap.size<w3.heap.size:=by have:=k3.size;simp at this;omega
 have H3:Hid (nV b s (w2.alloc _) (Px.sum s g (eZ s st1)) (fM (fq q2)) w3):=⟨k3,q2,rfl,h3⟩;go_wp2_with fail;go_region
 go_wp2;go_ret;exact FIN.o 60 (by simp[qU,GH]) w2 w3 _ q2 _ K2.o H3.o rfl (((Kp.refl _ _).alloc _).alloc _).drew
theorem Qx(h:Tk s t)(hk:t.k=110):(s.extract t.a t.b).size<=4/\∀j(hj:j<(s.extract t.a t.b).size),lT (s.extract t.a t.b)[j]=true:=by
 obtain⟨h1,h2⟩:=h.num hk;have hz:(s.extract t.a t.b).size=t.b-t.a:=by have:=h.le;simp;omega
 refine⟨by omega,fun j hj=>?_⟩;have e:(s.extract t.a t.b)[j]=s[t.a+j]'(by have:=h.le;omega):=by simp[ByteArray.getElem_extract]
 rw[e];exact h2 _ _ (by omega) (by omega)
theorem wN(hk:t.k=107)(l:List UInt8):gN s t ⟨⟨l⟩⟩=((s.extract t.a t.b).toList==l):=by unfold gN;rw[hk,aP ⟨⟨l⟩⟩];simp
variable{W w w' w0 w1 w2 w3:dY}{b base k n q:Nat}{a c d f v:dZ}
theorem oD{b e:dZ}{t:TypeId}(h:w.heap[k]?=some (.cells #[a,b,c,d,e,f] t)):w.cell? ⟨k,0,none⟩=some a/\w.cell? ⟨k,1,none⟩=some b/\w.cell? ⟨k,2,none⟩=some c/\w.cell? ⟨k,3,none⟩=some d/\w.cell? ⟨k,4,none⟩=some e/\w.cell? ⟨k,5,none⟩=some f/\∀o,w.frozen? ⟨k,o,none⟩=false:=by refine⟨?_,?_,?_,?_,?_,?_,?_⟩<;>simp[World.cell?,World.frozen?,h]
theorem CX{o p:Obj}(hW:W.heap=(w.heap.push o).push p)(h:Kp b W w1)(hb:b<w.heap.size):w1.heap[w.heap.size]?=some o/\w1.heap[w.heap.size+1]?=some p/\w.heap.size+2<=w1.heap.size:=by
 have e0:W.heap.size=w.heap.size+2:=by rw[hW];simp
 have:=h.size;refine⟨?_,?_,by omega⟩;·rw[h.block _ (by omega) (by omega),hW];exact MU
 rw[h.block _ (by omega) (by omega),hW];exact xJ
variable{st st':eO}{T:Obj}
theorem MX{op pl:Nat}{eH:dX}(hb:b<w.heap.size)(k:Kp b ((w.alloc (.cells #[.int .u8 (op:Int),eF (n:Int),.string eH,eF (pl:Int),eF (pl:Int),iE] 184)).alloc T).drew w')(p:fQ w' b s st.t (-1) st.eP st.fu):nV b s w (.ok (jo op n eH pl,st)) (fM (fq w.heap.size)) w':=by obtain⟨h1,h2,h3⟩:=CX rfl k hb;exact⟨((((Kp.refl b w).alloc _).alloc _).drew).trans k,_,rfl,⟨⟨ay _,by omega⟩,h1⟩,p⟩
theorem Qy(b:Nat)(s:dX)(n:Nat)(hs:s.size<=maxLen)(st:eO)(w:dY)(hD:iH s (n+1) st)(p:fQ w b s st.t (-1) st.eP st.fu)(hk:st.t.k=110):fI 231 #[fq b] w (nV b s w (fH s (n+1) st)):=by
 obtain⟨c0,c1,c2,c3,c4,c5,c6,c7,f,hb⟩:=p.cells;have HD:Hid (iH s (n+1) st/\fQ w b s st.t (-1) st.eP st.fu):=⟨hD,p⟩;have e1:Hid (fH s (n+1) st=.ok (jo 110 (iq (Px.txt s st.t).toList) iF st.t.a,eZ s st)):=by unfold Hid;rw[fH,aA hk]
 have V:Hid (_/\_):=Qx hD.tk hk;have t1:((st.t.k:Int)==110)=true:=by rw[hk];rfl
 go_enter func231,ntmps231;go_wp2_with fail;go_region
 go_wp2_with fail;refine(Qt _ _ V.o.1 V.o.2).mono ?_;rintro e w' ⟨rfl,hw⟩;rw[hw];go_wp2_with fail;refine(wM b s st.t st.eP st.fu _ ((HD.o.2.alloc _).alloc _).drew HD.o.1.tk.le hs).mono ?_;rintro e w2 ⟨rfl,p2,k2⟩;have P2:Hid (_/\_):=⟨p2,k2⟩;go_wp2_with fail;go_ret;rw[e1.o];exact MX hb P2.o.2 P2.o.1
theorem Qz(b:Nat)(s:dX)(n:Nat)(hs:s.size<=maxLen)(st:eO)(w:dY)(hD:iH s (n+1) st)(p:fQ w b s st.t (-1) st.eP st.fu)(hk:st.t.k=119):fI 231 #[fq b] w (nV b s w (fH s (n+1) st)):=by
 obtain⟨c0,c1,c2,c3,c4,c5,c6,c7,f,hb⟩:=p.cells;have HD:Hid (iH s (n+1) st/\fQ w b s st.t (-1) st.eP st.fu):=⟨hD,p⟩;have e1:Hid (fH s (n+1) st=.ok (jo 119 0 (Px.txt s st.t) st.t.a,eZ s st)):=by unfold Hid;rw[fH,ah (by omega),aA hk]
 have t1:((st.t.k:Int)==110)=false:=by rw[hk];rfl
 have t2:((st.t.k:Int)==119)=true:=by rw[hk];rfl
 go_enter func231,ntmps231;go_wp2_with fail;go_region
 go_wp2_with fail;refine(wM b s st.t st.eP st.fu _ ((HD.o.2.alloc _).alloc _).drew HD.o.1.tk.le hs).mono ?_;rintro e w2 ⟨rfl,p2,k2⟩;have P2:Hid (_/\_):=⟨p2,k2⟩;go_wp2_with fail;go_ret;rw[e1.o];exact MX hb P2.o.2 P2.o.1
theorem QA(b:Nat)(s:dX)(n:Nat)(hs:s.size<=maxLen)(st:eO)(w:dY)(hD:iH s (n+1) st)(p:fQ w b s st.t (-1) st.eP st.fu)(ho:gN s st.t ⟨#[116,114,117,101]⟩=true):fI 231 #[fq b] w (nV b s w (fH s (n+1) st)):=by
 obtain⟨c0,c1,c2,c3,c4,c5,c6,c7,f,hb⟩:=p.cells;have HD:Hid (iH s (n+1) st/\fQ w b s st.t (-1) st.eP st.fu):=⟨hD,p⟩;have hk:=uT ho;have e1:Hid (fH s (n+1) st=.ok (jo 116 1 iF st.t.a,eZ s st)):=by unfold Hid;rw[fH,ah (by omega),ah (by omega),aA ho]
 have t1:((st.t.k:Int)==110)=false:=by rw[hk];rfl
 have t2:((st.t.k:Int)==119)=false:=by rw[hk];rfl
 have t3:((st.t.k:Int)==107)=true:=by rw[hk];rfl
 have t4:((s.extract st.t.a st.t.b).toList==[116,114,117,101])=true:=by rw[<- wN hk];exact ho
 go_enter func231,ntmps231;go_wp2_with fail;go_region
 go_wp2_with fail;refine(wM b s st.t st.eP st.fu _ ((HD.o.2.alloc _).alloc _).drew HD.o.1.tk.le hs).mono ?_;rintro e w2 ⟨rfl,p2,k2⟩;have P2:Hid (_/\_):=⟨p2,k2⟩;go_wp2_with fail;go_ret;rw[e1.o];exact MX hb P2.o.2 P2.o.1
theorem QB(b:Nat)(s:dX)(n:Nat)(hs:s.size<=maxLen)(st:eO)(w:dY)(hD:iH s (n+1) st)(p:fQ w b s st.t (-1) st.eP st.fu)(hk:st.t.k=107)(h1:gN s st.t ⟨#[116,114,117,101]⟩=false)(ho:gN s st.t ⟨#[102,97,108,115,101]⟩=true):fI 231 #[fq b] w (nV b s w (fH s (n+1) st)):=by
 obtain⟨c0,c1,c2,c3,c4,c5,c6,c7,f,hb⟩:=p.cells;have HD:Hid (iH s (n+1) st/\fQ w b s st.t (-1) st.eP st.fu):=⟨hD,p⟩;have e1:Hid (fH s (n+1) st=.ok (jo 116 0 iF st.t.a,eZ s st)):=by unfold Hid;rw[fH,ah (by omega),ah (by omega),ah (by simp[h1]),aA ho]
 have t1:((st.t.k:Int)==110)=false:=by rw[hk];rfl
 have t2:((st.t.k:Int)==119)=false:=by rw[hk];rfl
 have t3:((st.t.k:Int)==107)=true:=by rw[hk];rfl
 have t4:((s.extract st.t.a st.t.b).toList==[116,114,117,101])=false:=by rw[<- wN hk];exact h1
 have t5:((s.extract st.t.a st.t.b).toList==[102,97,108,115,101])=true:=by rw[<- wN hk];exact ho
 go_enter func231,ntmps231;go_wp2_with fail;go_region
 go_wp2_with fail;refine(wM b s st.t st.eP st.fu _ ((HD.o.2.alloc _).alloc _).drew HD.o.1.tk.le hs).mono ?_;rintro e w2 ⟨rfl,p2,k2⟩;have P2:Hid (_/\_):=⟨p2,k2⟩;go_wp2_with fail;go_ret;rw[e1.o];exact MX hb P2.o.2 P2.o.1
def kM(w:dY)(b:Nat)(s:dX)(r:Except Nat eO):Prop:=
 match r with
 |.ok st=>fQ w b s st.t (-1) st.eP st.fu/\Tk s st.t
 |.error p=>∃t eP fu,fQ w b s t ((p:Nat):Int) eP fu
theorem kM.lt{w:dY}{b:Nat}{s:dX}{r:Except Nat eO}(h:kM w b s r):b<w.heap.size:=by
 cases r with
 |error p=>obtain⟨t,eP,fu,hp⟩:=h;exact hp.lt
 |ok st=>exact h.1.lt
variable{r:Except Nat eO}
theorem kM.eqv(h:kM w b s r)(he:w'.heap[b]?=w.heap[b]?):kM w' b s r:=by
 cases r with
 |error p=>obtain⟨t,eP,fu,hp⟩:=h;exact⟨t,eP,fu,⟨by rw[he];exact hp.h⟩⟩
 |ok st=>exact⟨⟨by rw[he];exact h.1.h⟩,h.2⟩
theorem kM.alloc{w:dY}{b:Nat}{s:dX}{r:Except Nat eO}(h:kM w b s r)(o:Obj):kM (w.alloc o) b s r:=h.eqv (aI _ _ _ h.lt)
theorem kM.iD{o:Nat}(h:kM w b s r)(hk:b≠k)(v:dZ):kM (w.setCell ⟨k,o,none⟩ v) b s r:=h.eqv (lg _ hk)
def sM(s:dX)(r:Except Nat eO)(x:dX):Bool:=
 match r with
 |.ok st=>gN s st.t x
 |.error _=>false
theorem Rc(b:Nat)(s x:dX)(r:Except Nat eO)(w:dY)(p:kM w b s r):fI 146 #[fq b,.string x] w fun e w'=>e=fM (.bool (sM s r x))/\w=w':=by
 cases r with
 |error pe=>obtain⟨t,eP,fu,hp⟩:=p;exact Et b s x t _ eP fu w hp (by omega)
 |ok st=>exact wL b s x st.t st.eP st.fu w p.1
def zo(s:dX)(r:Except Nat eO)(x:dX):Except Nat eO:=
 match r with
 |.ok st=>if gN s st.t x then .ok (eZ s st)else .ok st
 |.error p=>.error p
theorem Bl(b:Nat)(s x:dX)(r:Except Nat eO)(w:dY)(p:kM w b s r)(hs:s.size<=maxLen):fI 68 #[fq b,.string x] w fun e w'=>e=fM (.bool (sM s r x))/\Kp b w w'/\kM w' b s (zo s r x):=by
 cases r with
 |error pe=>obtain⟨t,eP,fu,hp⟩:=p;refine(WG b s x t _ eP fu w hp (by omega)).mono ?_;rintro e w' ⟨rfl,rfl⟩;exact⟨rfl,Kp.refl _ _,t,eP,fu,hp⟩
 |ok st=>
 cases ho:gN s st.t x;·refine(uX b s x st.t st.eP st.fu w p.1 ho).mono ?_;rintro e w' ⟨rfl,rfl⟩;exact⟨by simp[sM,ho],Kp.refl _ _,by simp[zo,ho];exact p⟩
 refine(Eu b s x st.t st.eP st.fu w p.1 p.2.le hs ho).mono ?_;rintro e w' ⟨rfl,p1,k1⟩;exact⟨by simp[sM,ho],k1,by simp[zo,ho];exact⟨p1,yZ p.2⟩⟩
theorem lS(b:Nat)(s x:dX)(r:Except Nat eO)(w:dY)(p:kM w b s r)(hs:s.size<=maxLen):fI 70 #[fq b,.string x] w fun e w'=>e=fM (.tuple #[])/\Kp b w w'/\kM w' b s (r.bind (Px.need s x)):=by
 cases r with
 |error pe=>obtain⟨t,eP,fu,hp⟩:=p;refine(WI b s x t _ eP fu w hp (by omega)).mono ?_;rintro e w' ⟨rfl,rfl⟩;exact⟨rfl,Kp.refl _ _,t,eP,fu,hp⟩
 |ok st=>
 cases ho:gN s st.t x;·refine(Ps b s x st.t st.eP st.fu w p.1 ho).mono ?_;rintro e w' ⟨rfl,p1,k1⟩;exact⟨rfl,k1,by simp[Except.bind,Px.need,ho];exact⟨_,_,_,p1⟩⟩
 refine(WH b s x st.t st.eP st.fu w p.1 p.2.le hs ho).mono ?_;rintro e w' ⟨rfl,p1,k1⟩;exact⟨rfl,k1,by simp[Except.bind,Px.need,ho];exact⟨p1,yZ p.2⟩⟩
def nL(s:dX)(r:Except Nat eO)(k:Nat):dX:=
 match r with
 |.ok st=>if st.t.k=k then s.extract st.t.a st.t.b else⟨#[]⟩
 |.error _=>⟨#[]⟩
def qD(r:Except Nat eO)(k:Nat):Nat:=
 match r with
 |.ok st=>if st.t.k=k then st.t.a else 0
 |.error _=>0
theorem nG(b:Nat)(s:dX)(k:Nat)(r:Except Nat eO)(w:dY)(p:kM w b s r)(hs:s.size<=maxLen):fI 69 #[fq b,.int .u8 (k:Int)] w fun e w'=>(∃v x:Int,e=fM (.agg #[.int .u8 v,.string (nL s r k),eF (qD r k:Int),eF x]))/\Kp b w w'/\kM w' b s (r.bind (Px.kind s k)):=by
 cases r with
 |error pe=>obtain⟨t,eP,fu,hp⟩:=p;refine(Q2 b s k t _ eP fu w hp (by omega)).mono ?_;rintro e w' ⟨rfl,p1,k1⟩;exact⟨⟨0,0,rfl⟩,k1,t,eP,fu,p1⟩
 |ok st=>
 by_cases ho:st.t.k=k;·refine(Pu b s k st.t st.eP st.fu w p.1 p.2.le hs (by omega)).mono ?_;rintro e w' ⟨rfl,p1,k1⟩;exact⟨⟨st.t.k,st.t.b,by simp[nL,qD,ho,mh]⟩,k1,by simp[Except.bind,Px.kind,ho];exact⟨p1,yZ p.2⟩⟩
 refine(Q1 b s k st.t st.eP st.fu w p.1 (by omega)).mono ?_;rintro e w' ⟨rfl,p1,k1⟩;exact⟨⟨0,0,by simp[nL,qD,ho,Ew]⟩,k1,by simp[Except.bind,Px.kind,ho];exact⟨_,_,_,p1⟩⟩
theorem WR(b:Nat)(s:dX)(r:Except Nat eO)(w:dY)(p:kM w b s r)(hn:∀st,r=.ok st->0<=st.eP/\st.eP<=2000000):fI 151 #[fq b] w fun e w'=>e=fM (.tuple #[])/\Kp b w w'/\kM w' b s (r.map rC):=by
 cases r with
 |error pe=>obtain⟨t,eP,fu,hp⟩:=p;refine(Qr b s t _ eP fu w hp).mono ?_;rintro e w' ⟨rfl,p1,k1⟩;exact⟨rfl,k1,t,_,fu,p1⟩
 |ok st=>
 refine(Qr b s st.t _ st.eP st.fu w p.1).mono ?_;rintro e w' ⟨rfl,p1,k1⟩;have h:=hn st rfl;refine⟨rfl,k1,?_,p.2⟩;have e1:wrap64 (st.eP-1)=st.eP-1:=(by unfold wrap64;omega);rw[e1]at p1;exact p1
theorem Kp.heap{b:Nat}{w w':dY}(h:Kp b w w'){k:Nat}{o:Obj}(hk:w.heap[k]?=some o)(hb:k≠b):w'.heap[k]?=some o:=by
 obtain h1|h1:=dF k w.heap.size;·rw[h.block k h1 hb];exact hk
 simp[h1]at hk
theorem Re(b:Nat)(s:dX)(n:Nat)(st:eO)(w:dY)(p:fQ w b s st.t (-1) st.eP st.fu)(h0:st.t.k≠110)(h0':st.t.k≠119)(h1:gN s st.t ⟨#[116,114,117,101]⟩=false)(h2:gN s st.t ⟨#[102,97,108,115,101]⟩=false)(h3:gN s st.t ⟨#[110,111,116]⟩=false)(h4:gN s st.t ⟨#[40]⟩=false):fI 231 #[fq b] w (nV b s w (fH s (n+1) st)):=by
 obtain⟨c0,c1,c2,c3,c4,c5,c6,c7,f,hb⟩:=p.cells;have HD:Hid _:=p;have e1:Hid (fH s (n+1) st=.error st.t.a):=by unfold Hid;rw[fH,ah h0,ah h0',ah (by simp[h1]),ah (by simp[h2]),ah (by simp[h3]),ah (by simp[h4])]
 have t1:((st.t.k:Int)==110)=false:=by rw[beq_eq_false_iff_ne];omega
 have t2:((st.t.k:Int)==119)=false:=by rw[beq_eq_false_iff_ne];omega
 have fin:∀(w1:dY)(E T:Obj),(∃v0 v1 v2 v3 v4 v5,E=.cells #[v0,v1,v2,v3,v4,v5] 184)->fQ w1 b s st.t (st.t.a:Int) st.eP st.fu->Kp b ((w.alloc E).alloc T).drew w1->nV b s w (fH s (n+1) st) (fM (fq w.heap.size)) w1:=by intro w1 E T hE p1 k1;obtain⟨g1,g2,g3⟩:=CX rfl k1 hb;rw[e1.o];obtain⟨v0,v1,v2,v3,v4,v5,rfl⟩:=hE;exact⟨((((Kp.refl b w).alloc _).alloc _).drew).trans k1,_,rfl,ay _,⟨_,_,_,_,_,_,g1⟩,_,_,_,p1⟩
 have FIN:Hid _:=fin;by_cases hk:st.t.k=107
 ·have t3:((st.t.k:Int)==107)=true:=by rw[hk];rfl
  have t4:((s.extract st.t.a st.t.b).toList==[116,114,117,101])=false:=by rw[<- wN hk];exact h1
  have t5:((s.extract st.t.a st.t.b).toList==[102,97,108,115,101])=false:=by rw[<- wN hk];exact h2
  have t6:((s.extract st.t.a st.t.b).toList==[110,111,116])=false:=by rw[<- wN hk];exact h3
  have t7:((s.extract st.t.a st.t.b).toList==[40])=false:=by rw[<- wN hk];exact h4
  go_enter func231,ntmps231;go_wp2_with fail;go_region
  go_wp2_with fail;refine(I8 b s st.t st.eP st.fu _ ((HD.o.alloc _).alloc _).drew).mono ?_;rintro e w2 ⟨rfl,p2,k2⟩;have P2:Hid (_/\_):=⟨p2,k2⟩;go_wp2_with fail;go_ret;exact FIN.o _ _ _ ⟨_,_,_,_,_,_,rfl⟩ P2.o.1 P2.o.2
 have t3:((st.t.k:Int)==107)=false:=by rw[beq_eq_false_iff_ne];omega
 go_enter func231,ntmps231;go_wp2_with fail;go_region
 go_wp2_with fail;refine(I8 b s st.t st.eP st.fu _ ((HD.o.alloc _).alloc _).drew).mono ?_;rintro e w2 ⟨rfl,p2,k2⟩;have P2:Hid (_/\_):=⟨p2,k2⟩;go_wp2_with fail;go_ret;exact FIN.o _ _ _ ⟨_,_,_,_,_,_,rfl⟩ P2.o.1 P2.o.2
theorem iH.down(h:iH s (n+1) st)(tk:Tk s st'.t)(lt:st.t.a<st'.t.a)(hn:st'.eP=st.eP\/st'.eP=st.eP+1):iH s n st':=by have h1:=h.room;have h2:=tk.ab;have h3:=tk.le;have h4:=h.n0;have h5:=h.n1;refine⟨tk,by omega,by omega,?_⟩;obtain hn|hn:=hn<;>rw[hn]<;>push_cast at h5<;>omega
theorem gP(w:dY)(a:Addr)(v:dZ):(w.setCell a v).heap.size=w.heap.size:=by simp[World.setCell]
def Jb(a:Nat)(r:Except Nat (fG×eO)):Except Nat (fG×eO):=
 match r with
 |.error p=>.error p
 |.ok (k,st')=>.ok (⟨33,0,iF,a,a,some k,none⟩,st')
def xK(s:dX)(a:Nat)(r:Except Nat (fG×eO)):Except Nat (fG×eO):=
 match r with
 |.error p=>.error p
 |.ok (e,st')=>if gN s st'.t ⟨#[41]⟩then .ok ({e with pl:=a},rC (eZ s st'))else .error st'.t.a
theorem Rg{E:Obj}{a:Nat}{r:Except Nat (fG×eO)}(hb:b<w.heap.size)(k2:Kp b ((w.alloc E).alloc T).drew w2)(H3:nV b s (w2.setCell ⟨w.heap.size,0,none⟩ v) r (fM (fq q)) w3)(g:w3.heap[w.heap.size]?=some (.cells #[.int .u8 33,eF 0,.string ⟨#[]⟩,eF (a:Int),eF (a:Int),iE] 184)):nV b s w (Jb a r) (fM (fq w.heap.size))
   ((w3.setCell ⟨w.heap.size,5,none⟩ (.slice (some ⟨w3.heap.size,0,none⟩) 1 1)).alloc (.cells #[fq q] 170)):=by
 obtain⟨k3,q',he,h3⟩:=H3;obtain rfl:q=q':=by simpa using he
 have z0:w.heap.size+2<=w2.heap.size:=(CX rfl k2 hb).2.2;have z1:w2.heap.size<=w3.heap.size:=by have:=k3.size;rw[gP]at this;exact this
 have ka:Kp b w w2:=((((Kp.refl b w).alloc _).alloc _).drew).trans k2;have kb:Kp b w w3:=(ka.iD (ay _) v).trans k3;generalize hW:(w3.setCell ⟨w.heap.size,5,none⟩ (.slice (some ⟨w3.heap.size,0,none⟩) 1 1)).alloc (.cells #[fq q] 170)=W;have kW:Kp b w W:=by rw[<- hW];exact(kb.iD (ay _) _).alloc _
 have zW:W.heap.size=w3.heap.size+1:=by rw[<- hW];simp
 have gE:W.heap[w.heap.size]?=some (.cells #[.int .u8 33,eF 0,.string ⟨#[]⟩,eF (a:Int),eF (a:Int),.slice (some ⟨w3.heap.size,0,none⟩) 1 1] 184):=by rw[<- hW,aI _ _ _ (by rw[gP];omega),heap_set _ g];simp
 have gK:W.heap[w3.heap.size]?=some (.cells #[fq q] 170):=by rw[<- hW];show((w3.setCell _ _).heap.push _)[w3.heap.size]?=_;rw[aD,aA (by rw[gP])]
 have gO:∀k,k<w3.heap.size->k≠w.heap.size->W.heap[k]?=w3.heap[k]?:=by intro k h1 h2;rw[<- hW,aI _ _ _ (by rw[gP];omega),lg _ h2]
 refine⟨kW,_,rfl,?_⟩;cases r with
 |error p=>obtain⟨hq,hv,t,eP,fu,hp⟩:=h3;have hpl:=hp.lt;exact⟨ay _,⟨_,_,_,_,_,_,gE⟩,t,eP,fu,⟨by rw[gO b hpl (by omega)];exact hp.h⟩⟩
 |ok r=>obtain⟨k,st'⟩:=r;obtain⟨hk,hp⟩:=h3;have hpl:=hp.lt;have hsz:=gP w2 ⟨w.heap.size,0,none⟩ v;refine⟨⟨⟨ay _,by omega⟩,w3.heap.size,q,⟨by omega,by omega⟩,by omega,gE,gK,?_⟩,⟨by rw[gO b hpl (by omega)];exact hp.h⟩⟩;refine(hk.keep fun i hi=>gO i hi.2 (by have:=hi.1;omega)).mono fun i hi=>?_;have h1:=hi.1;have h2:=hi.2;exact⟨⟨by omega,by omega⟩,by omega,by omega⟩
theorem QC(b:Nat)(s:dX)(n:Nat)(ih:GD b s n (fH s n))(hs:s.size<=maxLen)(st:eO)(w:dY)(hD:iH s (n+1) st)(p:fQ w b s st.t (-1) st.eP st.fu)(hk:st.t.k=107)(h1:gN s st.t ⟨#[116,114,117,101]⟩=false)(h2:gN s st.t ⟨#[102,97,108,115,101]⟩=false)(h3:gN s st.t ⟨#[110,111,116]⟩=true):fI 231 #[fq b] w (nV b s w (fH s (n+1) st)):=by
 obtain⟨c0,c1,c2,c3,c4,c5,c6,c7,f,hb⟩:=p.cells;have HD:Hid (iH s (n+1) st/\fQ w b s st.t (-1) st.eP st.fu):=⟨hD,p⟩;have e1:Hid (fH s (n+1) st=Jb st.t.a (fH s n (eZ s st))):=by unfold Hid;rw[fH,ah (by omega),ah (by omega),ah (by simp[h1]),ah (by simp[h2]),aA h3];cases fH s n (eZ s st)<;>rfl
 have t1:((st.t.k:Int)==110)=false:=by rw[hk];rfl
 have t2:((st.t.k:Int)==119)=false:=by rw[hk];rfl
 have t3:((st.t.k:Int)==107)=true:=by rw[hk];rfl
 have t4:((s.extract st.t.a st.t.b).toList==[116,114,117,101])=false:=by rw[<- wN hk];exact h1
 have t5:((s.extract st.t.a st.t.b).toList==[102,97,108,115,101])=false:=by rw[<- wN hk];exact h2
 have t6:((s.extract st.t.a st.t.b).toList==[110,111,116])=true:=by rw[<- wN hk];exact h3
 have D1:Hid (iH s n (eZ s st)):=hD.down (jh hD.tk h3).tk (jh hD.tk h3).lt (ak rfl);go_enter func231,ntmps231;go_wp2_with fail;go_region
 go_wp2_with fail;refine(wM b s st.t st.eP st.fu _ ((HD.o.2.alloc _).alloc _).drew HD.o.1.tk.le hs).mono ?_;rintro e w2 ⟨rfl,p2,k2⟩;obtain⟨g1,g2,g3⟩:=CX rfl k2 hb;obtain⟨d0,d1,d2,d3,d4,d5,df⟩:=oD g1;have P2:Hid (_/\_):=⟨p2,k2⟩;have G1:Hid _:=g1;go_wp2_with fail;refine(ih (eZ s st) _ D1.o (P2.o.1.iD (by omega) _)).mono ?_;rintro e w3 ⟨k3,q,rfl,h3⟩;have g3':w3.heap[w.heap.size]?=_:=Kp.heap k3 (heap_set _ G1.o) (by omega);simp only[List.setIfInBounds_toArray,List.set_cons_zero]at g3';obtain⟨r0,r1,r2,r3,r4,r5,rf⟩:=oD g3';have hz3:w.heap.size<w3.heap.size:=lt_of_cell r0;have H3:Hid (nV b s (w2.setCell ⟨w.heap.size,0,none⟩ (.int .u8 33)) (fH s n (eZ s st)) (fM (fq q)) w3/\_):=⟨⟨k3,q,rfl,h3⟩,g3'⟩;go_wp2_with fail;go_wp2;go_ret;rw[e1.o];exact Rg hb P2.o.2 H3.o.1 H3.o.2
theorem Rr{w4 w5:dY}{a:Nat}{v0 v1 v2 v3 v4 v5:dZ}{r:Except Nat (fG×eO)}(hb:b<w.heap.size)(hwq:w.heap.size<=q)(k3:Kp b w w3)(H3:nV b s w2 r (fM (fq q)) w3)(hq:w3.heap[q]?=some (.cells #[v0,v1,v2,v3,v4,v5] 184))(k4:Kp b (w3.setCell ⟨q,3,none⟩ (eF (a:Int))) w4)(k5:Kp b w4 w5)(p5:kM w5 b s (((r.map Prod.snd).bind (Px.need s ⟨#[41]⟩)).map rC))(z2:w.heap.size<=w2.heap.size):nV b s w (xK s a r) (fM (fq q)) w5:=by
 obtain⟨k3',q',he,h3⟩:=H3;obtain rfl:q=q':=by simpa using he
 have MZ:=k4.trans k5;have kW:Kp b w w5:=(k3.iD hwq _).trans MZ;have hsz:=gP w3 ⟨q,3,none⟩ (eF (a:Int));have z5:=MZ.size;have CY:w5.heap[q]?=_:=Kp.heap MZ (heap_set (o:=3) (eF (a:Int)) hq) (by omega);refine⟨kW,q,rfl,?_⟩;cases r with| error p=>exact⟨hwq,⟨_,_,_,_,_,_,CY⟩,p5⟩| ok r=>
 obtain⟨x,st'⟩:=r;cases ho:gN s st'.t ⟨#[41]⟩
 ·have e1:xK s a (.ok (x,st'))=.error st'.t.a:=by simp[xK,ho]
  rw[e1];simp[Except.map,Except.bind,Px.need,ho]at p5;exact⟨hwq,⟨_,_,_,_,_,_,CY⟩,p5⟩
 have e1:xK s a (.ok (x,st'))=.ok ({x with pl:=a},rC (eZ s st')):=by simp[xK,ho]
 rw[e1];simp[Except.map,Except.bind,Px.need,ho]at p5;refine⟨?_,p5.1⟩;have h6:=h3.1.eD a;have h7:ji w5 {x with pl:=a} (gD w2 w3) q:=h6.keep fun i hi=>by have h1:=hi.1;have h2:=hi.2;exact MZ.block i (by omega) (by omega)
 exact h7.mono fun i hi=>⟨by have:=hi.1;omega,by have:=hi.2;omega⟩
theorem QD(b:Nat)(s:dX)(n:Nat)(ih:WO b s n (fH s n))(hs:s.size<=maxLen)(st:eO)(w:dY)(hD:iH s (n+1) st)(p:fQ w b s st.t (-1) st.eP st.fu)(hk:st.t.k=107)(h1:gN s st.t ⟨#[116,114,117,101]⟩=false)(h2:gN s st.t ⟨#[102,97,108,115,101]⟩=false)(h3:gN s st.t ⟨#[110,111,116]⟩=false)(h4:gN s st.t ⟨#[40]⟩=true):fI 231 #[fq b] w (nV b s w (fH s (n+1) st)):=by
 obtain⟨c0,c1,c2,c3,c4,c5,c6,c7,f,hb⟩:=p.cells;have HD:Hid (iH s (n+1) st/\fQ w b s st.t (-1) st.eP st.fu):=⟨hD,p⟩;have e1:Hid (fH s (n+1) st=xK s st.t.a (Px.expr s (fH s n) (eZ s (Px.dn st)))):=by unfold Hid;rw[fH,ah (by omega),ah (by omega),ah (by simp[h1]),ah (by simp[h2]),ah (by simp[h3]),aA h4];cases Px.expr s (fH s n) (eZ s (Px.dn st))<;>rfl
 have t1:((st.t.k:Int)==110)=false:=by rw[hk];rfl
 have t2:((st.t.k:Int)==119)=false:=by rw[hk];rfl
 have t3:((st.t.k:Int)==107)=true:=by rw[hk];rfl
 have t4:((s.extract st.t.a st.t.b).toList==[116,114,117,101])=false:=by rw[<- wN hk];exact h1
 have t5:((s.extract st.t.a st.t.b).toList==[102,97,108,115,101])=false:=by rw[<- wN hk];exact h2
 have t6:((s.extract st.t.a st.t.b).toList==[110,111,116])=false:=by rw[<- wN hk];exact h3
 have t7:((s.extract st.t.a st.t.b).toList==[40])=true:=by rw[<- wN hk];exact h4
 have D1:Hid (iH s n (eZ s (Px.dn st))):=hD.down (jh hD.tk h4).tk (jh hD.tk h4).lt (aj rfl);have hn0:=hD.n0;have hn1:st.eP<=1000000:=by have:=hD.n1;omega
 go_enter func231,ntmps231;go_wp2_with fail;go_region
 go_wp2_with fail;refine(WE b s st.t st.eP st.fu _ ((HD.o.2.alloc _).alloc _).drew hn0 hn1).mono ?_;rintro e w1 ⟨rfl,p1,k1⟩;have P1:Hid (_/\_):=⟨p1,k1⟩;go_wp2_with fail;refine(wM b s st.t (st.eP+1) _ _ P1.o.1 HD.o.1.tk.le hs).mono ?_;rintro e w2 ⟨rfl,p2,k2⟩;have P2:Hid (_/\_):=⟨p2,k2⟩;go_wp2_with fail;refine(ih (eZ s (Px.dn st)) _ D1.o P2.o.1).mono ?_;rintro e w3 ⟨k3,q,rfl,h3⟩;have k23:=(P1.o.2.trans P2.o.2).trans k3;obtain⟨g1,g2,g3⟩:=CX rfl k23 hb;obtain⟨d0,d1,d2,d3,df⟩:=qR g2;have hq:∃v0 v1 v2 v3 v4 v5,w3.heap[q]?=some (.cells #[v0,v1,v2,v3,v4,v5] 184):=by
  cases hr:Px.expr s (fH s n) (eZ s (Px.dn st))with| error p=>rw[hr]at h3;exact h3.2.1| ok r=>
  obtain⟨x,st'⟩:=r;rw[hr]at h3;obtain⟨_,v,hv⟩:=h3.1.root;exact⟨_,_,_,_,_,_,hv⟩
 obtain⟨v0,v1,v2,v3,v4,v5,hq⟩:=hq;obtain⟨r0,r1,r2,r3,r4,r5,rf⟩:=oD hq;have hwq:w.heap.size<=q:=by
  have z2:w.heap.size<=w2.heap.size:=by have:=(CX rfl (P1.o.2.trans P2.o.2) hb).2.2;omega
  cases hr:Px.expr s (fH s n) (eZ s (Px.dn st))with| error p=>rw[hr]at h3;have:=h3.1;omega| ok r=>
  obtain⟨x,st'⟩:=r;rw[hr]at h3;have:=h3.1.root.1.1;omega
 have hps:kM w3 b s ((Px.expr s (fH s n) (eZ s (Px.dn st))).map Prod.snd)/\∀x st',Px.expr s (fH s n) (eZ s (Px.dn st))=.ok (x,st')->iV s (eZ s (Px.dn st)) st':=by
  have hgo:∀x st',Px.expr s (fH s n) (eZ s (Px.dn st))=.ok (x,st')->iV s (eZ s (Px.dn st)) st':=fun x st' hr=>CJ (rE s n) _ _ _ D1.o.tk hr;refine⟨?_,hgo⟩;cases hr:Px.expr s (fH s n) (eZ s (Px.dn st))with| error p=>rw[hr]at h3;exact h3.2.2| ok r=>
  obtain⟨x,st'⟩:=r;rw[hr]at h3;exact⟨h3.2,(hgo x st' hr).tk⟩
 have H3:Hid ((Kp b w w3/\nV b s w2 (Px.expr s (fH s n) (eZ s (Px.dn st))) (fM (fq q)) w3/\w3.heap[q]?=some (.cells #[v0,v1,v2,v3,v4,v5] 184))/\_):=⟨⟨((((Kp.refl b w).alloc _).alloc _).drew).trans k23,⟨k3,q,rfl,h3⟩,hq⟩,hps⟩;go_wp2_with fail;refine(lS b s _ _ _ (H3.o.2.1.iD (by omega) _) hs).mono ?_;rintro e w4 ⟨rfl,k4,p4⟩;have P4:Hid (_/\_):=⟨k4,p4⟩;go_wp2_with fail;refine(WR b s _ _ P4.o.2 ?rJ).mono ?_;case rJ=>
  intro st0 h0;cases hr:Px.expr s (fH s n) (eZ s (Px.dn st))with
  |error p=>rw[hr]at h0;cases h0
  |ok r=>
  obtain⟨x,st'⟩:=r;rw[hr]at h0;have hg:=(H3.o.2.2 x st' hr).eP;have hg':st'.eP=st.eP+1:=hg;cases ho:gN s st'.t ⟨#[41]⟩;·simp[Except.map,Except.bind,Px.need,ho]at h0
  simp[Except.map,Except.bind,Px.need,ho]at h0;rw[<- h0];show 0<=st'.eP/\st'.eP<=2000000;omega
 rintro e w5 ⟨rfl,k5,p5⟩;have P5:Hid (_/\_):=⟨k5,p5⟩;go_wp2_with fail;go_ret;rw[e1.o];exact Rr hb hwq H3.o.1.1 H3.o.1.2.1 H3.o.1.2.2 P4.o.1 P5.o.1 P5.o.2 (by have:=(CX rfl (P1.o.2.trans P2.o.2) hb).2.2;omega)
theorem Sa(b:Nat)(s:dX)(hs:s.size<=maxLen)(n:Nat):GD b s n (fH s n):=by
 induction n with| zero=>intro st w hD p;have:=hD.room;omega| succ n ih=>
 intro st w hD p;by_cases h0:st.t.k=110;·exact Qy b s n hs st w hD p h0
 by_cases h0':st.t.k=119;·exact Qz b s n hs st w hD p h0'
 cases h1:gN s st.t ⟨#[116,114,117,101]⟩
 ·cases h2:gN s st.t ⟨#[102,97,108,115,101]⟩
  ·cases h3:gN s st.t ⟨#[110,111,116]⟩
   ·cases h4:gN s st.t ⟨#[40]⟩;·exact Re b s n st w p h0 h0' h1 h2 h3 h4
    exact QD b s n (WQ b s n _ ih (rE s n) hs) hs st w hD p (uT h4) h1 h2 h3 h4
   exact QC b s n ih hs st w hD p (uT h3) h1 h2 h3
  exact QB b s n hs st w hD p (uT h2) h1 h2
 exact QA b s n hs st w hD p h1
theorem Se{pe:Nat}{eP fu:Int}(p:fQ w b s t (pe:Int) eP fu)(v0 v1 v2 v3 v4 v5:dZ):nV b s w (.error pe) (fM (fq w.heap.size)) (w.alloc (.cells #[v0,v1,v2,v3,v4,v5] 184)).drew:=by refine⟨((Kp.refl _ _).alloc _).drew,w.heap.size,rfl,ay _,⟨v0,v1,v2,v3,v4,v5,?_⟩,t,eP,fu,(p.alloc _).drew⟩;show(w.heap.push _)[w.heap.size]?=_;rw[aD,aA rfl]
theorem Sf(b:Nat)(s:dX)(t:iy)(pe:Nat)(eP fu:Int)(w:dY)(p:fQ w b s t (pe:Int) eP fu):fI 231 #[fq b] w (nV b s w (.error pe)):=by
 obtain⟨c0,c1,c2,c3,c4,c5,c6,c7,f,hb⟩:=p.cells;have HP:Hid _:=p;have hpe:(0:Int)<=pe:=by omega
 go_enter func231,ntmps231;go_wp2_with fail;go_region
 go_wp2_with fail;go_ret;exact Se HP.o _ _ _ _ _ _
def QF(b:Nat)(s:dX)(sum:Bool):Prop:=
 ∀(t:iy)(pe:Nat)(eP fu:Int)(w:dY),fQ w b s t (pe:Int) eP fu ->
  fI 183 #[fq b,.bool sum] w (nV b s w (.error pe))
theorem WS(b:Nat)(s:dX)(sum:Bool)(hp:QF b s sum)(x y:dX)(t:iy)(pe:Nat)(eP fu:Int)(w:dY)(p:fQ w b s t (pe:Int) eP fu):fI 149 #[fq b,.string x,.string y,.bool sum] w (nV b s w (.error pe)):=by
 obtain⟨c0,c1,c2,c3,c4,c5,c6,c7,f,hb⟩:=p.cells;have HP:Hid _:=p;go_enter func149,ntmps149;go_wp2_with fail;refine(hp t pe eP fu _ HP.o).mono ?_;rintro e w1 ⟨k1,q,rfl,hq,hv,t',nest',deep',p1⟩;have P1:Hid _:=p1;have V:Hid (_/\_/\_):=⟨k1,hq,hv⟩;go_wp2_with fail;refine wp_loop_rounds 1 ?_;rw[rounds_succ];go_wp2_with (first|(go_at_call 146;refine(Et b s _ t' (pe:Int) nest' deep' _ P1.o (by omega)).mono ?_;rintro e w' ⟨rfl,rfl⟩))
 go_ret;exact⟨V.o.1,q,rfl,V.o.2.1,V.o.2.2,t',nest',deep',P1.o⟩
theorem Sh(b:Nat)(s:dX):QF b s false:=by intro t pe eP fu w p;have HP:Hid _:=p;go_enter func183,ntmps183;go_wp2_with fail;refine(Sf b s t pe eP fu _ HP.o).mono ?_;rintro e w1 ⟨k1,q,rfl,h1⟩;have H1:Hid (_/\_):=⟨k1,h1⟩;go_wp2_with fail;go_ret;exact⟨H1.o.1,q,rfl,H1.o.2⟩
theorem So(b:Nat)(s:dX):QF b s true:=by intro t pe eP fu w p;have HP:Hid _:=p;go_enter func183,ntmps183;go_wp2_with fail;refine(WS b s false (Sh b s) _ _ t pe eP fu _ HP.o).mono ?_;rintro e w1 ⟨k1,q,rfl,h1⟩;have H1:Hid (_/\_):=⟨k1,h1⟩;go_wp2_with fail;go_ret;exact⟨H1.o.1,q,rfl,H1.o.2⟩
theorem Su(b:Nat)(s:dX)(t:iy)(pe:Nat)(eP fu:Int)(w:dY)(p:fQ w b s t (pe:Int) eP fu):fI 71 #[fq b] w (nV b s w (.error pe)):=by
 obtain⟨c0,c1,c2,c3,c4,c5,c6,c7,f,hb⟩:=p.cells;have HP:Hid _:=p;go_enter func71,ntmps71;go_wp2_with fail;refine(WS b s true (So b s) _ _ t pe eP fu _ HP.o).mono ?_;rintro e w1 ⟨k1,q,rfl,hq,hv,t',nest',deep',p1⟩;have P1:Hid _:=p1;have V:Hid (_/\_/\_):=⟨k1,hq,hv⟩;go_wp2_with (first|(go_at_call 146;refine(Et b s _ t' (pe:Int) nest' deep' _ P1.o (by omega)).mono ?_;rintro e w' ⟨rfl,rfl⟩))
 go_ret;exact⟨V.o.1,q,rfl,V.o.2.1,V.o.2.2,t',nest',deep',P1.o⟩
theorem QG(b:Nat)(s:dX)(r:Except Nat eO)(w:dY)(p:kM w b s r)(hs:s.size<=maxLen)(hn:∀st,r=.ok st->0<=st.eP/\st.eP+(s.size+1:Nat)<=1000000):fI 71 #[fq b] w (nV b s w (r.bind (lG s))):=by
 cases r with
 |error pe=>obtain⟨t,eP,fu,hp⟩:=p;exact Su b s t pe eP fu w hp
 |ok st=>
 have h:=hn st rfl;exact WQ b s (s.size+1) _ (Sa b s hs (s.size+1)) (rE s _) hs st w ⟨p.2,by omega,h.1,h.2⟩ p.1
def ptr(q:Nat):dZ:=fq q
def yx(w:dY)(x:Option fG)(ok:Nat->Prop)(v:dZ):Prop:=
 match x with
 |none=>v=.pointer none
 |some e=>∃q,v=ptr q/\ji w e ok q
def jc(w:dY)(v:dZ)(qs:List Nat)(ok:Nat->Prop):Prop:=
 (v=iE/\qs=[]) \/
 ∃g cap cur,v=.slice (some ⟨g,0,none⟩) qs.length cap/\ok g/\w.heap[g]?=some (.cells cur 110)/\qs.length<=cap/\cap<=maxLen/\cur.size=cap/\cur.toList.take qs.length=qs.map ptr
def p9(x:Sm)(ve v1 v2:dZ):Array dZ :=#[.int .u8 (x.op:Int),.string x.eH,eF (x.pl:Int),ve,.string x.gH,eF (x.gG:Int),.string x.undo,eF (x.n:Int),eF (x.gZ:Int),v1,v2]
def gF(w:dY):List Sm->(Nat->Prop)->List Nat->Prop
 |[],_,qs=>qs=[]
 |⟨op,eH,pl,ex,av,gG,undo,n,gZ,one,two⟩::rest,ok,qs=>∃q qs',qs=q::qs'/\ok q/\gF w rest ok qs'/\∃ve v1 v2 q1 q2,
   w.heap[q]?=some (.cells #[.int .u8 (op:Int),.string eH,eF (pl:Int),ve,.string av,eF (gG:Int),.string undo,eF (n:Int),eF (gZ:Int),v1,v2] 172) /\
   yx w ex ok ve/\jc w v1 q1 ok/\gF w one ok q1/\jc w v2 q2 ok/\gF w two ok q2
variable{ok:Nat->Prop}{qs:List Nat}
theorem gF.oV:gF w [] ok qs↔qs=[]:=by rw[gF]
def nM(w:dY)(x:Sm)(ok:Nat->Prop)(q:Nat):Prop:=ok q/\∃ve v1 v2 q1 q2,w.heap[q]?=some (.cells (p9 x ve v1 v2) 172)/\yx w x.ex ok ve/\jc w v1 q1 ok/\gF w x.one ok q1/\jc w v2 q2 ok/\gF w x.two ok q2
variable{x:Sm}{l rest:List Sm}
theorem gF.uY:gF w (x::rest) ok qs↔∃q qs',qs=q::qs'/\ok q/\gF w rest ok qs'/\∃ve v1 v2 q1 q2,
   w.heap[q]?=some (.cells (p9 x ve v1 v2) 172)/\yx w x.ex ok ve/\jc w v1 q1 ok/\gF w x.one ok q1/\jc w v2 q2 ok/\gF w x.two ok q2:=by
 obtain⟨op,eH,pl,ex,av,gG,undo,n,gZ,one,two⟩:=x;rw[gF];rfl
theorem gF.cons(h:nM w x ok q)(hr:gF w rest ok qs):gF w (x::rest) ok (q::qs):=gF.uY.2 ⟨q,qs,rfl,h.1,hr,h.2⟩
theorem gF.QH(h:gF w (x::rest) ok qs):∃q qs',qs=q::qs'/\nM w x ok q/\gF w rest ok qs':=by obtain⟨q,qs',h1,h2,h3,h4⟩:=gF.uY.1 h;exact⟨q,qs',h1,⟨h2,h4⟩,h3⟩
theorem gF.snoc(h:gF w l ok qs)(hx:nM w x ok q):gF w (l++[x]) ok (qs++[q]):=by
 induction l generalizing qs with
 |nil=>cases gF.oV.1 h;exact gF.cons hx (gF.oV.2 rfl)
 |cons y l ih=>
 obtain⟨q',qs',rfl,h1,h2⟩:=h.QH;exact gF.cons h1 (ih h2)
theorem gF.len(h:gF w l ok qs):qs.length=l.length:=by
 induction l generalizing qs with
 |nil=>cases gF.oV.1 h;rfl
 |cons y l ih=>
 obtain⟨q',qs',rfl,h1,h2⟩:=h.QH;simp[ih h2]
theorem yx.mono{w:dY}{x:Option fG}{ok ok':Nat->Prop}{v:dZ}(h:yx w x ok v)(hk:∀k,ok k->ok' k):yx w x ok' v:=by cases x with| none=>exact h| some e=>obtain⟨q,h1,h2⟩:=h;exact⟨q,h1,h2.mono hk⟩
theorem yx.keep{w w':dY}{x:Option fG}{ok:Nat->Prop}{v:dZ}(h:yx w x ok v)(hk:∀k,ok k->w'.heap[k]?=w.heap[k]?):yx w' x ok v:=by cases x with| none=>exact h| some e=>obtain⟨q,h1,h2⟩:=h;exact⟨q,h1,h2.keep hk⟩
theorem jc.mono{ok':Nat->Prop}(h:jc w v qs ok)(hk:∀k,ok k->ok' k):jc w v qs ok':=by
 obtain h|⟨g,cap,cur,h1,h2,h3⟩:=h;·exact ak h
 exact aj ⟨g,cap,cur,h1,hk _ h2,h3⟩
theorem jc.keep(h:jc w v qs ok)(hk:∀k,ok k->w'.heap[k]?=w.heap[k]?):jc w' v qs ok:=by
 obtain h|⟨g,cap,cur,h1,h2,h3,h4⟩:=h;·exact ak h
 exact aj ⟨g,cap,cur,h1,h2,by rw[hk _ h2];exact h3,h4⟩
theorem gF.mono{w:dY}{l:List Sm}{ok ok':Nat->Prop}{qs:List Nat}(h:gF w l ok qs)(hk:∀k,ok k->ok' k):gF w l ok' qs:=by
 match l with
 |[]=>exact gF.oV.2 (gF.oV.1 h)
 |⟨op,eH,pl,ex,av,gG,undo,n,gZ,one,two⟩::rest=>
 obtain⟨q,qs',h1,h2,h3,ve,v1,v2,q1,q2,h4,h5,h6,h7,h8,h9⟩:=gF.uY.1 h;exact gF.uY.2 ⟨q,qs',h1,hk _ h2,h3.mono hk,ve,v1,v2,q1,q2,h4,h5.mono hk,h6.mono hk,h7.mono hk,h8.mono hk,h9.mono hk⟩
theorem gF.keep{w w':dY}{l:List Sm}{ok:Nat->Prop}{qs:List Nat}(h:gF w l ok qs)(hk:∀k,ok k->w'.heap[k]?=w.heap[k]?):gF w' l ok qs:=by
 match l with
 |[]=>exact gF.oV.2 (gF.oV.1 h)
 |⟨op,eH,pl,ex,av,gG,undo,n,gZ,one,two⟩::rest=>
 obtain⟨q,qs',h1,h2,h3,ve,v1,v2,q1,q2,h4,h5,h6,h7,h8,h9⟩:=gF.uY.1 h;exact gF.uY.2 ⟨q,qs',h1,h2,h3.keep hk,ve,v1,v2,q1,q2,by rw[hk _ h2];exact h4,h5.keep hk,h6.keep hk,h7.keep hk,h8.keep hk,h9.keep hk⟩
theorem nM.mono{w:dY}{x:Sm}{ok ok':Nat->Prop}{q:Nat}(h:nM w x ok q)(hk:∀k,ok k->ok' k):nM w x ok' q:=by obtain⟨h2,ve,v1,v2,q1,q2,h4,h5,h6,h7,h8,h9⟩:=h;exact⟨hk _ h2,ve,v1,v2,q1,q2,h4,h5.mono hk,h6.mono hk,h7.mono hk,h8.mono hk,h9.mono hk⟩
theorem nM.keep{w w':dY}{x:Sm}{ok:Nat->Prop}{q:Nat}(h:nM w x ok q)(hk:∀k,ok k->w'.heap[k]?=w.heap[k]?):nM w' x ok q:=by obtain⟨h2,ve,v1,v2,q1,q2,h4,h5,h6,h7,h8,h9⟩:=h;exact⟨h2,ve,v1,v2,q1,q2,by rw[hk _ h2];exact h4,h5.keep hk,h6.keep hk,h7.keep hk,h8.keep hk,h9.keep hk⟩
def GI(b:Nat)(s:dX)(w:dY)(r:Except Nat (List Sm×eO))(e:Ending)(w':dY):Prop:=
 Kp b w w'/\∃a n c,e=fM (.slice a n c) /\
  match r with
  |.ok (l,st)=>∃qs,jc w' (.slice a n c) qs (gD w w')/\gF w' l (gD w w') qs/\fQ w' b s st.t (-1) st.eP st.fu
  |.error p=>∃t eP fu,fQ w' b s t ((p:Nat):Int) eP fu
def zq(b:Nat)(s:dX)(w:dY)(r:Except Nat (Sm×eO))(e:Ending)(w':dY):Prop:=
 Kp b w w'/\∃q,e=fM (ptr q) /\
  match r with
  |.ok (x,st)=>nM w' x (gD w w') q/\fQ w' b s st.t (-1) st.eP st.fu
  |.error p=>∃t eP fu,fQ w' b s t ((p:Nat):Int) eP fu
def M0(b:Nat)(s:dX)(g:eO->Except Nat (Sm×eO))(stop:eO->Bool)(D:eO->Prop)(R:Except Nat (List Sm×eO))(w wr:dY)(v:dZ):Prop:=
 Kp b w wr/\∃qs,wr.ownsRow w.heap.size 110 1 v qs.length (qs.map ptr) /\
 ((∃l st m,gF wr l (fun k=>gD w wr k/\some k≠v.ownBlock) qs/\qs.length<=st.t.a/\fQ wr b s st.t (-1) st.eP st.fu/\D st/\gy s g stop m l st=R/\s.size-st.t.a<m) \/
  (∃p t eP fu,R=.error p/\qs.length<=s.size+1/\fQ wr b s t ((p:Nat):Int) eP fu))
structure iN(s:dX)(n:Nat)(st:eO):Prop where
 tk:Tk s st.t
 room:s.size-st.t.a<n
 n0:0<=st.eP
 n1:st.eP+n+(s.size+1:Nat)<=1000000
theorem iN.Jc(h:iN s n st)(g:jP s st st'):iN s n st':=⟨g.tk,by have:=h.room;have:=g.le;omega,by rw[g.eP];exact h.n0,by rw[g.eP];exact h.n1⟩
theorem iN.good(h:iN s n st)(g:iV s st st'):iN s n st':=h.Jc g.zero
def GJ(b:Nat)(s:dX)(n:Nat)(g:eO->Except Nat (Sm×eO)):Prop:=
 ∀(st:eO)(w:dY),iN s n st->fQ w b s st.t (-1) st.eP st.fu ->
  fI 39 #[fq b] w (zq b s w (g st))
theorem WT:(prog.info? 110).map (fun i=>(i.zero,i.size,i.bytes))=some (some (.pointer none),1,8):=by kernel_rfl
theorem WU{row:Option Nat}(h:Kp b w w1)(hg:w1.grownBy w2 row)(hr:∀k,row=some k->w.heap.size<=k):Kp b w w2:=⟨hg.os.trans h.os,hg.tape.trans h.tape,hg.output.trans h.output,aK h.size hg.size,fun k hk hb=>(hg.block k (aJ hk h.size) (fun e=>by have:=hr k e.symm;omega)).trans (h.block k hk hb)⟩
variable{g:eO->Except Nat (Sm×eO)}
theorem WV{stop:eO->Bool}{R:Except Nat (List Sm×eO)}{wr:dY}{v':dZ}{m:Nat}(hb:b<w.heap.size)(hg:fP s g)(KR:Kp b w wr)(hown:wr.ownsRow w.heap.size 110 1 v qs.length (qs.map ptr))(L:gF wr l (fun k=>gD w wr k/\some k≠v.ownBlock) qs)(hq:qs.length<=st.t.a)(hD:iN s n st)(hm:s.size-st.t.a<m+1)(CH:(match g st with
   |.error p=>.error p
   |.ok (x,st')=>gy s g stop m (l++[x]) st')=R)(H1:zq b s wr (g st) (fM (ptr q)) w1)(hown':w2.ownsRow w.heap.size 110 1 v' (qs.length+1) (qs.map ptr++[ptr q]))(hgrow:(w1.alloc (.cells #[ptr q] 110)).grownBy w2 v.ownBlock)(hloc:v'.ownBlock=v.ownBlock\/v'.ownBlock=some (w1.heap.size+1)):
  M0 b s g stop (iN s n) R w w2 v'/\sK s b w2<s.size+1-st.t.a:=by
 obtain⟨k1,q',he,h1⟩:=H1;obtain rfl:q=q':=by simpa[ptr]using he
 have rH:∀k,v.ownBlock=some k->w.heap.size<=k/\k<wr.heap.size:=hown.lt;have QI:Kp b w w1:=KR.trans k1;have M9:Kp b w w2:=WU (QI.alloc _) hgrow (fun k hk=>(rH k hk).1);have s1:=KR.size;have s2:=k1.size;have s3:w1.heap.size+1<=w2.heap.size:=by have:=hgrow.size;simpa using this
 have pO:∀{t:iy}{bad eP fu:Int},fQ w1 b s t bad eP fu->fQ w2 b s t bad eP fu:=fun p=>⟨by have hl:=p.lt;rw[hgrow.block b (by simp;omega) (fun e=>by have:=(rH b e.symm).1;omega),aI _ _ _ hl];exact p.h⟩;have hkeep:∀k,k<w1.heap.size->some k≠v.ownBlock->w2.heap[k]?=w1.heap[k]?:=fun k hk hne=>by rw[hgrow.block k (by simp;omega) hne,aI _ _ _ hk]
 have hlen:(qs++[q]).length=qs.length+1:=by simp
 have hmap:(qs++[q]).map ptr=qs.map ptr++[ptr q]:=by simp
 have hd1:=hD.tk.le;have hd2:=hD.tk.ab;have hdr:=hD.room;refine(show(M0 b s g stop (iN s n) R w w2 v'/\sK s b w2<s.size+1-st.t.a)from ?_);cases hr:g st with
 |error p=>rw[hr]at CH h1;obtain⟨t,eP,fu,hp⟩:=h1;refine⟨⟨M9,qs++[q],by rw[hlen,hmap];exact hown',aj ⟨p,t,eP,fu,CH.symm,by rw[hlen];omega,pO hp⟩⟩,?_⟩;rw[WL (pO hp) (by omega)];omega
 |ok r=>
  obtain⟨x,st'⟩:=r;rw[hr]at CH h1;obtain⟨hx,hp⟩:=h1;have g1:=hg _ _ _ hD.tk hr;have g2:=g1.lt;have g3:=g1.tk.ab;have g4:=g1.tk.le;have hnew:∀k,k<w1.heap.size->some k≠v.ownBlock->some k≠v'.ownBlock:=by
   intro k hk hne;obtain h|h:=hloc;·rw[h];exact hne
   ·rw[h];simp;omega
  refine⟨⟨M9,qs++[q],by rw[hlen,hmap];exact hown',ak ⟨l++[x],st',m,?_,by rw[hlen];omega,pO hp,hD.good g1,CH,by omega⟩⟩,?_⟩
  ·refine gF.snoc ?_ ?_;·have e1:gF w1 l (fun k=>gD w wr k/\some k≠v.ownBlock) qs:=L.keep fun k hk=>k1.block k hk.1.2 (by have:=hk.1.1;omega);have e2:gF w2 l (fun k=>gD w wr k/\some k≠v.ownBlock) qs:=e1.keep fun k hk=>hkeep k (by have:=hk.1.2;omega) hk.2;exact e2.mono fun k hk=>⟨⟨hk.1.1,by have:=hk.1.2;omega⟩,hnew k (by have:=hk.1.2;omega) hk.2⟩
   ·have hne:∀k,gD wr w1 k->some k≠v.ownBlock:=fun k hk e=>by have:=(rH k e.symm).2;have:=hk.1;omega
    have e2:nM w2 x (gD wr w1) q:=hx.keep fun k hk=>hkeep k hk.2 (hne k hk);exact e2.mono fun k hk=>⟨⟨by have:=hk.1;omega,by have:=hk.2;omega⟩,hnew k hk.2 (hne k hk)⟩
  ·rw[GA (pO hp)];omega
theorem WX(h:w.ownsRow base 110 1 v qs.length (qs.map ptr))(hk:∀k,v.ownBlock=some k->ok k):jc w v qs ok:=by
 obtain⟨h1,h2⟩|⟨g,cap,cur,h1,h2,h3,h4,h5,h6,h7⟩:=h.2;·exact ak ⟨h1,bA.1 h2⟩
 refine aj ⟨g,cap,cur,h1,hk g (by rw[h1];rfl),h3,h4,h5,by omega,?_⟩;rw[Nat.mul_one]at h7;exact h7
variable{e:TypeId}{xs:List dZ}
theorem QJ(h:w.ownsRow base e 1 v n xs):∃a k c,v=.slice a k c:=by
 obtain⟨h1,_⟩|⟨g,cap,cur,h1,_⟩:=h.2;·exact⟨_,_,_,h1⟩
 exact⟨_,_,_,h1⟩
theorem Jd(h:w.ownsRow base e 1 v n xs)(hk:∀k,v.ownBlock=some k->w'.heap[k]?=w.heap[k]?):w'.ownsRow base e 1 v n xs:=by
 refine⟨h.1,?_⟩;obtain h1|⟨g,cap,cur,h1,h2,h3,h4⟩:=h.2;·exact ak h1
 exact aj ⟨g,cap,cur,h1,h2,by rw[hk g (by rw[h1];rfl)];exact h3,h4⟩
theorem Sx(b:Nat)(s:dX)(n:Nat)(g:eO->Except Nat (Sm×eO))(hst:GJ b s n g)(hg:fP s g)(hs3:s.size<=300)(st:eO)(w:dY)(hD:iN s (n+1) st)(p:fQ w b s st.t (-1) st.eP st.fu)(ho:gN s st.t ⟨#[123]⟩=true):fI 73 #[fq b] w (GI b s w (Px.block s g st)):=by
 obtain⟨i0,hi,hz0,hz1,hz2⟩:=info_parts WT;have hs:s.size<=maxLen:=by unfold maxLen;omega
 have hb:=p.lt;have HG:Hid _:=hg;have HD:Hid (iN s (n+1) st/\fQ w b s st.t (-1) st.eP st.fu):=⟨hD,p⟩;have hn0:=hD.n0;have hn1:st.eP<=1000000:=by have:=hD.n1;omega
 have D1:Hid (iN s n (eZ s (Px.dn st))):=by
  have g1:=jh hD.tk ho;have h1:=hD.room;have h2:=g1.lt;have h3:=g1.tk.ab;have h4:=g1.tk.le;have h5:=hD.n1;have h6:st.t.a<(eZ s (Px.dn st)).t.a:=h2;have h7:(eZ s (Px.dn st)).t.a<=s.size:=by have:(eZ s (Px.dn st)).t=(eZ s st).t:=rfl;rw[this];omega
  refine⟨g1.tk,by omega,?_,?_⟩;·show 0<=st.eP+1;omega
  show st.eP+1+n+(s.size+1:Nat)<=1000000;push_cast at h5 |-;omega
 have e1:Hid (Px.block s g st=match gy s g (fun st=>gN s st.t ⟨#[125]⟩) (s.size+1) [] (eZ s (Px.dn st))with
  |.error p=>.error p
  |.ok (l,st')=>.ok (l,rC (eZ s st'))):=by
  unfold Hid;rw[Px.block,aA ho];cases gy s g (fun st=>gN s st.t ⟨#[125]⟩) (s.size+1) [] (eZ s (Px.dn st))<;>rfl
 go_enter func73,ntmps73;go_wp2_with fail;refine(wL b s _ st.t st.eP st.fu _ HD.o.2).mono ?_;rintro e w' ⟨rfl,rfl⟩;go_wp2_with fail;refine(WE b s st.t st.eP st.fu _ HD.o.2 hn0 hn1).mono ?_;rintro e w1 ⟨rfl,p1,k1⟩;have P1:Hid (_/\_):=⟨p1,k1⟩;go_wp2_with fail;refine(wM b s st.t (st.eP+1) _ _ P1.o.1 HD.o.1.tk.le hs).mono ?_;rintro e w2 ⟨rfl,p2,k2⟩;have P2:Hid (_/\_):=⟨p2,k2⟩;go_wp2_with fail;generalize hR:gy s g (fun st=>gN s st.t ⟨#[125]⟩) (s.size+1) [] (eZ s (Px.dn st))=R at e1;have HR:=hR;have HRR:Hid _:=hR;go_loopw [4] (fun v wr=>Hid (M0 b s g (fun st=>gN s st.t ⟨#[125]⟩) (iN s n) R w wr v)) (fun _ wr=>sK s b wr)
 case atStart=>
  refine⟨P1.o.2.trans P2.o.2,[],aX _ _ _ _,ak ⟨[],eZ s (Px.dn st),s.size+1,gF.oV.2 rfl,by simp,P2.o.1,D1.o,HRR.o,by omega⟩⟩
 case round=>
  obtain⟨kr,qs,hown,hcase⟩:=hrel.o;obtain⟨va,vn,vc,rfl⟩:=QJ hown;have KR:Hid (Kp b w wr/\wr.ownsRow w.heap.size 110 1 (.slice va vn vc) qs.length (qs.map ptr)):=⟨kr,hown⟩;obtain⟨l,st1,m,hl,hq,p1,hD1,hch,hm⟩|⟨pe,t,eP,fu,hRe,hq,p1⟩:=hcase
  ·obtain⟨m,rfl⟩:∃m',m=m'+1:=⟨m-1,by omega⟩;obtain⟨c0,c1,c2,c3,c4,c5,c6,c7,f,hbr⟩:=p1.cells;have L:Hid _:=hl;have PP:Hid _:=p1;have DD:Hid _:=hD1;have CH:Hid _:=hch;cases hc:gN s st1.t ⟨#[125]⟩
   ·go_wp2_with (first|(go_at_call 146;refine(wL b s _ st1.t st1.eP st1.fu _ PP.o).mono ?_;rintro e w' ⟨rfl,rfl⟩))
    refine(hst st1 _ DD.o PP.o).mono ?_;rintro e w3 ⟨k3,q,rfl,h3⟩;have hown3:w3.ownsRow w.heap.size 110 1 (.slice va vn vc) qs.length (qs.map ptr):=Jd KR.o.2 fun k hk=>k3.block k (KR.o.2.lt k hk).2 (by have:=(KR.o.2.lt k hk).1;omega);have Jf:w.heap.size<=w3.heap.size:=by have:=k3.size;have:=KR.o.1.size;omega
    have QK:qs.length<=300:=by have:=DD.o.tk.ab;have:=DD.o.tk.le;omega
    have H3:Hid (zq b s wr (g st1) (fM (ptr q)) w3):=⟨k3,q,rfl,h3⟩;unfold ptr;go_wp2_with (first
     |(at_builtin;refine wpList_append_own_at _ rfl _ _ 26 rfl w.heap.size 110 i0 (.pointer none) 1 8 underlying26 hi hz0 hz1 hz2 rfl (by decide) _ _ _ rfl (hown3.alloc _) ⟨w3.heap.size,0,none⟩ 1 1 [fq q] rfl rfl ?c1 ?c2 ?c3 ?c4 ?c5 ?_)
     |fail)
    case c1=>
     intro j u hj;match j,hj with| 0,hj=>simp at hj;subst hj;simp[Addr.add]
    case c2=>intro u hu;simp at hu;subst hu;rfl
    case c3=>unfold maxLen;omega
    case c4=>omega
    case c5=>simp;omega
    intro v' w4 hown' hgrow _ hloc;obtain⟨r1,r2⟩:=WV hb HG.o KR.o.1 KR.o.2 L.o hq DD.o hm (R:=R) (stop:=fun st=>gN s st.t ⟨#[125]⟩) (by rw[<- CH.o,gy,ah (by simp[hc])];cases g st1<;>rfl) H3.o hown' hgrow hloc;have RR:Hid (_/\_):=⟨r1,r2⟩;go_wp2;exact⟨RR.o.1,by rw[GA PP.o];exact RR.o.2⟩
   have Bn:Hid (R=.ok (l,st1)):=by unfold Hid;rw[<- CH.o,gy,aA hc]
   go_wp2_with (first|(go_at_call 146;refine(wL b s _ st1.t st1.eP st1.fu _ PP.o).mono ?_;rintro e w' ⟨rfl,rfl⟩))
   refine(WH b s _ st1.t st1.eP st1.fu _ PP.o DD.o.tk.le hs hc).mono ?_;rintro e w3 ⟨rfl,p3,k3⟩;have P3:Hid (_/\_):=⟨p3,k3⟩;go_wp2_with fail;refine(WR b s (.ok (eZ s st1)) _ ⟨P3.o.1,yZ DD.o.tk⟩ ?rJ).mono ?_;case rJ=>
    intro st0 h0;cases h0;have h1:=DD.o.n0;have h2:=DD.o.n1;show 0<=st1.eP/\st1.eP<=2000000;omega
   rintro e w4 ⟨rfl,k4,p4⟩;have P4:Hid (Kp b w3 w4/\kM w4 b s (.ok (rC (eZ s st1)))):=⟨k4,p4⟩;go_wp2_with fail;go_ret;have Na:Kp b wr w4:=P3.o.2.trans P4.o.1;have z4:=Na.size;have z1:=KR.o.1.size;refine⟨KR.o.1.trans Na,va,vn,vc,rfl,?_⟩;rw[e1.o,Bn.o];refine⟨qs,?_,?_,P4.o.2.1⟩;·refine WX (Jd KR.o.2 fun k hk=>Na.block k (KR.o.2.lt k hk).2 (by have:=(KR.o.2.lt k hk).1;omega)) fun k hk=>?_;have:=KR.o.2.lt k hk;exact⟨this.1,by omega⟩
   exact(L.o.keep fun k hk=>Na.block k hk.1.2 (by have:=hk.1.1;omega)).mono fun k hk=>⟨hk.1.1,by have:=hk.1.2;omega⟩
  obtain⟨c0,c1,c2,c3,c4,c5,c6,c7,f,hbr⟩:=p1.cells;have PP:Hid (R=.error pe/\fQ wr b s t (pe:Int) eP fu):=⟨hRe,p1⟩;have hpe:(0:Int)<=pe:=by omega
  go_wp2_with fail;refine(WI b s _ t (pe:Int) eP fu _ PP.o.2 (by omega)).mono ?_;rintro e w' ⟨rfl,rfl⟩;go_wp2_with fail;refine(Qr b s t (pe:Int) eP fu _ PP.o.2).mono ?_;rintro e w4 ⟨rfl,p4,k4⟩;have P4:Hid (_/\_):=⟨p4,k4⟩;go_wp2_with fail;go_ret;refine⟨KR.o.1.trans P4.o.2,va,vn,vc,rfl,?_⟩;rw[e1.o,PP.o.1];exact⟨_,_,_,P4.o.1⟩
theorem S6(b:Nat)(s:dX)(g:eO->Except Nat (Sm×eO))(st:eO)(w:dY)(p:fQ w b s st.t (-1) st.eP st.fu)(ho:gN s st.t ⟨#[123]⟩=false):fI 73 #[fq b] w (GI b s w (Px.block s g st)):=by
 have P0:Hid _:=p;have e1:Hid (Px.block s g st=.error st.t.a):=by unfold Hid;rw[Px.block,ah (by simp[ho])]
 go_enter func73,ntmps73;go_wp2_with fail;refine(wL b s _ st.t st.eP st.fu _ P0.o).mono ?_;rintro e w' ⟨rfl,rfl⟩;go_wp2_with fail;refine(I8 b s st.t st.eP st.fu _ P0.o).mono ?_;rintro e w1 ⟨rfl,p1,k1⟩;have P1:Hid (_/\_):=⟨p1,k1⟩;go_wp2_with fail;go_ret;refine⟨P1.o.2,none,0,0,rfl,?_⟩;rw[e1.o];exact⟨_,_,_,P1.o.1⟩
theorem S7(b:Nat)(s:dX)(t:iy)(pe:Nat)(eP fu:Int)(w:dY)(p:fQ w b s t (pe:Int) eP fu):fI 73 #[fq b] w (GI b s w (.error pe)):=by have P0:Hid _:=p;go_enter func73,ntmps73;go_wp2_with fail;refine(Et b s _ t (pe:Int) eP fu _ P0.o (by omega)).mono ?_;rintro e w' ⟨rfl,rfl⟩;go_wp2_with fail;refine(Qq b s t (pe:Int) eP fu _ P0.o (by omega)).mono ?_;rintro e w' ⟨rfl,rfl⟩;go_wp2_with fail;go_ret;exact⟨Kp.refl _ _,none,0,0,rfl,_,_,_,P0.o⟩
theorem Jg(b:Nat)(s:dX)(n:Nat)(g:eO->Except Nat (Sm×eO))(hst:GJ b s n g)(hg:fP s g)(hs3:s.size<=300)(r:Except Nat eO)(w:dY)(p:kM w b s r)(hD:∀st,r=.ok st->iN s (n+1) st):fI 73 #[fq b] w (GI b s w (r.bind (Px.block s g))):=by
 cases r with
 |error pe=>obtain⟨t,eP,fu,hp⟩:=p;exact S7 b s t pe eP fu w hp
 |ok st=>
 cases ho:gN s st.t ⟨#[123]⟩;·exact S6 b s g st w p.1 ho
 exact Sx b s n g hst hg hs3 st w (hD st rfl) p.1 ho
theorem jy{b e g h i j l:dZ}{t:TypeId}(hh:w.heap[k]?=some (.cells #[a,b,c,d,e,f,g,h,i,j,l] t)):w.cell? ⟨k,0,none⟩=some a/\w.cell? ⟨k,1,none⟩=some b/\w.cell? ⟨k,2,none⟩=some c/\w.cell? ⟨k,3,none⟩=some d/\w.cell? ⟨k,4,none⟩=some e/\w.cell? ⟨k,5,none⟩=some f/\w.cell? ⟨k,6,none⟩=some g/\w.cell? ⟨k,7,none⟩=some h/\w.cell? ⟨k,8,none⟩=some i/\w.cell? ⟨k,9,none⟩=some j/\w.cell? ⟨k,10,none⟩=some l/\∀o,w.frozen? ⟨k,o,none⟩=false:=by refine⟨?_,?_,?_,?_,?_,?_,?_,?_,?_,?_,?_,?_⟩<;>simp[World.cell?,World.frozen?,hh]
structure Mk(b:Nat)(s:dX)(w0:dY)(q:Nat)(R:Except Nat (Sm×eO))(N:Int)(w:dY):Prop where
 kp:Kp b w0 w
 cells:∃(y:Sm)(ve:Option Addr)(a1:Option Addr)(n1 c1:Nat)(a2:Option Addr)(n2 c2:Nat),w.heap[q]?=some (.cells (p9 y (.pointer ve) (.slice a1 n1 c1) (.slice a2 n2 c2)) 172) /\
  ∀x st,R=.ok (x,st)->y=x/\st.eP=N/\(∃q1 q2,yx w x.ex (fun k=>gD w0 w k/\k≠q) (.pointer ve)/\jc w (.slice a1 n1 c1) q1 (fun k=>gD w0 w k/\k≠q)/\gF w x.one (fun k=>gD w0 w k/\k≠q) q1/\jc w (.slice a2 n2 c2) q2 (fun k=>gD w0 w k/\k≠q)/\gF w x.two (fun k=>gD w0 w k/\k≠q) q2)
 pen:kM w b s (R.map Prod.snd)
variable{R R':Except Nat (Sm×eO)}{N:Int}
theorem Mk.on(h:Mk b s w0 q R N w)(hb:b<w0.heap.size)(hq:w0.heap.size<=q)(k:Kp b w w1)(hp:kM w1 b s (R'.map Prod.snd))(hR:∀x st',R'=.ok (x,st')->st'.eP=N/\∃st,R=.ok (x,st)):Mk b s w0 q R' N w1:=by obtain⟨y,ve,a1,n1,c1,a2,n2,c2,h1,h2⟩:=h.cells;refine⟨h.kp.trans k,⟨y,ve,a1,n1,c1,a2,n2,c2,Kp.heap k h1 (by omega),fun x st' hx=>?_⟩,hp⟩;obtain⟨hn,st,hs⟩:=hR x st' hx;obtain⟨e1,e2,q1,q2,e3,e4,e5,e6,e7⟩:=h2 x st hs;have z:=k.size;have hk:∀i,gD w0 w i/\i≠q->w1.heap[i]?=w.heap[i]?:=fun i hi=>k.block i hi.1.2 (by have:=hi.1.1;omega);have hm:∀i,gD w0 w i/\i≠q->gD w0 w1 i/\i≠q:=fun i hi=>⟨⟨hi.1.1,by have:=hi.1.2;omega⟩,hi.2⟩;exact⟨e1,hn,q1,q2,(e3.keep hk).mono hm,(e4.keep hk).mono hm,(e5.keep hk).mono hm,(e6.keep hk).mono hm,(e7.keep hk).mono hm⟩
theorem Mk.store(φ:Sm->Sm)(hφ:∀y,(φ y).ex=y.ex/\(φ y).one=y.one/\(φ y).two=y.two)(h:Mk b s w0 q R N w)(k:Kp b w0 W)(hz:w.heap.size<=W.heap.size)(hO:∀i,i<w.heap.size->i≠q->W.heap[i]?=w.heap[i]?)(hQ:∀y ve v1 v2,w.heap[q]?=some (.cells (p9 y ve v1 v2) 172)->W.heap[q]?=some (.cells (p9 (φ y) ve v1 v2) 172))(hp:kM W b s (R'.map Prod.snd))(hR:∀x' st',R'=.ok (x',st')->st'.eP=N/\∃x st,R=.ok (x,st)/\x'=φ x):Mk b s w0 q R' N W:=by obtain⟨y,ve,a1,n1,c1,a2,n2,c2,h1,h2⟩:=h.cells;refine⟨k,⟨φ y,ve,a1,n1,c1,a2,n2,c2,hQ _ _ _ _ h1,fun x' st' hx=>?_⟩,hp⟩;obtain⟨hn,x,st,hs,rfl⟩:=hR x' st' hx;obtain⟨e1,e2,q1,q2,e3,e4,e5,e6,e7⟩:=h2 x st hs;obtain⟨f1,f2,f3⟩:=hφ x;have hk:∀i,gD w0 w i/\i≠q->W.heap[i]?=w.heap[i]?:=fun i hi=>hO i hi.1.2 hi.2;have hm:∀i,gD w0 w i/\i≠q->gD w0 W i/\i≠q:=fun i hi=>⟨⟨hi.1.1,by have:=hi.1.2;omega⟩,hi.2⟩;subst e1;rw[f1,f2,f3];exact⟨rfl,hn,q1,q2,(e3.keep hk).mono hm,(e4.keep hk).mono hm,(e5.keep hk).mono hm,(e6.keep hk).mono hm,(e7.keep hk).mono hm⟩
def gV(R:Except Nat (Sm×eO))(f:Sm->eO->Except Nat (Sm×eO)):Except Nat (Sm×eO):=
 match R with
 |.ok (x,st)=>f x st
 |.error p=>.error p
def qY(s:dX)(st:eO):Except Nat (Sm×eO):=
 match Px.kind s 119 st with
 |.ok st1=>.ok ({jY with op:=99,eH:=Px.txt s st.t,pl:=st.t.a,n:=1},st1)
 |.error p=>.error p
def kP(s x:dX)(y:Sm)(st:eO):Except Nat (Sm×eO):=
 match Px.need s x st with
 |.ok st1=>.ok (y,st1)
 |.error p=>.error p
theorem Nb(s:dX)(st:eO):Px.call s st=gV (gV (gV (gV (gV (gV (gV (qY s st) (kP s ⟨#[40]⟩)) (nK s)) (kP s ⟨#[41]⟩)) (ng s)) (nT s)) (oP s)) (kP s ⟨#[59]⟩):=by
 unfold Px.call qY;cases Px.kind s 119 st with| error p=>rfl| ok st1=>
 simp only[gV,kP];cases Px.need s ⟨#[40]⟩ st1 with| error p=>rfl| ok st2=>
 simp only;cases nK s {jY with op:=99,eH:=Px.txt s st.t,pl:=st.t.a,n:=1} st2 with| error p=>rfl| ok r=>
 obtain⟨x3,jg⟩:=r;simp only;cases Px.need s ⟨#[41]⟩ jg with| error p=>rfl| ok lH=>
 simp only;cases ng s x3 lH with| error p=>rfl| ok r=>
 obtain⟨x5,mD⟩:=r;simp only;cases nT s x5 mD with| error p=>rfl| ok r=>
 obtain⟨x6,oq⟩:=r;simp only;cases oP s x6 oq with| error p=>rfl| ok r=>
 obtain⟨x7,qV⟩:=r;simp only;cases Px.need s ⟨#[59]⟩ qV<;>rfl
def rM(s:dX)(k:Nat)(y:Sm)(st:eO):Except Nat (Sm×eO):=
 match Px.kind s k st with
 |.ok st1=>.ok (y,st1)
 |.error p=>.error p
def kQ(s x:dX)(y:Sm)(st:eO):Except Nat (Sm×eO):=.ok (y,if gN s st.t x then eZ s st else st)
theorem S8(h:kM w b s ((R.map Prod.snd).bind (Px.kind s k))):kM w b s ((gV R (rM s k)).map Prod.snd):=by
 cases R with| error p=>exact h| ok r=>
 obtain⟨x,st⟩:=r;have h':kM w b s (Px.kind s k st):=h;unfold gV rM;simp only;cases hk:Px.kind s k st<;>rw[hk]at h'<;>exact h'
theorem Tb{x:dX}(h:kM w b s ((R.map Prod.snd).bind (Px.need s x))):kM w b s ((gV R (kP s x)).map Prod.snd):=by
 cases R with| error p=>exact h| ok r=>
 obtain⟨y,st⟩:=r;have h':kM w b s (Px.need s x st):=h;unfold gV kP;simp only;cases hk:Px.need s x st<;>rw[hk]at h'<;>exact h'
theorem Th{x:dX}(h:kM w b s (zo s (R.map Prod.snd) x)):kM w b s ((gV R (kQ s x)).map Prod.snd):=by
 cases R with| error p=>exact h| ok r=>
 obtain⟨y,st⟩:=r;have h':kM w b s (if gN s st.t x then .ok (eZ s st)else .ok st):=h;unfold gV kQ;simp only;cases hk:gN s st.t x<;>simp[hk]at h'<;>exact h'
theorem Tl(h:gV R (rM s k)=.ok (x,st')):∃st,R=.ok (x,st)/\st.t.k=k/\st'=eZ s st:=by
 cases R with
 |error p=>cases h
 |ok r=>
 obtain⟨y,st⟩:=r;unfold gV rM Px.kind at h;simp only at h;by_cases hk:st.t.k=k;·rw[aA hk]at h;cases h;exact⟨st,rfl,hk,rfl⟩
 rw[ah hk]at h;cases h
theorem To(h:gV R (kP s z)=.ok (x,st')):∃st,R=.ok (x,st)/\gN s st.t z=true/\st'=eZ s st:=by
 cases R with
 |error p=>cases h
 |ok r=>
 obtain⟨y,st⟩:=r;unfold gV kP Px.need at h;simp only at h;by_cases hk:gN s st.t z=true;·rw[aA hk]at h;cases h;exact⟨st,rfl,hk,rfl⟩
 rw[ah hk]at h;cases h
theorem Tr(h:gV R (kQ s z)=.ok (x,st')):∃st,R=.ok (x,st)/\st'=if gN s st.t z then eZ s st else st:=by
 cases R with
 |error p=>cases h
 |ok r=>
 obtain⟨y,st⟩:=r;unfold gV kQ at h;simp only at h;cases h;exact⟨st,rfl,rfl⟩
theorem Mk.eP{b:Nat}{s:dX}{w0 w:dY}{q:Nat}{R:Except Nat (Sm×eO)}{N:Int}(h:Mk b s w0 q R N w){x:Sm}{st:eO}(e:R=.ok (x,st)):st.eP=N:=by obtain⟨y,ve,a1,n1,c1,a2,n2,c2,h1,h2⟩:=h.cells;exact(h2 x st e).2.1
theorem Mk.tk(h:Mk b s w0 q R N w)(e:R=.ok (x,st)):Tk s st.t:=by have:=h.pen;rw[e]at this;exact this.2
theorem Mk.need{b:Nat}{s z:dX}{w0 w w1:dY}{q:Nat}{R:Except Nat (Sm×eO)}{N:Int}(h:Mk b s w0 q R N w)(hb:b<w0.heap.size)(hq:w0.heap.size<=q)(k:Kp b w w1)(hp:kM w1 b s ((R.map Prod.snd).bind (Px.need s z))):Mk b s w0 q (gV R (kP s z)) N w1:=h.on hb hq k (Tb hp) fun x st' hx=>by obtain⟨st,h1,h2,rfl⟩:=To hx;exact⟨(h.eP h1:st.eP=N),st,h1⟩
theorem Mk.kind{b:Nat}{s:dX}{z:Nat}{w0 w w1:dY}{q:Nat}{R:Except Nat (Sm×eO)}{N:Int}(h:Mk b s w0 q R N w)(hb:b<w0.heap.size)(hq:w0.heap.size<=q)(k:Kp b w w1)(hp:kM w1 b s ((R.map Prod.snd).bind (Px.kind s z))):Mk b s w0 q (gV R (rM s z)) N w1:=h.on hb hq k (S8 hp) fun x st' hx=>by obtain⟨st,h1,h2,rfl⟩:=Tl hx;exact⟨(h.eP h1:st.eP=N),st,h1⟩
theorem Mk.got(h:Mk b s w0 q R N w)(hb:b<w0.heap.size)(hq:w0.heap.size<=q)(k:Kp b w w1)(hp:kM w1 b s (zo s (R.map Prod.snd) z)):Mk b s w0 q (gV R (kQ s z)) N w1:=
 h.on hb hq k (Th hp) fun x st' hx=>by
  obtain⟨st,h1,rfl⟩:=Tr hx;refine⟨?_,st,h1⟩;split;·exact(h.eP h1:st.eP=N)
  ·exact h.eP h1
def uZ(s:dX)(y:Sm)(st:eO):Except Nat (Sm×eO):=
 match lG s st with
 |.ok (e,st')=>.ok ({y with ex:=some e},st')
 |.error p=>.error p
theorem Mk.expr{q1:Nat}(h:Mk b s w0 q R N w)(hb:b<w0.heap.size)(hq:w0.heap.size<=q)(hp:nV b s w ((R.map Prod.snd).bind (lG s)) (fM (fq q1)) w1):Mk b s w0 q (gV R (uZ s)) N (w1.setCell ⟨q,3,none⟩ (fq q1)):=by
 obtain⟨k,q1',he,h3⟩:=hp;obtain rfl:q1=q1':=by simpa using he
 obtain⟨y,ve,a1,n1,c1,a2,n2,c2,h1,h2⟩:=h.cells;have GK:q<w.heap.size:=(aN.1 h1).1;have z:=k.size;have hc:(w1.setCell ⟨q,3,none⟩ (fq q1)).heap[q]?=some (.cells (p9 y (fq q1) (.slice a1 n1 c1) (.slice a2 n2 c2)) 172):=by rw[heap_set _ (Kp.heap k h1 (by omega))];simp[p9]
 have hkp:Kp b w0 (w1.setCell ⟨q,3,none⟩ (fq q1)):=(h.kp.trans k).iD hq _;have hbq:b≠q:=by omega
 cases R with
 |error p=>exact⟨hkp,⟨y,_,a1,n1,c1,a2,n2,c2,hc,fun x st hx=>by cases hx⟩,kM.iD (r:=.error p) h3.2.2 hbq _⟩
 |ok r=>
 obtain⟨x,st⟩:=r;obtain⟨e1,e2,r1,r2,e3,e4,e5,e6,e7⟩:=h2 x st rfl;subst e1;have h3':match lG s st with
  |.ok (x,st)=>ji w1 x (gD w w1) q1/\fQ w1 b s st.t (-1) st.eP st.fu
  |.error p=>w.heap.size<=q1/\(∃v0 v1 v2 v3 v4 v5,w1.heap[q1]?=some (.cells #[v0,v1,v2,v3,v4,v5] 184))/\∃t eP fu,fQ w1 b s t ((p:Nat):Int) eP fu:=h3
 cases hr:lG s st with
 |error p=>
  rw[hr]at h3';have er:gV (.ok (y,st)) (uZ s)=.error p:=by simp[gV,uZ,hr]
  rw[er];exact⟨hkp,⟨y,_,a1,n1,c1,a2,n2,c2,hc,fun x st hx=>by cases hx⟩,kM.iD (r:=.error p) h3'.2.2 hbq _⟩
 |ok r=>
 obtain⟨e,st'⟩:=r;rw[hr]at h3';have er:gV (.ok (y,st)) (uZ s)=.ok ({y with ex:=some e},st'):=by simp[gV,uZ,hr]
 have hgo:=uJ s _ _ _ (h.tk rfl) hr;rw[er];have hk:∀i,gD w0 w i/\i≠q->(w1.setCell ⟨q,3,none⟩ (fq q1)).heap[i]?=w.heap[i]?:=fun i hi=>by rw[lg _ hi.2];exact k.block i hi.1.2 (by have:=hi.1.1;omega)
 have hm:∀i,gD w0 w i/\i≠q->gD w0 (w1.setCell ⟨q,3,none⟩ (fq q1)) i/\i≠q:=fun i hi=>⟨⟨hi.1.1,by rw[gP];have:=hi.1.2;omega⟩,hi.2⟩;have z0:=h.kp.size;refine⟨hkp,⟨{y with ex:=some e},_,a1,n1,c1,a2,n2,c2,hc,fun x2 st2 hx=>?_⟩,kM.iD (r:=.ok st') ⟨h3'.2,hgo.tk⟩ hbq _⟩;cases hx;refine⟨rfl,hgo.eP.trans e2,r1,r2,⟨q1,rfl,?_⟩,(e4.keep hk).mono hm,(e5.keep hk).mono hm,(e6.keep hk).mono hm,(e7.keep hk).mono hm⟩;refine(h3'.1.keep fun i hi=>lg _ (by have:=hi.1;omega)).mono fun i hi=>⟨⟨?_,?_⟩,?_⟩;·have:=hi.1;omega
 ·rw[gP];exact hi.2
 have:=hi.1;omega
theorem Ts:(gV (.ok (jY,st)) (rM s 119)).map Prod.snd=(qY s st).map Prod.snd:=by unfold gV rM qY;simp only;cases Px.kind s 119 st<;>rfl
theorem Tu(h:sM s (R.map Prod.snd) ⟨#[41]⟩=true):gV R (nK s)=R:=by
 cases R with| error p=>rfl| ok r=>
 obtain⟨x,st⟩:=r;have h':gN s st.t ⟨#[41]⟩=true:=h;simp[gV,nK,h']
theorem Ty(h:sM s (R.map Prod.snd) ⟨#[41]⟩=false):gV R (nK s)=gV R (uZ s):=by
 cases R with| error p=>rfl| ok r=>
 obtain⟨x,st⟩:=r;have h':gN s st.t ⟨#[41]⟩=false:=h;simp[gV,nK,h',uZ];cases lG s st<;>rfl
theorem Jh(h:sM s (R.map Prod.snd) z=true):∃x st,R=.ok (x,st)/\gN s st.t z=true/\gV R (kQ s z)=.ok (x,eZ s st):=by
 cases R with
 |error p=>cases h
 |ok r=>
 obtain⟨x,st⟩:=r;have h':gN s st.t z=true:=h;exact⟨x,st,rfl,h',by simp[gV,kQ,h']⟩
theorem Nc(h:sM s (R.map Prod.snd) z=false):gV R (kQ s z)=R:=by
 cases R with| error p=>rfl| ok r=>
 obtain⟨x,st⟩:=r;have h':gN s st.t z=false:=h;simp[gV,kQ,h']
theorem T0(h:sM s (R.map Prod.snd) ⟨#[97,115]⟩=false):gV R (ng s)=R:=by
 cases R with| error p=>rfl| ok r=>
 obtain⟨x,st⟩:=r;have h':gN s st.t ⟨#[97,115]⟩=false:=h;simp[gV,ng,h']
theorem T1(h:sM s (R.map Prod.snd) ⟨#[117,110,100,111]⟩=false):gV R (nT s)=R:=by
 cases R with| error p=>rfl| ok r=>
 obtain⟨x,st⟩:=r;have h':gN s st.t ⟨#[117,110,100,111]⟩=false:=h;simp[gV,nT,h']
theorem T6(h:sM s (R.map Prod.snd) ⟨#[116,114,105,101,115]⟩=false):gV R (oP s)=R:=by
 cases R with| error p=>rfl| ok r=>
 obtain⟨x,st⟩:=r;have h':gN s st.t ⟨#[116,114,105,101,115]⟩=false:=h;simp[gV,oP,h']
theorem T7(h:sM s (R.map Prod.snd) ⟨#[97,115]⟩=true):(gV (gV R (kQ s ⟨#[97,115]⟩)) (rM s 119)).map Prod.snd=(gV R (ng s)).map Prod.snd /\
  ∀x' st',gV R (ng s)=.ok (x',st')->∃x,gV (gV R (kQ s ⟨#[97,115]⟩)) (rM s 119)=.ok (x,st')/\x'={x with gH:=nL s ((gV R (kQ s ⟨#[97,115]⟩)).map Prod.snd) 119,gG:=qD ((gV R (kQ s ⟨#[97,115]⟩)).map Prod.snd) 119}:=by
 obtain⟨x,st,rfl,h1,h2⟩:=Jh h;rw[h2];simp only[gV,ng,aA h1,rM];by_cases hk:(eZ s st).t.k=119;·simp[Px.kind,hk,Except.map,nL,qD,Px.txt]
 ·simp[Px.kind,hk,Except.map]
theorem T8(h:sM s (R.map Prod.snd) ⟨#[117,110,100,111]⟩=true):(gV (gV R (kQ s ⟨#[117,110,100,111]⟩)) (rM s 119)).map Prod.snd=(gV R (nT s)).map Prod.snd /\
  ∀x' st',gV R (nT s)=.ok (x',st')->∃x,gV (gV R (kQ s ⟨#[117,110,100,111]⟩)) (rM s 119)=.ok (x,st')/\x'={x with undo:=nL s ((gV R (kQ s ⟨#[117,110,100,111]⟩)).map Prod.snd) 119}:=by
 obtain⟨x,st,rfl,h1,h2⟩:=Jh h;rw[h2];simp only[gV,nT,aA h1,rM];by_cases hk:(eZ s st).t.k=119;·simp[Px.kind,hk,Except.map,nL,Px.txt]
 ·simp[Px.kind,hk,Except.map]
theorem Up(h:sM s (R.map Prod.snd) ⟨#[116,114,105,101,115]⟩=true):(gV (gV R (kQ s ⟨#[116,114,105,101,115]⟩)) (rM s 110)).map Prod.snd=(gV R (oP s)).map Prod.snd /\
  ∀x' st',gV R (oP s)=.ok (x',st')->∃x,gV (gV R (kQ s ⟨#[116,114,105,101,115]⟩)) (rM s 110)=.ok (x,st')/\x'={x with n:=iq (nL s ((gV R (kQ s ⟨#[116,114,105,101,115]⟩)).map Prod.snd) 110).toList,gZ:=qD ((gV R (kQ s ⟨#[116,114,105,101,115]⟩)).map Prod.snd) 110}:=by
 obtain⟨x,st,rfl,h1,h2⟩:=Jh h;rw[h2];simp only[gV,oP,aA h1,rM];by_cases hk:(eZ s st).t.k=110;·simp[Px.kind,hk,Except.map,nL,qD,Px.txt]
 ·simp[Px.kind,hk,Except.map]
theorem Nf(h:kM w b s r):(nL s r 110).size<=4/\∀j(hj:j<(nL s r 110).size),lT (nL s r 110)[j]=true:=by
 cases r with| error p=>exact⟨aQ _,fun j hj=>absurd hj (Nat.not_lt_zero j)⟩| ok st=>
 by_cases hk:st.t.k=110
 ·have e:nL s (.ok st) 110=s.extract st.t.a st.t.b:=by simp[nL,hk]
  have:=Qx h.2 hk;simp only[e];exact this
 have e:nL s (.ok st) 110=⟨#[]⟩:=by simp[nL,hk]
 simp only[e];exact⟨aQ _,fun j hj=>absurd hj (Nat.not_lt_zero j)⟩
theorem QL(b:Nat)(s:dX)(hs3:s.size<=300)(w0:dY)(q:Nat)(hb:b<w0.heap.size)(hq:w0.heap.size<=q)(st:eO)(w:dY)(hN0:0<=st.eP)(hN:st.eP+(s.size+1:Nat)<=1000000)(M:Mk b s w0 q (.ok (jY,st)) st.eP w):fI 72 #[fq b,fq q] w fun e w'=>e=fM (.tuple #[])/\Mk b s w0 q (Px.call s st) st.eP w':=by
 have hs:s.size<=maxLen:=by unfold maxLen;omega
 have HM:Hid _:=M;go_enter func72,ntmps72;go_wp2_with fail;refine(nG b s 119 (.ok st) _ HM.o.pen hs).mono ?_;rintro e w1 ⟨⟨kv,kx,rfl⟩,k1,p1⟩;have m1:=HM.o.kind hb hq k1 p1;obtain⟨y,ve,a1,n1,c1,a2,n2,c2,hc,hcx⟩:=m1.cells;obtain⟨d0,d1,d2,d3,d4,d5,d6,d7,d8,d9,kJ,df⟩:=jy hc;have hq1:q<w1.heap.size:=lt_of_cell d0;have M1:Hid _:=m1;go_wp2_with fail;have m2:Mk b s w0 q (qY s st) st.eP _:=Mk.store (fun y=>{y with op:=99,eH:=nL s (.ok st) 119,pl:=qD (.ok st) 119,n:=1}) (fun y=>⟨rfl,rfl,rfl⟩) M1.o
  (W:=((((w1.setCell ⟨q,0,none⟩ (.int .u8 99)).setCell ⟨q,1,none⟩ (.string (nL s (.ok st) 119))).setCell ⟨q,2,none⟩ (eF (qD (.ok st) 119))).setCell ⟨q,7,none⟩ (eF 1)).alloc (.cells #[.int .u8 kv,.string (nL s (.ok st) 119),eF (qD (.ok st) 119),eF kx] 106))
  (((((M1.o.kp.iD hq _).iD hq _).iD hq _).iD hq _).alloc _) (by simp) (fun i hi hne=>by rw[aI _ _ _ (by simpa[gP]using hi),lg _ hne,lg _ hne,lg _ hne,lg _ hne])
  (fun y ve v1 v2 h=>by rw[aI _ _ _ (by simpa[gP]using hq1),heap_set _ (heap_set _ (heap_set _ (heap_set _ h)))];simp[p9])
  ?pp ?rr
 case pp=>
  rw[<- Ts];exact((((M1.o.pen.iD (by omega) _).iD (by omega) _).iD (by omega) _).iD (by omega) _).alloc _
 case rr=>
  intro x' st' hx;unfold qY Px.kind at hx;by_cases hk:st.t.k=119
  ·rw[aA hk]at hx;cases hx;refine⟨rfl,jY,eZ s st,?_,?_⟩;·simp[gV,rM,Px.kind,hk]
   simp[nL,qD,hk,Px.txt]
  rw[ah hk]at hx;cases hx
 have M2:Hid _:=m2;refine(lS b s _ _ _ M2.o.pen hs).mono ?_;rintro e w2 ⟨rfl,k2,p2⟩;have M3:Hid (Mk b s w0 q (gV (qY s st) (kP s ⟨#[40]⟩)) st.eP w2):=M2.o.need hb hq k2 p2;go_wp2_with fail;refine(Rc b s _ _ _ M3.o.pen).mono ?_;rintro e w' ⟨rfl,rfl⟩;generalize hB:sM s ((gV (qY s st) (kP s ⟨#[40]⟩)).map Prod.snd) ⟨#[41]⟩=B;have HB:Hid _:=hB;go_upto_if 35 with fail
 go_cut [] (fun wc=>Hid (Mk b s w0 q (gV (gV (qY s st) (kP s ⟨#[40]⟩)) (nK s)) st.eP wc))
 case first=>
  cases B
  ·go_wp2_with fail;refine(QG b s _ _ M3.o.pen hs ?hn).mono ?_;case hn=>
    intro st1 h1;cases hr:gV (qY s st) (kP s ⟨#[40]⟩)with
    |error p=>rw[hr]at h1;cases h1
    |ok r=>
    obtain⟨x,st2⟩:=r;rw[hr]at h1;cases h1;rw[M3.o.eP hr];exact⟨hN0,hN⟩
   rintro e w3 h3;obtain⟨q1,he⟩:∃q1,e=fM (fq q1):=by obtain⟨_,q1,he,_⟩:=h3;exact⟨q1,he⟩
   subst he;have m4:=M3.o.expr hb hq h3;obtain⟨y,ve,a1,n1,c1,a2,n2,c2,hc,hcx⟩:=M3.o.cells;have hc3:=Kp.heap h3.1 hc (by omega);obtain⟨d0,d1,d2,d3,d4,d5,d6,d7,d8,d9,kJ,df⟩:=jy hc3;have M4:Hid _:=m4;go_wp2_with fail;go_meet
   case rel=>
    show Mk _ _ _ _ _ _ _;rw[Ty HB.o];exact M4.o
  go_wp2_with fail;go_meet
  case rel=>
   show Mk _ _ _ _ _ _ _;rw[Tu HB.o];exact M3.o
 case rest=>
 have M4:Hid _:=hcut;go_wp2_with fail;refine(lS b s _ _ _ M4.o.pen hs).mono ?_;rintro e w3 ⟨rfl,k3,p3⟩;have N1:Hid (Mk b s w0 q (gV (gV (gV (qY s st) (kP s ⟨#[40]⟩)) (nK s)) (kP s ⟨#[41]⟩)) st.eP w3):=M4.o.need hb hq k3 p3;go_wp2_with fail;refine(Bl b s _ _ _ N1.o.pen hs).mono ?_;rintro e w4 ⟨rfl,k4,p4⟩;have M4:Hid (Mk b s w0 q (gV (gV (gV (gV (qY s st) (kP s ⟨#[40]⟩)) (nK s)) (kP s ⟨#[41]⟩)) (kQ s ⟨#[97,115]⟩)) st.eP w4):=N1.o.got hb hq k4 p4;generalize hB:sM s (((gV (gV (gV (qY s st) (kP s ⟨#[40]⟩)) (nK s)) (kP s ⟨#[41]⟩))).map Prod.snd) ⟨#[97,115]⟩=B;have HB:Hid _:=hB;go_upto_if 45 with fail
 go_cut [7] (fun _ wc=>Hid (Mk b s w0 q (gV (gV (gV (gV (qY s st) (kP s ⟨#[40]⟩)) (nK s)) (kP s ⟨#[41]⟩)) (ng s)) st.eP wc))
 case first=>
  cases B
  ·go_wp2_with fail;go_meet
   case rel=>
    show Mk _ _ _ _ _ _ _;have h:=M4.o;rw[Nc HB.o]at h;rw[T0 HB.o];exact h
  go_wp2_with fail;generalize wP:(gV (gV (gV (gV (qY s st) (kP s ⟨#[40]⟩)) (nK s)) (kP s ⟨#[41]⟩)) (kQ s ⟨#[97,115]⟩)).map Prod.snd=r5 at *;refine(nG b s 119 r5 _ (by rw[<- wP];exact M4.o.pen) hs).mono ?_;rintro e w5 ⟨⟨Ji,Jj,rfl⟩,k5,p5⟩;have m5:=M4.o.kind hb hq k5 (by rw[wP];exact p5);obtain⟨y,ve,a1,n1,c1,a2,n2,c2,hc,hcx⟩:=m5.cells;obtain⟨d0,d1,d2,d3,d4,d5,d6,d7,d8,d9,kJ,df⟩:=jy hc;have CY:q<w5.heap.size:=lt_of_cell d0;have V5:Hid _:=Nf (show kM w4 b s r5 by rw[<- wP];exact M4.o.pen);have M5:Hid _:=m5;have Jk:Hid _:=wP;go_wp2_with fail;go_meet
  case rel=>
   show Mk _ _ _ _ _ _ _;obtain⟨pn,pr⟩:=T7 HB.o;rw[Jk.o]at pr;exact Mk.store (fun y=>{y with gH:=nL s r5 119,gG:=qD r5 119}) (fun y=>⟨rfl,rfl,rfl⟩) M5.o (W:=(((w5.setCell ⟨q,4,none⟩ (.string (nL s r5 119))).setCell ⟨q,5,none⟩ (eF (qD r5 119))).alloc (.cells #[.int .u8 Ji,.string (nL s r5 119),eF (qD r5 119),eF Jj] 106))) (((M5.o.kp.iD hq _).iD hq _).alloc _) (by simp) (fun i hi hne=>by rw[aI _ _ _ (by simpa[gP]using hi),lg _ hne,lg _ hne])
    (fun y ve v1 v2 h=>by rw[aI _ _ _ (by simpa[gP]using CY),heap_set _ (heap_set _ h)];simp[p9]) (by rw[<- pn];exact((M5.o.pen.iD (by omega) _).iD (by omega) _).alloc _)
    (fun x' st' hx=>by obtain⟨x,h1,h2⟩:=pr x' st' hx;exact⟨M5.o.eP h1,x,st',h1,h2⟩)
 case rest=>
 have N2:Hid _:=hcut;go_wp2_with fail;refine(Bl b s _ _ _ N2.o.pen hs).mono ?_;rintro e w4 ⟨rfl,k4,p4⟩;have M4:Hid (Mk b s w0 q (gV (gV (gV (gV (gV (qY s st) (kP s ⟨#[40]⟩)) (nK s)) (kP s ⟨#[41]⟩)) (ng s)) (kQ s ⟨#[117,110,100,111]⟩)) st.eP w4):=N2.o.got hb hq k4 p4;generalize hB:sM s (((gV (gV (gV (gV (qY s st) (kP s ⟨#[40]⟩)) (nK s)) (kP s ⟨#[41]⟩)) (ng s))).map Prod.snd) ⟨#[117,110,100,111]⟩=B;have HB:Hid _:=hB;go_upto_if 60 with fail
 go_cut [9] (fun _ wc=>Hid (Mk b s w0 q (gV (gV (gV (gV (gV (qY s st) (kP s ⟨#[40]⟩)) (nK s)) (kP s ⟨#[41]⟩)) (ng s)) (nT s)) st.eP wc))
 case first=>
  cases B
  ·go_wp2_with fail;go_meet
   case rel=>
    show Mk _ _ _ _ _ _ _;have h:=M4.o;rw[Nc HB.o]at h;rw[T1 HB.o];exact h
  go_wp2_with fail;generalize wP:(gV (gV (gV (gV (gV (qY s st) (kP s ⟨#[40]⟩)) (nK s)) (kP s ⟨#[41]⟩)) (ng s)) (kQ s ⟨#[117,110,100,111]⟩)).map Prod.snd=r5 at *;refine(nG b s 119 r5 _ (by rw[<- wP];exact M4.o.pen) hs).mono ?_;rintro e w5 ⟨⟨Ji,Jj,rfl⟩,k5,p5⟩;have m5:=M4.o.kind hb hq k5 (by rw[wP];exact p5);obtain⟨y,ve,a1,n1,c1,a2,n2,c2,hc,hcx⟩:=m5.cells;obtain⟨d0,d1,d2,d3,d4,d5,d6,d7,d8,d9,kJ,df⟩:=jy hc;have CY:q<w5.heap.size:=lt_of_cell d0;have V5:Hid _:=Nf (show kM w4 b s r5 by rw[<- wP];exact M4.o.pen);have M5:Hid _:=m5;have Jk:Hid _:=wP;go_wp2_with fail;go_meet
  case rel=>
   show Mk _ _ _ _ _ _ _;obtain⟨pn,pr⟩:=T8 HB.o;rw[Jk.o]at pr;exact Mk.store (fun y=>{y with undo:=nL s r5 119}) (fun y=>⟨rfl,rfl,rfl⟩) M5.o (W:=((w5.setCell ⟨q,6,none⟩ (.string (nL s r5 119))).alloc (.cells #[.int .u8 Ji,.string (nL s r5 119),eF (qD r5 119),eF Jj] 106))) ((M5.o.kp.iD hq _).alloc _) (by simp) (fun i hi hne=>by rw[aI _ _ _ (by simpa[gP]using hi),lg _ hne])
    (fun y ve v1 v2 h=>by rw[aI _ _ _ (by simpa[gP]using CY),heap_set _ h];simp[p9]) (by rw[<- pn];exact(M5.o.pen.iD (by omega) _).alloc _)
    (fun x' st' hx=>by obtain⟨x,h1,h2⟩:=pr x' st' hx;exact⟨M5.o.eP h1,x,st',h1,h2⟩)
 case rest=>
 have N3:Hid _:=hcut;go_wp2_with fail;refine(Bl b s _ _ _ N3.o.pen hs).mono ?_;rintro e w4 ⟨rfl,k4,p4⟩;have M4:Hid (Mk b s w0 q (gV (gV (gV (gV (gV (gV (qY s st) (kP s ⟨#[40]⟩)) (nK s)) (kP s ⟨#[41]⟩)) (ng s)) (nT s)) (kQ s ⟨#[116,114,105,101,115]⟩)) st.eP w4):=N3.o.got hb hq k4 p4;generalize hB:sM s (((gV (gV (gV (gV (gV (qY s st) (kP s ⟨#[40]⟩)) (nK s)) (kP s ⟨#[41]⟩)) (ng s)) (nT s))).map Prod.snd) ⟨#[116,114,105,101,115]⟩=B;have HB:Hid _:=hB;go_upto_if 70 with fail
 go_cut [11] (fun _ wc=>Hid (Mk b s w0 q (gV (gV (gV (gV (gV (gV (qY s st) (kP s ⟨#[40]⟩)) (nK s)) (kP s ⟨#[41]⟩)) (ng s)) (nT s)) (oP s)) st.eP wc))
 case first=>
  cases B
  ·go_wp2_with fail;go_meet
   case rel=>
    show Mk _ _ _ _ _ _ _;have h:=M4.o;rw[Nc HB.o]at h;rw[T6 HB.o];exact h
  go_wp2_with fail;generalize wP:(gV (gV (gV (gV (gV (gV (qY s st) (kP s ⟨#[40]⟩)) (nK s)) (kP s ⟨#[41]⟩)) (ng s)) (nT s)) (kQ s ⟨#[116,114,105,101,115]⟩)).map Prod.snd=r5 at *;refine(nG b s 110 r5 _ (by rw[<- wP];exact M4.o.pen) hs).mono ?_;rintro e w5 ⟨⟨Ji,Jj,rfl⟩,k5,p5⟩;have m5:=M4.o.kind hb hq k5 (by rw[wP];exact p5);obtain⟨y,ve,a1,n1,c1,a2,n2,c2,hc,hcx⟩:=m5.cells;obtain⟨d0,d1,d2,d3,d4,d5,d6,d7,d8,d9,kJ,df⟩:=jy hc;have CY:q<w5.heap.size:=lt_of_cell d0;have V5:Hid _:=Nf (show kM w4 b s r5 by rw[<- wP];exact M4.o.pen);have M5:Hid _:=m5;have Jk:Hid _:=wP;go_wp2_with fail;refine(Qt _ _ V5.o.1 V5.o.2).mono ?_;rintro e w' ⟨rfl,hw⟩;rw[hw];go_wp2_with fail;go_meet
  case rel=>
   show Mk _ _ _ _ _ _ _;obtain⟨pn,pr⟩:=Up HB.o;rw[Jk.o]at pr;exact Mk.store (fun y=>{y with n:=iq (nL s r5 110).toList,gZ:=qD r5 110}) (fun y=>⟨rfl,rfl,rfl⟩) M5.o (W:=(((w5.setCell ⟨q,7,none⟩ (eF (iq (nL s r5 110).toList))).setCell ⟨q,8,none⟩ (eF (qD r5 110))).alloc (.cells #[.int .u8 Ji,.string (nL s r5 110),eF (qD r5 110),eF Jj] 106))) (((M5.o.kp.iD hq _).iD hq _).alloc _) (by simp) (fun i hi hne=>by rw[aI _ _ _ (by simpa[gP]using hi),lg _ hne,lg _ hne])
    (fun y ve v1 v2 h=>by rw[aI _ _ _ (by simpa[gP]using CY),heap_set _ (heap_set _ h)];simp[p9]) (by rw[<- pn];exact((M5.o.pen.iD (by omega) _).iD (by omega) _).alloc _)
    (fun x' st' hx=>by obtain⟨x,h1,h2⟩:=pr x' st' hx;exact⟨M5.o.eP h1,x,st',h1,h2⟩)
 case rest=>
 have N4:Hid _:=hcut;go_wp2_with fail;refine(lS b s _ _ _ N4.o.pen hs).mono ?_;rintro e w8 ⟨rfl,k8,p8⟩;have M8:Hid (Mk b s w0 q (gV (gV (gV (gV (gV (gV (gV (qY s st) (kP s ⟨#[40]⟩)) (nK s)) (kP s ⟨#[41]⟩)) (ng s)) (nT s)) (oP s)) (kP s ⟨#[59]⟩)) st.eP w8):=N4.o.need hb hq k8 p8;go_wp2_with fail;go_end0
 rw[Nb];exact⟨rfl,M8.o⟩
theorem Mk.post(h:Mk b s w0 q R N w)(hq:w0.heap.size<=q):zq b s w0 R (fM (ptr q)) w:=by
 refine⟨h.kp,q,rfl,?_⟩;obtain⟨y,ve,a1,n1,c1,a2,n2,c2,h1,h2⟩:=h.cells;have hp:=h.pen;have GK:q<w.heap.size:=(aN.1 h1).1;cases R with| error p=>exact hp| ok r=>
 obtain⟨x,st⟩:=r;obtain⟨e1,e2,q1,q2,e3,e4,e5,e6,e7⟩:=h2 x st rfl;subst e1;have hm:∀i,gD w0 w i/\i≠q->gD w0 w i:=fun i hi=>hi.1;exact⟨⟨⟨hq,GK⟩,.pointer ve,.slice a1 n1 c1,.slice a2 n2 c2,q1,q2,h1,e3.mono hm,e4.mono hm,e5.mono hm,e6.mono hm,e7.mono hm⟩,hp.1⟩
theorem Mk.Vc(hN:st.eP=N)(hp:kM w b s (.ok st)):Mk b s w w.heap.size (.ok ({jY with op:=102},st)) N (w.alloc (.cells #[.int .u8 102,.string ⟨#[]⟩,eF 0,.pointer none,.string ⟨#[]⟩,eF 0,.string ⟨#[]⟩,eF 0,eF 0,iE,iE] 172)):=by refine⟨(Kp.refl _ _).alloc _,⟨{jY with op:=102},none,none,0,0,none,0,0,yY (Kp.refl b _) hp.lt,fun x st' hx=>?_⟩,hp.alloc _⟩;cases hx;exact⟨rfl,hN,[],[],rfl,ak ⟨rfl,rfl⟩,gF.oV.2 rfl,ak ⟨rfl,rfl⟩,gF.oV.2 rfl⟩
theorem Mk.start(hb:b<w.heap.size)(hN:st.eP=N)(k:Kp b (w.alloc (.cells #[.int .u8 0,.string ⟨#[]⟩,eF 0,.pointer none,.string ⟨#[]⟩,eF 0,.string ⟨#[]⟩,eF 0,eF 0,iE,iE] 172)) w1)(hp:kM w1 b s (.ok st)):Mk b s w w.heap.size (.ok (jY,st)) N w1:=by refine⟨k.wZ,⟨jY,none,none,0,0,none,0,0,yY k hb,fun x st' hx=>?_⟩,hp⟩;cases hx;exact⟨rfl,hN,[],[],rfl,ak ⟨rfl,rfl⟩,gF.oV.2 rfl,ak ⟨rfl,rfl⟩,gF.oV.2 rfl⟩
def nN(s:dX)(g:eO->Except Nat (Sm×eO))(y:Sm)(st:eO):Except Nat (Sm×eO):=
 match Px.block s g st with
 |.ok (l,st')=>.ok ({y with one:=l},st')
 |.error p=>.error p
theorem Mk.one{b:Nat}{s:dX}{w0 w w1:dY}{q:Nat}{R:Except Nat (Sm×eO)}{N:Int}{g:eO->Except Nat (Sm×eO)}{va:Option Addr}{vn vc:Nat}(h:Mk b s w0 q R N w)(hg:fP s g)(hb:b<w0.heap.size)(hq:w0.heap.size<=q)(hp:GI b s w ((R.map Prod.snd).bind (Px.block s g)) (fM (.slice va vn vc)) w1):Mk b s w0 q (gV R (nN s g)) N (w1.setCell ⟨q,9,none⟩ (.slice va vn vc)):=by
 obtain⟨k,va',vn',vc',he,h3⟩:=hp;obtain⟨rfl,rfl,rfl⟩:va=va'/\vn=vn'/\vc=vc':=by simpa using he
 obtain⟨y,ve,a1,n1,c1,a2,n2,c2,h1,h2⟩:=h.cells;have GK:q<w.heap.size:=(aN.1 h1).1;have z:=k.size;have hc:(w1.setCell ⟨q,9,none⟩ (.slice va vn vc)).heap[q]?=some (.cells (p9 y (.pointer ve) (.slice va vn vc) (.slice a2 n2 c2)) 172):=by rw[heap_set _ (Kp.heap k h1 (by omega))];simp[p9]
 have hkp:Kp b w0 (w1.setCell ⟨q,9,none⟩ (.slice va vn vc)):=(h.kp.trans k).iD hq _;have hbq:b≠q:=by omega
 cases R with
 |error p=>exact⟨hkp,⟨y,ve,va,vn,vc,a2,n2,c2,hc,fun x st hx=>by cases hx⟩,kM.iD (r:=.error p) h3 hbq _⟩
 |ok r=>
 obtain⟨x,st⟩:=r;obtain⟨e1,e2,r1,r2,e3,e4,e5,e6,e7⟩:=h2 x st rfl;subst e1;have h3':match Px.block s g st with
  |.ok (l,st)=>∃qs,jc w1 (.slice va vn vc) qs (gD w w1)/\gF w1 l (gD w w1) qs/\fQ w1 b s st.t (-1) st.eP st.fu
  |.error p=>∃t eP fu,fQ w1 b s t ((p:Nat):Int) eP fu:=h3
 cases hr:Px.block s g st with
 |error p=>
  rw[hr]at h3';have er:gV (.ok (y,st)) (nN s g)=.error p:=by simp[gV,nN,hr]
  rw[er];exact⟨hkp,⟨y,ve,va,vn,vc,a2,n2,c2,hc,fun x st hx=>by cases hx⟩,kM.iD (r:=.error p) h3' hbq _⟩
 |ok r=>
 obtain⟨e,st'⟩:=r;rw[hr]at h3';obtain⟨q',f1,f2,f3⟩:=h3';have er:gV (.ok (y,st)) (nN s g)=.ok ({y with one:=e},st'):=by simp[gV,nN,hr]
 have hgo:=qW hg _ _ _ (h.tk rfl) hr;rw[er];have hk:∀i,gD w0 w i/\i≠q->(w1.setCell ⟨q,9,none⟩ (.slice va vn vc)).heap[i]?=w.heap[i]?:=fun i hi=>by rw[lg _ hi.2];exact k.block i hi.1.2 (by have:=hi.1.1;omega)
 have hm:∀i,gD w0 w i/\i≠q->gD w0 (w1.setCell ⟨q,9,none⟩ (.slice va vn vc)) i/\i≠q:=fun i hi=>⟨⟨hi.1.1,by rw[gP];have:=hi.1.2;omega⟩,hi.2⟩;have z0:=h.kp.size;have hk':∀i,gD w w1 i->(w1.setCell ⟨q,9,none⟩ (.slice va vn vc)).heap[i]?=w1.heap[i]?:=fun i hi=>lg _ (by have:=hi.1;omega);have hm':∀i,gD w w1 i->gD w0 (w1.setCell ⟨q,9,none⟩ (.slice va vn vc)) i/\i≠q:=fun i hi=>⟨⟨by have:=hi.1;omega,by rw[gP];exact hi.2⟩,by have:=hi.1;omega⟩;refine⟨hkp,⟨{y with one:=e},ve,va,vn,vc,a2,n2,c2,hc,fun x2 st2 hx=>?_⟩,kM.iD (r:=.ok st') ⟨f3,hgo.tk⟩ hbq _⟩;cases hx;exact⟨rfl,hgo.eP.trans e2,q',r2,(e3.keep hk).mono hm,(f1.keep hk').mono hm',(f2.keep hk').mono hm',(e6.keep hk).mono hm,(e7.keep hk).mono hm⟩
def sN(s:dX)(g:eO->Except Nat (Sm×eO))(y:Sm)(st:eO):Except Nat (Sm×eO):=
 match Px.block s g st with
 |.ok (l,st')=>.ok ({y with two:=l},st')
 |.error p=>.error p
theorem Mk.two{b:Nat}{s:dX}{w0 w w1:dY}{q:Nat}{R:Except Nat (Sm×eO)}{N:Int}{g:eO->Except Nat (Sm×eO)}{va:Option Addr}{vn vc:Nat}(h:Mk b s w0 q R N w)(hg:fP s g)(hb:b<w0.heap.size)(hq:w0.heap.size<=q)(hp:GI b s w ((R.map Prod.snd).bind (Px.block s g)) (fM (.slice va vn vc)) w1):Mk b s w0 q (gV R (sN s g)) N (w1.setCell ⟨q,10,none⟩ (.slice va vn vc)):=by
 obtain⟨k,va',vn',vc',he,h3⟩:=hp;obtain⟨rfl,rfl,rfl⟩:va=va'/\vn=vn'/\vc=vc':=by simpa using he
 obtain⟨y,ve,a1,n1,c1,a2,n2,c2,h1,h2⟩:=h.cells;have GK:q<w.heap.size:=(aN.1 h1).1;have z:=k.size;have hc:(w1.setCell ⟨q,10,none⟩ (.slice va vn vc)).heap[q]?=some (.cells (p9 y (.pointer ve) (.slice a1 n1 c1) (.slice va vn vc)) 172):=by rw[heap_set _ (Kp.heap k h1 (by omega))];simp[p9]
 have hkp:Kp b w0 (w1.setCell ⟨q,10,none⟩ (.slice va vn vc)):=(h.kp.trans k).iD hq _;have hbq:b≠q:=by omega
 cases R with
 |error p=>exact⟨hkp,⟨y,ve,a1,n1,c1,va,vn,vc,hc,fun x st hx=>by cases hx⟩,kM.iD (r:=.error p) h3 hbq _⟩
 |ok r=>
 obtain⟨x,st⟩:=r;obtain⟨e1,e2,r1,r2,e3,e4,e5,e6,e7⟩:=h2 x st rfl;subst e1;have h3':match Px.block s g st with
  |.ok (l,st)=>∃qs,jc w1 (.slice va vn vc) qs (gD w w1)/\gF w1 l (gD w w1) qs/\fQ w1 b s st.t (-1) st.eP st.fu
  |.error p=>∃t eP fu,fQ w1 b s t ((p:Nat):Int) eP fu:=h3
 cases hr:Px.block s g st with
 |error p=>
  rw[hr]at h3';have er:gV (.ok (y,st)) (sN s g)=.error p:=by simp[gV,sN,hr]
  rw[er];exact⟨hkp,⟨y,ve,a1,n1,c1,va,vn,vc,hc,fun x st hx=>by cases hx⟩,kM.iD (r:=.error p) h3' hbq _⟩
 |ok r=>
 obtain⟨e,st'⟩:=r;rw[hr]at h3';obtain⟨q',f1,f2,f3⟩:=h3';have er:gV (.ok (y,st)) (sN s g)=.ok ({y with two:=e},st'):=by simp[gV,sN,hr]
 have hgo:=qW hg _ _ _ (h.tk rfl) hr;rw[er];have hk:∀i,gD w0 w i/\i≠q->(w1.setCell ⟨q,10,none⟩ (.slice va vn vc)).heap[i]?=w.heap[i]?:=fun i hi=>by rw[lg _ hi.2];exact k.block i hi.1.2 (by have:=hi.1.1;omega)
 have hm:∀i,gD w0 w i/\i≠q->gD w0 (w1.setCell ⟨q,10,none⟩ (.slice va vn vc)) i/\i≠q:=fun i hi=>⟨⟨hi.1.1,by rw[gP];have:=hi.1.2;omega⟩,hi.2⟩;have z0:=h.kp.size;have hk':∀i,gD w w1 i->(w1.setCell ⟨q,10,none⟩ (.slice va vn vc)).heap[i]?=w1.heap[i]?:=fun i hi=>lg _ (by have:=hi.1;omega);have hm':∀i,gD w w1 i->gD w0 (w1.setCell ⟨q,10,none⟩ (.slice va vn vc)) i/\i≠q:=fun i hi=>⟨⟨by have:=hi.1;omega,by rw[gP];exact hi.2⟩,by have:=hi.1;omega⟩;refine⟨hkp,⟨{y with two:=e},ve,a1,n1,c1,va,vn,vc,hc,fun x2 st2 hx=>?_⟩,kM.iD (r:=.ok st') ⟨f3,hgo.tk⟩ hbq _⟩;cases hx;exact⟨rfl,hgo.eP.trans e2,r1,q',(e3.keep hk).mono hm,(e4.keep hk).mono hm,(e5.keep hk).mono hm,(f1.keep hk').mono hm',(f2.keep hk').mono hm'⟩
def CZ(s:dX)(st:eO):Except Nat (Sm×eO):=
 match Px.kind s 119 st with
 |.ok st1=>.ok ({jY with op:=108,eH:=Px.txt s st.t,pl:=st.t.a},st1)
 |.error p=>.error p
theorem V0:(gV (.ok (jY,st)) (rM s 119)).map Prod.snd=(CZ s st).map Prod.snd:=by unfold gV rM CZ;simp only;cases Px.kind s 119 st<;>rfl
theorem Ng(s:dX)(st:eO):mF s st=gV (gV (gV (CZ s st) (kP s ⟨#[61]⟩)) (uZ s)) (kP s ⟨#[59]⟩):=by
 unfold mF CZ;cases Px.kind s 119 st with| error p=>rfl| ok st1=>
 simp only[gV,kP];cases Px.need s ⟨#[61]⟩ st1 with| error p=>rfl| ok st2=>
 simp only[uZ];cases lG s st2 with| error p=>rfl| ok r=>
 obtain⟨e,jg⟩:=r;simp only;cases Px.need s ⟨#[59]⟩ jg<;>rfl
def qZ(op:Nat)(st:eO):Except Nat (Sm×eO):=.ok ({jY with op:=op},st)
def GN(s:dX)(g:eO->Except Nat (Sm×eO))(y:Sm)(st:eO):Except Nat (Sm×eO):=if gN s st.t ⟨#[101,108,115,101]⟩then sN s g y (eZ s st)else .ok (y,st)
theorem Jl(s:dX)(g:eO->Except Nat (Sm×eO))(st:eO):rD s g st=gV (gV (gV (qZ 105 st) (uZ s)) (nN s g)) (GN s g):=by
 unfold rD qZ;simp only[gV,uZ];cases lG s st with| error p=>rfl| ok r=>
 obtain⟨e,st1⟩:=r;simp only[nN];cases Px.block s g st1 with| error p=>rfl| ok r=>
 obtain⟨l,st2⟩:=r;simp only[GN];by_cases h:gN s st2.t ⟨#[101,108,115,101]⟩=true;·rw[aA h,aA h];simp only[sN];cases Px.block s g (eZ s st2)with| error p=>rfl| ok r=>obtain⟨m,jg⟩:=r;rfl
 rw[ah h,ah h]
theorem Nh(s:dX)(g:eO->Except Nat (Sm×eO))(st:eO):mG s g st=gV (gV (gV (qZ 116 st) (nN s g)) (kP s ⟨#[101,108,115,101]⟩)) (sN s g):=by
 unfold mG qZ;simp only[gV,nN];cases Px.block s g st with| error p=>rfl| ok r=>
 obtain⟨l,st1⟩:=r;simp only[kP];cases Px.need s ⟨#[101,108,115,101]⟩ st1 with| error p=>rfl| ok st2=>
 simp only[sN];cases Px.block s g st2 with| error p=>rfl| ok r=>obtain⟨m,jg⟩:=r;rfl
def C9(s:dX)(st:eO):Except Nat (Sm×eO):=
 match Px.kind s 110 st with
 |.ok st1=>.ok ({jY with op:=114,n:=iq (Px.txt s st.t).toList,gZ:=st.t.a},st1)
 |.error p=>.error p
theorem V2:(gV (qZ 114 st) (rM s 110)).map Prod.snd=(C9 s st).map Prod.snd:=by unfold gV rM C9 qZ;simp only;cases Px.kind s 110 st<;>rfl
theorem Ni(s:dX)(g:eO->Except Nat (Sm×eO))(st:eO):sG s g st=gV (C9 s st) (nN s g):=by
 unfold sG C9;cases Px.kind s 110 st with| error p=>rfl| ok st1=>
 simp only[gV,nN];cases Px.block s g st1 with| error p=>rfl| ok r=>obtain⟨m,jg⟩:=r;rfl
theorem Wa(s:dX)(st:eO):vR s st=gV (gV (qZ 102 st) (kP s ⟨#[102,97,105,108]⟩)) (kP s ⟨#[59]⟩):=by
 unfold vR qZ;simp only[gV,kP];cases Px.need s ⟨#[102,97,105,108]⟩ st with| error p=>rfl| ok st1=>
 simp only;cases Px.need s ⟨#[59]⟩ st1<;>rfl
theorem Wb(h:sM s (R.map Prod.snd) ⟨#[101,108,115,101]⟩=false):gV R (GN s g)=R:=by
 cases R with| error p=>rfl| ok r=>
 obtain⟨x,st⟩:=r;have h':gN s st.t ⟨#[101,108,115,101]⟩=false:=h;simp[gV,GN,h']
theorem We(h:sM s (R.map Prod.snd) ⟨#[101,108,115,101]⟩=true):gV R (GN s g)=gV (gV R (kQ s ⟨#[101,108,115,101]⟩)) (sN s g):=by obtain⟨x,st,rfl,h1,h2⟩:=Jh h;rw[h2];simp[gV,GN,h1]
theorem Mk.op{b:Nat}{s:dX}{w0 w:dY}{q:Nat}{st:eO}{N:Int}(o:Nat)(h:Mk b s w0 q (.ok (jY,st)) N w)(hb:b<w0.heap.size)(hq:w0.heap.size<=q):Mk b s w0 q (qZ o st) N (w.setCell ⟨q,0,none⟩ (.int .u8 (o:Int))):=
 h.store (fun y=>{y with op:=o}) (fun _=>⟨rfl,rfl,rfl⟩) (h.kp.iD hq _) (by rw[gP];exact ay _) (fun i _ hne=>lg _ hne) (fun y ve v1 v2 hh=>by rw[heap_set _ hh];simp[p9]) (kM.iD (r:=.ok st) h.pen (by omega) _)
  (fun x' st' hx=>by cases hx;exact⟨h.eP rfl,jY,st,rfl,rfl⟩)
theorem Jm(b:Nat)(s:dX)(n:Nat)(hs3:s.size<=300)(st:eO)(w:dY)(hD:iN s (n+1) st)(p:fQ w b s st.t (-1) st.eP st.fu)(ho:gN s st.t ⟨#[108,101,116]⟩=true):fI 39 #[fq b] w (zq b s w (mF s (eZ s st))):=by
 have hs:s.size<=maxLen:=by unfold maxLen;omega
 have hb:=p.lt;have HD:Hid (iN s (n+1) st/\fQ w b s st.t (-1) st.eP st.fu):=⟨hD,p⟩;have hN0:=hD.n0;have hN:st.eP+(s.size+1:Nat)<=1000000:=by have:=hD.n1;omega
 clear hD p;go_enter func39,ntmps39;go_wp2_with fail;refine(Eu b s _ st.t st.eP st.fu _ (HD.o.2.alloc _) HD.o.1.tk.le hs ho).mono ?_;rintro e w1 ⟨rfl,p1,k1⟩;have m1:Mk b s w w.heap.size (.ok (jY,eZ s st)) st.eP w1:=Mk.start hb rfl k1 ⟨p1,yZ HD.o.1.tk⟩;have D1:Hid (iN s (n+1) (eZ s st)):=HD.o.1.good (jh HD.o.1.tk ho);clear p1 k1;have M1:Hid _:=m1;clear m1;go_wp2_with fail;refine(nG b s 119 (.ok (eZ s st)) _ M1.o.pen hs).mono ?_;rintro e w2 ⟨⟨kv,kx,rfl⟩,k2,p2⟩;have m2:=M1.o.kind hb (ay _) k2 p2;obtain⟨y,ve,a1,n1,c1,a2,n2,c2,hc,hcx⟩:=m2.cells;obtain⟨d0,d1,d2,d3,d4,d5,d6,d7,d8,d9,kJ,df⟩:=jy hc;have hq2:w.heap.size<w2.heap.size:=lt_of_cell d0;have M2:Hid _:=m2;clear k2 p2 hc hcx m2 M1;go_wp2_with fail;have m3:Mk b s w w.heap.size (CZ s (eZ s st)) st.eP _:=Mk.store (fun y=>{y with op:=108,eH:=nL s (.ok (eZ s st)) 119,pl:=qD (.ok (eZ s st)) 119}) (fun y=>⟨rfl,rfl,rfl⟩) M2.o
  (W:=(((w2.setCell ⟨w.heap.size,0,none⟩ (.int .u8 108)).setCell ⟨w.heap.size,1,none⟩ (.string (nL s (.ok (eZ s st)) 119))).setCell ⟨w.heap.size,2,none⟩ (eF (qD (.ok (eZ s st)) 119))).alloc (.cells #[.int .u8 kv,.string (nL s (.ok (eZ s st)) 119),eF (qD (.ok (eZ s st)) 119),eF kx] 106))
  ((((M2.o.kp.iD (ay _) _).iD (ay _) _).iD (ay _) _).alloc _) (by simp) (fun i hi hne=>by rw[aI _ _ _ (by simpa[gP]using hi),lg _ hne,lg _ hne,lg _ hne])
  (fun y ve v1 v2 h=>by rw[aI _ _ _ (by simpa[gP]using hq2),heap_set _ (heap_set _ (heap_set _ h))];simp[p9])
  ?pp ?rr
 case pp=>
  rw[<- V0];exact(((M2.o.pen.iD (by omega) _).iD (by omega) _).iD (by omega) _).alloc _
 case rr=>
  intro x' st' hx;unfold CZ Px.kind at hx;by_cases hk:(eZ s st).t.k=119
  ·rw[aA hk]at hx;cases hx;refine⟨rfl,jY,eZ s (eZ s st),?_,?_⟩;·simp[gV,rM,Px.kind,hk]
   simp[nL,qD,hk,Px.txt]
  rw[ah hk]at hx;cases hx
 have M3:Hid _:=m3;clear m3 M2 d0 d1 d2 d3 d4 d5 d6 d7 d8 d9 kJ df;refine(lS b s _ _ _ M3.o.pen hs).mono ?_;rintro e w3 ⟨rfl,k3,p3⟩;have M4:Hid (Mk b s w w.heap.size (gV (CZ s (eZ s st)) (kP s ⟨#[61]⟩)) st.eP w3):=M3.o.need hb (ay _) k3 p3;clear k3 p3 M3;go_wp2_with fail;refine(QG b s _ _ M4.o.pen hs ?hn).mono ?_;case hn=>
  intro st1 h1;cases hr:gV (CZ s (eZ s st)) (kP s ⟨#[61]⟩)with
  |error p=>rw[hr]at h1;cases h1
  |ok r=>
  obtain⟨x,st2⟩:=r;rw[hr]at h1;cases h1;rw[M4.o.eP hr];exact⟨hN0,hN⟩
 rintro e w4 h4;obtain⟨q1,he⟩:∃q1,e=fM (fq q1):=by obtain⟨_,q1,he,_⟩:=h4;exact⟨q1,he⟩
 subst he;have m5:=M4.o.expr hb (ay _) h4;obtain⟨y,ve,a1,n1,c1,a2,n2,c2,hc,hcx⟩:=M4.o.cells;have hc3:=Kp.heap h4.1 hc (by omega);obtain⟨d0,d1,d2,d3,d4,d5,d6,d7,d8,d9,kJ,df⟩:=jy hc3;have M5:Hid _:=m5;clear hc hcx hc3 m5 h4;go_wp2_with fail;refine(lS b s _ _ _ M5.o.pen hs).mono ?_;rintro e w5 ⟨rfl,k5,p5⟩;have M6:Hid _:=M5.o.need hb (ay _) k5 p5;clear k5 p5 M5 d0 d1 d2 d3 d4 d5 d6 d7 d8 d9 kJ df;go_wp2_with fail;go_ret;rw[Ng];exact M6.o.post (ay _)
theorem Jo(b:Nat)(s:dX)(n:Nat)(hs3:s.size<=300)(st:eO)(w:dY)(hD:iN s (n+1) st)(p:fQ w b s st.t (-1) st.eP st.fu)(h0:gN s st.t ⟨#[108,101,116]⟩=false)(ho:gN s st.t ⟨#[99,97,108,108]⟩=true):fI 39 #[fq b] w (zq b s w (Px.call s (eZ s st))):=by
 have hs:s.size<=maxLen:=by unfold maxLen;omega
 have hb:=p.lt;have HD:Hid (iN s (n+1) st/\fQ w b s st.t (-1) st.eP st.fu):=⟨hD,p⟩;have hN0:=hD.n0;have hN:st.eP+(s.size+1:Nat)<=1000000:=by have:=hD.n1;omega
 clear hD p;go_enter func39,ntmps39;go_wp2_with fail;refine(uX b s _ st.t st.eP st.fu _ (HD.o.2.alloc _) h0).mono ?_;rintro e w' ⟨rfl,hw⟩;rw[<- hw];clear hw;go_wp2_with fail;refine(Eu b s _ st.t st.eP st.fu _ (HD.o.2.alloc _) HD.o.1.tk.le hs ho).mono ?_;rintro e w1 ⟨rfl,p1,k1⟩;have m1:Mk b s w w.heap.size (.ok (jY,eZ s st)) st.eP w1:=Mk.start hb rfl k1 ⟨p1,yZ HD.o.1.tk⟩;have D1:Hid (iN s (n+1) (eZ s st)):=HD.o.1.good (jh HD.o.1.tk ho);clear p1 k1;have M1:Hid _:=m1;clear m1;go_wp2_with fail;refine(QL b s hs3 w w.heap.size hb (ay _) (eZ s st) _ hN0 hN M1.o).mono ?_;rintro e w2 ⟨rfl,m2⟩;have M2:Hid _:=m2;clear m2;go_wp2_with fail;go_ret;exact M2.o.post (ay _)
theorem Jp(b:Nat)(s:dX)(n:Nat)(hs3:s.size<=300)(st:eO)(w:dY)(hD:iN s (n+1) st)(p:fQ w b s st.t (-1) st.eP st.fu)(h0:gN s st.t ⟨#[108,101,116]⟩=false)(h1:gN s st.t ⟨#[99,97,108,108]⟩=false)(h2:gN s st.t ⟨#[105,102]⟩=false)(h3:gN s st.t ⟨#[116,114,121]⟩=false)(h4:gN s st.t ⟨#[114,101,112,101,97,116]⟩=false):fI 39 #[fq b] w (zq b s w (vR s st)):=by
 have hs:s.size<=maxLen:=by unfold maxLen;omega
 have hb:=p.lt;have HD:Hid (iN s (n+1) st/\fQ w b s st.t (-1) st.eP st.fu):=⟨hD,p⟩;have hN0:=hD.n0;have hN:st.eP+(s.size+1:Nat)<=1000000:=by have:=hD.n1;omega
 clear hD p;go_enter func39,ntmps39;go_wp2_with fail;refine(uX b s _ st.t st.eP st.fu _ (HD.o.2.alloc _) h0).mono ?_;rintro e w' ⟨rfl,hw⟩;rw[<- hw];clear hw;go_wp2_with fail;refine(uX b s _ st.t st.eP st.fu _ (HD.o.2.alloc _) h1).mono ?_;rintro e w' ⟨rfl,hw⟩;rw[<- hw];clear hw;go_wp2_with fail;refine(uX b s _ st.t st.eP st.fu _ (HD.o.2.alloc _) h2).mono ?_;rintro e w' ⟨rfl,hw⟩;rw[<- hw];clear hw;go_wp2_with fail;refine(uX b s _ st.t st.eP st.fu _ (HD.o.2.alloc _) h3).mono ?_;rintro e w' ⟨rfl,hw⟩;rw[<- hw];clear hw;go_wp2_with fail;refine(uX b s _ st.t st.eP st.fu _ (HD.o.2.alloc _) h4).mono ?_;rintro e w' ⟨rfl,hw⟩;rw[<- hw];clear hw;have M1:Hid (Mk b s w w.heap.size (qZ 102 st) st.eP _):=Mk.Vc rfl ⟨HD.o.2,HD.o.1.tk⟩;go_wp2_with fail;refine(lS b s _ _ _ M1.o.pen hs).mono ?_;rintro e w1 ⟨rfl,k1,p1⟩;have M2:Hid _:=M1.o.need hb (ay _) k1 p1;clear k1 p1 M1;go_wp2_with fail;refine(lS b s _ _ _ M2.o.pen hs).mono ?_;rintro e w2 ⟨rfl,k2,p2⟩;have M3:Hid _:=M2.o.need hb (ay _) k2 p2;clear k2 p2 M2;go_wp2_with fail;go_ret;rw[Wa];exact M3.o.post (ay _)
theorem Jq(b:Nat)(s:dX)(n:Nat)(hst:GJ b s n (fJ s n))(hs3:s.size<=300)(st:eO)(w:dY)(hD:iN s (n+1) st)(p:fQ w b s st.t (-1) st.eP st.fu)(h0:gN s st.t ⟨#[108,101,116]⟩=false)(h1:gN s st.t ⟨#[99,97,108,108]⟩=false)(ho:gN s st.t ⟨#[105,102]⟩=true):fI 39 #[fq b] w (zq b s w (rD s (fJ s n) (eZ s st))):=by
 have hs:s.size<=maxLen:=by unfold maxLen;omega
 have hb:=p.lt;have HD:Hid (iN s (n+1) st/\fQ w b s st.t (-1) st.eP st.fu):=⟨hD,p⟩;have hN0:=hD.n0;have hN:st.eP+(s.size+1:Nat)<=1000000:=by have:=hD.n1;omega
 clear hD p;go_enter func39,ntmps39;go_wp2_with fail;refine(uX b s _ st.t st.eP st.fu _ (HD.o.2.alloc _) h0).mono ?_;rintro e w' ⟨rfl,hw⟩;rw[<- hw];clear hw;go_wp2_with fail;refine(uX b s _ st.t st.eP st.fu _ (HD.o.2.alloc _) h1).mono ?_;rintro e w' ⟨rfl,hw⟩;rw[<- hw];clear hw;go_wp2_with fail;refine(Eu b s _ st.t st.eP st.fu _ (HD.o.2.alloc _) HD.o.1.tk.le hs ho).mono ?_;rintro e w1 ⟨rfl,p1,k1⟩;have m1:Mk b s w w.heap.size (.ok (jY,eZ s st)) st.eP w1:=Mk.start hb rfl k1 ⟨p1,yZ HD.o.1.tk⟩;have D1:Hid (iN s (n+1) (eZ s st)):=HD.o.1.good (jh HD.o.1.tk ho);clear p1 k1;obtain⟨y,ve,a1,n1,c1,a2,n2,c2,hc,hcx⟩:=m1.cells;obtain⟨d0,d1,d2,d3,d4,d5,d6,d7,d8,d9,kJ,df⟩:=jy hc;have M2:Hid (Mk b s w w.heap.size (qZ 105 (eZ s st)) st.eP (w1.setCell ⟨w.heap.size,0,none⟩ (.int .u8 105))):=m1.op 105 hb (ay _);clear hc hcx m1;go_wp2_with fail;refine(QG b s _ _ M2.o.pen hs ?hn).mono ?_;case hn=>
  intro st1 h1;cases h1;exact⟨hN0,hN⟩
 rintro e w4 h4;obtain⟨q1,he⟩:∃q1,e=fM (fq q1):=by obtain⟨_,q1,he,_⟩:=h4;exact⟨q1,he⟩
 subst he;have m5:=M2.o.expr hb (ay _) h4;clear d0 d1 d2 d3 d4 d5 d6 d7 d8 d9 kJ df;obtain⟨y,ve,a1,n1,c1,a2,n2,c2,hc,hcx⟩:=M2.o.cells;have hc3:=Kp.heap h4.1 hc (by omega);obtain⟨d0,d1,d2,d3,d4,d5,d6,d7,d8,d9,kJ,df⟩:=jy hc3;have M3:Hid _:=m5;clear hc hcx hc3 m5 h4 M2;go_wp2_with fail;clear d0 d1 d2 d3 d4 d5 d6 d7 d8 d9 kJ df;refine(Jg b s n _ hst (lQ s n) hs3 _ _ M3.o.pen ?hd).mono ?_;case hd=>
  intro st1 h1;cases hr:lG s (eZ s st)with| error p=>simp[gV,qZ,uZ,hr,Except.map]at h1| ok r=>
  obtain⟨e2,st2⟩:=r;simp[gV,qZ,uZ,hr,Except.map]at h1;rw[<- h1];exact D1.o.good (uJ s _ _ _ D1.o.tk hr)
 rintro e w5 h4;obtain⟨va,vn,vc,he⟩:∃va vn vc,e=fM (.slice va vn vc):=by obtain⟨_,va,vn,vc,he,_⟩:=h4;exact⟨va,vn,vc,he⟩
 subst he;have m5:=M3.o.one (lQ s n) hb (ay _) h4;obtain⟨y,ve,a1,n1,c1,a2,n2,c2,hc,hcx⟩:=M3.o.cells;have hc3:=Kp.heap h4.1 hc (by omega);obtain⟨d0,d1,d2,d3,d4,d5,d6,d7,d8,d9,kJ,df⟩:=jy hc3;have M4:Hid _:=m5;clear hc hcx hc3 m5 h4;clear M3;go_wp2_with fail;clear d0 d1 d2 d3 d4 d5 d6 d7 d8 d9 kJ df;refine(Bl b s _ _ _ M4.o.pen hs).mono ?_;rintro e w6 ⟨rfl,k6,p6⟩;have M6:Hid _:=M4.o.got hb (ay _) k6 p6;clear k6 p6;generalize hB:sM s ((gV (gV (qZ 105 (eZ s st)) (uZ s)) (nN s (fJ s n))).map Prod.snd) ⟨#[101,108,115,101]⟩=B;have HB:Hid _:=hB;clear hB;cases B;·go_wp2_with fail;go_ret;rw[Jl,Wb HB.o];have h:=M6.o;rw[Nc HB.o]at h;exact h.post (ay _)
 go_wp2_with fail;refine(Jg b s n _ hst (lQ s n) hs3 _ _ M6.o.pen ?hd).mono ?_;case hd=>
  intro st1 h1;obtain⟨x0,st0,hr0,ho0,hg0⟩:=Jh HB.o;rw[hg0]at h1;cases h1;have D2:iN s (n+1) st0:=by
   cases hr:lG s (eZ s st)with| error p=>simp[gV,qZ,uZ,hr]at hr0| ok r=>
   obtain⟨e2,st2⟩:=r;have g2:=D1.o.good (uJ s _ _ _ D1.o.tk hr);cases hr2:Px.block s (fJ s n) st2 with| error p=>simp[gV,qZ,uZ,hr,nN,hr2]at hr0| ok r2=>
   obtain⟨l2,jg⟩:=r2;simp[gV,qZ,uZ,hr,nN,hr2]at hr0;rw[<- hr0.2];exact g2.good (qW (lQ s n) _ _ _ g2.tk hr2)
  exact D2.good (jh D2.tk ho0)
 rintro e w7 h4;obtain⟨va,vn,vc,he⟩:∃va vn vc,e=fM (.slice va vn vc):=by obtain⟨_,va,vn,vc,he,_⟩:=h4;exact⟨va,vn,vc,he⟩
 subst he;have m5:=M6.o.two (lQ s n) hb (ay _) h4;obtain⟨y,ve,a1,n1,c1,a2,n2,c2,hc,hcx⟩:=M6.o.cells;have hc3:=Kp.heap h4.1 hc (by omega);obtain⟨d0,d1,d2,d3,d4,d5,d6,d7,d8,d9,kJ,df⟩:=jy hc3;have M7:Hid _:=m5;clear hc hcx hc3 m5 h4;go_wp2_with fail;go_ret;rw[Jl,We HB.o];exact M7.o.post (ay _)
