import Derived.Test.YtagpnplggopoeaaGreatDoorT04
import Derived.Test.YtagpnplggopoeaaGreatDoorT00
import Derived.Maps.AppendAt
set_option maxRecDepth 100000
set_option maxHeartbeats 4000000
namespace Go.Proofs.YtagpnplggopoeaaGreatDoor
open Go.RowKit
namespace Ref
def qr7 (b:Nat) (s:ByteArray) (n:Nat) (g:Px.Ps→Except Nat (Px.Ex×Px.Ps)):Prop :=
 ∀ (st:Px.Ps) (w:World),Dom s n st→PenAt w b s st.t (-1) st.nest st.deep →
  Calls Tryz.prog 238 #[.pointer (some ⟨b,0,none⟩)] w (qb2 b s w (g st))
theorem zcv (b:Nat) (s:ByteArray) (n:Nat) (g:Px.Ps→Except Nat (Px.Ex×Px.Ps)) (h:qr7 b s n g):qnl b s n false g:=by
 intro st w hD p;have HD:Hid (Dom s n st∧PenAt w b s st.t (-1) st.nest st.deep):=⟨hD,p⟩;clear hD p;go_enter Tryz.func226,Tryz.ntmps226
 go_wp2_with fail;refine (h st _ HD.out.1 HD.out.2).mono ?_;rintro e w1 ⟨k1,q,rfl,h1⟩;have H1:Hid (_∧_):=⟨k1,h1⟩;clear k1 h1;go_wp2_with fail;go_ret;exact ⟨H1.out.1,q,rfl,H1.out.2⟩
theorem zf5 (b:Nat) (s:ByteArray) (n:Nat) (g:Px.Ps→Except Nat (Px.Ex×Px.Ps)) (h:qr7 b s n g) (hg:Px.Goes s g) (hs:s.size≤maxLen):qnl b s n true (Px.term s g):=by
 intro st w hD p;have HG:Hid (_):=hg;have HD:Hid (Dom s n st∧PenAt w b s st.t (-1) st.nest st.deep):=⟨hD,p⟩;clear hD p hg;go_enter Tryz.func226,Tryz.ntmps226
 go_wp2_with fail;refine (zp7 b s n false g (zcv b s n g h) HG.out 42 47 st _ HD.out.1 HD.out.2 hs).mono ?_;rintro e w1 ⟨k1,q,rfl,h1⟩;have H1:Hid (_∧_):=⟨k1,h1⟩;clear k1 h1;go_wp2_with fail;go_ret;exact ⟨H1.out.1,q,rfl,H1.out.2⟩
theorem qzi (b:Nat) (s:ByteArray) (n:Nat) (g:Px.Ps→Except Nat (Px.Ex×Px.Ps)) (h:qr7 b s n g) (hg:Px.Goes s g) (hs:s.size≤maxLen) (st:Px.Ps) (w:World) (hD:Dom s n st) (p:PenAt w b s st.t (-1) st.nest st.deep) :
  Calls Tryz.prog 201 #[.pointer (some ⟨b,0,none⟩),.string ⟨#[43]⟩,.string ⟨#[45]⟩,.bool true] w (qb2 b s w (Px.sum s g st)) :=
 zp7 b s n true (Px.term s g) (zf5 b s n g h hg hs) (Px.qgp hg) 43 45 st w hD p hs
theorem ql2 {s:ByteArray} {t:Px.Tok} (h1:Px.onB s t ⟨#[60]⟩=false) (h2:Px.onB s t ⟨#[61]⟩=false) (h3:Px.onB s t ⟨#[35]⟩=false):Px.qec s t=none:=by
 simp[Px.qec,h1,h2,h3]
def zq0 (b:Nat) (s:ByteArray) (n:Nat) (g:Px.Ps→Except Nat (Px.Ex×Px.Ps)):Prop :=
 ∀ (st:Px.Ps) (w:World),Dom s n st→PenAt w b s st.t (-1) st.nest st.deep →
  Calls Tryz.prog 162 #[.pointer (some ⟨b,0,none⟩)] w (qb2 b s w (Px.expr s g st))
theorem ziu (b:Nat) (s:ByteArray) (n:Nat) (g:Px.Ps→Except Nat (Px.Ex×Px.Ps)) (h:qr7 b s n g) (hg:Px.Goes s g) (hs:s.size≤maxLen):zq0 b s n g:=by
 intro st w hD p;obtain ⟨c0,c1,c2,c3,c4,c5,c6,c7,f,hb⟩:=p.cells;have HG:Hid (_):=hg;have HD:Hid (Dom s n st∧PenAt w b s st.t (-1) st.nest st.deep):=⟨hD,p⟩;clear hD p hg;go_enter Tryz.func162,Tryz.ntmps162
 go_wp2_with fail;refine (qzi b s n g h HG.out hs st _ HD.out.1 HD.out.2).mono ?_;rintro e w1 ⟨k1,q,rfl,h1⟩;clear c0 c1 c2 c3 c4 c5 c6 c7 f;cases hr:Px.sum s g st with
 | error pe =>
  have e1:Hid (Px.expr s g st=.error pe):=by unfold Hid Px.expr;rw[hr]
  rw[hr] at h1;obtain ⟨hq,hv,t,nest,deep,p1⟩:=h1;have P1:Hid (_):=p1;have V:Hid (_∧_∧_):=⟨k1,hq,hv⟩;clear k1 hq hv p1 hr;go_wp2_with (first | (go_at_call 198;refine (qpk b s _ t (pe:Int) nest deep _ P1.out (by omega)).mono ?_;rintro e w' ⟨rfl,rfl⟩))
  go_ret;rw[e1.out];exact ⟨V.out.1,q,rfl,V.out.2.1,V.out.2.2,t,nest,deep,P1.out⟩
 | ok r =>
  obtain ⟨x,st1⟩:=r;have HR:Hid (_):=hr;rw[hr] at h1;obtain ⟨hx,p1⟩:=h1;have X:Hid (Kp b w w1∧ExAt w1 x (In w w1) q):=⟨k1,hx⟩;have P1:Hid (_):=p1;have D1:Hid (Dom s n st1):=HD.out.1.good (Px.qgb HG.out _ _ _ HD.out.1.tk hr);clear k1 hx p1 hr;have fin:∀ (o:UInt8) (hc:Px.qec s st1.t=some o.toNat) (w2 w3 W:World) (q2:Nat) (O:Obj) (K2:Kp b w1 w2) (H3:qb2 b s (w2.alloc O) (Px.sum s g (Px.nx s st1)) (.returned (.pointer (some ⟨q2,0,none⟩))) w3)
   (hW:W.heap=(w3.heap.push (.cells #[.pointer (some ⟨q,0,none⟩),.pointer (some ⟨q2,0,none⟩)] 268)).push (.cells #[.int .u8 (o.toNat:Int),.int .i64 0,.string ⟨#[]⟩,.int .i64 (st.t.a:Int),.int .i64 (st1.t.a:Int),.slice (some ⟨w3.heap.size,0,none⟩) 2 2] 280))
   (hK:Kp b w3 W),qb2 b s w (Px.expr s g st) (.returned (.pointer (some ⟨w3.heap.size+1,0,none⟩))) W:=by
   intro o hc w2 w3 W q2 O K2 H3 hW hK;obtain ⟨k3,q2',he,h3⟩:=H3;obtain rfl:q2=q2':=by simpa using he
   have kw3:Kp b w1 w3:=K2.trans k3.qdo;have kw:Kp b w W:=(X.out.1.trans kw3).trans hK;have s1:=X.out.1.size;have s2:=kw3.size;have s3:=K2.size;have hpen:∀ {t:Px.Tok} {bad nest deep:Int},PenAt w3 b s t bad nest deep→PenAt W b s t bad nest deep:=fun p=>⟨by rw[hW,qlb p.lt];exact p.h⟩
   refine ⟨kw,_,rfl,?_⟩;unfold Px.expr;rw[HR.out];simp only[hc];cases hr:Px.sum s g (Px.nx s st1) with
   | error p =>
    rw[hr] at h3;obtain ⟨hq,hv,t,nest,deep,hp⟩:=h3;exact ⟨by omega,⟨_,_,_,_,_,_,by rw[hW];exact qdu⟩,t,nest,deep,hpen hp⟩
   | ok r =>
    obtain ⟨k,st'⟩:=r;rw[hr] at h3;obtain ⟨hk,hp⟩:=h3;exact ⟨ExAt.pair (X.out.2.kp hb kw3) hk (by simp;omega) s2 (by omega) hW,hpen hp⟩
  have FIN:Hid (_):=fin;clear fin;cases h60:Px.onB s st1.t ⟨#[60]⟩
  ·cases h61:Px.onB s st1.t ⟨#[61]⟩
   ·cases h35:Px.onB s st1.t ⟨#[35]⟩
    ·go_wp2_with (first | (go_at_call 198;refine (qlg b s _ st1.t st1.nest st1.deep _ P1.out).mono ?_;rintro e w' ⟨rfl,rfl⟩))
     go_ret;refine ⟨X.out.1,q,rfl,?_⟩;unfold Px.expr;rw[HR.out];simp only[ql2 h60 h61 h35];exact ⟨X.out.2,P1.out⟩
    ·go_wp2_with (first | (go_at_call 198;refine (qlg b s _ st1.t st1.nest st1.deep _ P1.out).mono ?_;rintro e w' ⟨rfl,rfl⟩))
     refine (qe4 b s st1.t st1.nest st1.deep _ P1.out D1.out.tk.le hs).mono ?_;unfold qcl;rw[qpl h35];rintro e w2 ⟨rfl,p2,k2⟩;have P2:Hid (_):=p2;have K2:Hid (_):=k2;have hb2:b < w2.heap.size:=p2.lt;clear p2 k2;go_wp2_with fail;refine (qzi b s n g h HG.out hs (Px.nx s st1) _ (D1.out.good (Px.qaf D1.out.tk h35)) (P2.out.alloc _)).mono ?_;rintro e w3 ⟨k3,q2,rfl,h3⟩;obtain ⟨a0,a1,a2,a3,af⟩:=qau (qgr k3 hb2);have hz3:w2.heap.size < w3.heap.size:=by have:=k3.size;simp at this;omega
     have H3:Hid (qb2 b s (w2.alloc _) (Px.sum s g (Px.nx s st1)) (.returned (.pointer (some ⟨q2,0,none⟩))) w3):=⟨k3,q2,rfl,h3⟩;clear k3 h3;go_wp2_with fail;go_region
     go_wp2;go_ret;exact FIN.out 35 (by simp[Px.qec,h60,h61,h35]) w2 w3 _ q2 _ K2.out H3.out rfl (((Kp.refl _ _).alloc _).alloc _).drew
   ·go_wp2_with (first | (go_at_call 198;refine (qlg b s _ st1.t st1.nest st1.deep _ P1.out).mono ?_;rintro e w' ⟨rfl,rfl⟩))
    refine (qe4 b s st1.t st1.nest st1.deep _ P1.out D1.out.tk.le hs).mono ?_;unfold qcl;rw[qpl h61];rintro e w2 ⟨rfl,p2,k2⟩;have P2:Hid (_):=p2;have K2:Hid (_):=k2;have hb2:b < w2.heap.size:=p2.lt;clear p2 k2;go_wp2_with fail;refine (qzi b s n g h HG.out hs (Px.nx s st1) _ (D1.out.good (Px.qaf D1.out.tk h61)) (P2.out.alloc _)).mono ?_;rintro e w3 ⟨k3,q2,rfl,h3⟩;obtain ⟨a0,a1,a2,a3,af⟩:=qau (qgr k3 hb2);have hz3:w2.heap.size < w3.heap.size:=by have:=k3.size;simp at this;omega
    have H3:Hid (qb2 b s (w2.alloc _) (Px.sum s g (Px.nx s st1)) (.returned (.pointer (some ⟨q2,0,none⟩))) w3):=⟨k3,q2,rfl,h3⟩;clear k3 h3;go_wp2_with fail;go_region
    go_wp2;go_ret;exact FIN.out 61 (by simp[Px.qec,h60,h61]) w2 w3 _ q2 _ K2.out H3.out rfl (((Kp.refl _ _).alloc _).alloc _).drew
  ·go_wp2_with (first | (go_at_call 198;refine (qlg b s _ st1.t st1.nest st1.deep _ P1.out).mono ?_;rintro e w' ⟨rfl,rfl⟩))
   refine (qe4 b s st1.t st1.nest st1.deep _ P1.out D1.out.tk.le hs).mono ?_;unfold qcl;rw[qpl h60];rintro e w2 ⟨rfl,p2,k2⟩;have P2:Hid (_):=p2;have K2:Hid (_):=k2;have hb2:b < w2.heap.size:=p2.lt;clear p2 k2;go_wp2_with fail;refine (qzi b s n g h HG.out hs (Px.nx s st1) _ (D1.out.good (Px.qaf D1.out.tk h60)) (P2.out.alloc _)).mono ?_;rintro e w3 ⟨k3,q2,rfl,h3⟩;obtain ⟨a0,a1,a2,a3,af⟩:=qau (qgr k3 hb2);have hz3:w2.heap.size < w3.heap.size:=by have:=k3.size;simp at this;omega
   have H3:Hid (qb2 b s (w2.alloc _) (Px.sum s g (Px.nx s st1)) (.returned (.pointer (some ⟨q2,0,none⟩))) w3):=⟨k3,q2,rfl,h3⟩;clear k3 h3;go_wp2_with fail;go_region
   go_wp2;go_ret;exact FIN.out 60 (by simp[Px.qec,h60]) w2 w3 _ q2 _ K2.out H3.out rfl (((Kp.refl _ _).alloc _).alloc _).drew
open Go.RowKit
theorem qkx {s:ByteArray} {t:Px.Tok} (h:Px.Tk s t) (hk:t.k=110):(s.extract t.a t.b).size≤4∧∀ j (hj:j < (s.extract t.a t.b).size),Px.qba (s.extract t.a t.b)[j]=true:=by
 obtain ⟨h1,h2⟩:=h.num hk;have hz:(s.extract t.a t.b).size=t.b - t.a:=by
  have:=h.le;simp;omega
 refine ⟨by omega,fun j hj=>?_⟩
 have e:(s.extract t.a t.b)[j]=s[t.a+j]'(by have:=h.le;omega):=by
  simp[ByteArray.getElem_extract]
 rw[e];exact h2 _ _ (by omega) (by omega)
theorem qe3 {s:ByteArray} {t:Px.Tok} (hk:t.k=107) (l:List UInt8):Px.onB s t ⟨⟨l⟩⟩=((s.extract t.a t.b).toList == l):=by
 unfold Px.onB;rw[hk,ByteArray.toList_eq ⟨⟨l⟩⟩];simp
theorem qb9 {w:World} {k:Nat} {a b c d e f:Value} {t:TypeId} (h:w.heap[k]?=some (.cells #[a,b,c,d,e,f] t)) :
  w.cell? ⟨k,0,none⟩=some a∧w.cell? ⟨k,1,none⟩=some b∧w.cell? ⟨k,2,none⟩=some c∧w.cell? ⟨k,3,none⟩=some d∧w.cell? ⟨k,4,none⟩=some e∧w.cell? ⟨k,5,none⟩=some f∧∀ o,w.frozen? ⟨k,o,none⟩=false:=by
 refine ⟨?_,?_,?_,?_,?_,?_,?_⟩<;>simp[World.cell?,World.frozen?,h]
theorem qg4 {b:Nat} {w W w1:World} {o p:Obj} (hW:W.heap=(w.heap.push o).push p) (h:Kp b W w1) (hb:b < w.heap.size):w1.heap[w.heap.size]?=some o∧w1.heap[w.heap.size+1]?=some p∧w.heap.size+2≤w1.heap.size:=by
 have e0:W.heap.size=w.heap.size+2:=by rw[hW];simp
 have:=h.size
 refine ⟨?_,?_,by omega⟩
 ·rw[h.block _ (by omega) (by omega),hW];exact qi8
 ·rw[h.block _ (by omega) (by omega),hW];exact qdu
theorem qln {b:Nat} {s:ByteArray} {w w':World} {st:Px.Ps} {op n pl:Nat} {word:ByteArray} {T:Obj} (hb:b < w.heap.size)
  (k:Kp b ((w.alloc (.cells #[.int .u8 (op:Int),.int .i64 (n:Int),.string word,.int .i64 (pl:Int),.int .i64 (pl:Int),.slice none 0 0] 280)).alloc T).drew w') (p:PenAt w' b s st.t (-1) st.nest st.deep) :
  qb2 b s w (.ok (Px.leaf op n word pl,st)) (.returned (.pointer (some ⟨w.heap.size,0,none⟩))) w':=by
 obtain ⟨h1,h2,h3⟩:=qg4 rfl k hb;exact ⟨((((Kp.refl b w).alloc _).alloc _).drew).trans k,_,rfl,⟨⟨Nat.le_refl _,by omega⟩,h1⟩,p⟩
theorem quf (b:Nat) (s:ByteArray) (n:Nat) (hs:s.size≤maxLen) (st:Px.Ps) (w:World) (hD:Dom s (n+1) st) (p:PenAt w b s st.t (-1) st.nest st.deep) (hk:st.t.k=110) :
  Calls Tryz.prog 238 #[.pointer (some ⟨b,0,none⟩)] w (qb2 b s w (Px.atom s (n+1) st)):=by
 obtain ⟨c0,c1,c2,c3,c4,c5,c6,c7,f,hb⟩:=p.cells;have HD:Hid (Dom s (n+1) st∧PenAt w b s st.t (-1) st.nest st.deep):=⟨hD,p⟩;have e1:Hid (Px.atom s (n+1) st=.ok (Px.leaf 110 (Px.valOf (Px.txt s st.t).toList) Px.nowt st.t.a,Px.nx s st)):=by
  unfold Hid;rw[Px.atom,if_pos hk]
 have V:Hid (_∧_):=qkx hD.tk hk;have t1:((st.t.k:Int) == 110)=true:=by rw[hk];rfl
 clear hD p hk;go_enter Tryz.func238,Tryz.ntmps238
 go_wp2_with fail;go_region
 go_wp2_with fail;refine (qot _ _ V.out.1 V.out.2).mono ?_;rintro e w' ⟨rfl,hw⟩;rw[hw];clear hw;go_wp2_with fail;refine (qe4 b s st.t st.nest st.deep _ ((HD.out.2.alloc _).alloc _).drew HD.out.1.tk.le hs).mono ?_;rintro e w2 ⟨rfl,p2,k2⟩;have P2:Hid (_∧_):=⟨p2,k2⟩;clear p2 k2;go_wp2_with fail;go_ret;rw[e1.out];exact qln hb P2.out.2 P2.out.1
theorem qqj (b:Nat) (s:ByteArray) (n:Nat) (hs:s.size≤maxLen) (st:Px.Ps) (w:World) (hD:Dom s (n+1) st) (p:PenAt w b s st.t (-1) st.nest st.deep) (hk:st.t.k=119) :
  Calls Tryz.prog 238 #[.pointer (some ⟨b,0,none⟩)] w (qb2 b s w (Px.atom s (n+1) st)):=by
 obtain ⟨c0,c1,c2,c3,c4,c5,c6,c7,f,hb⟩:=p.cells;have HD:Hid (Dom s (n+1) st∧PenAt w b s st.t (-1) st.nest st.deep):=⟨hD,p⟩;have e1:Hid (Px.atom s (n+1) st=.ok (Px.leaf 119 0 (Px.txt s st.t) st.t.a,Px.nx s st)):=by
  unfold Hid;rw[Px.atom,if_neg (by omega),if_pos hk]
 have t1:((st.t.k:Int) == 110)=false:=by rw[hk];rfl
 have t2:((st.t.k:Int) == 119)=true:=by rw[hk];rfl
 clear hD p hk;go_enter Tryz.func238,Tryz.ntmps238
 go_wp2_with fail;go_region
 go_wp2_with fail;refine (qe4 b s st.t st.nest st.deep _ ((HD.out.2.alloc _).alloc _).drew HD.out.1.tk.le hs).mono ?_;rintro e w2 ⟨rfl,p2,k2⟩;have P2:Hid (_∧_):=⟨p2,k2⟩;clear p2 k2;go_wp2_with fail;go_ret;rw[e1.out];exact qln hb P2.out.2 P2.out.1
theorem qqk (b:Nat) (s:ByteArray) (n:Nat) (hs:s.size≤maxLen) (st:Px.Ps) (w:World) (hD:Dom s (n+1) st) (p:PenAt w b s st.t (-1) st.nest st.deep) (ho:Px.onB s st.t ⟨#[116,114,117,101]⟩=true) :
  Calls Tryz.prog 238 #[.pointer (some ⟨b,0,none⟩)] w (qb2 b s w (Px.atom s (n+1) st)):=by
 obtain ⟨c0,c1,c2,c3,c4,c5,c6,c7,f,hb⟩:=p.cells;have HD:Hid (Dom s (n+1) st∧PenAt w b s st.t (-1) st.nest st.deep):=⟨hD,p⟩;have hk:=Px.qjc ho;have e1:Hid (Px.atom s (n+1) st=.ok (Px.leaf 116 1 Px.nowt st.t.a,Px.nx s st)):=by
  unfold Hid;rw[Px.atom,if_neg (by omega),if_neg (by omega),if_pos ho]
 have t1:((st.t.k:Int) == 110)=false:=by rw[hk];rfl
 have t2:((st.t.k:Int) == 119)=false:=by rw[hk];rfl
 have t3:((st.t.k:Int) == 107)=true:=by rw[hk];rfl
 have t4:((s.extract st.t.a st.t.b).toList == [116,114,117,101])=true:=by rw[← qe3 hk];exact ho
 clear hD p hk ho;go_enter Tryz.func238,Tryz.ntmps238
 go_wp2_with fail;go_region
 go_wp2_with fail;refine (qe4 b s st.t st.nest st.deep _ ((HD.out.2.alloc _).alloc _).drew HD.out.1.tk.le hs).mono ?_;rintro e w2 ⟨rfl,p2,k2⟩;have P2:Hid (_∧_):=⟨p2,k2⟩;clear p2 k2;go_wp2_with fail;go_ret;rw[e1.out];exact qln hb P2.out.2 P2.out.1
theorem qm7 (b:Nat) (s:ByteArray) (n:Nat) (hs:s.size≤maxLen) (st:Px.Ps) (w:World) (hD:Dom s (n+1) st) (p:PenAt w b s st.t (-1) st.nest st.deep) (hk:st.t.k=107) (h1:Px.onB s st.t ⟨#[116,114,117,101]⟩=false) (ho:Px.onB s st.t ⟨#[102,97,108,115,101]⟩=true) :
  Calls Tryz.prog 238 #[.pointer (some ⟨b,0,none⟩)] w (qb2 b s w (Px.atom s (n+1) st)):=by
 obtain ⟨c0,c1,c2,c3,c4,c5,c6,c7,f,hb⟩:=p.cells;have HD:Hid (Dom s (n+1) st∧PenAt w b s st.t (-1) st.nest st.deep):=⟨hD,p⟩;have e1:Hid (Px.atom s (n+1) st=.ok (Px.leaf 116 0 Px.nowt st.t.a,Px.nx s st)):=by
  unfold Hid;rw[Px.atom,if_neg (by omega),if_neg (by omega),if_neg (by simp[h1]),if_pos ho]
 have t1:((st.t.k:Int) == 110)=false:=by rw[hk];rfl
 have t2:((st.t.k:Int) == 119)=false:=by rw[hk];rfl
 have t3:((st.t.k:Int) == 107)=true:=by rw[hk];rfl
 have t4:((s.extract st.t.a st.t.b).toList == [116,114,117,101])=false:=by rw[← qe3 hk];exact h1
 have t5:((s.extract st.t.a st.t.b).toList == [102,97,108,115,101])=true:=by rw[← qe3 hk];exact ho
 clear hD p hk ho h1;go_enter Tryz.func238,Tryz.ntmps238
 go_wp2_with fail;go_region
 go_wp2_with fail;refine (qe4 b s st.t st.nest st.deep _ ((HD.out.2.alloc _).alloc _).drew HD.out.1.tk.le hs).mono ?_;rintro e w2 ⟨rfl,p2,k2⟩;have P2:Hid (_∧_):=⟨p2,k2⟩;clear p2 k2;go_wp2_with fail;go_ret;rw[e1.out];exact qln hb P2.out.2 P2.out.1
open Go.RowKit
def PSt (w:World) (b:Nat) (s:ByteArray) (r:Except Nat Px.Ps):Prop :=
 match r with
 | .ok st=>PenAt w b s st.t (-1) st.nest st.deep∧Px.Tk s st.t
 | .error p=>∃ t nest deep,PenAt w b s t ((p:Nat):Int) nest deep
theorem PSt.lt {w:World} {b:Nat} {s:ByteArray} {r:Except Nat Px.Ps} (h:PSt w b s r):b < w.heap.size:=by
 cases r with
 | error p=>obtain ⟨t,nest,deep,hp⟩:=h;exact hp.lt
 | ok st=>exact h.1.lt
theorem PSt.eqv {w w':World} {b:Nat} {s:ByteArray} {r:Except Nat Px.Ps} (h:PSt w b s r) (he:w'.heap[b]?=w.heap[b]?):PSt w' b s r:=by
 cases r with
 | error p=>obtain ⟨t,nest,deep,hp⟩:=h;exact ⟨t,nest,deep,⟨by rw[he];exact hp.h⟩⟩
 | ok st=>exact ⟨⟨by rw[he];exact h.1.h⟩,h.2⟩
theorem PSt.alloc {w:World} {b:Nat} {s:ByteArray} {r:Except Nat Px.Ps} (h:PSt w b s r) (o:Obj):PSt (w.alloc o) b s r:=h.eqv (Below.heap_alloc _ _ _ h.lt)
theorem PSt.setN {w:World} {b k o:Nat} {s:ByteArray} {r:Except Nat Px.Ps} (h:PSt w b s r) (hk:b≠k) (v:Value):PSt (w.setCell ⟨k,o,none⟩ v) b s r:=h.eqv (qag _ hk)
def onR (s:ByteArray) (r:Except Nat Px.Ps) (x:ByteArray):Bool :=
 match r with
 | .ok st=>Px.onB s st.t x
 | .error _=>false
theorem onU (b:Nat) (s x:ByteArray) (r:Except Nat Px.Ps) (w:World) (p:PSt w b s r) :
  Calls Tryz.prog 198 #[.pointer (some ⟨b,0,none⟩),.string x] w fun e w'=>e=.returned (.bool (onR s r x))∧w=w':=by
 cases r with
 | error pe=>obtain ⟨t,nest,deep,hp⟩:=p;exact qpk b s x t _ nest deep w hp (by omega)
 | ok st=>exact qlg b s x st.t st.nest st.deep w p.1
def gotR (s:ByteArray) (r:Except Nat Px.Ps) (x:ByteArray):Except Nat Px.Ps :=
 match r with
 | .ok st=>if Px.onB s st.t x then .ok (Px.nx s st) else .ok st
 | .error p=>.error p
theorem gotU (b:Nat) (s x:ByteArray) (r:Except Nat Px.Ps) (w:World) (p:PSt w b s r) (hs:s.size≤maxLen) :
  Calls Tryz.prog 159 #[.pointer (some ⟨b,0,none⟩),.string x] w fun e w'=>e=.returned (.bool (onR s r x))∧Kp b w w'∧PSt w' b s (gotR s r x):=by
 cases r with
 | error pe =>
  obtain ⟨t,nest,deep,hp⟩:=p;refine (zif b s x t _ nest deep w hp (by omega)).mono ?_
  rintro e w' ⟨rfl,rfl⟩;exact ⟨rfl,Kp.refl _ _,t,nest,deep,hp⟩
 | ok st =>
  cases ho:Px.onB s st.t x
  ·refine (qf1 b s x st.t st.nest st.deep w p.1 ho).mono ?_;rintro e w' ⟨rfl,rfl⟩;exact ⟨by simp[onR,ho],Kp.refl _ _,by simp[gotR,ho];exact p⟩
  ·refine (qkt b s x st.t st.nest st.deep w p.1 p.2.le hs ho).mono ?_;rintro e w' ⟨rfl,p1,k1⟩;exact ⟨by simp[onR,ho],k1,by simp[gotR,ho];exact ⟨p1,Px.qnn p.2⟩⟩
theorem qcb (b:Nat) (s x:ByteArray) (r:Except Nat Px.Ps) (w:World) (p:PSt w b s r) (hs:s.size≤maxLen) :
  Calls Tryz.prog 161 #[.pointer (some ⟨b,0,none⟩),.string x] w fun e w'=>e=.returned (.tuple #[])∧Kp b w w'∧PSt w' b s (r.bind (Px.need s x)):=by
 cases r with
 | error pe =>
  obtain ⟨t,nest,deep,hp⟩:=p;refine (zac b s x t _ nest deep w hp (by omega)).mono ?_
  rintro e w' ⟨rfl,rfl⟩;exact ⟨rfl,Kp.refl _ _,t,nest,deep,hp⟩
 | ok st =>
  cases ho:Px.onB s st.t x
  ·refine (zs9 b s x st.t st.nest st.deep w p.1 ho).mono ?_;rintro e w' ⟨rfl,p1,k1⟩;exact ⟨rfl,k1,by simp[Except.bind,Px.need,ho];exact ⟨_,_,_,p1⟩⟩
  ·refine (zab b s x st.t st.nest st.deep w p.1 p.2.le hs ho).mono ?_;rintro e w' ⟨rfl,p1,k1⟩;exact ⟨rfl,k1,by simp[Except.bind,Px.need,ho];exact ⟨p1,Px.qnn p.2⟩⟩
def qdm (s:ByteArray) (r:Except Nat Px.Ps) (k:Nat):ByteArray :=
 match r with
 | .ok st=>if st.t.k=k then s.extract st.t.a st.t.b else ⟨#[]⟩
 | .error _=>⟨#[]⟩
def qf0 (r:Except Nat Px.Ps) (k:Nat):Nat :=
 match r with
 | .ok st=>if st.t.k=k then st.t.a else 0
 | .error _=>0
theorem qda (b:Nat) (s:ByteArray) (k:Nat) (r:Except Nat Px.Ps) (w:World) (p:PSt w b s r) (hs:s.size≤maxLen) :
  Calls Tryz.prog 160 #[.pointer (some ⟨b,0,none⟩),.int .u8 (k:Int)] w fun e w'=>(∃ v x:Int,e=.returned (.agg #[.int .u8 v,.string (qdm s r k),.int .i64 (qf0 r k:Int),.int .i64 x]))∧Kp b w w'∧PSt w' b s (r.bind (Px.kind s k)):=by
 cases r with
 | error pe =>
  obtain ⟨t,nest,deep,hp⟩:=p;refine (znv b s k t _ nest deep w hp (by omega)).mono ?_
  rintro e w' ⟨rfl,p1,k1⟩;exact ⟨⟨0,0,rfl⟩,k1,t,nest,deep,p1⟩
 | ok st =>
  by_cases ho:st.t.k=k
  ·refine (zns b s k st.t st.nest st.deep w p.1 p.2.le hs (by omega)).mono ?_
   rintro e w' ⟨rfl,p1,k1⟩;exact ⟨⟨st.t.k,st.t.b,by simp[qdm,qf0,ho,qcl]⟩,k1,by simp[Except.bind,Px.kind,ho];exact ⟨p1,Px.qnn p.2⟩⟩
  ·refine (ztt b s k st.t st.nest st.deep w p.1 (by omega)).mono ?_
   rintro e w' ⟨rfl,p1,k1⟩;exact ⟨⟨0,0,by simp[qdm,qf0,ho,qhy]⟩,k1,by simp[Except.bind,Px.kind,ho];exact ⟨_,_,_,p1⟩⟩
theorem upU (b:Nat) (s:ByteArray) (r:Except Nat Px.Ps) (w:World) (p:PSt w b s r) (hn:∀ st,r=.ok st→0≤st.nest∧st.nest≤2000000) :
  Calls Tryz.prog 203 #[.pointer (some ⟨b,0,none⟩)] w fun e w'=>e=.returned (.tuple #[])∧Kp b w w'∧PSt w' b s (r.map Px.upp):=by
 cases r with
 | error pe =>
  obtain ⟨t,nest,deep,hp⟩:=p;refine (zkp b s t _ nest deep w hp).mono ?_;rintro e w' ⟨rfl,p1,k1⟩;exact ⟨rfl,k1,t,_,deep,p1⟩
 | ok st =>
  refine (zkp b s st.t _ st.nest st.deep w p.1).mono ?_;rintro e w' ⟨rfl,p1,k1⟩;have h:=hn st rfl;refine ⟨rfl,k1,?_,p.2⟩;have e1:wrap64 (st.nest - 1)=st.nest - 1:=(by unfold wrap64;omega)
  rw[e1] at p1;exact p1
open Go.RowKit
theorem Kp.heap {b:Nat} {w w':World} (h:Kp b w w') {k:Nat} {o:Obj} (hk:w.heap[k]?=some o) (hb:k≠b):w'.heap[k]?=some o:=by
 rcases Nat.lt_or_ge k w.heap.size with h1 | h1
 ·rw[h.block k h1 hb];exact hk
 ·simp[h1] at hk
theorem zjy (b:Nat) (s:ByteArray) (n:Nat) (st:Px.Ps) (w:World) (p:PenAt w b s st.t (-1) st.nest st.deep) (h0:st.t.k≠110) (h0':st.t.k≠119) (h1:Px.onB s st.t ⟨#[116,114,117,101]⟩=false) (h2:Px.onB s st.t ⟨#[102,97,108,115,101]⟩=false) (h3:Px.onB s st.t ⟨#[110,111,116]⟩=false) (h4:Px.onB s st.t ⟨#[40]⟩=false) :
  Calls Tryz.prog 238 #[.pointer (some ⟨b,0,none⟩)] w (qb2 b s w (Px.atom s (n+1) st)):=by
 obtain ⟨c0,c1,c2,c3,c4,c5,c6,c7,f,hb⟩:=p.cells;have HD:Hid (_):=p;have e1:Hid (Px.atom s (n+1) st=.error st.t.a):=by
  unfold Hid;rw[Px.atom,if_neg h0,if_neg h0',if_neg (by simp[h1]),if_neg (by simp[h2]),if_neg (by simp[h3]),if_neg (by simp[h4])]
 have t1:((st.t.k:Int) == 110)=false:=by rw[beq_eq_false_iff_ne];omega
 have t2:((st.t.k:Int) == 119)=false:=by rw[beq_eq_false_iff_ne];omega
 have fin:∀ (w1:World) (E T:Obj),(∃ v0 v1 v2 v3 v4 v5,E=.cells #[v0,v1,v2,v3,v4,v5] 280)→PenAt w1 b s st.t (st.t.a:Int) st.nest st.deep→Kp b ((w.alloc E).alloc T).drew w1→qb2 b s w (Px.atom s (n+1) st) (.returned (.pointer (some ⟨w.heap.size,0,none⟩))) w1:=by
  intro w1 E T hE p1 k1;obtain ⟨g1,g2,g3⟩:=qg4 rfl k1 hb;rw[e1.out];obtain ⟨v0,v1,v2,v3,v4,v5,rfl⟩:=hE;exact ⟨((((Kp.refl b w).alloc _).alloc _).drew).trans k1,_,rfl,Nat.le_refl _,⟨_,_,_,_,_,_,g1⟩,_,_,_,p1⟩
 have FIN:Hid (_):=fin;clear fin p h0 h0';by_cases hk:st.t.k=107
 ·have t3:((st.t.k:Int) == 107)=true:=by rw[hk];rfl
  have t4:((s.extract st.t.a st.t.b).toList == [116,114,117,101])=false:=by rw[← qe3 hk];exact h1
  have t5:((s.extract st.t.a st.t.b).toList == [102,97,108,115,101])=false:=by rw[← qe3 hk];exact h2
  have t6:((s.extract st.t.a st.t.b).toList == [110,111,116])=false:=by rw[← qe3 hk];exact h3
  have t7:((s.extract st.t.a st.t.b).toList == [40])=false:=by rw[← qe3 hk];exact h4
  clear h1 h2 h3 h4 hk;go_enter Tryz.func238,Tryz.ntmps238
  go_wp2_with fail;go_region
  go_wp2_with fail;refine (qp1 b s st.t st.nest st.deep _ ((HD.out.alloc _).alloc _).drew).mono ?_;rintro e w2 ⟨rfl,p2,k2⟩;have P2:Hid (_∧_):=⟨p2,k2⟩;clear p2 k2;go_wp2_with fail;go_ret;exact FIN.out _ _ _ ⟨_,_,_,_,_,_,rfl⟩ P2.out.1 P2.out.2
 ·have t3:((st.t.k:Int) == 107)=false:=by rw[beq_eq_false_iff_ne];omega
  clear h1 h2 h3 h4 hk;go_enter Tryz.func238,Tryz.ntmps238
  go_wp2_with fail;go_region
  go_wp2_with fail;refine (qp1 b s st.t st.nest st.deep _ ((HD.out.alloc _).alloc _).drew).mono ?_;rintro e w2 ⟨rfl,p2,k2⟩;have P2:Hid (_∧_):=⟨p2,k2⟩;clear p2 k2;go_wp2_with fail;go_ret;exact FIN.out _ _ _ ⟨_,_,_,_,_,_,rfl⟩ P2.out.1 P2.out.2
theorem Dom.down {s:ByteArray} {n:Nat} {st st':Px.Ps} (h:Dom s (n+1) st) (tk:Px.Tk s st'.t) (lt:st.t.a < st'.t.a) (hn:st'.nest=st.nest∨st'.nest=st.nest+1):Dom s n st':=by
 have h1:=h.room;have h2:=tk.ab;have h3:=tk.le;have h4:=h.n0;have h5:=h.n1;refine ⟨tk,by omega,by omega,?_⟩
 rcases hn with hn | hn<;>rw[hn]<;>push_cast at h5<;>omega
theorem size_set (w:World) (a:Addr) (v:Value):(w.setCell a v).heap.size=w.heap.size:=by simp[World.setCell]
def notR (a:Nat) (r:Except Nat (Px.Ex×Px.Ps)):Except Nat (Px.Ex×Px.Ps) :=
 match r with
 | .error p=>.error p
 | .ok (k,st')=>.ok (⟨33,0,Px.nowt,a,a,some k,none⟩,st')
def parR (s:ByteArray) (a:Nat) (r:Except Nat (Px.Ex×Px.Ps)):Except Nat (Px.Ex×Px.Ps) :=
 match r with
 | .error p=>.error p
 | .ok (e,st')=>if Px.onB s st'.t ⟨#[41]⟩ then .ok ({ e with pl:=a },Px.upp (Px.nx s st')) else .error st'.t.a
theorem zmp {b:Nat} {s:ByteArray} {w w2 w3:World} {E T:Obj} {q:Nat} {v:Value} {a:Nat} {r:Except Nat (Px.Ex×Px.Ps)} (hb:b < w.heap.size)
  (k2:Kp b ((w.alloc E).alloc T).drew w2) (H3:qb2 b s (w2.setCell ⟨w.heap.size,0,none⟩ v) r (.returned (.pointer (some ⟨q,0,none⟩))) w3)
  (g:w3.heap[w.heap.size]?=some (.cells #[.int .u8 33,.int .i64 0,.string ⟨#[]⟩,.int .i64 (a:Int),.int .i64 (a:Int),.slice none 0 0] 280)) :
  qb2 b s w (notR a r) (.returned (.pointer (some ⟨w.heap.size,0,none⟩)))
   ((w3.setCell ⟨w.heap.size,5,none⟩ (.slice (some ⟨w3.heap.size,0,none⟩) 1 1)).alloc (.cells #[.pointer (some ⟨q,0,none⟩)] 268)):=by
 obtain ⟨k3,q',he,h3⟩:=H3;obtain rfl:q=q':=by simpa using he
 have z0:w.heap.size+2≤w2.heap.size:=(qg4 rfl k2 hb).2.2;have z1:w2.heap.size≤w3.heap.size:=by have:=k3.size;rw[size_set] at this;exact this
 have ka:Kp b w w2:=((((Kp.refl b w).alloc _).alloc _).drew).trans k2;have kb:Kp b w w3:=(ka.setN (Nat.le_refl _) v).trans k3;generalize hW:(w3.setCell ⟨w.heap.size,5,none⟩ (.slice (some ⟨w3.heap.size,0,none⟩) 1 1)).alloc (.cells #[.pointer (some ⟨q,0,none⟩)] 268)=W;have kW:Kp b w W:=by rw[← hW];exact (kb.setN (Nat.le_refl _) _).alloc _
 have zW:W.heap.size=w3.heap.size+1:=by rw[← hW];simp
 have gE:W.heap[w.heap.size]?=some (.cells #[.int .u8 33,.int .i64 0,.string ⟨#[]⟩,.int .i64 (a:Int),.int .i64 (a:Int),.slice (some ⟨w3.heap.size,0,none⟩) 1 1] 280):=by
  rw[← hW,Below.heap_alloc _ _ _ (by rw[size_set];omega),heap_set _ g];simp
 have gK:W.heap[w3.heap.size]?=some (.cells #[.pointer (some ⟨q,0,none⟩)] 268):=by
  rw[← hW];show ((w3.setCell _ _).heap.push _)[w3.heap.size]?=_
  rw[Array.getElem?_push,if_pos (by rw[size_set])]
 have gO:∀ k,k < w3.heap.size→k≠w.heap.size→W.heap[k]?=w3.heap[k]?:=by
  intro k h1 h2;rw[← hW,Below.heap_alloc _ _ _ (by rw[size_set];omega),qag _ h2]
 refine ⟨kW,_,rfl,?_⟩;cases r with
 | error p =>
  obtain ⟨hq,hv,t,nest,deep,hp⟩:=h3;have hpl:=hp.lt;exact ⟨Nat.le_refl _,⟨_,_,_,_,_,_,gE⟩,t,nest,deep,⟨by rw[gO b hpl (by omega)];exact hp.h⟩⟩
 | ok r =>
  obtain ⟨k,st'⟩:=r;obtain ⟨hk,hp⟩:=h3;have hpl:=hp.lt;have hsz:=size_set w2 ⟨w.heap.size,0,none⟩ v;refine ⟨⟨⟨Nat.le_refl _,by omega⟩,w3.heap.size,q,⟨by omega,by omega⟩,by omega,gE,gK,?_⟩,⟨by rw[gO b hpl (by omega)];exact hp.h⟩⟩
  refine (hk.keep fun i hi=>gO i hi.2 (by have:=hi.1;omega)).mono fun i hi=>?_
  have h1:=hi.1;have h2:=hi.2;exact ⟨⟨by omega,by omega⟩,by omega,by omega⟩
theorem qug (b:Nat) (s:ByteArray) (n:Nat) (ih:qr7 b s n (Px.atom s n)) (hs:s.size≤maxLen) (st:Px.Ps) (w:World) (hD:Dom s (n+1) st) (p:PenAt w b s st.t (-1) st.nest st.deep) (hk:st.t.k=107) (h1:Px.onB s st.t ⟨#[116,114,117,101]⟩=false) (h2:Px.onB s st.t ⟨#[102,97,108,115,101]⟩=false) (h3:Px.onB s st.t ⟨#[110,111,116]⟩=true) :
  Calls Tryz.prog 238 #[.pointer (some ⟨b,0,none⟩)] w (qb2 b s w (Px.atom s (n+1) st)):=by
 obtain ⟨c0,c1,c2,c3,c4,c5,c6,c7,f,hb⟩:=p.cells;have HD:Hid (Dom s (n+1) st∧PenAt w b s st.t (-1) st.nest st.deep):=⟨hD,p⟩;have e1:Hid (Px.atom s (n+1) st=notR st.t.a (Px.atom s n (Px.nx s st))):=by
  unfold Hid;rw[Px.atom,if_neg (by omega),if_neg (by omega),if_neg (by simp[h1]),if_neg (by simp[h2]),if_pos h3];cases Px.atom s n (Px.nx s st)<;>rfl
 have t1:((st.t.k:Int) == 110)=false:=by rw[hk];rfl
 have t2:((st.t.k:Int) == 119)=false:=by rw[hk];rfl
 have t3:((st.t.k:Int) == 107)=true:=by rw[hk];rfl
 have t4:((s.extract st.t.a st.t.b).toList == [116,114,117,101])=false:=by rw[← qe3 hk];exact h1
 have t5:((s.extract st.t.a st.t.b).toList == [102,97,108,115,101])=false:=by rw[← qe3 hk];exact h2
 have t6:((s.extract st.t.a st.t.b).toList == [110,111,116])=true:=by rw[← qe3 hk];exact h3
 have D1:Hid (Dom s n (Px.nx s st)):=hD.down (Px.qaf hD.tk h3).tk (Px.qaf hD.tk h3).lt (Or.inl rfl);clear hD p hk h1 h2 h3;go_enter Tryz.func238,Tryz.ntmps238
 go_wp2_with fail;go_region
 go_wp2_with fail;refine (qe4 b s st.t st.nest st.deep _ ((HD.out.2.alloc _).alloc _).drew HD.out.1.tk.le hs).mono ?_;rintro e w2 ⟨rfl,p2,k2⟩;obtain ⟨g1,g2,g3⟩:=qg4 rfl k2 hb;obtain ⟨d0,d1,d2,d3,d4,d5,df⟩:=qb9 g1;have P2:Hid (_∧_):=⟨p2,k2⟩;have G1:Hid (_):=g1;clear p2 k2 g1 g2 c0 c1 c2 c3 c4 c5 c6 c7 f;go_wp2_with fail;refine (ih (Px.nx s st) _ D1.out (P2.out.1.setN (by omega) _)).mono ?_
 rintro e w3 ⟨k3,q,rfl,h3⟩;have g3':w3.heap[w.heap.size]?=_:=Kp.heap k3 (heap_set _ G1.out) (by omega)
 simp only[List.setIfInBounds_toArray,List.set_cons_zero] at g3';obtain ⟨r0,r1,r2,r3,r4,r5,rf⟩:=qb9 g3';have hz3:w.heap.size < w3.heap.size:=lt_of_cell r0;have H3:Hid (qb2 b s (w2.setCell ⟨w.heap.size,0,none⟩ (.int .u8 33)) (Px.atom s n (Px.nx s st)) (.returned (.pointer (some ⟨q,0,none⟩))) w3∧_):=⟨⟨k3,q,rfl,h3⟩,g3'⟩;clear k3 h3 g3' d0 d1 d2 d3 d4 d5 df;go_wp2_with fail;go_wp2;go_ret;rw[e1.out];exact zmp hb P2.out.2 H3.out.1 H3.out.2
theorem zl7 {b:Nat} {s:ByteArray} {w w2 w3 w4 w5:World} {q a:Nat} {v0 v1 v2 v3 v4 v5:Value} {r:Except Nat (Px.Ex×Px.Ps)} (hb:b < w.heap.size) (hwq:w.heap.size≤q) (k3:Kp b w w3)
  (H3:qb2 b s w2 r (.returned (.pointer (some ⟨q,0,none⟩))) w3) (hq:w3.heap[q]?=some (.cells #[v0,v1,v2,v3,v4,v5] 280)) (k4:Kp b (w3.setCell ⟨q,3,none⟩ (.int .i64 (a:Int))) w4) (k5:Kp b w4 w5) (p5:PSt w5 b s (((r.map Prod.snd).bind (Px.need s ⟨#[41]⟩)).map Px.upp)) (z2:w.heap.size≤w2.heap.size) :
  qb2 b s w (parR s a r) (.returned (.pointer (some ⟨q,0,none⟩))) w5:=by
 obtain ⟨k3',q',he,h3⟩:=H3;obtain rfl:q=q':=by simpa using he
 have k45:=k4.trans k5;have kW:Kp b w w5:=(k3.setN hwq _).trans k45;have hsz:=size_set w3 ⟨q,3,none⟩ (.int .i64 (a:Int));have z5:=k45.size;have hq5:w5.heap[q]?=_:=Kp.heap k45 (heap_set (o:=3) (.int .i64 (a:Int)) hq) (by omega)
 refine ⟨kW,q,rfl,?_⟩;cases r with
 | error p=>exact ⟨hwq,⟨_,_,_,_,_,_,hq5⟩,p5⟩
 | ok r =>
  obtain ⟨x,st'⟩:=r;cases ho:Px.onB s st'.t ⟨#[41]⟩
  ·have e1:parR s a (.ok (x,st'))=.error st'.t.a:=by simp[parR,ho]
   rw[e1];simp[Except.map,Except.bind,Px.need,ho] at p5;exact ⟨hwq,⟨_,_,_,_,_,_,hq5⟩,p5⟩
  ·have e1:parR s a (.ok (x,st'))=.ok ({ x with pl:=a },Px.upp (Px.nx s st')):=by simp[parR,ho]
   rw[e1];simp[Except.map,Except.bind,Px.need,ho] at p5;refine ⟨?_,p5.1⟩;have h6:=h3.1.place a;have h7:ExAt w5 { x with pl:=a } (In w2 w3) q:=h6.keep fun i hi=>by
    have h1:=hi.1;have h2:=hi.2;exact k45.block i (by omega) (by omega)
   exact h7.mono fun i hi=>⟨by have:=hi.1;omega,by have:=hi.2;omega⟩
theorem que (b:Nat) (s:ByteArray) (n:Nat) (ih:zq0 b s n (Px.atom s n)) (hs:s.size≤maxLen) (st:Px.Ps) (w:World) (hD:Dom s (n+1) st) (p:PenAt w b s st.t (-1) st.nest st.deep) (hk:st.t.k=107) (h1:Px.onB s st.t ⟨#[116,114,117,101]⟩=false) (h2:Px.onB s st.t ⟨#[102,97,108,115,101]⟩=false) (h3:Px.onB s st.t ⟨#[110,111,116]⟩=false) (h4:Px.onB s st.t ⟨#[40]⟩=true) :
  Calls Tryz.prog 238 #[.pointer (some ⟨b,0,none⟩)] w (qb2 b s w (Px.atom s (n+1) st)):=by
 obtain ⟨c0,c1,c2,c3,c4,c5,c6,c7,f,hb⟩:=p.cells;have HD:Hid (Dom s (n+1) st∧PenAt w b s st.t (-1) st.nest st.deep):=⟨hD,p⟩;have e1:Hid (Px.atom s (n+1) st=parR s st.t.a (Px.expr s (Px.atom s n) (Px.nx s (Px.dn st)))):=by
  unfold Hid;rw[Px.atom,if_neg (by omega),if_neg (by omega),if_neg (by simp[h1]),if_neg (by simp[h2]),if_neg (by simp[h3]),if_pos h4];cases Px.expr s (Px.atom s n) (Px.nx s (Px.dn st))<;>rfl
 have t1:((st.t.k:Int) == 110)=false:=by rw[hk];rfl
 have t2:((st.t.k:Int) == 119)=false:=by rw[hk];rfl
 have t3:((st.t.k:Int) == 107)=true:=by rw[hk];rfl
 have t4:((s.extract st.t.a st.t.b).toList == [116,114,117,101])=false:=by rw[← qe3 hk];exact h1
 have t5:((s.extract st.t.a st.t.b).toList == [102,97,108,115,101])=false:=by rw[← qe3 hk];exact h2
 have t6:((s.extract st.t.a st.t.b).toList == [110,111,116])=false:=by rw[← qe3 hk];exact h3
 have t7:((s.extract st.t.a st.t.b).toList == [40])=true:=by rw[← qe3 hk];exact h4
 have D1:Hid (Dom s n (Px.nx s (Px.dn st))):=hD.down (Px.qaf hD.tk h4).tk (Px.qaf hD.tk h4).lt (Or.inr rfl);have hn0:=hD.n0;have hn1:st.nest≤1000000:=by have:=hD.n1;omega
 clear hD p hk h1 h2 h3 h4;go_enter Tryz.func238,Tryz.ntmps238
 go_wp2_with fail;go_region
 go_wp2_with fail;refine (zi2 b s st.t st.nest st.deep _ ((HD.out.2.alloc _).alloc _).drew hn0 hn1).mono ?_;rintro e w1 ⟨rfl,p1,k1⟩;have P1:Hid (_∧_):=⟨p1,k1⟩;clear p1 k1 c0 c1 c2 c3 c4 c5 c6 c7 f;go_wp2_with fail;refine (qe4 b s st.t (st.nest+1) _ _ P1.out.1 HD.out.1.tk.le hs).mono ?_;rintro e w2 ⟨rfl,p2,k2⟩;have P2:Hid (_∧_):=⟨p2,k2⟩;clear p2 k2;go_wp2_with fail;refine (ih (Px.nx s (Px.dn st)) _ D1.out P2.out.1).mono ?_;rintro e w3 ⟨k3,q,rfl,h3⟩;have k23:=(P1.out.2.trans P2.out.2).trans k3;obtain ⟨g1,g2,g3⟩:=qg4 rfl k23 hb;obtain ⟨d0,d1,d2,d3,df⟩:=qau g2;have hq:∃ v0 v1 v2 v3 v4 v5,w3.heap[q]?=some (.cells #[v0,v1,v2,v3,v4,v5] 280):=by
  cases hr:Px.expr s (Px.atom s n) (Px.nx s (Px.dn st)) with
  | error p=>rw[hr] at h3;exact h3.2.1
  | ok r =>
   obtain ⟨x,st'⟩:=r;rw[hr] at h3;obtain ⟨_,v,hv⟩:=h3.1.root;exact ⟨_,_,_,_,_,_,hv⟩
 obtain ⟨v0,v1,v2,v3,v4,v5,hq⟩:=hq;obtain ⟨r0,r1,r2,r3,r4,r5,rf⟩:=qb9 hq;have hwq:w.heap.size≤q:=by
  have z2:w.heap.size≤w2.heap.size:=by have:=(qg4 rfl (P1.out.2.trans P2.out.2) hb).2.2;omega
  cases hr:Px.expr s (Px.atom s n) (Px.nx s (Px.dn st)) with
  | error p=>rw[hr] at h3;have:=h3.1;omega
  | ok r =>
   obtain ⟨x,st'⟩:=r;rw[hr] at h3
   have:=h3.1.root.1.1
   omega
 have hps:PSt w3 b s ((Px.expr s (Px.atom s n) (Px.nx s (Px.dn st))).map Prod.snd)∧∀ x st',Px.expr s (Px.atom s n) (Px.nx s (Px.dn st))=.ok (x,st')→Px.Good s (Px.nx s (Px.dn st)) st':=by
  have hgo:∀ x st',Px.expr s (Px.atom s n) (Px.nx s (Px.dn st))=.ok (x,st')→Px.Good s (Px.nx s (Px.dn st)) st':=fun x st' hr=>Px.qf3 (Px.qbj s n) _ _ _ D1.out.tk hr
  refine ⟨?_,hgo⟩;cases hr:Px.expr s (Px.atom s n) (Px.nx s (Px.dn st)) with
  | error p=>rw[hr] at h3;exact h3.2.2
  | ok r =>
   obtain ⟨x,st'⟩:=r;rw[hr] at h3;exact ⟨h3.2,(hgo x st' hr).tk⟩
 have H3:Hid ((Kp b w w3∧qb2 b s w2 (Px.expr s (Px.atom s n) (Px.nx s (Px.dn st))) (.returned (.pointer (some ⟨q,0,none⟩))) w3∧w3.heap[q]?=some (.cells #[v0,v1,v2,v3,v4,v5] 280))∧_):=⟨⟨((((Kp.refl b w).alloc _).alloc _).drew).trans k23,⟨k3,q,rfl,h3⟩,hq⟩,hps⟩;clear k3 h3 g1 g2 k23 hq hps;go_wp2_with fail;refine (qcb b s _ _ _ (H3.out.2.1.setN (by omega) _) hs).mono ?_
 rintro e w4 ⟨rfl,k4,p4⟩;have P4:Hid (_∧_):=⟨k4,p4⟩;clear k4 p4;go_wp2_with fail;refine (upU b s _ _ P4.out.2 ?hnest).mono ?_
 case hnest =>
  intro st0 h0;cases hr:Px.expr s (Px.atom s n) (Px.nx s (Px.dn st)) with
  | error p=>rw[hr] at h0;cases h0
  | ok r =>
   obtain ⟨x,st'⟩:=r;rw[hr] at h0;have hg:=(H3.out.2.2 x st' hr).nest;have hg':st'.nest=st.nest+1:=hg;cases ho:Px.onB s st'.t ⟨#[41]⟩
   ·simp[Except.map,Except.bind,Px.need,ho] at h0
   ·simp[Except.map,Except.bind,Px.need,ho] at h0;rw[← h0];show 0≤st'.nest∧st'.nest≤2000000
    omega
 rintro e w5 ⟨rfl,k5,p5⟩;have P5:Hid (_∧_):=⟨k5,p5⟩;clear k5 p5;go_wp2_with fail;go_ret;rw[e1.out];exact zl7 hb hwq H3.out.1.1 H3.out.1.2.1 H3.out.1.2.2 P4.out.1 P5.out.1 P5.out.2 (by have:=(qg4 rfl (P1.out.2.trans P2.out.2) hb).2.2;omega)
theorem zva (b:Nat) (s:ByteArray) (hs:s.size≤maxLen) (n:Nat):qr7 b s n (Px.atom s n):=by
 induction n with
 | zero=>intro st w hD p;have:=hD.room;omega
 | succ n ih =>
  intro st w hD p;by_cases h0:st.t.k=110
  ·exact quf b s n hs st w hD p h0
  ·by_cases h0':st.t.k=119
   ·exact qqj b s n hs st w hD p h0'
   ·cases h1:Px.onB s st.t ⟨#[116,114,117,101]⟩
    ·cases h2:Px.onB s st.t ⟨#[102,97,108,115,101]⟩
     ·cases h3:Px.onB s st.t ⟨#[110,111,116]⟩
      ·cases h4:Px.onB s st.t ⟨#[40]⟩
       ·exact zjy b s n st w p h0 h0' h1 h2 h3 h4
       ·exact que b s n (ziu b s n _ ih (Px.qbj s n) hs) hs st w hD p (Px.qjc h4) h1 h2 h3 h4
      ·exact qug b s n ih hs st w hD p (Px.qjc h3) h1 h2 h3
     ·exact qm7 b s n hs st w hD p (Px.qjc h2) h1 h2
    ·exact qqk b s n hs st w hD p h1
theorem zo7 {b:Nat} {s:ByteArray} {w:World} {t:Px.Tok} {pe:Nat} {nest deep:Int} (p:PenAt w b s t (pe:Int) nest deep) (v0 v1 v2 v3 v4 v5:Value) :
  qb2 b s w (.error pe) (.returned (.pointer (some ⟨w.heap.size,0,none⟩))) (w.alloc (.cells #[v0,v1,v2,v3,v4,v5] 280)).drew:=by
 refine ⟨((Kp.refl _ _).alloc _).drew,w.heap.size,rfl,Nat.le_refl _,⟨v0,v1,v2,v3,v4,v5,?_⟩,t,nest,deep,(p.alloc _).drew⟩;show (w.heap.push _)[w.heap.size]?=_
 rw[Array.getElem?_push,if_pos rfl]
theorem zpb (b:Nat) (s:ByteArray) (t:Px.Tok) (pe:Nat) (nest deep:Int) (w:World) (p:PenAt w b s t (pe:Int) nest deep) :
  Calls Tryz.prog 238 #[.pointer (some ⟨b,0,none⟩)] w (qb2 b s w (.error pe)):=by
 obtain ⟨c0,c1,c2,c3,c4,c5,c6,c7,f,hb⟩:=p.cells;have HP:Hid (_):=p;have hpe:(0:Int)≤pe:=by omega
 clear p;go_enter Tryz.func238,Tryz.ntmps238
 go_wp2_with fail;go_region
 go_wp2_with fail;go_ret;exact zo7 HP.out _ _ _ _ _ _
def qyz (b:Nat) (s:ByteArray) (sum:Bool):Prop :=
 ∀ (t:Px.Tok) (pe:Nat) (nest deep:Int) (w:World),PenAt w b s t (pe:Int) nest deep →
  Calls Tryz.prog 226 #[.pointer (some ⟨b,0,none⟩),.bool sum] w (qb2 b s w (.error pe))
theorem zfo (b:Nat) (s:ByteArray) (sum:Bool) (hp:qyz b s sum) (x y:ByteArray) (t:Px.Tok) (pe:Nat) (nest deep:Int) (w:World) (p:PenAt w b s t (pe:Int) nest deep) :
  Calls Tryz.prog 201 #[.pointer (some ⟨b,0,none⟩),.string x,.string y,.bool sum] w (qb2 b s w (.error pe)):=by
 obtain ⟨c0,c1,c2,c3,c4,c5,c6,c7,f,hb⟩:=p.cells;have HP:Hid (_):=p;clear p;go_enter Tryz.func201,Tryz.ntmps201
 go_wp2_with fail;refine (hp t pe nest deep _ HP.out).mono ?_;rintro e w1 ⟨k1,q,rfl,hq,hv,t',nest',deep',p1⟩;have P1:Hid (_):=p1;have V:Hid (_∧_∧_):=⟨k1,hq,hv⟩;clear k1 hq hv p1 c0 c1 c2 c3 c4 c5 c6 c7 f;go_wp2_with fail;refine wp_loop_rounds 1 ?_;rw[rounds_succ];go_wp2_with (first | (go_at_call 198;refine (qpk b s _ t' (pe:Int) nest' deep' _ P1.out (by omega)).mono ?_;rintro e w' ⟨rfl,rfl⟩))
 go_ret;exact ⟨V.out.1,q,rfl,V.out.2.1,V.out.2.2,t',nest',deep',P1.out⟩
theorem zcx (b:Nat) (s:ByteArray):qyz b s false:=by
 intro t pe nest deep w p;have HP:Hid (_):=p;clear p;go_enter Tryz.func226,Tryz.ntmps226
 go_wp2_with fail;refine (zpb b s t pe nest deep _ HP.out).mono ?_;rintro e w1 ⟨k1,q,rfl,h1⟩;have H1:Hid (_∧_):=⟨k1,h1⟩;clear k1 h1;go_wp2_with fail;go_ret;exact ⟨H1.out.1,q,rfl,H1.out.2⟩
theorem zcw (b:Nat) (s:ByteArray):qyz b s true:=by
 intro t pe nest deep w p;have HP:Hid (_):=p;clear p;go_enter Tryz.func226,Tryz.ntmps226
 go_wp2_with fail;refine (zfo b s false (zcx b s) _ _ t pe nest deep _ HP.out).mono ?_;rintro e w1 ⟨k1,q,rfl,h1⟩;have H1:Hid (_∧_):=⟨k1,h1⟩;clear k1 h1;go_wp2_with fail;go_ret;exact ⟨H1.out.1,q,rfl,H1.out.2⟩
theorem zop (b:Nat) (s:ByteArray) (t:Px.Tok) (pe:Nat) (nest deep:Int) (w:World) (p:PenAt w b s t (pe:Int) nest deep) :
  Calls Tryz.prog 162 #[.pointer (some ⟨b,0,none⟩)] w (qb2 b s w (.error pe)):=by
 obtain ⟨c0,c1,c2,c3,c4,c5,c6,c7,f,hb⟩:=p.cells;have HP:Hid (_):=p;clear p;go_enter Tryz.func162,Tryz.ntmps162
 go_wp2_with fail;refine (zfo b s true (zcw b s) _ _ t pe nest deep _ HP.out).mono ?_;rintro e w1 ⟨k1,q,rfl,hq,hv,t',nest',deep',p1⟩;have P1:Hid (_):=p1;have V:Hid (_∧_∧_):=⟨k1,hq,hv⟩;clear k1 hq hv p1 c0 c1 c2 c3 c4 c5 c6 c7 f;go_wp2_with (first | (go_at_call 198;refine (qpk b s _ t' (pe:Int) nest' deep' _ P1.out (by omega)).mono ?_;rintro e w' ⟨rfl,rfl⟩))
 go_ret;exact ⟨V.out.1,q,rfl,V.out.2.1,V.out.2.2,t',nest',deep',P1.out⟩
theorem zue (b:Nat) (s:ByteArray) (r:Except Nat Px.Ps) (w:World) (p:PSt w b s r) (hs:s.size≤maxLen) (hn:∀ st,r=.ok st→0≤st.nest∧st.nest+(s.size+1:Nat)≤1000000) :
  Calls Tryz.prog 162 #[.pointer (some ⟨b,0,none⟩)] w (qb2 b s w (r.bind (Px.qa4 s))):=by
 cases r with
 | error pe=>obtain ⟨t,nest,deep,hp⟩:=p;exact zop b s t pe nest deep w hp
 | ok st =>
  have h:=hn st rfl;exact ziu b s (s.size+1) _ (zva b s hs (s.size+1)) (Px.qbj s _) hs st w ⟨p.2,by omega,h.1,h.2⟩ p.1
open Go.RowKit
def ptr (q:Nat):Value:=.pointer (some ⟨q,0,none⟩)
def ExO (w:World) (x:Option Px.Ex) (ok:Nat→Prop) (v:Value):Prop :=
 match x with
 | none=>v=.pointer none
 | some e=>∃ q,v=ptr q∧ExAt w e ok q
def SlAt (w:World) (v:Value) (qs:List Nat) (ok:Nat→Prop):Prop :=
 (v=.slice none 0 0∧qs=[]) ∨
 ∃ g cap cur,v=.slice (some ⟨g,0,none⟩) qs.length cap∧ok g∧w.heap[g]?=some (.cells cur 213)∧qs.length≤cap∧cap≤maxLen∧cur.size=cap∧cur.toList.take qs.length=qs.map ptr
def qay (x:Px.Sm) (ve v1 v2:Value):Array Value :=
 #[.int .u8 (x.op:Int),.string x.word,.int .i64 (x.pl:Int),ve,.string x.asw,.int .i64 (x.asPl:Int),.string x.undo,.int .i64 (x.n:Int),.int .i64 (x.nPl:Int),v1,v2]
def SmsAt (w:World):List Px.Sm→(Nat→Prop)→List Nat→Prop
 | [],_,qs=>qs=[]
 | ⟨op,word,pl,ex,av,asPl,undo,n,nPl,one,two⟩::rest,ok,qs=>∃ q qs',qs=q::qs'∧ok q∧SmsAt w rest ok qs'∧∃ ve v1 v2 q1 q2,
   w.heap[q]?=some (.cells #[.int .u8 (op:Int),.string word,.int .i64 (pl:Int),ve,.string av,.int .i64 (asPl:Int),.string undo,.int .i64 (n:Int),.int .i64 (nPl:Int),v1,v2] 270) ∧
   ExO w ex ok ve∧SlAt w v1 q1 ok∧SmsAt w one ok q1∧SlAt w v2 q2 ok∧SmsAt w two ok q2
theorem SmsAt.qbl {w:World} {ok:Nat→Prop} {qs:List Nat}:SmsAt w [] ok qs↔qs=[]:=by rw[SmsAt]
def SmAt (w:World) (x:Px.Sm) (ok:Nat→Prop) (q:Nat):Prop :=
 ok q∧∃ ve v1 v2 q1 q2,w.heap[q]?=some (.cells (qay x ve v1 v2) 270)∧ExO w x.ex ok ve∧SlAt w v1 q1 ok∧SmsAt w x.one ok q1∧SlAt w v2 q2 ok∧SmsAt w x.two ok q2
theorem SmsAt.qcy {w:World} {x:Px.Sm} {rest:List Px.Sm} {ok:Nat→Prop} {qs:List Nat}:SmsAt w (x::rest) ok qs↔∃ q qs',qs=q::qs'∧ok q∧SmsAt w rest ok qs'∧∃ ve v1 v2 q1 q2,
   w.heap[q]?=some (.cells (qay x ve v1 v2) 270)∧ExO w x.ex ok ve∧SlAt w v1 q1 ok∧SmsAt w x.one ok q1∧SlAt w v2 q2 ok∧SmsAt w x.two ok q2:=by
 obtain ⟨op,word,pl,ex,av,asPl,undo,n,nPl,one,two⟩:=x;rw[SmsAt];rfl
theorem SmsAt.cons {w:World} {x:Px.Sm} {rest:List Px.Sm} {ok:Nat→Prop} {q:Nat} {qs:List Nat} (h:SmAt w x ok q) (hr:SmsAt w rest ok qs):SmsAt w (x::rest) ok (q::qs) :=
 SmsAt.qcy.2 ⟨q,qs,rfl,h.1,hr,h.2⟩
theorem SmsAt.zem {w:World} {x:Px.Sm} {rest:List Px.Sm} {ok:Nat→Prop} {qs:List Nat} (h:SmsAt w (x::rest) ok qs):∃ q qs',qs=q::qs'∧SmAt w x ok q∧SmsAt w rest ok qs':=by
 obtain ⟨q,qs',h1,h2,h3,h4⟩:=SmsAt.qcy.1 h;exact ⟨q,qs',h1,⟨h2,h4⟩,h3⟩
theorem SmsAt.snoc {w:World} {l:List Px.Sm} {x:Px.Sm} {ok:Nat→Prop} {q:Nat} {qs:List Nat} (h:SmsAt w l ok qs) (hx:SmAt w x ok q):SmsAt w (l++[x]) ok (qs++[q]):=by
 induction l generalizing qs with
 | nil=>cases SmsAt.qbl.1 h;exact SmsAt.cons hx (SmsAt.qbl.2 rfl)
 | cons y l ih =>
  obtain ⟨q',qs',rfl,h1,h2⟩:=h.zem;exact SmsAt.cons h1 (ih h2)
theorem SmsAt.len {w:World} {l:List Px.Sm} {ok:Nat→Prop} {qs:List Nat} (h:SmsAt w l ok qs):qs.length=l.length:=by
 induction l generalizing qs with
 | nil=>cases SmsAt.qbl.1 h;rfl
 | cons y l ih =>
  obtain ⟨q',qs',rfl,h1,h2⟩:=h.zem;simp[ih h2]
theorem ExO.mono {w:World} {x:Option Px.Ex} {ok ok':Nat→Prop} {v:Value} (h:ExO w x ok v) (hk:∀ k,ok k→ok' k):ExO w x ok' v:=by
 cases x with
 | none=>exact h
 | some e=>obtain ⟨q,h1,h2⟩:=h;exact ⟨q,h1,h2.mono hk⟩
theorem ExO.keep {w w':World} {x:Option Px.Ex} {ok:Nat→Prop} {v:Value} (h:ExO w x ok v) (hk:∀ k,ok k→w'.heap[k]?=w.heap[k]?):ExO w' x ok v:=by
 cases x with
 | none=>exact h
 | some e=>obtain ⟨q,h1,h2⟩:=h;exact ⟨q,h1,h2.keep hk⟩
theorem SlAt.mono {w:World} {v:Value} {qs:List Nat} {ok ok':Nat→Prop} (h:SlAt w v qs ok) (hk:∀ k,ok k→ok' k):SlAt w v qs ok':=by
 rcases h with h | ⟨g,cap,cur,h1,h2,h3⟩
 ·exact Or.inl h
 ·exact Or.inr ⟨g,cap,cur,h1,hk _ h2,h3⟩
theorem SlAt.keep {w w':World} {v:Value} {qs:List Nat} {ok:Nat→Prop} (h:SlAt w v qs ok) (hk:∀ k,ok k→w'.heap[k]?=w.heap[k]?):SlAt w' v qs ok:=by
 rcases h with h | ⟨g,cap,cur,h1,h2,h3,h4⟩
 ·exact Or.inl h
 ·exact Or.inr ⟨g,cap,cur,h1,h2,by rw[hk _ h2];exact h3,h4⟩
theorem SmsAt.mono {w:World} {l:List Px.Sm} {ok ok':Nat→Prop} {qs:List Nat} (h:SmsAt w l ok qs) (hk:∀ k,ok k→ok' k):SmsAt w l ok' qs:=by
 match l with
 | []=>exact SmsAt.qbl.2 (SmsAt.qbl.1 h)
 | ⟨op,word,pl,ex,av,asPl,undo,n,nPl,one,two⟩::rest =>
  obtain ⟨q,qs',h1,h2,h3,ve,v1,v2,q1,q2,h4,h5,h6,h7,h8,h9⟩:=SmsAt.qcy.1 h;exact SmsAt.qcy.2 ⟨q,qs',h1,hk _ h2,h3.mono hk,ve,v1,v2,q1,q2,h4,h5.mono hk,h6.mono hk,h7.mono hk,h8.mono hk,h9.mono hk⟩
theorem SmsAt.keep {w w':World} {l:List Px.Sm} {ok:Nat→Prop} {qs:List Nat} (h:SmsAt w l ok qs) (hk:∀ k,ok k→w'.heap[k]?=w.heap[k]?):SmsAt w' l ok qs:=by
 match l with
 | []=>exact SmsAt.qbl.2 (SmsAt.qbl.1 h)
 | ⟨op,word,pl,ex,av,asPl,undo,n,nPl,one,two⟩::rest =>
  obtain ⟨q,qs',h1,h2,h3,ve,v1,v2,q1,q2,h4,h5,h6,h7,h8,h9⟩:=SmsAt.qcy.1 h;exact SmsAt.qcy.2 ⟨q,qs',h1,h2,h3.keep hk,ve,v1,v2,q1,q2,by rw[hk _ h2];exact h4,h5.keep hk,h6.keep hk,h7.keep hk,h8.keep hk,h9.keep hk⟩
theorem SmAt.mono {w:World} {x:Px.Sm} {ok ok':Nat→Prop} {q:Nat} (h:SmAt w x ok q) (hk:∀ k,ok k→ok' k):SmAt w x ok' q:=by
 obtain ⟨h2,ve,v1,v2,q1,q2,h4,h5,h6,h7,h8,h9⟩:=h;exact ⟨hk _ h2,ve,v1,v2,q1,q2,h4,h5.mono hk,h6.mono hk,h7.mono hk,h8.mono hk,h9.mono hk⟩
theorem SmAt.keep {w w':World} {x:Px.Sm} {ok:Nat→Prop} {q:Nat} (h:SmAt w x ok q) (hk:∀ k,ok k→w'.heap[k]?=w.heap[k]?):SmAt w' x ok q:=by
 obtain ⟨h2,ve,v1,v2,q1,q2,h4,h5,h6,h7,h8,h9⟩:=h;exact ⟨h2,ve,v1,v2,q1,q2,by rw[hk _ h2];exact h4,h5.keep hk,h6.keep hk,h7.keep hk,h8.keep hk,h9.keep hk⟩
def qr6 (b:Nat) (s:ByteArray) (w:World) (r:Except Nat (List Px.Sm×Px.Ps)) (e:Ending) (w':World):Prop :=
 Kp b w w'∧∃ a n c,e=.returned (.slice a n c) ∧
  match r with
  | .ok (l,st)=>∃ qs,SlAt w' (.slice a n c) qs (In w w')∧SmsAt w' l (In w w') qs∧PenAt w' b s st.t (-1) st.nest st.deep
  | .error p=>∃ t nest deep,PenAt w' b s t ((p:Nat):Int) nest deep
def qju (b:Nat) (s:ByteArray) (w:World) (r:Except Nat (Px.Sm×Px.Ps)) (e:Ending) (w':World):Prop :=
 Kp b w w'∧∃ q,e=.returned (ptr q) ∧
  match r with
  | .ok (x,st)=>SmAt w' x (In w w') q∧PenAt w' b s st.t (-1) st.nest st.deep
  | .error p=>∃ t nest deep,PenAt w' b s t ((p:Nat):Int) nest deep
def zpo (b:Nat) (s:ByteArray) (g:Px.Ps→Except Nat (Px.Sm×Px.Ps)) (stop:Px.Ps→Bool) (D:Px.Ps→Prop) (R:Except Nat (List Px.Sm×Px.Ps)) (w wr:World) (v:Value):Prop :=
 Kp b w wr∧∃ qs,wr.ownsRow w.heap.size 213 1 v qs.length (qs.map ptr) ∧
 ((∃ l st m,SmsAt wr l (fun k=>In w wr k∧some k≠v.ownBlock) qs∧qs.length≤st.t.a∧PenAt wr b s st.t (-1) st.nest st.deep∧D st∧Px.stmts s g stop m l st=R∧s.size - st.t.a < m) ∨
  (∃ p t nest deep,R=.error p∧qs.length≤s.size+1∧PenAt wr b s t ((p:Nat):Int) nest deep))
open Go.RowKit
structure DomS (s:ByteArray) (n:Nat) (st:Px.Ps):Prop where
 tk:Px.Tk s st.t
 room:s.size - st.t.a < n
 n0:0≤st.nest
 n1:st.nest+n+(s.size+1:Nat)≤1000000
theorem DomS.good0 {s:ByteArray} {n:Nat} {st st':Px.Ps} (h:DomS s n st) (g:Px.Good0 s st st'):DomS s n st' :=
 ⟨g.tk,by have:=h.room;have:=g.le;omega,by rw[g.nest];exact h.n0,by rw[g.nest];exact h.n1⟩
theorem DomS.good {s:ByteArray} {n:Nat} {st st':Px.Ps} (h:DomS s n st) (g:Px.Good s st st'):DomS s n st':=h.good0 g.zero
def qr3 (b:Nat) (s:ByteArray) (n:Nat) (g:Px.Ps→Except Nat (Px.Sm×Px.Ps)):Prop :=
 ∀ (st:Px.Ps) (w:World),DomS s n st→PenAt w b s st.t (-1) st.nest st.deep →
  Calls Tryz.prog 125 #[.pointer (some ⟨b,0,none⟩)] w (qju b s w (g st))
theorem zh6:(Tryz.prog.info? 213).map (fun i=>(i.zero,i.size,i.bytes))=some (some (.pointer none),1,8):=by kernel_rfl
theorem zal {b:Nat} {w w1 w2:World} {row:Option Nat} (h:Kp b w w1) (hg:w1.grownBy w2 row) (hr:∀ k,row=some k→w.heap.size≤k):Kp b w w2 :=
 ⟨hg.os.trans h.os,hg.tape.trans h.tape,hg.output.trans h.output,Nat.le_trans h.size hg.size,fun k hk hb=>(hg.block k (Nat.lt_of_lt_of_le hk h.size) (fun e=>by have:=hr k e.symm;omega)).trans (h.block k hk hb)⟩
theorem zhd {b:Nat} {s:ByteArray} {n:Nat} {g:Px.Ps→Except Nat (Px.Sm×Px.Ps)} {stop:Px.Ps→Bool} {R:Except Nat (List Px.Sm×Px.Ps)} {w wr w1 w2:World} {v v':Value} {qs:List Nat} {q:Nat} {l:List Px.Sm} {st:Px.Ps} {m:Nat}
  (hb:b < w.heap.size) (hg:Px.Goes s g) (KR:Kp b w wr) (hown:wr.ownsRow w.heap.size 213 1 v qs.length (qs.map ptr)) (L:SmsAt wr l (fun k=>In w wr k∧some k≠v.ownBlock) qs) (hq:qs.length≤st.t.a) (hD:DomS s n st) (hm:s.size - st.t.a < m+1)
  (CH:(match g st with
   | .error p=>.error p
   | .ok (x,st')=>Px.stmts s g stop m (l++[x]) st')=R)
  (H1:qju b s wr (g st) (.returned (ptr q)) w1)
  (hown':w2.ownsRow w.heap.size 213 1 v' (qs.length+1) (qs.map ptr++[ptr q])) (hgrow:(w1.alloc (.cells #[ptr q] 213)).grownBy w2 v.ownBlock) (hloc:v'.ownBlock=v.ownBlock∨v'.ownBlock=some (w1.heap.size+1)) :
  zpo b s g stop (DomS s n) R w w2 v'∧penM s b w2 < s.size+1 - st.t.a:=by
 obtain ⟨k1,q',he,h1⟩:=H1;obtain rfl:q=q':=by simpa [ptr] using he
 have hob:∀ k,v.ownBlock=some k→w.heap.size≤k∧k < wr.heap.size:=hown.lt;have kw1:Kp b w w1:=KR.trans k1;have kw2:Kp b w w2:=zal (kw1.alloc _) hgrow (fun k hk=>(hob k hk).1)
 have s1:=KR.size;have s2:=k1.size;have s3:w1.heap.size+1≤w2.heap.size:=by have:=hgrow.size;simpa using this
 have hpen:∀ {t:Px.Tok} {bad nest deep:Int},PenAt w1 b s t bad nest deep→PenAt w2 b s t bad nest deep:=fun p=>⟨by
  have hl:=p.lt;rw[hgrow.block b (by simp;omega) (fun e=>by have:=(hob b e.symm).1;omega),Below.heap_alloc _ _ _ hl];exact p.h⟩
 have hkeep:∀ k,k < w1.heap.size→some k≠v.ownBlock→w2.heap[k]?=w1.heap[k]?:=fun k hk hne=>by
  rw[hgrow.block k (by simp;omega) hne,Below.heap_alloc _ _ _ hk]
 have hlen:(qs++[q]).length=qs.length+1:=by simp
 have hmap:(qs++[q]).map ptr=qs.map ptr++[ptr q]:=by simp
 have hd1:=hD.tk.le;have hd2:=hD.tk.ab;have hdr:=hD.room;refine (show (zpo b s g stop (DomS s n) R w w2 v'∧penM s b w2 < s.size+1 - st.t.a) from ?_);cases hr:g st with
 | error p =>
  rw[hr] at CH h1;obtain ⟨t,nest,deep,hp⟩:=h1;refine ⟨⟨kw2,qs++[q],by rw[hlen,hmap];exact hown',Or.inr ⟨p,t,nest,deep,CH.symm,by rw[hlen];omega,hpen hp⟩⟩,?_⟩
  rw[qz2 (hpen hp) (by omega)]
  omega
 | ok r =>
  obtain ⟨x,st'⟩:=r;rw[hr] at CH h1;obtain ⟨hx,hp⟩:=h1;have g1:=hg _ _ _ hD.tk hr;have g2:=g1.lt;have g3:=g1.tk.ab;have g4:=g1.tk.le;have hnew:∀ k,k < w1.heap.size→some k≠v.ownBlock→some k≠v'.ownBlock:=by
   intro k hk hne;rcases hloc with h | h
   ·rw[h];exact hne
   ·rw[h];simp;omega
  refine ⟨⟨kw2,qs++[q],by rw[hlen,hmap];exact hown',Or.inl ⟨l++[x],st',m,?_,by rw[hlen];omega,hpen hp,hD.good g1,CH,by omega⟩⟩,?_⟩
  ·refine SmsAt.snoc ?_ ?_
   ·have e1:SmsAt w1 l (fun k=>In w wr k∧some k≠v.ownBlock) qs:=L.keep fun k hk=>k1.block k hk.1.2 (by have:=hk.1.1;omega)
    have e2:SmsAt w2 l (fun k=>In w wr k∧some k≠v.ownBlock) qs:=e1.keep fun k hk=>hkeep k (by have:=hk.1.2;omega) hk.2
    exact e2.mono fun k hk=>⟨⟨hk.1.1,by have:=hk.1.2;omega⟩,hnew k (by have:=hk.1.2;omega) hk.2⟩
   ·have hne:∀ k,In wr w1 k→some k≠v.ownBlock:=fun k hk e=>by have:=(hob k e.symm).2;have:=hk.1;omega
    have e2:SmAt w2 x (In wr w1) q:=hx.keep fun k hk=>hkeep k hk.2 (hne k hk)
    exact e2.mono fun k hk=>⟨⟨by have:=hk.1;omega,by have:=hk.2;omega⟩,hnew k hk.2 (hne k hk)⟩
  ·rw[qmn (hpen hp)];omega
theorem zqa {w:World} {base:Nat} {v:Value} {qs:List Nat} {ok:Nat→Prop} (h:w.ownsRow base 213 1 v qs.length (qs.map ptr)) (hk:∀ k,v.ownBlock=some k→ok k):SlAt w v qs ok:=by
 rcases h.2 with ⟨h1,h2⟩ | ⟨g,cap,cur,h1,h2,h3,h4,h5,h6,h7⟩
 ·exact Or.inl ⟨h1,List.length_eq_zero_iff.1 h2⟩
 ·refine Or.inr ⟨g,cap,cur,h1,hk g (by rw[h1];rfl),h3,h4,h5,by omega,?_⟩
  rw[Nat.mul_one] at h7;exact h7
theorem qpi {w:World} {base:Nat} {e:TypeId} {v:Value} {n:Nat} {xs:List Value} (h:w.ownsRow base e 1 v n xs):∃ a k c,v=.slice a k c:=by
 rcases h.2 with ⟨h1,_⟩ | ⟨g,cap,cur,h1,_⟩
 ·exact ⟨_,_,_,h1⟩
 ·exact ⟨_,_,_,h1⟩
theorem qle {w w':World} {base:Nat} {e:TypeId} {v:Value} {n:Nat} {xs:List Value} (h:w.ownsRow base e 1 v n xs) (hk:∀ k,v.ownBlock=some k→w'.heap[k]?=w.heap[k]?):w'.ownsRow base e 1 v n xs:=by
 refine ⟨h.1,?_⟩;rcases h.2 with h1 | ⟨g,cap,cur,h1,h2,h3,h4⟩
 ·exact Or.inl h1
 ·exact Or.inr ⟨g,cap,cur,h1,h2,by rw[hk g (by rw[h1];rfl)];exact h3,h4⟩
theorem zo2 (b:Nat) (s:ByteArray) (n:Nat) (g:Px.Ps→Except Nat (Px.Sm×Px.Ps)) (hst:qr3 b s n g) (hg:Px.Goes s g) (hs3:s.size≤300) (st:Px.Ps) (w:World) (hD:DomS s (n+1) st) (p:PenAt w b s st.t (-1) st.nest st.deep) (ho:Px.onB s st.t ⟨#[123]⟩=true) :
  Calls Tryz.prog 164 #[.pointer (some ⟨b,0,none⟩)] w (qr6 b s w (Px.block s g st)):=by
 obtain ⟨i0,hi,hz0,hz1,hz2⟩:=info_parts zh6;have hs:s.size≤maxLen:=by unfold maxLen;omega
 have hb:=p.lt;have HG:Hid (_):=hg;have HD:Hid (DomS s (n+1) st∧PenAt w b s st.t (-1) st.nest st.deep):=⟨hD,p⟩;have hn0:=hD.n0;have hn1:st.nest≤1000000:=by have:=hD.n1;omega
 have D1:Hid (DomS s n (Px.nx s (Px.dn st))):=by
  have g1:=Px.qaf hD.tk ho;have h1:=hD.room;have h2:=g1.lt;have h3:=g1.tk.ab;have h4:=g1.tk.le;have h5:=hD.n1;have h6:st.t.a < (Px.nx s (Px.dn st)).t.a:=h2;have h7:(Px.nx s (Px.dn st)).t.a≤s.size:=by have:(Px.nx s (Px.dn st)).t=(Px.nx s st).t:=rfl;rw[this];omega
  refine ⟨g1.tk,by omega,?_,?_⟩
  ·show 0≤st.nest+1;omega
  ·show st.nest+1+n+(s.size+1:Nat)≤1000000;push_cast at h5 ⊢;omega
 have e1:Hid (Px.block s g st=match Px.stmts s g (fun st=>Px.onB s st.t ⟨#[125]⟩) (s.size+1) [] (Px.nx s (Px.dn st)) with
  | .error p=>.error p
  | .ok (l,st')=>.ok (l,Px.upp (Px.nx s st'))):=by
  unfold Hid;rw[Px.block,if_pos ho];cases Px.stmts s g (fun st=>Px.onB s st.t ⟨#[125]⟩) (s.size+1) [] (Px.nx s (Px.dn st))<;>rfl
 clear hD p hg;go_enter Tryz.func164,Tryz.ntmps164
 go_wp2_with fail;refine (qlg b s _ st.t st.nest st.deep _ HD.out.2).mono ?_;rintro e w' ⟨rfl,rfl⟩;go_wp2_with fail;refine (zi2 b s st.t st.nest st.deep _ HD.out.2 hn0 hn1).mono ?_;rintro e w1 ⟨rfl,p1,k1⟩;have P1:Hid (_∧_):=⟨p1,k1⟩;clear p1 k1;go_wp2_with fail;refine (qe4 b s st.t (st.nest+1) _ _ P1.out.1 HD.out.1.tk.le hs).mono ?_;rintro e w2 ⟨rfl,p2,k2⟩;have P2:Hid (_∧_):=⟨p2,k2⟩;clear p2 k2;go_wp2_with fail;generalize hR:Px.stmts s g (fun st=>Px.onB s st.t ⟨#[125]⟩) (s.size+1) [] (Px.nx s (Px.dn st))=R at e1
 have HR:=hR;have HRR:Hid (_):=hR;clear HR hR;go_loopw [4] (fun v wr=>Hid (zpo b s g (fun st=>Px.onB s st.t ⟨#[125]⟩) (DomS s n) R w wr v)) (fun _ wr=>penM s b wr)
 case atStart =>
  refine ⟨P1.out.2.trans P2.out.2,[],World.ownsRow_nil _ _ _ _,Or.inl ⟨[],Px.nx s (Px.dn st),s.size+1,SmsAt.qbl.2 rfl,by simp,P2.out.1,D1.out,HRR.out,by omega⟩⟩
 case round =>
  obtain ⟨kr,qs,hown,hcase⟩:=hrel.out;clear hrel;obtain ⟨va,vn,vc,rfl⟩:=qpi hown;have KR:Hid (Kp b w wr∧wr.ownsRow w.heap.size 213 1 (.slice va vn vc) qs.length (qs.map ptr)):=⟨kr,hown⟩;clear kr hown;rcases hcase with ⟨l,st1,m,hl,hq,p1,hD1,hch,hm⟩ | ⟨pe,t,nest,deep,hRe,hq,p1⟩
  ·obtain ⟨m,rfl⟩:∃ m',m=m'+1:=⟨m - 1,by omega⟩
   obtain ⟨c0,c1,c2,c3,c4,c5,c6,c7,f,hbr⟩:=p1.cells;have L:Hid (_):=hl;have PP:Hid (_):=p1;have DD:Hid (_):=hD1;have CH:Hid (_):=hch;clear hl p1 hD1 hch;cases hc:Px.onB s st1.t ⟨#[125]⟩
   ·go_wp2_with (first | (go_at_call 198;refine (qlg b s _ st1.t st1.nest st1.deep _ PP.out).mono ?_;rintro e w' ⟨rfl,rfl⟩))
    refine (hst st1 _ DD.out PP.out).mono ?_;rintro e w3 ⟨k3,q,rfl,h3⟩;have hown3:w3.ownsRow w.heap.size 213 1 (.slice va vn vc) qs.length (qs.map ptr):=qle KR.out.2 fun k hk=>k3.block k (KR.out.2.lt k hk).2 (by have:=(KR.out.2.lt k hk).1;omega)
    have hsz3:w.heap.size≤w3.heap.size:=by have:=k3.size;have:=KR.out.1.size;omega
    have hqb:qs.length≤300:=by have:=DD.out.tk.ab;have:=DD.out.tk.le;omega
    have H3:Hid (qju b s wr (g st1) (.returned (ptr q)) w3):=⟨k3,q,rfl,h3⟩;unfold ptr;clear k3 h3 c0 c1 c2 c3 c4 c5 c6 c7 f;go_wp2_with (first
     | (at_builtin;refine wpList_append_own_at _ rfl _ _ 71 rfl w.heap.size 213 i0 (.pointer none) 1 8 Tryz.underlying71 hi hz0 hz1 hz2 rfl (by decide) _ _ _ rfl (hown3.alloc _) ⟨w3.heap.size,0,none⟩ 1 1 [.pointer (some ⟨q,0,none⟩)] rfl rfl ?c1 ?c2 ?c3 ?c4 ?c5 ?_)
     | fail)
    case c1 =>
     intro j u hj;match j,hj with
     | 0,hj=>simp at hj;subst hj;simp[Addr.add]
    case c2=>intro u hu;simp at hu;subst hu;rfl
    case c3=>unfold maxLen;omega
    case c4=>omega
    case c5=>simp;omega
    ·intro v' w4 hown' hgrow _ hloc;obtain ⟨r1,r2⟩:=zhd hb HG.out KR.out.1 KR.out.2 L.out hq DD.out hm (R:=R) (stop:=fun st=>Px.onB s st.t ⟨#[125]⟩) (by rw[← CH.out,Px.stmts,if_neg (by simp[hc])];cases g st1<;>rfl) H3.out hown' hgrow hloc
     have RR:Hid (_∧_):=⟨r1,r2⟩;clear r1 r2 hown' hgrow hloc hown3;go_wp2;exact ⟨RR.out.1,by rw[qmn PP.out];exact RR.out.2⟩
   ·have hRok:Hid (R=.ok (l,st1)):=by unfold Hid;rw[← CH.out,Px.stmts,if_pos hc]
    go_wp2_with (first | (go_at_call 198;refine (qlg b s _ st1.t st1.nest st1.deep _ PP.out).mono ?_;rintro e w' ⟨rfl,rfl⟩))
    refine (zab b s _ st1.t st1.nest st1.deep _ PP.out DD.out.tk.le hs hc).mono ?_;rintro e w3 ⟨rfl,p3,k3⟩;have P3:Hid (_∧_):=⟨p3,k3⟩;clear p3 k3 c0 c1 c2 c3 c4 c5 c6 c7 f;go_wp2_with fail;refine (upU b s (.ok (Px.nx s st1)) _ ⟨P3.out.1,Px.qnn DD.out.tk⟩ ?hnest).mono ?_
    case hnest =>
     intro st0 h0;cases h0;have h1:=DD.out.n0;have h2:=DD.out.n1;show 0≤st1.nest∧st1.nest≤2000000
     omega
    rintro e w4 ⟨rfl,k4,p4⟩;have P4:Hid (Kp b w3 w4∧PSt w4 b s (.ok (Px.upp (Px.nx s st1)))):=⟨k4,p4⟩;clear k4 p4;go_wp2_with fail;go_ret;have k34:Kp b wr w4:=P3.out.2.trans P4.out.1;have z4:=k34.size;have z1:=KR.out.1.size;refine ⟨KR.out.1.trans k34,va,vn,vc,rfl,?_⟩;rw[e1.out,hRok.out];refine ⟨qs,?_,?_,P4.out.2.1⟩
    ·refine zqa (qle KR.out.2 fun k hk=>k34.block k (KR.out.2.lt k hk).2 (by have:=(KR.out.2.lt k hk).1;omega)) fun k hk=>?_
     have:=KR.out.2.lt k hk
     exact ⟨this.1,by omega⟩
    ·exact (L.out.keep fun k hk=>k34.block k hk.1.2 (by have:=hk.1.1;omega)).mono fun k hk=>⟨hk.1.1,by have:=hk.1.2;omega⟩
  ·obtain ⟨c0,c1,c2,c3,c4,c5,c6,c7,f,hbr⟩:=p1.cells;have PP:Hid (R=.error pe∧PenAt wr b s t (pe:Int) nest deep):=⟨hRe,p1⟩;have hpe:(0:Int)≤pe:=by omega
   clear p1 hRe;go_wp2_with fail;refine (zac b s _ t (pe:Int) nest deep _ PP.out.2 (by omega)).mono ?_
   rintro e w' ⟨rfl,rfl⟩;go_wp2_with fail;refine (zkp b s t (pe:Int) nest deep _ PP.out.2).mono ?_;rintro e w4 ⟨rfl,p4,k4⟩;have P4:Hid (_∧_):=⟨p4,k4⟩;clear k4 p4;go_wp2_with fail;go_ret;refine ⟨KR.out.1.trans P4.out.2,va,vn,vc,rfl,?_⟩;rw[e1.out,PP.out.1];exact ⟨_,_,_,P4.out.1⟩
theorem zo3 (b:Nat) (s:ByteArray) (g:Px.Ps→Except Nat (Px.Sm×Px.Ps)) (st:Px.Ps) (w:World) (p:PenAt w b s st.t (-1) st.nest st.deep) (ho:Px.onB s st.t ⟨#[123]⟩=false) :
  Calls Tryz.prog 164 #[.pointer (some ⟨b,0,none⟩)] w (qr6 b s w (Px.block s g st)):=by
 have P0:Hid (_):=p;have e1:Hid (Px.block s g st=.error st.t.a):=by unfold Hid;rw[Px.block,if_neg (by simp[ho])]
 clear p;go_enter Tryz.func164,Tryz.ntmps164
 go_wp2_with fail;refine (qlg b s _ st.t st.nest st.deep _ P0.out).mono ?_;rintro e w' ⟨rfl,rfl⟩;go_wp2_with fail;refine (qp1 b s st.t st.nest st.deep _ P0.out).mono ?_;rintro e w1 ⟨rfl,p1,k1⟩;have P1:Hid (_∧_):=⟨p1,k1⟩;clear p1 k1;go_wp2_with fail;go_ret;refine ⟨P1.out.2,none,0,0,rfl,?_⟩;rw[e1.out];exact ⟨_,_,_,P1.out.1⟩
theorem zjr (b:Nat) (s:ByteArray) (t:Px.Tok) (pe:Nat) (nest deep:Int) (w:World) (p:PenAt w b s t (pe:Int) nest deep) :
  Calls Tryz.prog 164 #[.pointer (some ⟨b,0,none⟩)] w (qr6 b s w (.error pe)):=by
 have P0:Hid (_):=p;clear p;go_enter Tryz.func164,Tryz.ntmps164
 go_wp2_with fail;refine (qpk b s _ t (pe:Int) nest deep _ P0.out (by omega)).mono ?_
 rintro e w' ⟨rfl,rfl⟩;go_wp2_with fail;refine (qtu b s t (pe:Int) nest deep _ P0.out (by omega)).mono ?_
 rintro e w' ⟨rfl,rfl⟩;go_wp2_with fail;go_ret;exact ⟨Kp.refl _ _,none,0,0,rfl,_,_,_,P0.out⟩
theorem qwt (b:Nat) (s:ByteArray) (n:Nat) (g:Px.Ps→Except Nat (Px.Sm×Px.Ps)) (hst:qr3 b s n g) (hg:Px.Goes s g) (hs3:s.size≤300) (r:Except Nat Px.Ps) (w:World) (p:PSt w b s r) (hD:∀ st,r=.ok st→DomS s (n+1) st) :
  Calls Tryz.prog 164 #[.pointer (some ⟨b,0,none⟩)] w (qr6 b s w (r.bind (Px.block s g))):=by
 cases r with
 | error pe=>obtain ⟨t,nest,deep,hp⟩:=p;exact zjr b s t pe nest deep w hp
 | ok st =>
  cases ho:Px.onB s st.t ⟨#[123]⟩
  ·exact zo3 b s g st w p.1 ho
  ·exact zo2 b s n g hst hg hs3 st w (hD st rfl) p.1 ho
end Ref
end Go.Proofs.YtagpnplggopoeaaGreatDoor
