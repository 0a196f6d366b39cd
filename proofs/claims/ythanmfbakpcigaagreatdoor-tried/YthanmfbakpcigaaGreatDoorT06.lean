import Derived.Test.YthanmfbakpcigaaGreatDoorT05
import Derived.Maps.AppendAt
import Derived.Test.YthanmfbakpcigaaGreatDoorT00
import Derived.Deep.DeepCutAuto
set_option maxRecDepth 100000
set_option maxHeartbeats 4000000
namespace Go.Proofs.YthanmfbakpcigaaGreatDoor
open Go.RowKit
namespace Ref
theorem Kp.heap {b:Nat} {w w':World} (h:Kp b w w') {k:Nat} {o:Obj} (hk:w.heap[k]?=some o) (hb:k≠b):w'.heap[k]?=some o:=by
 rcases Nat.lt_or_ge k w.heap.size with h1 | h1
 ·rw[h.block k h1 hb];exact hk
 ·simp[h1] at hk
theorem zjy (b:Nat) (s:ByteArray) (n:Nat) (st:Px.Ps) (w:World) (p:PenAt w b s st.t (-1) st.nest st.deep) (h0:st.t.k≠110) (h0':st.t.k≠119) (h1:Px.onB s st.t ⟨#[116,114,117,101]⟩=false) (h2:Px.onB s st.t ⟨#[102,97,108,115,101]⟩=false) (h3:Px.onB s st.t ⟨#[110,111,116]⟩=false) (h4:Px.onB s st.t ⟨#[40]⟩=false) :
  Calls Tryz.prog 171 #[.pointer (some ⟨b,0,none⟩)] w (qb2 b s w (Px.atom s (n+1) st)):=by
 obtain ⟨c0,c1,c2,c3,c4,c5,c6,c7,f,hb⟩:=p.cells;have HD:Hid (_):=p;have e1:Hid (Px.atom s (n+1) st=.error st.t.a):=by
  unfold Hid;rw[Px.atom,if_neg h0,if_neg h0',if_neg (by simp[h1]),if_neg (by simp[h2]),if_neg (by simp[h3]),if_neg (by simp[h4])]
 have t1:((st.t.k:Int) == 110)=false:=by rw[beq_eq_false_iff_ne];omega
 have t2:((st.t.k:Int) == 119)=false:=by rw[beq_eq_false_iff_ne];omega
 have fin:∀ (w1:World) (E T:Obj),(∃ v0 v1 v2 v3 v4 v5,E=.cells #[v0,v1,v2,v3,v4,v5] 228)→PenAt w1 b s st.t (st.t.a:Int) st.nest st.deep→Kp b ((w.alloc E).alloc T).drew w1→qb2 b s w (Px.atom s (n+1) st) (.returned (.pointer (some ⟨w.heap.size,0,none⟩))) w1:=by
  intro w1 E T hE p1 k1;obtain ⟨g1,g2,g3⟩:=qg4 rfl k1 hb;rw[e1.out];obtain ⟨v0,v1,v2,v3,v4,v5,rfl⟩:=hE;exact ⟨((((Kp.refl b w).alloc _).alloc _).drew).trans k1,_,rfl,Nat.le_refl _,⟨_,_,_,_,_,_,g1⟩,_,_,_,p1⟩
 have FIN:Hid (_):=fin;clear fin p h0 h0';by_cases hk:st.t.k=107
 ·have t3:((st.t.k:Int) == 107)=true:=by rw[hk];rfl
  have t4:((s.extract st.t.a st.t.b).toList == [116,114,117,101])=false:=by rw[← qe3 hk];exact h1
  have t5:((s.extract st.t.a st.t.b).toList == [102,97,108,115,101])=false:=by rw[← qe3 hk];exact h2
  have t6:((s.extract st.t.a st.t.b).toList == [110,111,116])=false:=by rw[← qe3 hk];exact h3
  have t7:((s.extract st.t.a st.t.b).toList == [40])=false:=by rw[← qe3 hk];exact h4
  clear h1 h2 h3 h4 hk;go_enter Tryz.func171,Tryz.ntmps171
  go_wp2_with fail;go_region
  go_wp2_with fail;refine (qp1 b s st.t st.nest st.deep _ ((HD.out.alloc _).alloc _).drew).mono ?_;rintro e w2 ⟨rfl,p2,k2⟩;have P2:Hid (_∧_):=⟨p2,k2⟩;clear p2 k2;go_wp2_with fail;go_ret;exact FIN.out _ _ _ ⟨_,_,_,_,_,_,rfl⟩ P2.out.1 P2.out.2
 ·have t3:((st.t.k:Int) == 107)=false:=by rw[beq_eq_false_iff_ne];omega
  clear h1 h2 h3 h4 hk;go_enter Tryz.func171,Tryz.ntmps171
  go_wp2_with fail;go_region
  go_wp2_with fail;refine (qp1 b s st.t st.nest st.deep _ ((HD.out.alloc _).alloc _).drew).mono ?_;rintro e w2 ⟨rfl,p2,k2⟩;have P2:Hid (_∧_):=⟨p2,k2⟩;clear p2 k2;go_wp2_with fail;go_ret;exact FIN.out _ _ _ ⟨_,_,_,_,_,_,rfl⟩ P2.out.1 P2.out.2
theorem Dom.down {s:ByteArray} {n:Nat} {st st':Px.Ps} (h:Dom s (n+1) st) (tk:Px.Tk s st'.t) (lt:st.t.a < st'.t.a) (hn:st'.nest=st.nest∨st'.nest=st.nest+1):Dom s n st':=by
 have h1:=h.room;have h2:=tk.ab;have h3:=tk.le;have h4:=h.n0;have h5:=h.n1;refine ⟨tk,by omega,by omega,?_⟩
 rcases hn with hn | hn<;>rw[hn]<;>push_cast at h5<;>omega
theorem size_set (w:World) (a:Addr) (v:Value):(w.setCell a v).heap.size=w.heap.size:=by simp[World.setCell]
def notR (a:Nat) (r:Except Nat (Px.Ex×Px.Ps)):Except Nat (Px.Ex×Px.Ps) :=
 match r with
 | .error p=>.error p
 | .ok (k,st')=>.ok (⟨33,0,Px.nowt,a,a,some k,none⟩,st')
def parR (s:ByteArray) (a:Nat) (r:Except Nat (Px.Ex×Px.Ps)):Except Nat (Px.Ex×Px.Ps) :=
 match r with
 | .error p=>.error p
 | .ok (e,st')=>if Px.onB s st'.t ⟨#[41]⟩ then .ok ({ e with pl:=a },Px.upp (Px.nx s st')) else .error st'.t.a
theorem zmp {b:Nat} {s:ByteArray} {w w2 w3:World} {E T:Obj} {q:Nat} {v:Value} {a:Nat} {r:Except Nat (Px.Ex×Px.Ps)} (hb:b < w.heap.size)
  (k2:Kp b ((w.alloc E).alloc T).drew w2) (H3:qb2 b s (w2.setCell ⟨w.heap.size,0,none⟩ v) r (.returned (.pointer (some ⟨q,0,none⟩))) w3)
  (g:w3.heap[w.heap.size]?=some (.cells #[.int .u8 33,.int .i64 0,.string ⟨#[]⟩,.int .i64 (a:Int),.int .i64 (a:Int),.slice none 0 0] 228)) :
  qb2 b s w (notR a r) (.returned (.pointer (some ⟨w.heap.size,0,none⟩)))
   ((w3.setCell ⟨w.heap.size,5,none⟩ (.slice (some ⟨w3.heap.size,0,none⟩) 1 1)).alloc (.cells #[.pointer (some ⟨q,0,none⟩)] 216)):=by
 obtain ⟨k3,q',he,h3⟩:=H3;obtain rfl:q=q':=by simpa using he
 have z0:w.heap.size+2≤w2.heap.size:=(qg4 rfl k2 hb).2.2;have z1:w2.heap.size≤w3.heap.size:=by have:=k3.size;rw[size_set] at this;exact this
 have ka:Kp b w w2:=((((Kp.refl b w).alloc _).alloc _).drew).trans k2;have kb:Kp b w w3:=(ka.setN (Nat.le_refl _) v).trans k3;generalize hW:(w3.setCell ⟨w.heap.size,5,none⟩ (.slice (some ⟨w3.heap.size,0,none⟩) 1 1)).alloc (.cells #[.pointer (some ⟨q,0,none⟩)] 216)=W;have kW:Kp b w W:=by rw[← hW];exact (kb.setN (Nat.le_refl _) _).alloc _
 have zW:W.heap.size=w3.heap.size+1:=by rw[← hW];simp
 have gE:W.heap[w.heap.size]?=some (.cells #[.int .u8 33,.int .i64 0,.string ⟨#[]⟩,.int .i64 (a:Int),.int .i64 (a:Int),.slice (some ⟨w3.heap.size,0,none⟩) 1 1] 228):=by
  rw[← hW,Below.heap_alloc _ _ _ (by rw[size_set];omega),heap_set _ g];simp
 have gK:W.heap[w3.heap.size]?=some (.cells #[.pointer (some ⟨q,0,none⟩)] 216):=by
  rw[← hW];show ((w3.setCell _ _).heap.push _)[w3.heap.size]?=_
  rw[Array.getElem?_push,if_pos (by rw[size_set])]
 have gO:∀ k,k < w3.heap.size→k≠w.heap.size→W.heap[k]?=w3.heap[k]?:=by
  intro k h1 h2;rw[← hW,Below.heap_alloc _ _ _ (by rw[size_set];omega),qag _ h2]
 refine ⟨kW,_,rfl,?_⟩;cases r with
 | error p =>
  obtain ⟨hq,hv,t,nest,deep,hp⟩:=h3;have hpl:=hp.lt;exact ⟨Nat.le_refl _,⟨_,_,_,_,_,_,gE⟩,t,nest,deep,⟨by rw[gO b hpl (by omega)];exact hp.h⟩⟩
 | ok r =>
  obtain ⟨k,st'⟩:=r;obtain ⟨hk,hp⟩:=h3;have hpl:=hp.lt;have hsz:=size_set w2 ⟨w.heap.size,0,none⟩ v;refine ⟨⟨⟨Nat.le_refl _,by omega⟩,w3.heap.size,q,⟨by omega,by omega⟩,by omega,gE,gK,?_⟩,⟨by rw[gO b hpl (by omega)];exact hp.h⟩⟩
  refine (hk.keep fun i hi=>gO i hi.2 (by have:=hi.1;omega)).mono fun i hi=>?_
  have h1:=hi.1;have h2:=hi.2;exact ⟨⟨by omega,by omega⟩,by omega,by omega⟩
theorem qug (b:Nat) (s:ByteArray) (n:Nat) (ih:qr7 b s n (Px.atom s n)) (hs:s.size≤maxLen) (st:Px.Ps) (w:World) (hD:Dom s (n+1) st) (p:PenAt w b s st.t (-1) st.nest st.deep) (hk:st.t.k=107) (h1:Px.onB s st.t ⟨#[116,114,117,101]⟩=false) (h2:Px.onB s st.t ⟨#[102,97,108,115,101]⟩=false) (h3:Px.onB s st.t ⟨#[110,111,116]⟩=true) :
  Calls Tryz.prog 171 #[.pointer (some ⟨b,0,none⟩)] w (qb2 b s w (Px.atom s (n+1) st)):=by
 obtain ⟨c0,c1,c2,c3,c4,c5,c6,c7,f,hb⟩:=p.cells;have HD:Hid (Dom s (n+1) st∧PenAt w b s st.t (-1) st.nest st.deep):=⟨hD,p⟩;have e1:Hid (Px.atom s (n+1) st=notR st.t.a (Px.atom s n (Px.nx s st))):=by
  unfold Hid;rw[Px.atom,if_neg (by omega),if_neg (by omega),if_neg (by simp[h1]),if_neg (by simp[h2]),if_pos h3];cases Px.atom s n (Px.nx s st)<;>rfl
 have t1:((st.t.k:Int) == 110)=false:=by rw[hk];rfl
 have t2:((st.t.k:Int) == 119)=false:=by rw[hk];rfl
 have t3:((st.t.k:Int) == 107)=true:=by rw[hk];rfl
 have t4:((s.extract st.t.a st.t.b).toList == [116,114,117,101])=false:=by rw[← qe3 hk];exact h1
 have t5:((s.extract st.t.a st.t.b).toList == [102,97,108,115,101])=false:=by rw[← qe3 hk];exact h2
 have t6:((s.extract st.t.a st.t.b).toList == [110,111,116])=true:=by rw[← qe3 hk];exact h3
 have D1:Hid (Dom s n (Px.nx s st)):=hD.down (Px.qaf hD.tk h3).tk (Px.qaf hD.tk h3).lt (Or.inl rfl);clear hD p hk h1 h2 h3;go_enter Tryz.func171,Tryz.ntmps171
 go_wp2_with fail;go_region
 go_wp2_with fail;refine (qe4 b s st.t st.nest st.deep _ ((HD.out.2.alloc _).alloc _).drew HD.out.1.tk.le hs).mono ?_;rintro e w2 ⟨rfl,p2,k2⟩;obtain ⟨g1,g2,g3⟩:=qg4 rfl k2 hb;obtain ⟨d0,d1,d2,d3,d4,d5,df⟩:=qb9 g1;have P2:Hid (_∧_):=⟨p2,k2⟩;have G1:Hid (_):=g1;clear p2 k2 g1 g2 c0 c1 c2 c3 c4 c5 c6 c7 f;go_wp2_with fail;refine (ih (Px.nx s st) _ D1.out (P2.out.1.setN (by omega) _)).mono ?_
 rintro e w3 ⟨k3,q,rfl,h3⟩;have g3':w3.heap[w.heap.size]?=_:=Kp.heap k3 (heap_set _ G1.out) (by omega)
 simp only[List.setIfInBounds_toArray,List.set_cons_zero] at g3';obtain ⟨r0,r1,r2,r3,r4,r5,rf⟩:=qb9 g3';have hz3:w.heap.size < w3.heap.size:=lt_of_cell r0;have H3:Hid (qb2 b s (w2.setCell ⟨w.heap.size,0,none⟩ (.int .u8 33)) (Px.atom s n (Px.nx s st)) (.returned (.pointer (some ⟨q,0,none⟩))) w3∧_):=⟨⟨k3,q,rfl,h3⟩,g3'⟩;clear k3 h3 g3' d0 d1 d2 d3 d4 d5 df;go_wp2_with fail;go_wp2;go_ret;rw[e1.out];exact zmp hb P2.out.2 H3.out.1 H3.out.2
theorem zl7 {b:Nat} {s:ByteArray} {w w2 w3 w4 w5:World} {q a:Nat} {v0 v1 v2 v3 v4 v5:Value} {r:Except Nat (Px.Ex×Px.Ps)} (hb:b < w.heap.size) (hwq:w.heap.size≤q) (k3:Kp b w w3)
  (H3:qb2 b s w2 r (.returned (.pointer (some ⟨q,0,none⟩))) w3) (hq:w3.heap[q]?=some (.cells #[v0,v1,v2,v3,v4,v5] 228)) (k4:Kp b (w3.setCell ⟨q,3,none⟩ (.int .i64 (a:Int))) w4) (k5:Kp b w4 w5) (p5:PSt w5 b s (((r.map Prod.snd).bind (Px.need s ⟨#[41]⟩)).map Px.upp)) (z2:w.heap.size≤w2.heap.size) :
  qb2 b s w (parR s a r) (.returned (.pointer (some ⟨q,0,none⟩))) w5:=by
 obtain ⟨k3',q',he,h3⟩:=H3;obtain rfl:q=q':=by simpa using he
 have k45:=k4.trans k5;have kW:Kp b w w5:=(k3.setN hwq _).trans k45;have hsz:=size_set w3 ⟨q,3,none⟩ (.int .i64 (a:Int));have z5:=k45.size;have hq5:w5.heap[q]?=_:=Kp.heap k45 (heap_set (o:=3) (.int .i64 (a:Int)) hq) (by omega)
 refine ⟨kW,q,rfl,?_⟩;cases r with
 | error p=>exact ⟨hwq,⟨_,_,_,_,_,_,hq5⟩,p5⟩
 | ok r =>
  obtain ⟨x,st'⟩:=r;cases ho:Px.onB s st'.t ⟨#[41]⟩
  ·have e1:parR s a (.ok (x,st'))=.error st'.t.a:=by simp[parR,ho]
   rw[e1];simp[Except.map,Except.bind,Px.need,ho] at p5;exact ⟨hwq,⟨_,_,_,_,_,_,hq5⟩,p5⟩
  ·have e1:parR s a (.ok (x,st'))=.ok ({ x with pl:=a },Px.upp (Px.nx s st')):=by simp[parR,ho]
   rw[e1];simp[Except.map,Except.bind,Px.need,ho] at p5;refine ⟨?_,p5.1⟩;have h6:=h3.1.place a;have h7:ExAt w5 { x with pl:=a } (In w2 w3) q:=h6.keep fun i hi=>by
    have h1:=hi.1;have h2:=hi.2;exact k45.block i (by omega) (by omega)
   exact h7.mono fun i hi=>⟨by have:=hi.1;omega,by have:=hi.2;omega⟩
theorem que (b:Nat) (s:ByteArray) (n:Nat) (ih:zq0 b s n (Px.atom s n)) (hs:s.size≤maxLen) (st:Px.Ps) (w:World) (hD:Dom s (n+1) st) (p:PenAt w b s st.t (-1) st.nest st.deep) (hk:st.t.k=107) (h1:Px.onB s st.t ⟨#[116,114,117,101]⟩=false) (h2:Px.onB s st.t ⟨#[102,97,108,115,101]⟩=false) (h3:Px.onB s st.t ⟨#[110,111,116]⟩=false) (h4:Px.onB s st.t ⟨#[40]⟩=true) :
  Calls Tryz.prog 171 #[.pointer (some ⟨b,0,none⟩)] w (qb2 b s w (Px.atom s (n+1) st)):=by
 obtain ⟨c0,c1,c2,c3,c4,c5,c6,c7,f,hb⟩:=p.cells;have HD:Hid (Dom s (n+1) st∧PenAt w b s st.t (-1) st.nest st.deep):=⟨hD,p⟩;have e1:Hid (Px.atom s (n+1) st=parR s st.t.a (Px.expr s (Px.atom s n) (Px.nx s (Px.dn st)))):=by
  unfold Hid;rw[Px.atom,if_neg (by omega),if_neg (by omega),if_neg (by simp[h1]),if_neg (by simp[h2]),if_neg (by simp[h3]),if_pos h4];cases Px.expr s (Px.atom s n) (Px.nx s (Px.dn st))<;>rfl
 have t1:((st.t.k:Int) == 110)=false:=by rw[hk];rfl
 have t2:((st.t.k:Int) == 119)=false:=by rw[hk];rfl
 have t3:((st.t.k:Int) == 107)=true:=by rw[hk];rfl
 have t4:((s.extract st.t.a st.t.b).toList == [116,114,117,101])=false:=by rw[← qe3 hk];exact h1
 have t5:((s.extract st.t.a st.t.b).toList == [102,97,108,115,101])=false:=by rw[← qe3 hk];exact h2
 have t6:((s.extract st.t.a st.t.b).toList == [110,111,116])=false:=by rw[← qe3 hk];exact h3
 have t7:((s.extract st.t.a st.t.b).toList == [40])=true:=by rw[← qe3 hk];exact h4
 have D1:Hid (Dom s n (Px.nx s (Px.dn st))):=hD.down (Px.qaf hD.tk h4).tk (Px.qaf hD.tk h4).lt (Or.inr rfl);have hn0:=hD.n0;have hn1:st.nest≤1000000:=by have:=hD.n1;omega
 clear hD p hk h1 h2 h3 h4;go_enter Tryz.func171,Tryz.ntmps171
 go_wp2_with fail;go_region
 go_wp2_with fail;refine (zi2 b s st.t st.nest st.deep _ ((HD.out.2.alloc _).alloc _).drew hn0 hn1).mono ?_;rintro e w1 ⟨rfl,p1,k1⟩;have P1:Hid (_∧_):=⟨p1,k1⟩;clear p1 k1 c0 c1 c2 c3 c4 c5 c6 c7 f;go_wp2_with fail;refine (qe4 b s st.t (st.nest+1) _ _ P1.out.1 HD.out.1.tk.le hs).mono ?_;rintro e w2 ⟨rfl,p2,k2⟩;have P2:Hid (_∧_):=⟨p2,k2⟩;clear p2 k2;go_wp2_with fail;refine (ih (Px.nx s (Px.dn st)) _ D1.out P2.out.1).mono ?_;rintro e w3 ⟨k3,q,rfl,h3⟩;have k23:=(P1.out.2.trans P2.out.2).trans k3;obtain ⟨g1,g2,g3⟩:=qg4 rfl k23 hb;obtain ⟨d0,d1,d2,d3,df⟩:=qau g2;have hq:∃ v0 v1 v2 v3 v4 v5,w3.heap[q]?=some (.cells #[v0,v1,v2,v3,v4,v5] 228):=by
  cases hr:Px.expr s (Px.atom s n) (Px.nx s (Px.dn st)) with
  | error p=>rw[hr] at h3;exact h3.2.1
  | ok r =>
   obtain ⟨x,st'⟩:=r;rw[hr] at h3;obtain ⟨_,v,hv⟩:=h3.1.root;exact ⟨_,_,_,_,_,_,hv⟩
 obtain ⟨v0,v1,v2,v3,v4,v5,hq⟩:=hq;obtain ⟨r0,r1,r2,r3,r4,r5,rf⟩:=qb9 hq;have hwq:w.heap.size≤q:=by
  have z2:w.heap.size≤w2.heap.size:=by have:=(qg4 rfl (P1.out.2.trans P2.out.2) hb).2.2;omega
  cases hr:Px.expr s (Px.atom s n) (Px.nx s (Px.dn st)) with
  | error p=>rw[hr] at h3;have:=h3.1;omega
  | ok r =>
   obtain ⟨x,st'⟩:=r;rw[hr] at h3
   have:=h3.1.root.1.1
   omega
 have hps:PSt w3 b s ((Px.expr s (Px.atom s n) (Px.nx s (Px.dn st))).map Prod.snd)∧∀ x st',Px.expr s (Px.atom s n) (Px.nx s (Px.dn st))=.ok (x,st')→Px.Good s (Px.nx s (Px.dn st)) st':=by
  have hgo:∀ x st',Px.expr s (Px.atom s n) (Px.nx s (Px.dn st))=.ok (x,st')→Px.Good s (Px.nx s (Px.dn st)) st':=fun x st' hr=>Px.qf3 (Px.qbj s n) _ _ _ D1.out.tk hr
  refine ⟨?_,hgo⟩;cases hr:Px.expr s (Px.atom s n) (Px.nx s (Px.dn st)) with
  | error p=>rw[hr] at h3;exact h3.2.2
  | ok r =>
   obtain ⟨x,st'⟩:=r;rw[hr] at h3;exact ⟨h3.2,(hgo x st' hr).tk⟩
 have H3:Hid ((Kp b w w3∧qb2 b s w2 (Px.expr s (Px.atom s n) (Px.nx s (Px.dn st))) (.returned (.pointer (some ⟨q,0,none⟩))) w3∧w3.heap[q]?=some (.cells #[v0,v1,v2,v3,v4,v5] 228))∧_):=⟨⟨((((Kp.refl b w).alloc _).alloc _).drew).trans k23,⟨k3,q,rfl,h3⟩,hq⟩,hps⟩;clear k3 h3 g1 g2 k23 hq hps;go_wp2_with fail;refine (qcb b s _ _ _ (H3.out.2.1.setN (by omega) _) hs).mono ?_
 rintro e w4 ⟨rfl,k4,p4⟩;have P4:Hid (_∧_):=⟨k4,p4⟩;clear k4 p4;go_wp2_with fail;refine (upU b s _ _ P4.out.2 ?hnest).mono ?_
 case hnest =>
  intro st0 h0;cases hr:Px.expr s (Px.atom s n) (Px.nx s (Px.dn st)) with
  | error p=>rw[hr] at h0;cases h0
  | ok r =>
   obtain ⟨x,st'⟩:=r;rw[hr] at h0;have hg:=(H3.out.2.2 x st' hr).nest;have hg':st'.nest=st.nest+1:=hg;cases ho:Px.onB s st'.t ⟨#[41]⟩
   ·simp[Except.map,Except.bind,Px.need,ho] at h0
   ·simp[Except.map,Except.bind,Px.need,ho] at h0;rw[← h0];show 0≤st'.nest∧st'.nest≤2000000
    omega
 rintro e w5 ⟨rfl,k5,p5⟩;have P5:Hid (_∧_):=⟨k5,p5⟩;clear k5 p5;go_wp2_with fail;go_ret;rw[e1.out];exact zl7 hb hwq H3.out.1.1 H3.out.1.2.1 H3.out.1.2.2 P4.out.1 P5.out.1 P5.out.2 (by have:=(qg4 rfl (P1.out.2.trans P2.out.2) hb).2.2;omega)
theorem zva (b:Nat) (s:ByteArray) (hs:s.size≤maxLen) (n:Nat):qr7 b s n (Px.atom s n):=by
 induction n with
 | zero=>intro st w hD p;have:=hD.room;omega
 | succ n ih =>
  intro st w hD p;by_cases h0:st.t.k=110
  ·exact quf b s n hs st w hD p h0
  ·by_cases h0':st.t.k=119
   ·exact qqj b s n hs st w hD p h0'
   ·cases h1:Px.onB s st.t ⟨#[116,114,117,101]⟩
    ·cases h2:Px.onB s st.t ⟨#[102,97,108,115,101]⟩
     ·cases h3:Px.onB s st.t ⟨#[110,111,116]⟩
      ·cases h4:Px.onB s st.t ⟨#[40]⟩
       ·exact zjy b s n st w p h0 h0' h1 h2 h3 h4
       ·exact que b s n (ziu b s n _ ih (Px.qbj s n) hs) hs st w hD p (Px.qjc h4) h1 h2 h3 h4
      ·exact qug b s n ih hs st w hD p (Px.qjc h3) h1 h2 h3
     ·exact qm7 b s n hs st w hD p (Px.qjc h2) h1 h2
    ·exact qqk b s n hs st w hD p h1
theorem zo7 {b:Nat} {s:ByteArray} {w:World} {t:Px.Tok} {pe:Nat} {nest deep:Int} (p:PenAt w b s t (pe:Int) nest deep) (v0 v1 v2 v3 v4 v5:Value) :
  qb2 b s w (.error pe) (.returned (.pointer (some ⟨w.heap.size,0,none⟩))) (w.alloc (.cells #[v0,v1,v2,v3,v4,v5] 228)).drew:=by
 refine ⟨((Kp.refl _ _).alloc _).drew,w.heap.size,rfl,Nat.le_refl _,⟨v0,v1,v2,v3,v4,v5,?_⟩,t,nest,deep,(p.alloc _).drew⟩;show (w.heap.push _)[w.heap.size]?=_
 rw[Array.getElem?_push,if_pos rfl]
theorem zpb (b:Nat) (s:ByteArray) (t:Px.Tok) (pe:Nat) (nest deep:Int) (w:World) (p:PenAt w b s t (pe:Int) nest deep) :
  Calls Tryz.prog 171 #[.pointer (some ⟨b,0,none⟩)] w (qb2 b s w (.error pe)):=by
 obtain ⟨c0,c1,c2,c3,c4,c5,c6,c7,f,hb⟩:=p.cells;have HP:Hid (_):=p;have hpe:(0:Int)≤pe:=by omega
 clear p;go_enter Tryz.func171,Tryz.ntmps171
 go_wp2_with fail;go_region
 go_wp2_with fail;go_ret;exact zo7 HP.out _ _ _ _ _ _
def qyz (b:Nat) (s:ByteArray) (sum:Bool):Prop :=
 ∀ (t:Px.Tok) (pe:Nat) (nest deep:Int) (w:World),PenAt w b s t (pe:Int) nest deep →
  Calls Tryz.prog 166 #[.pointer (some ⟨b,0,none⟩),.bool sum] w (qb2 b s w (.error pe))
theorem zfo (b:Nat) (s:ByteArray) (sum:Bool) (hp:qyz b s sum) (x y:ByteArray) (t:Px.Tok) (pe:Nat) (nest deep:Int) (w:World) (p:PenAt w b s t (pe:Int) nest deep) :
  Calls Tryz.prog 145 #[.pointer (some ⟨b,0,none⟩),.string x,.string y,.bool sum] w (qb2 b s w (.error pe)):=by
 obtain ⟨c0,c1,c2,c3,c4,c5,c6,c7,f,hb⟩:=p.cells;have HP:Hid (_):=p;clear p;go_enter Tryz.func145,Tryz.ntmps145
 go_wp2_with fail;refine (hp t pe nest deep _ HP.out).mono ?_;rintro e w1 ⟨k1,q,rfl,hq,hv,t',nest',deep',p1⟩;have P1:Hid (_):=p1;have V:Hid (_∧_∧_):=⟨k1,hq,hv⟩;clear k1 hq hv p1 c0 c1 c2 c3 c4 c5 c6 c7 f;go_wp2_with fail;refine wp_loop_rounds 1 ?_;rw[rounds_succ];go_wp2_with (first | (go_at_call 142;refine (qpk b s _ t' (pe:Int) nest' deep' _ P1.out (by omega)).mono ?_;rintro e w' ⟨rfl,rfl⟩))
 go_ret;exact ⟨V.out.1,q,rfl,V.out.2.1,V.out.2.2,t',nest',deep',P1.out⟩
theorem zcx (b:Nat) (s:ByteArray):qyz b s false:=by
 intro t pe nest deep w p;have HP:Hid (_):=p;clear p;go_enter Tryz.func166,Tryz.ntmps166
 go_wp2_with fail;refine (zpb b s t pe nest deep _ HP.out).mono ?_;rintro e w1 ⟨k1,q,rfl,h1⟩;have H1:Hid (_∧_):=⟨k1,h1⟩;clear k1 h1;go_wp2_with fail;go_ret;exact ⟨H1.out.1,q,rfl,H1.out.2⟩
theorem zcw (b:Nat) (s:ByteArray):qyz b s true:=by
 intro t pe nest deep w p;have HP:Hid (_):=p;clear p;go_enter Tryz.func166,Tryz.ntmps166
 go_wp2_with fail;refine (zfo b s false (zcx b s) _ _ t pe nest deep _ HP.out).mono ?_;rintro e w1 ⟨k1,q,rfl,h1⟩;have H1:Hid (_∧_):=⟨k1,h1⟩;clear k1 h1;go_wp2_with fail;go_ret;exact ⟨H1.out.1,q,rfl,H1.out.2⟩
theorem zop (b:Nat) (s:ByteArray) (t:Px.Tok) (pe:Nat) (nest deep:Int) (w:World) (p:PenAt w b s t (pe:Int) nest deep) :
  Calls Tryz.prog 107 #[.pointer (some ⟨b,0,none⟩)] w (qb2 b s w (.error pe)):=by
 obtain ⟨c0,c1,c2,c3,c4,c5,c6,c7,f,hb⟩:=p.cells;have HP:Hid (_):=p;clear p;go_enter Tryz.func107,Tryz.ntmps107
 go_wp2_with fail;refine (zfo b s true (zcw b s) _ _ t pe nest deep _ HP.out).mono ?_;rintro e w1 ⟨k1,q,rfl,hq,hv,t',nest',deep',p1⟩;have P1:Hid (_):=p1;have V:Hid (_∧_∧_):=⟨k1,hq,hv⟩;clear k1 hq hv p1 c0 c1 c2 c3 c4 c5 c6 c7 f;go_wp2_with (first | (go_at_call 142;refine (qpk b s _ t' (pe:Int) nest' deep' _ P1.out (by omega)).mono ?_;rintro e w' ⟨rfl,rfl⟩))
 go_ret;exact ⟨V.out.1,q,rfl,V.out.2.1,V.out.2.2,t',nest',deep',P1.out⟩
theorem zue (b:Nat) (s:ByteArray) (r:Except Nat Px.Ps) (w:World) (p:PSt w b s r) (hs:s.size≤maxLen) (hn:∀ st,r=.ok st→0≤st.nest∧st.nest+(s.size+1:Nat)≤1000000) :
  Calls Tryz.prog 107 #[.pointer (some ⟨b,0,none⟩)] w (qb2 b s w (r.bind (Px.qa4 s))):=by
 cases r with
 | error pe=>obtain ⟨t,nest,deep,hp⟩:=p;exact zop b s t pe nest deep w hp
 | ok st =>
  have h:=hn st rfl;exact ziu b s (s.size+1) _ (zva b s hs (s.size+1)) (Px.qbj s _) hs st w ⟨p.2,by omega,h.1,h.2⟩ p.1
open Go.RowKit
def ptr (q:Nat):Value:=.pointer (some ⟨q,0,none⟩)
def ExO (w:World) (x:Option Px.Ex) (ok:Nat→Prop) (v:Value):Prop :=
 match x with
 | none=>v=.pointer none
 | some e=>∃ q,v=ptr q∧ExAt w e ok q
def SlAt (w:World) (v:Value) (qs:List Nat) (ok:Nat→Prop):Prop :=
 (v=.slice none 0 0∧qs=[]) ∨
 ∃ g cap cur,v=.slice (some ⟨g,0,none⟩) qs.length cap∧ok g∧w.heap[g]?=some (.cells cur 147)∧qs.length≤cap∧cap≤maxLen∧cur.size=cap∧cur.toList.take qs.length=qs.map ptr
def qay (x:Px.Sm) (ve v1 v2:Value):Array Value :=
 #[.int .u8 (x.op:Int),.string x.word,.int .i64 (x.pl:Int),ve,.string x.asw,.int .i64 (x.asPl:Int),.string x.undo,.int .i64 (x.n:Int),.int .i64 (x.nPl:Int),v1,v2]
def SmsAt (w:World):List Px.Sm→(Nat→Prop)→List Nat→Prop
 | [],_,qs=>qs=[]
 | ⟨op,word,pl,ex,av,asPl,undo,n,nPl,one,two⟩::rest,ok,qs=>∃ q qs',qs=q::qs'∧ok q∧SmsAt w rest ok qs'∧∃ ve v1 v2 q1 q2,
   w.heap[q]?=some (.cells #[.int .u8 (op:Int),.string word,.int .i64 (pl:Int),ve,.string av,.int .i64 (asPl:Int),.string undo,.int .i64 (n:Int),.int .i64 (nPl:Int),v1,v2] 218) ∧
   ExO w ex ok ve∧SlAt w v1 q1 ok∧SmsAt w one ok q1∧SlAt w v2 q2 ok∧SmsAt w two ok q2
theorem SmsAt.qbl {w:World} {ok:Nat→Prop} {qs:List Nat}:SmsAt w [] ok qs↔qs=[]:=by rw[SmsAt]
def SmAt (w:World) (x:Px.Sm) (ok:Nat→Prop) (q:Nat):Prop :=
 ok q∧∃ ve v1 v2 q1 q2,w.heap[q]?=some (.cells (qay x ve v1 v2) 218)∧ExO w x.ex ok ve∧SlAt w v1 q1 ok∧SmsAt w x.one ok q1∧SlAt w v2 q2 ok∧SmsAt w x.two ok q2
theorem SmsAt.qcy {w:World} {x:Px.Sm} {rest:List Px.Sm} {ok:Nat→Prop} {qs:List Nat}:SmsAt w (x::rest) ok qs↔∃ q qs',qs=q::qs'∧ok q∧SmsAt w rest ok qs'∧∃ ve v1 v2 q1 q2,
   w.heap[q]?=some (.cells (qay x ve v1 v2) 218)∧ExO w x.ex ok ve∧SlAt w v1 q1 ok∧SmsAt w x.one ok q1∧SlAt w v2 q2 ok∧SmsAt w x.two ok q2:=by
 obtain ⟨op,word,pl,ex,av,asPl,undo,n,nPl,one,two⟩:=x;rw[SmsAt];rfl
theorem SmsAt.cons {w:World} {x:Px.Sm} {rest:List Px.Sm} {ok:Nat→Prop} {q:Nat} {qs:List Nat} (h:SmAt w x ok q) (hr:SmsAt w rest ok qs):SmsAt w (x::rest) ok (q::qs) :=
 SmsAt.qcy.2 ⟨q,qs,rfl,h.1,hr,h.2⟩
theorem SmsAt.zem {w:World} {x:Px.Sm} {rest:List Px.Sm} {ok:Nat→Prop} {qs:List Nat} (h:SmsAt w (x::rest) ok qs):∃ q qs',qs=q::qs'∧SmAt w x ok q∧SmsAt w rest ok qs':=by
 obtain ⟨q,qs',h1,h2,h3,h4⟩:=SmsAt.qcy.1 h;exact ⟨q,qs',h1,⟨h2,h4⟩,h3⟩
theorem SmsAt.snoc {w:World} {l:List Px.Sm} {x:Px.Sm} {ok:Nat→Prop} {q:Nat} {qs:List Nat} (h:SmsAt w l ok qs) (hx:SmAt w x ok q):SmsAt w (l++[x]) ok (qs++[q]):=by
 induction l generalizing qs with
 | nil=>cases SmsAt.qbl.1 h;exact SmsAt.cons hx (SmsAt.qbl.2 rfl)
 | cons y l ih =>
  obtain ⟨q',qs',rfl,h1,h2⟩:=h.zem;exact SmsAt.cons h1 (ih h2)
theorem SmsAt.len {w:World} {l:List Px.Sm} {ok:Nat→Prop} {qs:List Nat} (h:SmsAt w l ok qs):qs.length=l.length:=by
 induction l generalizing qs with
 | nil=>cases SmsAt.qbl.1 h;rfl
 | cons y l ih =>
  obtain ⟨q',qs',rfl,h1,h2⟩:=h.zem;simp[ih h2]
theorem ExO.mono {w:World} {x:Option Px.Ex} {ok ok':Nat→Prop} {v:Value} (h:ExO w x ok v) (hk:∀ k,ok k→ok' k):ExO w x ok' v:=by
 cases x with
 | none=>exact h
 | some e=>obtain ⟨q,h1,h2⟩:=h;exact ⟨q,h1,h2.mono hk⟩
theorem ExO.keep {w w':World} {x:Option Px.Ex} {ok:Nat→Prop} {v:Value} (h:ExO w x ok v) (hk:∀ k,ok k→w'.heap[k]?=w.heap[k]?):ExO w' x ok v:=by
 cases x with
 | none=>exact h
 | some e=>obtain ⟨q,h1,h2⟩:=h;exact ⟨q,h1,h2.keep hk⟩
theorem SlAt.mono {w:World} {v:Value} {qs:List Nat} {ok ok':Nat→Prop} (h:SlAt w v qs ok) (hk:∀ k,ok k→ok' k):SlAt w v qs ok':=by
 rcases h with h | ⟨g,cap,cur,h1,h2,h3⟩
 ·exact Or.inl h
 ·exact Or.inr ⟨g,cap,cur,h1,hk _ h2,h3⟩
theorem SlAt.keep {w w':World} {v:Value} {qs:List Nat} {ok:Nat→Prop} (h:SlAt w v qs ok) (hk:∀ k,ok k→w'.heap[k]?=w.heap[k]?):SlAt w' v qs ok:=by
 rcases h with h | ⟨g,cap,cur,h1,h2,h3,h4⟩
 ·exact Or.inl h
 ·exact Or.inr ⟨g,cap,cur,h1,h2,by rw[hk _ h2];exact h3,h4⟩
theorem SmsAt.mono {w:World} {l:List Px.Sm} {ok ok':Nat→Prop} {qs:List Nat} (h:SmsAt w l ok qs) (hk:∀ k,ok k→ok' k):SmsAt w l ok' qs:=by
 match l with
 | []=>exact SmsAt.qbl.2 (SmsAt.qbl.1 h)
 | ⟨op,word,pl,ex,av,asPl,undo,n,nPl,one,two⟩::rest =>
  obtain ⟨q,qs',h1,h2,h3,ve,v1,v2,q1,q2,h4,h5,h6,h7,h8,h9⟩:=SmsAt.qcy.1 h;exact SmsAt.qcy.2 ⟨q,qs',h1,hk _ h2,h3.mono hk,ve,v1,v2,q1,q2,h4,h5.mono hk,h6.mono hk,h7.mono hk,h8.mono hk,h9.mono hk⟩
theorem SmsAt.keep {w w':World} {l:List Px.Sm} {ok:Nat→Prop} {qs:List Nat} (h:SmsAt w l ok qs) (hk:∀ k,ok k→w'.heap[k]?=w.heap[k]?):SmsAt w' l ok qs:=by
 match l with
 | []=>exact SmsAt.qbl.2 (SmsAt.qbl.1 h)
 | ⟨op,word,pl,ex,av,asPl,undo,n,nPl,one,two⟩::rest =>
  obtain ⟨q,qs',h1,h2,h3,ve,v1,v2,q1,q2,h4,h5,h6,h7,h8,h9⟩:=SmsAt.qcy.1 h;exact SmsAt.qcy.2 ⟨q,qs',h1,h2,h3.keep hk,ve,v1,v2,q1,q2,by rw[hk _ h2];exact h4,h5.keep hk,h6.keep hk,h7.keep hk,h8.keep hk,h9.keep hk⟩
theorem SmAt.mono {w:World} {x:Px.Sm} {ok ok':Nat→Prop} {q:Nat} (h:SmAt w x ok q) (hk:∀ k,ok k→ok' k):SmAt w x ok' q:=by
 obtain ⟨h2,ve,v1,v2,q1,q2,h4,h5,h6,h7,h8,h9⟩:=h;exact ⟨hk _ h2,ve,v1,v2,q1,q2,h4,h5.mono hk,h6.mono hk,h7.mono hk,h8.mono hk,h9.mono hk⟩
theorem SmAt.keep {w w':World} {x:Px.Sm} {ok:Nat→Prop} {q:Nat} (h:SmAt w x ok q) (hk:∀ k,ok k→w'.heap[k]?=w.heap[k]?):SmAt w' x ok q:=by
 obtain ⟨h2,ve,v1,v2,q1,q2,h4,h5,h6,h7,h8,h9⟩:=h;exact ⟨h2,ve,v1,v2,q1,q2,by rw[hk _ h2];exact h4,h5.keep hk,h6.keep hk,h7.keep hk,h8.keep hk,h9.keep hk⟩
def qr6 (b:Nat) (s:ByteArray) (w:World) (r:Except Nat (List Px.Sm×Px.Ps)) (e:Ending) (w':World):Prop :=
 Kp b w w'∧∃ a n c,e=.returned (.slice a n c) ∧
  match r with
  | .ok (l,st)=>∃ qs,SlAt w' (.slice a n c) qs (In w w')∧SmsAt w' l (In w w') qs∧PenAt w' b s st.t (-1) st.nest st.deep
  | .error p=>∃ t nest deep,PenAt w' b s t ((p:Nat):Int) nest deep
def qju (b:Nat) (s:ByteArray) (w:World) (r:Except Nat (Px.Sm×Px.Ps)) (e:Ending) (w':World):Prop :=
 Kp b w w'∧∃ q,e=.returned (ptr q) ∧
  match r with
  | .ok (x,st)=>SmAt w' x (In w w') q∧PenAt w' b s st.t (-1) st.nest st.deep
  | .error p=>∃ t nest deep,PenAt w' b s t ((p:Nat):Int) nest deep
def zpo (b:Nat) (s:ByteArray) (g:Px.Ps→Except Nat (Px.Sm×Px.Ps)) (stop:Px.Ps→Bool) (D:Px.Ps→Prop) (R:Except Nat (List Px.Sm×Px.Ps)) (w wr:World) (v:Value):Prop :=
 Kp b w wr∧∃ qs,wr.ownsRow w.heap.size 147 1 v qs.length (qs.map ptr) ∧
 ((∃ l st m,SmsAt wr l (fun k=>In w wr k∧some k≠v.ownBlock) qs∧qs.length≤st.t.a∧PenAt wr b s st.t (-1) st.nest st.deep∧D st∧Px.stmts s g stop m l st=R∧s.size - st.t.a < m) ∨
  (∃ p t nest deep,R=.error p∧qs.length≤s.size+1∧PenAt wr b s t ((p:Nat):Int) nest deep))
open Go.RowKit
structure DomS (s:ByteArray) (n:Nat) (st:Px.Ps):Prop where
 tk:Px.Tk s st.t
 room:s.size - st.t.a < n
 n0:0≤st.nest
 n1:st.nest+n+(s.size+1:Nat)≤1000000
theorem DomS.good0 {s:ByteArray} {n:Nat} {st st':Px.Ps} (h:DomS s n st) (g:Px.Good0 s st st'):DomS s n st' :=
 ⟨g.tk,by have:=h.room;have:=g.le;omega,by rw[g.nest];exact h.n0,by rw[g.nest];exact h.n1⟩
theorem DomS.good {s:ByteArray} {n:Nat} {st st':Px.Ps} (h:DomS s n st) (g:Px.Good s st st'):DomS s n st':=h.good0 g.zero
def qr3 (b:Nat) (s:ByteArray) (n:Nat) (g:Px.Ps→Except Nat (Px.Sm×Px.Ps)):Prop :=
 ∀ (st:Px.Ps) (w:World),DomS s n st→PenAt w b s st.t (-1) st.nest st.deep →
  Calls Tryz.prog 47 #[.pointer (some ⟨b,0,none⟩)] w (qju b s w (g st))
theorem zh6:(Tryz.prog.info? 147).map (fun i=>(i.zero,i.size,i.bytes))=some (some (.pointer none),1,8):=by kernel_rfl
theorem zal {b:Nat} {w w1 w2:World} {row:Option Nat} (h:Kp b w w1) (hg:w1.grownBy w2 row) (hr:∀ k,row=some k→w.heap.size≤k):Kp b w w2 :=
 ⟨hg.os.trans h.os,hg.tape.trans h.tape,hg.output.trans h.output,Nat.le_trans h.size hg.size,fun k hk hb=>(hg.block k (Nat.lt_of_lt_of_le hk h.size) (fun e=>by have:=hr k e.symm;omega)).trans (h.block k hk hb)⟩
theorem zhd {b:Nat} {s:ByteArray} {n:Nat} {g:Px.Ps→Except Nat (Px.Sm×Px.Ps)} {stop:Px.Ps→Bool} {R:Except Nat (List Px.Sm×Px.Ps)} {w wr w1 w2:World} {v v':Value} {qs:List Nat} {q:Nat} {l:List Px.Sm} {st:Px.Ps} {m:Nat}
  (hb:b < w.heap.size) (hg:Px.Goes s g) (KR:Kp b w wr) (hown:wr.ownsRow w.heap.size 147 1 v qs.length (qs.map ptr)) (L:SmsAt wr l (fun k=>In w wr k∧some k≠v.ownBlock) qs) (hq:qs.length≤st.t.a) (hD:DomS s n st) (hm:s.size - st.t.a < m+1)
  (CH:(match g st with
   | .error p=>.error p
   | .ok (x,st')=>Px.stmts s g stop m (l++[x]) st')=R)
  (H1:qju b s wr (g st) (.returned (ptr q)) w1)
  (hown':w2.ownsRow w.heap.size 147 1 v' (qs.length+1) (qs.map ptr++[ptr q])) (hgrow:(w1.alloc (.cells #[ptr q] 147)).grownBy w2 v.ownBlock) (hloc:v'.ownBlock=v.ownBlock∨v'.ownBlock=some (w1.heap.size+1)) :
  zpo b s g stop (DomS s n) R w w2 v'∧penM s b w2 < s.size+1 - st.t.a:=by
 obtain ⟨k1,q',he,h1⟩:=H1;obtain rfl:q=q':=by simpa [ptr] using he
 have hob:∀ k,v.ownBlock=some k→w.heap.size≤k∧k < wr.heap.size:=hown.lt;have kw1:Kp b w w1:=KR.trans k1;have kw2:Kp b w w2:=zal (kw1.alloc _) hgrow (fun k hk=>(hob k hk).1)
 have s1:=KR.size;have s2:=k1.size;have s3:w1.heap.size+1≤w2.heap.size:=by have:=hgrow.size;simpa using this
 have hpen:∀ {t:Px.Tok} {bad nest deep:Int},PenAt w1 b s t bad nest deep→PenAt w2 b s t bad nest deep:=fun p=>⟨by
  have hl:=p.lt;rw[hgrow.block b (by simp;omega) (fun e=>by have:=(hob b e.symm).1;omega),Below.heap_alloc _ _ _ hl];exact p.h⟩
 have hkeep:∀ k,k < w1.heap.size→some k≠v.ownBlock→w2.heap[k]?=w1.heap[k]?:=fun k hk hne=>by
  rw[hgrow.block k (by simp;omega) hne,Below.heap_alloc _ _ _ hk]
 have hlen:(qs++[q]).length=qs.length+1:=by simp
 have hmap:(qs++[q]).map ptr=qs.map ptr++[ptr q]:=by simp
 have hd1:=hD.tk.le;have hd2:=hD.tk.ab;have hdr:=hD.room;refine (show (zpo b s g stop (DomS s n) R w w2 v'∧penM s b w2 < s.size+1 - st.t.a) from ?_);cases hr:g st with
 | error p =>
  rw[hr] at CH h1;obtain ⟨t,nest,deep,hp⟩:=h1;refine ⟨⟨kw2,qs++[q],by rw[hlen,hmap];exact hown',Or.inr ⟨p,t,nest,deep,CH.symm,by rw[hlen];omega,hpen hp⟩⟩,?_⟩
  rw[qz2 (hpen hp) (by omega)]
  omega
 | ok r =>
  obtain ⟨x,st'⟩:=r;rw[hr] at CH h1;obtain ⟨hx,hp⟩:=h1;have g1:=hg _ _ _ hD.tk hr;have g2:=g1.lt;have g3:=g1.tk.ab;have g4:=g1.tk.le;have hnew:∀ k,k < w1.heap.size→some k≠v.ownBlock→some k≠v'.ownBlock:=by
   intro k hk hne;rcases hloc with h | h
   ·rw[h];exact hne
   ·rw[h];simp;omega
  refine ⟨⟨kw2,qs++[q],by rw[hlen,hmap];exact hown',Or.inl ⟨l++[x],st',m,?_,by rw[hlen];omega,hpen hp,hD.good g1,CH,by omega⟩⟩,?_⟩
  ·refine SmsAt.snoc ?_ ?_
   ·have e1:SmsAt w1 l (fun k=>In w wr k∧some k≠v.ownBlock) qs:=L.keep fun k hk=>k1.block k hk.1.2 (by have:=hk.1.1;omega)
    have e2:SmsAt w2 l (fun k=>In w wr k∧some k≠v.ownBlock) qs:=e1.keep fun k hk=>hkeep k (by have:=hk.1.2;omega) hk.2
    exact e2.mono fun k hk=>⟨⟨hk.1.1,by have:=hk.1.2;omega⟩,hnew k (by have:=hk.1.2;omega) hk.2⟩
   ·have hne:∀ k,In wr w1 k→some k≠v.ownBlock:=fun k hk e=>by have:=(hob k e.symm).2;have:=hk.1;omega
    have e2:SmAt w2 x (In wr w1) q:=hx.keep fun k hk=>hkeep k hk.2 (hne k hk)
    exact e2.mono fun k hk=>⟨⟨by have:=hk.1;omega,by have:=hk.2;omega⟩,hnew k hk.2 (hne k hk)⟩
  ·rw[qmn (hpen hp)];omega
theorem zqa {w:World} {base:Nat} {v:Value} {qs:List Nat} {ok:Nat→Prop} (h:w.ownsRow base 147 1 v qs.length (qs.map ptr)) (hk:∀ k,v.ownBlock=some k→ok k):SlAt w v qs ok:=by
 rcases h.2 with ⟨h1,h2⟩ | ⟨g,cap,cur,h1,h2,h3,h4,h5,h6,h7⟩
 ·exact Or.inl ⟨h1,List.length_eq_zero_iff.1 h2⟩
 ·refine Or.inr ⟨g,cap,cur,h1,hk g (by rw[h1];rfl),h3,h4,h5,by omega,?_⟩
  rw[Nat.mul_one] at h7;exact h7
theorem qpi {w:World} {base:Nat} {e:TypeId} {v:Value} {n:Nat} {xs:List Value} (h:w.ownsRow base e 1 v n xs):∃ a k c,v=.slice a k c:=by
 rcases h.2 with ⟨h1,_⟩ | ⟨g,cap,cur,h1,_⟩
 ·exact ⟨_,_,_,h1⟩
 ·exact ⟨_,_,_,h1⟩
theorem qle {w w':World} {base:Nat} {e:TypeId} {v:Value} {n:Nat} {xs:List Value} (h:w.ownsRow base e 1 v n xs) (hk:∀ k,v.ownBlock=some k→w'.heap[k]?=w.heap[k]?):w'.ownsRow base e 1 v n xs:=by
 refine ⟨h.1,?_⟩;rcases h.2 with h1 | ⟨g,cap,cur,h1,h2,h3,h4⟩
 ·exact Or.inl h1
 ·exact Or.inr ⟨g,cap,cur,h1,h2,by rw[hk g (by rw[h1];rfl)];exact h3,h4⟩
theorem zo2 (b:Nat) (s:ByteArray) (n:Nat) (g:Px.Ps→Except Nat (Px.Sm×Px.Ps)) (hst:qr3 b s n g) (hg:Px.Goes s g) (hs3:s.size≤300) (st:Px.Ps) (w:World) (hD:DomS s (n+1) st) (p:PenAt w b s st.t (-1) st.nest st.deep) (ho:Px.onB s st.t ⟨#[123]⟩=true) :
  Calls Tryz.prog 109 #[.pointer (some ⟨b,0,none⟩)] w (qr6 b s w (Px.block s g st)):=by
 obtain ⟨i0,hi,hz0,hz1,hz2⟩:=info_parts zh6;have hs:s.size≤maxLen:=by unfold maxLen;omega
 have hb:=p.lt;have HG:Hid (_):=hg;have HD:Hid (DomS s (n+1) st∧PenAt w b s st.t (-1) st.nest st.deep):=⟨hD,p⟩;have hn0:=hD.n0;have hn1:st.nest≤1000000:=by have:=hD.n1;omega
 have D1:Hid (DomS s n (Px.nx s (Px.dn st))):=by
  have g1:=Px.qaf hD.tk ho;have h1:=hD.room;have h2:=g1.lt;have h3:=g1.tk.ab;have h4:=g1.tk.le;have h5:=hD.n1;have h6:st.t.a < (Px.nx s (Px.dn st)).t.a:=h2;have h7:(Px.nx s (Px.dn st)).t.a≤s.size:=by have:(Px.nx s (Px.dn st)).t=(Px.nx s st).t:=rfl;rw[this];omega
  refine ⟨g1.tk,by omega,?_,?_⟩
  ·show 0≤st.nest+1;omega
  ·show st.nest+1+n+(s.size+1:Nat)≤1000000;push_cast at h5 ⊢;omega
 have e1:Hid (Px.block s g st=match Px.stmts s g (fun st=>Px.onB s st.t ⟨#[125]⟩) (s.size+1) [] (Px.nx s (Px.dn st)) with
  | .error p=>.error p
  | .ok (l,st')=>.ok (l,Px.upp (Px.nx s st'))):=by
  unfold Hid;rw[Px.block,if_pos ho];cases Px.stmts s g (fun st=>Px.onB s st.t ⟨#[125]⟩) (s.size+1) [] (Px.nx s (Px.dn st))<;>rfl
 clear hD p hg;go_enter Tryz.func109,Tryz.ntmps109
 go_wp2_with fail;refine (qlg b s _ st.t st.nest st.deep _ HD.out.2).mono ?_;rintro e w' ⟨rfl,rfl⟩;go_wp2_with fail;refine (zi2 b s st.t st.nest st.deep _ HD.out.2 hn0 hn1).mono ?_;rintro e w1 ⟨rfl,p1,k1⟩;have P1:Hid (_∧_):=⟨p1,k1⟩;clear p1 k1;go_wp2_with fail;refine (qe4 b s st.t (st.nest+1) _ _ P1.out.1 HD.out.1.tk.le hs).mono ?_;rintro e w2 ⟨rfl,p2,k2⟩;have P2:Hid (_∧_):=⟨p2,k2⟩;clear p2 k2;go_wp2_with fail;generalize hR:Px.stmts s g (fun st=>Px.onB s st.t ⟨#[125]⟩) (s.size+1) [] (Px.nx s (Px.dn st))=R at e1
 have HR:=hR;have HRR:Hid (_):=hR;clear HR hR;go_loopw [4] (fun v wr=>Hid (zpo b s g (fun st=>Px.onB s st.t ⟨#[125]⟩) (DomS s n) R w wr v)) (fun _ wr=>penM s b wr)
 case atStart =>
  refine ⟨P1.out.2.trans P2.out.2,[],World.ownsRow_nil _ _ _ _,Or.inl ⟨[],Px.nx s (Px.dn st),s.size+1,SmsAt.qbl.2 rfl,by simp,P2.out.1,D1.out,HRR.out,by omega⟩⟩
 case round =>
  obtain ⟨kr,qs,hown,hcase⟩:=hrel.out;clear hrel;obtain ⟨va,vn,vc,rfl⟩:=qpi hown;have KR:Hid (Kp b w wr∧wr.ownsRow w.heap.size 147 1 (.slice va vn vc) qs.length (qs.map ptr)):=⟨kr,hown⟩;clear kr hown;rcases hcase with ⟨l,st1,m,hl,hq,p1,hD1,hch,hm⟩ | ⟨pe,t,nest,deep,hRe,hq,p1⟩
  ·obtain ⟨m,rfl⟩:∃ m',m=m'+1:=⟨m - 1,by omega⟩
   obtain ⟨c0,c1,c2,c3,c4,c5,c6,c7,f,hbr⟩:=p1.cells;have L:Hid (_):=hl;have PP:Hid (_):=p1;have DD:Hid (_):=hD1;have CH:Hid (_):=hch;clear hl p1 hD1 hch;cases hc:Px.onB s st1.t ⟨#[125]⟩
   ·go_wp2_with (first | (go_at_call 142;refine (qlg b s _ st1.t st1.nest st1.deep _ PP.out).mono ?_;rintro e w' ⟨rfl,rfl⟩))
    refine (hst st1 _ DD.out PP.out).mono ?_;rintro e w3 ⟨k3,q,rfl,h3⟩;have hown3:w3.ownsRow w.heap.size 147 1 (.slice va vn vc) qs.length (qs.map ptr):=qle KR.out.2 fun k hk=>k3.block k (KR.out.2.lt k hk).2 (by have:=(KR.out.2.lt k hk).1;omega)
    have hsz3:w.heap.size≤w3.heap.size:=by have:=k3.size;have:=KR.out.1.size;omega
    have hqb:qs.length≤300:=by have:=DD.out.tk.ab;have:=DD.out.tk.le;omega
    have H3:Hid (qju b s wr (g st1) (.returned (ptr q)) w3):=⟨k3,q,rfl,h3⟩;unfold ptr;clear k3 h3 c0 c1 c2 c3 c4 c5 c6 c7 f;go_wp2_with (first
     | (at_builtin;refine wpList_append_own_at _ rfl _ _ 56 rfl w.heap.size 147 i0 (.pointer none) 1 8 Tryz.underlying56 hi hz0 hz1 hz2 rfl (by decide) _ _ _ rfl (hown3.alloc _) ⟨w3.heap.size,0,none⟩ 1 1 [.pointer (some ⟨q,0,none⟩)] rfl rfl ?c1 ?c2 ?c3 ?c4 ?c5 ?_)
     | fail)
    case c1 =>
     intro j u hj;match j,hj with
     | 0,hj=>simp at hj;subst hj;simp[Addr.add]
    case c2=>intro u hu;simp at hu;subst hu;rfl
    case c3=>unfold maxLen;omega
    case c4=>omega
    case c5=>simp;omega
    ·intro v' w4 hown' hgrow _ hloc;obtain ⟨r1,r2⟩:=zhd hb HG.out KR.out.1 KR.out.2 L.out hq DD.out hm (R:=R) (stop:=fun st=>Px.onB s st.t ⟨#[125]⟩) (by rw[← CH.out,Px.stmts,if_neg (by simp[hc])];cases g st1<;>rfl) H3.out hown' hgrow hloc
     have RR:Hid (_∧_):=⟨r1,r2⟩;clear r1 r2 hown' hgrow hloc hown3;go_wp2;exact ⟨RR.out.1,by rw[qmn PP.out];exact RR.out.2⟩
   ·have hRok:Hid (R=.ok (l,st1)):=by unfold Hid;rw[← CH.out,Px.stmts,if_pos hc]
    go_wp2_with (first | (go_at_call 142;refine (qlg b s _ st1.t st1.nest st1.deep _ PP.out).mono ?_;rintro e w' ⟨rfl,rfl⟩))
    refine (zab b s _ st1.t st1.nest st1.deep _ PP.out DD.out.tk.le hs hc).mono ?_;rintro e w3 ⟨rfl,p3,k3⟩;have P3:Hid (_∧_):=⟨p3,k3⟩;clear p3 k3 c0 c1 c2 c3 c4 c5 c6 c7 f;go_wp2_with fail;refine (upU b s (.ok (Px.nx s st1)) _ ⟨P3.out.1,Px.qnn DD.out.tk⟩ ?hnest).mono ?_
    case hnest =>
     intro st0 h0;cases h0;have h1:=DD.out.n0;have h2:=DD.out.n1;show 0≤st1.nest∧st1.nest≤2000000
     omega
    rintro e w4 ⟨rfl,k4,p4⟩;have P4:Hid (Kp b w3 w4∧PSt w4 b s (.ok (Px.upp (Px.nx s st1)))):=⟨k4,p4⟩;clear k4 p4;go_wp2_with fail;go_ret;have k34:Kp b wr w4:=P3.out.2.trans P4.out.1;have z4:=k34.size;have z1:=KR.out.1.size;refine ⟨KR.out.1.trans k34,va,vn,vc,rfl,?_⟩;rw[e1.out,hRok.out];refine ⟨qs,?_,?_,P4.out.2.1⟩
    ·refine zqa (qle KR.out.2 fun k hk=>k34.block k (KR.out.2.lt k hk).2 (by have:=(KR.out.2.lt k hk).1;omega)) fun k hk=>?_
     have:=KR.out.2.lt k hk
     exact ⟨this.1,by omega⟩
    ·exact (L.out.keep fun k hk=>k34.block k hk.1.2 (by have:=hk.1.1;omega)).mono fun k hk=>⟨hk.1.1,by have:=hk.1.2;omega⟩
  ·obtain ⟨c0,c1,c2,c3,c4,c5,c6,c7,f,hbr⟩:=p1.cells;have PP:Hid (R=.error pe∧PenAt wr b s t (pe:Int) nest deep):=⟨hRe,p1⟩;have hpe:(0:Int)≤pe:=by omega
   clear p1 hRe;go_wp2_with fail;refine (zac b s _ t (pe:Int) nest deep _ PP.out.2 (by omega)).mono ?_
   rintro e w' ⟨rfl,rfl⟩;go_wp2_with fail;refine (zkp b s t (pe:Int) nest deep _ PP.out.2).mono ?_;rintro e w4 ⟨rfl,p4,k4⟩;have P4:Hid (_∧_):=⟨p4,k4⟩;clear k4 p4;go_wp2_with fail;go_ret;refine ⟨KR.out.1.trans P4.out.2,va,vn,vc,rfl,?_⟩;rw[e1.out,PP.out.1];exact ⟨_,_,_,P4.out.1⟩
theorem zo3 (b:Nat) (s:ByteArray) (g:Px.Ps→Except Nat (Px.Sm×Px.Ps)) (st:Px.Ps) (w:World) (p:PenAt w b s st.t (-1) st.nest st.deep) (ho:Px.onB s st.t ⟨#[123]⟩=false) :
  Calls Tryz.prog 109 #[.pointer (some ⟨b,0,none⟩)] w (qr6 b s w (Px.block s g st)):=by
 have P0:Hid (_):=p;have e1:Hid (Px.block s g st=.error st.t.a):=by unfold Hid;rw[Px.block,if_neg (by simp[ho])]
 clear p;go_enter Tryz.func109,Tryz.ntmps109
 go_wp2_with fail;refine (qlg b s _ st.t st.nest st.deep _ P0.out).mono ?_;rintro e w' ⟨rfl,rfl⟩;go_wp2_with fail;refine (qp1 b s st.t st.nest st.deep _ P0.out).mono ?_;rintro e w1 ⟨rfl,p1,k1⟩;have P1:Hid (_∧_):=⟨p1,k1⟩;clear p1 k1;go_wp2_with fail;go_ret;refine ⟨P1.out.2,none,0,0,rfl,?_⟩;rw[e1.out];exact ⟨_,_,_,P1.out.1⟩
theorem zjr (b:Nat) (s:ByteArray) (t:Px.Tok) (pe:Nat) (nest deep:Int) (w:World) (p:PenAt w b s t (pe:Int) nest deep) :
  Calls Tryz.prog 109 #[.pointer (some ⟨b,0,none⟩)] w (qr6 b s w (.error pe)):=by
 have P0:Hid (_):=p;clear p;go_enter Tryz.func109,Tryz.ntmps109
 go_wp2_with fail;refine (qpk b s _ t (pe:Int) nest deep _ P0.out (by omega)).mono ?_
 rintro e w' ⟨rfl,rfl⟩;go_wp2_with fail;refine (qtu b s t (pe:Int) nest deep _ P0.out (by omega)).mono ?_
 rintro e w' ⟨rfl,rfl⟩;go_wp2_with fail;go_ret;exact ⟨Kp.refl _ _,none,0,0,rfl,_,_,_,P0.out⟩
theorem qwt (b:Nat) (s:ByteArray) (n:Nat) (g:Px.Ps→Except Nat (Px.Sm×Px.Ps)) (hst:qr3 b s n g) (hg:Px.Goes s g) (hs3:s.size≤300) (r:Except Nat Px.Ps) (w:World) (p:PSt w b s r) (hD:∀ st,r=.ok st→DomS s (n+1) st) :
  Calls Tryz.prog 109 #[.pointer (some ⟨b,0,none⟩)] w (qr6 b s w (r.bind (Px.block s g))):=by
 cases r with
 | error pe=>obtain ⟨t,nest,deep,hp⟩:=p;exact zjr b s t pe nest deep w hp
 | ok st =>
  cases ho:Px.onB s st.t ⟨#[123]⟩
  ·exact zo3 b s g st w p.1 ho
  ·exact zo2 b s n g hst hg hs3 st w (hD st rfl) p.1 ho
open Go.RowKit
theorem qaa {w:World} {k:Nat} {a b c d e f g h i j l:Value} {t:TypeId} (hh:w.heap[k]?=some (.cells #[a,b,c,d,e,f,g,h,i,j,l] t)) :
  w.cell? ⟨k,0,none⟩=some a∧w.cell? ⟨k,1,none⟩=some b∧w.cell? ⟨k,2,none⟩=some c∧w.cell? ⟨k,3,none⟩=some d∧w.cell? ⟨k,4,none⟩=some e∧w.cell? ⟨k,5,none⟩=some f∧w.cell? ⟨k,6,none⟩=some g∧w.cell? ⟨k,7,none⟩=some h∧w.cell? ⟨k,8,none⟩=some i∧w.cell? ⟨k,9,none⟩=some j∧w.cell? ⟨k,10,none⟩=some l∧∀ o,w.frozen? ⟨k,o,none⟩=false:=by
 refine ⟨?_,?_,?_,?_,?_,?_,?_,?_,?_,?_,?_,?_⟩<;>simp[World.cell?,World.frozen?,hh]
structure Mk (b:Nat) (s:ByteArray) (w0:World) (q:Nat) (R:Except Nat (Px.Sm×Px.Ps)) (N:Int) (w:World):Prop where
 kp:Kp b w0 w
 cells:∃ (y:Px.Sm) (ve:Option Addr) (a1:Option Addr) (n1 c1:Nat) (a2:Option Addr) (n2 c2:Nat),w.heap[q]?=some (.cells (qay y (.pointer ve) (.slice a1 n1 c1) (.slice a2 n2 c2)) 218) ∧
  ∀ x st,R=.ok (x,st)→y=x∧st.nest=N∧(∃ q1 q2,ExO w x.ex (fun k=>In w0 w k∧k≠q) (.pointer ve)∧SlAt w (.slice a1 n1 c1) q1 (fun k=>In w0 w k∧k≠q)∧SmsAt w x.one (fun k=>In w0 w k∧k≠q) q1∧SlAt w (.slice a2 n2 c2) q2 (fun k=>In w0 w k∧k≠q)∧SmsAt w x.two (fun k=>In w0 w k∧k≠q) q2)
 pen:PSt w b s (R.map Prod.snd)
theorem Mk.on {b:Nat} {s:ByteArray} {w0 w w1:World} {q:Nat} {R R':Except Nat (Px.Sm×Px.Ps)} {N:Int} (h:Mk b s w0 q R N w) (hb:b < w0.heap.size) (hq:w0.heap.size≤q) (k:Kp b w w1) (hp:PSt w1 b s (R'.map Prod.snd)) (hR:∀ x st',R'=.ok (x,st')→st'.nest=N∧∃ st,R=.ok (x,st)):Mk b s w0 q R' N w1:=by
 obtain ⟨y,ve,a1,n1,c1,a2,n2,c2,h1,h2⟩:=h.cells;refine ⟨h.kp.trans k,⟨y,ve,a1,n1,c1,a2,n2,c2,Kp.heap k h1 (by omega),fun x st' hx=>?_⟩,hp⟩
 obtain ⟨hn,st,hs⟩:=hR x st' hx;obtain ⟨e1,e2,q1,q2,e3,e4,e5,e6,e7⟩:=h2 x st hs;have z:=k.size;have hk:∀ i,In w0 w i∧i≠q→w1.heap[i]?=w.heap[i]?:=fun i hi=>k.block i hi.1.2 (by have:=hi.1.1;omega)
 have hm:∀ i,In w0 w i∧i≠q→In w0 w1 i∧i≠q:=fun i hi=>⟨⟨hi.1.1,by have:=hi.1.2;omega⟩,hi.2⟩
 exact ⟨e1,hn,q1,q2,(e3.keep hk).mono hm,(e4.keep hk).mono hm,(e5.keep hk).mono hm,(e6.keep hk).mono hm,(e7.keep hk).mono hm⟩
theorem Mk.store {b:Nat} {s:ByteArray} {w0 w W:World} {q:Nat} {R R':Except Nat (Px.Sm×Px.Ps)} {N:Int} (φ:Px.Sm→Px.Sm) (hφ:∀ y,(φ y).ex=y.ex∧(φ y).one=y.one∧(φ y).two=y.two) (h:Mk b s w0 q R N w) (k:Kp b w0 W) (hz:w.heap.size≤W.heap.size) (hO:∀ i,i < w.heap.size→i≠q→W.heap[i]?=w.heap[i]?)
  (hQ:∀ y ve v1 v2,w.heap[q]?=some (.cells (qay y ve v1 v2) 218)→W.heap[q]?=some (.cells (qay (φ y) ve v1 v2) 218)) (hp:PSt W b s (R'.map Prod.snd)) (hR:∀ x' st',R'=.ok (x',st')→st'.nest=N∧∃ x st,R=.ok (x,st)∧x'=φ x):Mk b s w0 q R' N W:=by
 obtain ⟨y,ve,a1,n1,c1,a2,n2,c2,h1,h2⟩:=h.cells;refine ⟨k,⟨φ y,ve,a1,n1,c1,a2,n2,c2,hQ _ _ _ _ h1,fun x' st' hx=>?_⟩,hp⟩
 obtain ⟨hn,x,st,hs,rfl⟩:=hR x' st' hx;obtain ⟨e1,e2,q1,q2,e3,e4,e5,e6,e7⟩:=h2 x st hs;obtain ⟨f1,f2,f3⟩:=hφ x;have hk:∀ i,In w0 w i∧i≠q→W.heap[i]?=w.heap[i]?:=fun i hi=>hO i hi.1.2 hi.2
 have hm:∀ i,In w0 w i∧i≠q→In w0 W i∧i≠q:=fun i hi=>⟨⟨hi.1.1,by have:=hi.1.2;omega⟩,hi.2⟩
 subst e1;rw[f1,f2,f3];exact ⟨rfl,hn,q1,q2,(e3.keep hk).mono hm,(e4.keep hk).mono hm,(e5.keep hk).mono hm,(e6.keep hk).mono hm,(e7.keep hk).mono hm⟩
def qae (R:Except Nat (Px.Sm×Px.Ps)) (f:Px.Sm→Px.Ps→Except Nat (Px.Sm×Px.Ps)):Except Nat (Px.Sm×Px.Ps) :=
 match R with
 | .ok (x,st)=>f x st
 | .error p=>.error p
def qa5 (s:ByteArray) (st:Px.Ps):Except Nat (Px.Sm×Px.Ps) :=
 match Px.kind s 119 st with
 | .ok st1=>.ok ({ Px.qa8 with op:=99,word:=Px.txt s st.t,pl:=st.t.a,n:=1 },st1)
 | .error p=>.error p
def qbd (s x:ByteArray) (y:Px.Sm) (st:Px.Ps):Except Nat (Px.Sm×Px.Ps) :=
 match Px.need s x st with
 | .ok st1=>.ok (y,st1)
 | .error p=>.error p
theorem qt7 (s:ByteArray) (st:Px.Ps):Px.call s st=qae (qae (qae (qae (qae (qae (qae (qa5 s st) (qbd s ⟨#[40]⟩)) (Px.qaw s)) (qbd s ⟨#[41]⟩)) (Px.qa9 s)) (Px.qat s)) (Px.qas s)) (qbd s ⟨#[59]⟩):=by
 unfold Px.call qa5;cases Px.kind s 119 st with
 | error p=>rfl
 | ok st1 =>
  simp only[qae,qbd];cases Px.need s ⟨#[40]⟩ st1 with
  | error p=>rfl
  | ok st2 =>
   simp only;cases Px.qaw s { Px.qa8 with op:=99,word:=Px.txt s st.t,pl:=st.t.a,n:=1 } st2 with
   | error p=>rfl
   | ok r =>
    obtain ⟨x3,st3⟩:=r;simp only;cases Px.need s ⟨#[41]⟩ st3 with
    | error p=>rfl
    | ok st4 =>
     simp only;cases Px.qa9 s x3 st4 with
     | error p=>rfl
     | ok r =>
      obtain ⟨x5,st5⟩:=r;simp only;cases Px.qat s x5 st5 with
      | error p=>rfl
      | ok r =>
       obtain ⟨x6,st6⟩:=r;simp only;cases Px.qas s x6 st6 with
       | error p=>rfl
       | ok r =>
        obtain ⟨x7,st7⟩:=r;simp only;cases Px.need s ⟨#[59]⟩ st7<;>rfl
def qfy (s:ByteArray) (k:Nat) (y:Px.Sm) (st:Px.Ps):Except Nat (Px.Sm×Px.Ps) :=
 match Px.kind s k st with
 | .ok st1=>.ok (y,st1)
 | .error p=>.error p
def gotX (s x:ByteArray) (y:Px.Sm) (st:Px.Ps):Except Nat (Px.Sm×Px.Ps):=.ok (y,if Px.onB s st.t x then Px.nx s st else st)
theorem zl1 {w:World} {b:Nat} {s:ByteArray} {k:Nat} {R:Except Nat (Px.Sm×Px.Ps)} (h:PSt w b s ((R.map Prod.snd).bind (Px.kind s k))):PSt w b s ((qae R (qfy s k)).map Prod.snd):=by
 cases R with
 | error p=>exact h
 | ok r =>
  obtain ⟨x,st⟩:=r;have h':PSt w b s (Px.kind s k st):=h;unfold qae qfy;simp only;cases hk:Px.kind s k st<;>rw[hk] at h'<;>exact h'
theorem zl0 {w:World} {b:Nat} {s x:ByteArray} {R:Except Nat (Px.Sm×Px.Ps)} (h:PSt w b s ((R.map Prod.snd).bind (Px.need s x))):PSt w b s ((qae R (qbd s x)).map Prod.snd):=by
 cases R with
 | error p=>exact h
 | ok r =>
  obtain ⟨y,st⟩:=r;have h':PSt w b s (Px.need s x st):=h;unfold qae qbd;simp only;cases hk:Px.need s x st<;>rw[hk] at h'<;>exact h'
theorem zse {w:World} {b:Nat} {s x:ByteArray} {R:Except Nat (Px.Sm×Px.Ps)} (h:PSt w b s (gotR s (R.map Prod.snd) x)):PSt w b s ((qae R (gotX s x)).map Prod.snd):=by
 cases R with
 | error p=>exact h
 | ok r =>
  obtain ⟨y,st⟩:=r;have h':PSt w b s (if Px.onB s st.t x then .ok (Px.nx s st) else .ok st):=h
  unfold qae gotX;simp only;cases hk:Px.onB s st.t x<;>simp[hk] at h'<;>exact h'
theorem zny {s:ByteArray} {k:Nat} {R:Except Nat (Px.Sm×Px.Ps)} {x:Px.Sm} {st':Px.Ps} (h:qae R (qfy s k)=.ok (x,st')):∃ st,R=.ok (x,st)∧st.t.k=k∧st'=Px.nx s st:=by
 cases R with
 | error p=>cases h
 | ok r =>
  obtain ⟨y,st⟩:=r;unfold qae qfy Px.kind at h;simp only at h;by_cases hk:st.t.k=k
  ·rw[if_pos hk] at h;cases h;exact ⟨st,rfl,hk,rfl⟩
  ·rw[if_neg hk] at h;cases h
theorem zmy {s z:ByteArray} {R:Except Nat (Px.Sm×Px.Ps)} {x:Px.Sm} {st':Px.Ps} (h:qae R (qbd s z)=.ok (x,st')):∃ st,R=.ok (x,st)∧Px.onB s st.t z=true∧st'=Px.nx s st:=by
 cases R with
 | error p=>cases h
 | ok r =>
  obtain ⟨y,st⟩:=r;unfold qae qbd Px.need at h;simp only at h;by_cases hk:Px.onB s st.t z=true
  ·rw[if_pos hk] at h;cases h;exact ⟨st,rfl,hk,rfl⟩
  ·rw[if_neg hk] at h;cases h
theorem zt6 {s z:ByteArray} {R:Except Nat (Px.Sm×Px.Ps)} {x:Px.Sm} {st':Px.Ps} (h:qae R (gotX s z)=.ok (x,st')):∃ st,R=.ok (x,st)∧st'=if Px.onB s st.t z then Px.nx s st else st:=by
 cases R with
 | error p=>cases h
 | ok r =>
  obtain ⟨y,st⟩:=r;unfold qae gotX at h;simp only at h;cases h;exact ⟨st,rfl,rfl⟩
theorem Mk.nest {b:Nat} {s:ByteArray} {w0 w:World} {q:Nat} {R:Except Nat (Px.Sm×Px.Ps)} {N:Int} (h:Mk b s w0 q R N w) {x:Px.Sm} {st:Px.Ps} (e:R=.ok (x,st)):st.nest=N:=by
 obtain ⟨y,ve,a1,n1,c1,a2,n2,c2,h1,h2⟩:=h.cells;exact (h2 x st e).2.1
theorem Mk.tk {b:Nat} {s:ByteArray} {w0 w:World} {q:Nat} {R:Except Nat (Px.Sm×Px.Ps)} {N:Int} (h:Mk b s w0 q R N w) {x:Px.Sm} {st:Px.Ps} (e:R=.ok (x,st)):Px.Tk s st.t:=by
 have:=h.pen
 rw[e] at this;exact this.2
theorem Mk.need {b:Nat} {s z:ByteArray} {w0 w w1:World} {q:Nat} {R:Except Nat (Px.Sm×Px.Ps)} {N:Int} (h:Mk b s w0 q R N w) (hb:b < w0.heap.size) (hq:w0.heap.size≤q) (k:Kp b w w1) (hp:PSt w1 b s ((R.map Prod.snd).bind (Px.need s z))):Mk b s w0 q (qae R (qbd s z)) N w1 :=
 h.on hb hq k (zl0 hp) fun x st' hx=>by
  obtain ⟨st,h1,h2,rfl⟩:=zmy hx;exact ⟨(h.nest h1:st.nest=N),st,h1⟩
theorem Mk.kind {b:Nat} {s:ByteArray} {z:Nat} {w0 w w1:World} {q:Nat} {R:Except Nat (Px.Sm×Px.Ps)} {N:Int} (h:Mk b s w0 q R N w) (hb:b < w0.heap.size) (hq:w0.heap.size≤q) (k:Kp b w w1) (hp:PSt w1 b s ((R.map Prod.snd).bind (Px.kind s z))):Mk b s w0 q (qae R (qfy s z)) N w1 :=
 h.on hb hq k (zl1 hp) fun x st' hx=>by
  obtain ⟨st,h1,h2,rfl⟩:=zny hx;exact ⟨(h.nest h1:st.nest=N),st,h1⟩
theorem Mk.got {b:Nat} {s z:ByteArray} {w0 w w1:World} {q:Nat} {R:Except Nat (Px.Sm×Px.Ps)} {N:Int} (h:Mk b s w0 q R N w) (hb:b < w0.heap.size) (hq:w0.heap.size≤q) (k:Kp b w w1) (hp:PSt w1 b s (gotR s (R.map Prod.snd) z)):Mk b s w0 q (qae R (gotX s z)) N w1 :=
 h.on hb hq k (zse hp) fun x st' hx=>by
  obtain ⟨st,h1,rfl⟩:=zt6 hx;refine ⟨?_,st,h1⟩;split
  ·exact (h.nest h1:st.nest=N)
  ·exact h.nest h1
def exX (s:ByteArray) (y:Px.Sm) (st:Px.Ps):Except Nat (Px.Sm×Px.Ps) :=
 match Px.qa4 s st with
 | .ok (e,st')=>.ok ({ y with ex:=some e },st')
 | .error p=>.error p
theorem Mk.expr {b:Nat} {s:ByteArray} {w0 w w1:World} {q q1:Nat} {R:Except Nat (Px.Sm×Px.Ps)} {N:Int} (h:Mk b s w0 q R N w) (hb:b < w0.heap.size) (hq:w0.heap.size≤q) (hp:qb2 b s w ((R.map Prod.snd).bind (Px.qa4 s)) (.returned (.pointer (some ⟨q1,0,none⟩))) w1):Mk b s w0 q (qae R (exX s)) N (w1.setCell ⟨q,3,none⟩ (.pointer (some ⟨q1,0,none⟩))):=by
 obtain ⟨k,q1',he,h3⟩:=hp;obtain rfl:q1=q1':=by simpa using he
 obtain ⟨y,ve,a1,n1,c1,a2,n2,c2,h1,h2⟩:=h.cells;have hqw:q < w.heap.size:=(Array.getElem?_eq_some_iff.1 h1).1;have z:=k.size;have hc:(w1.setCell ⟨q,3,none⟩ (.pointer (some ⟨q1,0,none⟩))).heap[q]?=some (.cells (qay y (.pointer (some ⟨q1,0,none⟩)) (.slice a1 n1 c1) (.slice a2 n2 c2)) 218):=by
  rw[heap_set _ (Kp.heap k h1 (by omega))];simp[qay]
 have hkp:Kp b w0 (w1.setCell ⟨q,3,none⟩ (.pointer (some ⟨q1,0,none⟩))):=(h.kp.trans k).setN hq _;have hbq:b≠q:=by omega
 cases R with
 | error p =>
  exact ⟨hkp,⟨y,_,a1,n1,c1,a2,n2,c2,hc,fun x st hx=>by cases hx⟩,PSt.setN (r:=.error p) h3.2.2 hbq _⟩
 | ok r =>
  obtain ⟨x,st⟩:=r;obtain ⟨e1,e2,r1,r2,e3,e4,e5,e6,e7⟩:=h2 x st rfl;subst e1;have h3':match Px.qa4 s st with
   | .ok (x,st)=>ExAt w1 x (In w w1) q1∧PenAt w1 b s st.t (-1) st.nest st.deep
   | .error p=>w.heap.size≤q1∧(∃ v0 v1 v2 v3 v4 v5,w1.heap[q1]?=some (.cells #[v0,v1,v2,v3,v4,v5] 228))∧∃ t nest deep,PenAt w1 b s t ((p:Nat):Int) nest deep:=h3
  cases hr:Px.qa4 s st with
  | error p =>
   rw[hr] at h3';have er:qae (.ok (y,st)) (exX s)=.error p:=by simp[qae,exX,hr]
   rw[er];exact ⟨hkp,⟨y,_,a1,n1,c1,a2,n2,c2,hc,fun x st hx=>by cases hx⟩,PSt.setN (r:=.error p) h3'.2.2 hbq _⟩
  | ok r =>
   obtain ⟨e,st'⟩:=r;rw[hr] at h3';have er:qae (.ok (y,st)) (exX s)=.ok ({ y with ex:=some e },st'):=by simp[qae,exX,hr]
   have hgo:=Px.qbb s _ _ _ (h.tk rfl) hr;rw[er];have hk:∀ i,In w0 w i∧i≠q→(w1.setCell ⟨q,3,none⟩ (.pointer (some ⟨q1,0,none⟩))).heap[i]?=w.heap[i]?:=fun i hi=>by rw[qag _ hi.2];exact k.block i hi.1.2 (by have:=hi.1.1;omega)
   have hm:∀ i,In w0 w i∧i≠q→In w0 (w1.setCell ⟨q,3,none⟩ (.pointer (some ⟨q1,0,none⟩))) i∧i≠q:=fun i hi=>⟨⟨hi.1.1,by rw[size_set];have:=hi.1.2;omega⟩,hi.2⟩
   have z0:=h.kp.size;refine ⟨hkp,⟨{ y with ex:=some e },_,a1,n1,c1,a2,n2,c2,hc,fun x2 st2 hx=>?_⟩,PSt.setN (r:=.ok st') ⟨h3'.2,hgo.tk⟩ hbq _⟩
   cases hx;refine ⟨rfl,hgo.nest.trans e2,r1,r2,⟨q1,rfl,?_⟩,(e4.keep hk).mono hm,(e5.keep hk).mono hm,(e6.keep hk).mono hm,(e7.keep hk).mono hm⟩;refine (h3'.1.keep fun i hi=>qag _ (by have:=hi.1;omega)).mono fun i hi=>⟨⟨?_,?_⟩,?_⟩
   ·have:=hi.1;omega
   ·rw[size_set];exact hi.2
   ·have:=hi.1;omega
theorem zoe {s:ByteArray} {st:Px.Ps}:(qae (.ok (Px.qa8,st)) (qfy s 119)).map Prod.snd=(qa5 s st).map Prod.snd:=by
 unfold qae qfy qa5;simp only;cases Px.kind s 119 st<;>rfl
theorem zyd {s:ByteArray} {R:Except Nat (Px.Sm×Px.Ps)} (h:onR s (R.map Prod.snd) ⟨#[41]⟩=true):qae R (Px.qaw s)=R:=by
 cases R with
 | error p=>rfl
 | ok r =>
  obtain ⟨x,st⟩:=r;have h':Px.onB s st.t ⟨#[41]⟩=true:=h;simp[qae,Px.qaw,h']
theorem zvj {s:ByteArray} {R:Except Nat (Px.Sm×Px.Ps)} (h:onR s (R.map Prod.snd) ⟨#[41]⟩=false):qae R (Px.qaw s)=qae R (exX s):=by
 cases R with
 | error p=>rfl
 | ok r =>
  obtain ⟨x,st⟩:=r;have h':Px.onB s st.t ⟨#[41]⟩=false:=h;simp[qae,Px.qaw,h',exX];cases Px.qa4 s st<;>rfl
theorem qvs {s z:ByteArray} {R:Except Nat (Px.Sm×Px.Ps)} (h:onR s (R.map Prod.snd) z=true):∃ x st,R=.ok (x,st)∧Px.onB s st.t z=true∧qae R (gotX s z)=.ok (x,Px.nx s st):=by
 cases R with
 | error p=>cases h
 | ok r =>
  obtain ⟨x,st⟩:=r;have h':Px.onB s st.t z=true:=h;exact ⟨x,st,rfl,h',by simp[qae,gotX,h']⟩
theorem qs8 {s z:ByteArray} {R:Except Nat (Px.Sm×Px.Ps)} (h:onR s (R.map Prod.snd) z=false):qae R (gotX s z)=R:=by
 cases R with
 | error p=>rfl
 | ok r =>
  obtain ⟨x,st⟩:=r;have h':Px.onB s st.t z=false:=h;simp[qae,gotX,h']
theorem zws {s:ByteArray} {R:Except Nat (Px.Sm×Px.Ps)} (h:onR s (R.map Prod.snd) ⟨#[97,115]⟩=false):qae R (Px.qa9 s)=R:=by
 cases R with
 | error p=>rfl
 | ok r =>
  obtain ⟨x,st⟩:=r;have h':Px.onB s st.t ⟨#[97,115]⟩=false:=h;simp[qae,Px.qa9,h']
theorem zmm {s:ByteArray} {R:Except Nat (Px.Sm×Px.Ps)} (h:onR s (R.map Prod.snd) ⟨#[117,110,100,111]⟩=false):qae R (Px.qat s)=R:=by
 cases R with
 | error p=>rfl
 | ok r =>
  obtain ⟨x,st⟩:=r;have h':Px.onB s st.t ⟨#[117,110,100,111]⟩=false:=h;simp[qae,Px.qat,h']
theorem zgy {s:ByteArray} {R:Except Nat (Px.Sm×Px.Ps)} (h:onR s (R.map Prod.snd) ⟨#[116,114,105,101,115]⟩=false):qae R (Px.qas s)=R:=by
 cases R with
 | error p=>rfl
 | ok r =>
  obtain ⟨x,st⟩:=r;have h':Px.onB s st.t ⟨#[116,114,105,101,115]⟩=false:=h;simp[qae,Px.qas,h']
theorem zx8 {s:ByteArray} {R:Except Nat (Px.Sm×Px.Ps)} (h:onR s (R.map Prod.snd) ⟨#[97,115]⟩=true):(qae (qae R (gotX s ⟨#[97,115]⟩)) (qfy s 119)).map Prod.snd=(qae R (Px.qa9 s)).map Prod.snd ∧
  ∀ x' st',qae R (Px.qa9 s)=.ok (x',st')→∃ x,qae (qae R (gotX s ⟨#[97,115]⟩)) (qfy s 119)=.ok (x,st')∧x'={ x with asw:=qdm s ((qae R (gotX s ⟨#[97,115]⟩)).map Prod.snd) 119,asPl:=qf0 ((qae R (gotX s ⟨#[97,115]⟩)).map Prod.snd) 119 }:=by
 obtain ⟨x,st,rfl,h1,h2⟩:=qvs h;rw[h2];simp only[qae,Px.qa9,if_pos h1,qfy];by_cases hk:(Px.nx s st).t.k=119
 ·simp[Px.kind,hk,Except.map,qdm,qf0,Px.txt]
 ·simp[Px.kind,hk,Except.map]
theorem zkt {s:ByteArray} {R:Except Nat (Px.Sm×Px.Ps)} (h:onR s (R.map Prod.snd) ⟨#[117,110,100,111]⟩=true):(qae (qae R (gotX s ⟨#[117,110,100,111]⟩)) (qfy s 119)).map Prod.snd=(qae R (Px.qat s)).map Prod.snd ∧
  ∀ x' st',qae R (Px.qat s)=.ok (x',st')→∃ x,qae (qae R (gotX s ⟨#[117,110,100,111]⟩)) (qfy s 119)=.ok (x,st')∧x'={ x with undo:=qdm s ((qae R (gotX s ⟨#[117,110,100,111]⟩)).map Prod.snd) 119 }:=by
 obtain ⟨x,st,rfl,h1,h2⟩:=qvs h;rw[h2];simp only[qae,Px.qat,if_pos h1,qfy];by_cases hk:(Px.nx s st).t.k=119
 ·simp[Px.kind,hk,Except.map,qdm,Px.txt]
 ·simp[Px.kind,hk,Except.map]
theorem zet {s:ByteArray} {R:Except Nat (Px.Sm×Px.Ps)} (h:onR s (R.map Prod.snd) ⟨#[116,114,105,101,115]⟩=true):(qae (qae R (gotX s ⟨#[116,114,105,101,115]⟩)) (qfy s 110)).map Prod.snd=(qae R (Px.qas s)).map Prod.snd ∧
  ∀ x' st',qae R (Px.qas s)=.ok (x',st')→∃ x,qae (qae R (gotX s ⟨#[116,114,105,101,115]⟩)) (qfy s 110)=.ok (x,st')∧x'={ x with n:=Px.valOf (qdm s ((qae R (gotX s ⟨#[116,114,105,101,115]⟩)).map Prod.snd) 110).toList,nPl:=qf0 ((qae R (gotX s ⟨#[116,114,105,101,115]⟩)).map Prod.snd) 110 }:=by
 obtain ⟨x,st,rfl,h1,h2⟩:=qvs h;rw[h2];simp only[qae,Px.qas,if_pos h1,qfy];by_cases hk:(Px.nx s st).t.k=110
 ·simp[Px.kind,hk,Except.map,qdm,qf0,Px.txt]
 ·simp[Px.kind,hk,Except.map]
theorem qlq {w:World} {b:Nat} {s:ByteArray} {r:Except Nat Px.Ps} (h:PSt w b s r):(qdm s r 110).size≤4∧∀ j (hj:j < (qdm s r 110).size),Px.qba (qdm s r 110)[j]=true:=by
 cases r with
 | error p=>exact ⟨Nat.zero_le _,fun j hj=>absurd hj (Nat.not_lt_zero j)⟩
 | ok st =>
  by_cases hk:st.t.k=110
  ·have e:qdm s (.ok st) 110=s.extract st.t.a st.t.b:=by simp[qdm,hk]
   have:=qkx h.2 hk
   simp only[e];exact this
  ·have e:qdm s (.ok st) 110=⟨#[]⟩:=by simp[qdm,hk]
   simp only[e];exact ⟨Nat.zero_le _,fun j hj=>absurd hj (Nat.not_lt_zero j)⟩
theorem qyn (b:Nat) (s:ByteArray) (hs3:s.size≤300) (w0:World) (q:Nat) (hb:b < w0.heap.size) (hq:w0.heap.size≤q) (st:Px.Ps) (w:World) (hN0:0≤st.nest) (hN:st.nest+(s.size+1:Nat)≤1000000) (M:Mk b s w0 q (.ok (Px.qa8,st)) st.nest w) :
  Calls Tryz.prog 108 #[.pointer (some ⟨b,0,none⟩),.pointer (some ⟨q,0,none⟩)] w fun e w'=>e=.returned (.tuple #[])∧Mk b s w0 q (Px.call s st) st.nest w':=by
 have hs:s.size≤maxLen:=by unfold maxLen;omega
 have HM:Hid (_):=M;clear M;go_enter Tryz.func108,Tryz.ntmps108
 go_wp2_with fail;refine (qda b s 119 (.ok st) _ HM.out.pen hs).mono ?_;rintro e w1 ⟨⟨kv,kx,rfl⟩,k1,p1⟩;have m1:=HM.out.kind hb hq k1 p1;obtain ⟨y,ve,a1,n1,c1,a2,n2,c2,hc,hcx⟩:=m1.cells;clear hcx;obtain ⟨d0,d1,d2,d3,d4,d5,d6,d7,d8,d9,d10,df⟩:=qaa hc;have hq1:q < w1.heap.size:=lt_of_cell d0;have M1:Hid (_):=m1;clear k1 p1 hc m1;go_wp2_with fail;have m2:Mk b s w0 q (qa5 s st) st.nest _:=Mk.store (fun y=>{ y with op:=99,word:=qdm s (.ok st) 119,pl:=qf0 (.ok st) 119,n:=1 }) (fun y=>⟨rfl,rfl,rfl⟩) M1.out
  (W:=((((w1.setCell ⟨q,0,none⟩ (.int .u8 99)).setCell ⟨q,1,none⟩ (.string (qdm s (.ok st) 119))).setCell ⟨q,2,none⟩ (.int .i64 (qf0 (.ok st) 119))).setCell ⟨q,7,none⟩ (.int .i64 1)).alloc (.cells #[.int .u8 kv,.string (qdm s (.ok st) 119),.int .i64 (qf0 (.ok st) 119),.int .i64 kx] 143))
  (((((M1.out.kp.setN hq _).setN hq _).setN hq _).setN hq _).alloc _) (by simp) (fun i hi hne=>by rw[Below.heap_alloc _ _ _ (by simpa [size_set] using hi),qag _ hne,qag _ hne,qag _ hne,qag _ hne])
  (fun y ve v1 v2 h=>by rw[Below.heap_alloc _ _ _ (by simpa [size_set] using hq1),heap_set _ (heap_set _ (heap_set _ (heap_set _ h)))];simp[qay])
  ?pp ?rr
 case pp =>
  rw[← zoe];exact ((((M1.out.pen.setN (by omega) _).setN (by omega) _).setN (by omega) _).setN (by omega) _).alloc _
 case rr =>
  intro x' st' hx;unfold qa5 Px.kind at hx;by_cases hk:st.t.k=119
  ·rw[if_pos hk] at hx;cases hx;refine ⟨rfl,Px.qa8,Px.nx s st,?_,?_⟩
   ·simp[qae,qfy,Px.kind,hk]
   ·simp[qdm,qf0,hk,Px.txt]
  ·rw[if_neg hk] at hx;cases hx
 have M2:Hid (_):=m2;clear m2 M1 d0 d1 d2 d3 d4 d5 d6 d7 d8 d9 d10 df;refine (qcb b s _ _ _ M2.out.pen hs).mono ?_;rintro e w2 ⟨rfl,k2,p2⟩;have M3:Hid (Mk b s w0 q (qae (qa5 s st) (qbd s ⟨#[40]⟩)) st.nest w2):=M2.out.need hb hq k2 p2;clear k2 p2 M2;go_wp2_with fail;refine (onU b s _ _ _ M3.out.pen).mono ?_;rintro e w' ⟨rfl,rfl⟩;generalize hB:onR s ((qae (qa5 s st) (qbd s ⟨#[40]⟩)).map Prod.snd) ⟨#[41]⟩=B;have HB:Hid (_):=hB;clear hB;go_upto_if 35 with fail
 go_cut [] (fun wc=>Hid (Mk b s w0 q (qae (qae (qa5 s st) (qbd s ⟨#[40]⟩)) (Px.qaw s)) st.nest wc))
 case first =>
  cases B
  ·go_wp2_with fail;refine (zue b s _ _ M3.out.pen hs ?hn).mono ?_
   case hn =>
    intro st1 h1;cases hr:qae (qa5 s st) (qbd s ⟨#[40]⟩) with
    | error p=>rw[hr] at h1;cases h1
    | ok r =>
     obtain ⟨x,st2⟩:=r;rw[hr] at h1;cases h1;rw[M3.out.nest hr];exact ⟨hN0,hN⟩
   rintro e w3 h3;obtain ⟨q1,he⟩:∃ q1,e=.returned (.pointer (some ⟨q1,0,none⟩)):=by obtain ⟨_,q1,he,_⟩:=h3;exact ⟨q1,he⟩
   subst he;have m4:=M3.out.expr hb hq h3;obtain ⟨y,ve,a1,n1,c1,a2,n2,c2,hc,hcx⟩:=M3.out.cells;have hc3:=Kp.heap h3.1 hc (by omega)
   obtain ⟨d0,d1,d2,d3,d4,d5,d6,d7,d8,d9,d10,df⟩:=qaa hc3;have M4:Hid (_):=m4;clear hc hcx hc3 m4 h3;go_wp2_with fail;go_meet
   case rel =>
    show Mk _ _ _ _ _ _ _
    rw[zvj HB.out];exact M4.out
  ·go_wp2_with fail;go_meet
   case rel =>
    show Mk _ _ _ _ _ _ _
    rw[zyd HB.out];exact M3.out
 case rest =>
 have M4:Hid (_):=hcut;clear hcut M3 HB;go_wp2_with fail;refine (qcb b s _ _ _ M4.out.pen hs).mono ?_;rintro e w3 ⟨rfl,k3,p3⟩;have N1:Hid (Mk b s w0 q (qae (qae (qae (qa5 s st) (qbd s ⟨#[40]⟩)) (Px.qaw s)) (qbd s ⟨#[41]⟩)) st.nest w3):=M4.out.need hb hq k3 p3;clear k3 p3 M4;go_wp2_with fail;refine (gotU b s _ _ _ N1.out.pen hs).mono ?_;rintro e w4 ⟨rfl,k4,p4⟩;have M4:Hid (Mk b s w0 q (qae (qae (qae (qae (qa5 s st) (qbd s ⟨#[40]⟩)) (Px.qaw s)) (qbd s ⟨#[41]⟩)) (gotX s ⟨#[97,115]⟩)) st.nest w4):=N1.out.got hb hq k4 p4;clear k4 p4;generalize hB:onR s (((qae (qae (qae (qa5 s st) (qbd s ⟨#[40]⟩)) (Px.qaw s)) (qbd s ⟨#[41]⟩))).map Prod.snd) ⟨#[97,115]⟩=B
 have HB:Hid (_):=hB;clear hB;go_upto_if 45 with fail
 go_cut [7] (fun _ wc=>Hid (Mk b s w0 q (qae (qae (qae (qae (qa5 s st) (qbd s ⟨#[40]⟩)) (Px.qaw s)) (qbd s ⟨#[41]⟩)) (Px.qa9 s)) st.nest wc))
 case first =>
  cases B
  ·go_wp2_with fail;go_meet
   case rel =>
    show Mk _ _ _ _ _ _ _
    have h:=M4.out;rw[qs8 HB.out] at h;rw[zws HB.out];exact h
  ·go_wp2_with fail;generalize hr5:(qae (qae (qae (qae (qa5 s st) (qbd s ⟨#[40]⟩)) (Px.qaw s)) (qbd s ⟨#[41]⟩)) (gotX s ⟨#[97,115]⟩)).map Prod.snd=r5 at *;refine (qda b s 119 r5 _ (by rw[← hr5];exact M4.out.pen) hs).mono ?_
   rintro e w5 ⟨⟨kv5,kx5,rfl⟩,k5,p5⟩;have m5:=M4.out.kind hb hq k5 (by rw[hr5];exact p5)
   obtain ⟨y,ve,a1,n1,c1,a2,n2,c2,hc,hcx⟩:=m5.cells;obtain ⟨d0,d1,d2,d3,d4,d5,d6,d7,d8,d9,d10,df⟩:=qaa hc;have hq5:q < w5.heap.size:=lt_of_cell d0;have V5:Hid (_):=qlq (show PSt w4 b s r5 by rw[← hr5];exact M4.out.pen)
   have M5:Hid (_):=m5;have HR5:Hid (_):=hr5;clear k5 p5 hc hcx m5 hr5;go_wp2_with fail;go_meet
   case rel =>
    show Mk _ _ _ _ _ _ _
    obtain ⟨pn,pr⟩:=zx8 HB.out;rw[HR5.out] at pr;exact Mk.store (fun y=>{ y with asw:=qdm s r5 119,asPl:=qf0 r5 119 }) (fun y=>⟨rfl,rfl,rfl⟩) M5.out (W:=(((w5.setCell ⟨q,4,none⟩ (.string (qdm s r5 119))).setCell ⟨q,5,none⟩ (.int .i64 (qf0 r5 119))).alloc (.cells #[.int .u8 kv5,.string (qdm s r5 119),.int .i64 (qf0 r5 119),.int .i64 kx5] 143))) (((M5.out.kp.setN hq _).setN hq _).alloc _) (by simp) (fun i hi hne=>by rw[Below.heap_alloc _ _ _ (by simpa [size_set] using hi),qag _ hne,qag _ hne])
     (fun y ve v1 v2 h=>by rw[Below.heap_alloc _ _ _ (by simpa [size_set] using hq5),heap_set _ (heap_set _ h)];simp[qay]) (by rw[← pn];exact ((M5.out.pen.setN (by omega) _).setN (by omega) _).alloc _)
     (fun x' st' hx=>by
      obtain ⟨x,h1,h2⟩:=pr x' st' hx;exact ⟨M5.out.nest h1,x,st',h1,h2⟩)
 case rest =>
 have N2:Hid (_):=hcut;clear hcut M4 N1 HB;go_wp2_with fail;refine (gotU b s _ _ _ N2.out.pen hs).mono ?_;rintro e w4 ⟨rfl,k4,p4⟩;have M4:Hid (Mk b s w0 q (qae (qae (qae (qae (qae (qa5 s st) (qbd s ⟨#[40]⟩)) (Px.qaw s)) (qbd s ⟨#[41]⟩)) (Px.qa9 s)) (gotX s ⟨#[117,110,100,111]⟩)) st.nest w4):=N2.out.got hb hq k4 p4;clear k4 p4;generalize hB:onR s (((qae (qae (qae (qae (qa5 s st) (qbd s ⟨#[40]⟩)) (Px.qaw s)) (qbd s ⟨#[41]⟩)) (Px.qa9 s))).map Prod.snd) ⟨#[117,110,100,111]⟩=B;have HB:Hid (_):=hB;clear hB;go_upto_if 60 with fail
 go_cut [9] (fun _ wc=>Hid (Mk b s w0 q (qae (qae (qae (qae (qae (qa5 s st) (qbd s ⟨#[40]⟩)) (Px.qaw s)) (qbd s ⟨#[41]⟩)) (Px.qa9 s)) (Px.qat s)) st.nest wc))
 case first =>
  cases B
  ·go_wp2_with fail;go_meet
   case rel =>
    show Mk _ _ _ _ _ _ _
    have h:=M4.out;rw[qs8 HB.out] at h;rw[zmm HB.out];exact h
  ·go_wp2_with fail;generalize hr5:(qae (qae (qae (qae (qae (qa5 s st) (qbd s ⟨#[40]⟩)) (Px.qaw s)) (qbd s ⟨#[41]⟩)) (Px.qa9 s)) (gotX s ⟨#[117,110,100,111]⟩)).map Prod.snd=r5 at *;refine (qda b s 119 r5 _ (by rw[← hr5];exact M4.out.pen) hs).mono ?_
   rintro e w5 ⟨⟨kv5,kx5,rfl⟩,k5,p5⟩;have m5:=M4.out.kind hb hq k5 (by rw[hr5];exact p5)
   obtain ⟨y,ve,a1,n1,c1,a2,n2,c2,hc,hcx⟩:=m5.cells;obtain ⟨d0,d1,d2,d3,d4,d5,d6,d7,d8,d9,d10,df⟩:=qaa hc;have hq5:q < w5.heap.size:=lt_of_cell d0;have V5:Hid (_):=qlq (show PSt w4 b s r5 by rw[← hr5];exact M4.out.pen)
   have M5:Hid (_):=m5;have HR5:Hid (_):=hr5;clear k5 p5 hc hcx m5 hr5;go_wp2_with fail;go_meet
   case rel =>
    show Mk _ _ _ _ _ _ _
    obtain ⟨pn,pr⟩:=zkt HB.out;rw[HR5.out] at pr;exact Mk.store (fun y=>{ y with undo:=qdm s r5 119 }) (fun y=>⟨rfl,rfl,rfl⟩) M5.out (W:=((w5.setCell ⟨q,6,none⟩ (.string (qdm s r5 119))).alloc (.cells #[.int .u8 kv5,.string (qdm s r5 119),.int .i64 (qf0 r5 119),.int .i64 kx5] 143))) ((M5.out.kp.setN hq _).alloc _) (by simp) (fun i hi hne=>by rw[Below.heap_alloc _ _ _ (by simpa [size_set] using hi),qag _ hne])
     (fun y ve v1 v2 h=>by rw[Below.heap_alloc _ _ _ (by simpa [size_set] using hq5),heap_set _ h];simp[qay]) (by rw[← pn];exact (M5.out.pen.setN (by omega) _).alloc _)
     (fun x' st' hx=>by
      obtain ⟨x,h1,h2⟩:=pr x' st' hx;exact ⟨M5.out.nest h1,x,st',h1,h2⟩)
 case rest =>
 have N3:Hid (_):=hcut;clear hcut M4 N2 HB;go_wp2_with fail;refine (gotU b s _ _ _ N3.out.pen hs).mono ?_;rintro e w4 ⟨rfl,k4,p4⟩;have M4:Hid (Mk b s w0 q (qae (qae (qae (qae (qae (qae (qa5 s st) (qbd s ⟨#[40]⟩)) (Px.qaw s)) (qbd s ⟨#[41]⟩)) (Px.qa9 s)) (Px.qat s)) (gotX s ⟨#[116,114,105,101,115]⟩)) st.nest w4):=N3.out.got hb hq k4 p4;clear k4 p4;generalize hB:onR s (((qae (qae (qae (qae (qae (qa5 s st) (qbd s ⟨#[40]⟩)) (Px.qaw s)) (qbd s ⟨#[41]⟩)) (Px.qa9 s)) (Px.qat s))).map Prod.snd) ⟨#[116,114,105,101,115]⟩=B;have HB:Hid (_):=hB
 clear hB;go_upto_if 70 with fail
 go_cut [11] (fun _ wc=>Hid (Mk b s w0 q (qae (qae (qae (qae (qae (qae (qa5 s st) (qbd s ⟨#[40]⟩)) (Px.qaw s)) (qbd s ⟨#[41]⟩)) (Px.qa9 s)) (Px.qat s)) (Px.qas s)) st.nest wc))
 case first =>
  cases B
  ·go_wp2_with fail;go_meet
   case rel =>
    show Mk _ _ _ _ _ _ _
    have h:=M4.out;rw[qs8 HB.out] at h;rw[zgy HB.out];exact h
  ·go_wp2_with fail;generalize hr5:(qae (qae (qae (qae (qae (qae (qa5 s st) (qbd s ⟨#[40]⟩)) (Px.qaw s)) (qbd s ⟨#[41]⟩)) (Px.qa9 s)) (Px.qat s)) (gotX s ⟨#[116,114,105,101,115]⟩)).map Prod.snd=r5 at *;refine (qda b s 110 r5 _ (by rw[← hr5];exact M4.out.pen) hs).mono ?_
   rintro e w5 ⟨⟨kv5,kx5,rfl⟩,k5,p5⟩;have m5:=M4.out.kind hb hq k5 (by rw[hr5];exact p5)
   obtain ⟨y,ve,a1,n1,c1,a2,n2,c2,hc,hcx⟩:=m5.cells;obtain ⟨d0,d1,d2,d3,d4,d5,d6,d7,d8,d9,d10,df⟩:=qaa hc;have hq5:q < w5.heap.size:=lt_of_cell d0;have V5:Hid (_):=qlq (show PSt w4 b s r5 by rw[← hr5];exact M4.out.pen)
   have M5:Hid (_):=m5;have HR5:Hid (_):=hr5;clear k5 p5 hc hcx m5 hr5;go_wp2_with fail;refine (qot _ _ V5.out.1 V5.out.2).mono ?_;rintro e w' ⟨rfl,hw⟩;rw[hw];clear hw;go_wp2_with fail;go_meet
   case rel =>
    show Mk _ _ _ _ _ _ _
    obtain ⟨pn,pr⟩:=zet HB.out;rw[HR5.out] at pr;exact Mk.store (fun y=>{ y with n:=Px.valOf (qdm s r5 110).toList,nPl:=qf0 r5 110 }) (fun y=>⟨rfl,rfl,rfl⟩) M5.out (W:=(((w5.setCell ⟨q,7,none⟩ (.int .i64 (Px.valOf (qdm s r5 110).toList))).setCell ⟨q,8,none⟩ (.int .i64 (qf0 r5 110))).alloc (.cells #[.int .u8 kv5,.string (qdm s r5 110),.int .i64 (qf0 r5 110),.int .i64 kx5] 143))) (((M5.out.kp.setN hq _).setN hq _).alloc _) (by simp) (fun i hi hne=>by rw[Below.heap_alloc _ _ _ (by simpa [size_set] using hi),qag _ hne,qag _ hne])
     (fun y ve v1 v2 h=>by rw[Below.heap_alloc _ _ _ (by simpa [size_set] using hq5),heap_set _ (heap_set _ h)];simp[qay]) (by rw[← pn];exact ((M5.out.pen.setN (by omega) _).setN (by omega) _).alloc _)
     (fun x' st' hx=>by
      obtain ⟨x,h1,h2⟩:=pr x' st' hx;exact ⟨M5.out.nest h1,x,st',h1,h2⟩)
 case rest =>
 have N4:Hid (_):=hcut;clear hcut M4 N3 HB;go_wp2_with fail;refine (qcb b s _ _ _ N4.out.pen hs).mono ?_;rintro e w8 ⟨rfl,k8,p8⟩;have M8:Hid (Mk b s w0 q (qae (qae (qae (qae (qae (qae (qae (qa5 s st) (qbd s ⟨#[40]⟩)) (Px.qaw s)) (qbd s ⟨#[41]⟩)) (Px.qa9 s)) (Px.qat s)) (Px.qas s)) (qbd s ⟨#[59]⟩)) st.nest w8):=N4.out.need hb hq k8 p8;clear k8 p8 N4;go_wp2_with fail;go_end0
 rw[qt7];exact ⟨rfl,M8.out⟩
open Go.RowKit
theorem Mk.post {b:Nat} {s:ByteArray} {w0 w:World} {q:Nat} {R:Except Nat (Px.Sm×Px.Ps)} {N:Int} (h:Mk b s w0 q R N w) (hq:w0.heap.size≤q):qju b s w0 R (.returned (ptr q)) w:=by
 refine ⟨h.kp,q,rfl,?_⟩;obtain ⟨y,ve,a1,n1,c1,a2,n2,c2,h1,h2⟩:=h.cells;have hp:=h.pen;have hqw:q < w.heap.size:=(Array.getElem?_eq_some_iff.1 h1).1;cases R with
 | error p=>exact hp
 | ok r =>
  obtain ⟨x,st⟩:=r;obtain ⟨e1,e2,q1,q2,e3,e4,e5,e6,e7⟩:=h2 x st rfl;subst e1;have hm:∀ i,In w0 w i∧i≠q→In w0 w i:=fun i hi=>hi.1
  exact ⟨⟨⟨hq,hqw⟩,.pointer ve,.slice a1 n1 c1,.slice a2 n2 c2,q1,q2,h1,e3.mono hm,e4.mono hm,e5.mono hm,e6.mono hm,e7.mono hm⟩,hp.1⟩
theorem Mk.zwd {b:Nat} {s:ByteArray} {w:World} {st:Px.Ps} {N:Int} (hN:st.nest=N) (hp:PSt w b s (.ok st)) :
  Mk b s w w.heap.size (.ok ({ Px.qa8 with op:=102 },st)) N (w.alloc (.cells #[.int .u8 102,.string ⟨#[]⟩,.int .i64 0,.pointer none,.string ⟨#[]⟩,.int .i64 0,.string ⟨#[]⟩,.int .i64 0,.int .i64 0,.slice none 0 0,.slice none 0 0] 218)):=by
 refine ⟨(Kp.refl _ _).alloc _,⟨{ Px.qa8 with op:=102 },none,none,0,0,none,0,0,qgr (Kp.refl b _) hp.lt,fun x st' hx=>?_⟩,hp.alloc _⟩
 cases hx;exact ⟨rfl,hN,[],[],rfl,Or.inl ⟨rfl,rfl⟩,SmsAt.qbl.2 rfl,Or.inl ⟨rfl,rfl⟩,SmsAt.qbl.2 rfl⟩
theorem Mk.start {b:Nat} {s:ByteArray} {w w1:World} {st:Px.Ps} {N:Int} (hb:b < w.heap.size) (hN:st.nest=N)
  (k:Kp b (w.alloc (.cells #[.int .u8 0,.string ⟨#[]⟩,.int .i64 0,.pointer none,.string ⟨#[]⟩,.int .i64 0,.string ⟨#[]⟩,.int .i64 0,.int .i64 0,.slice none 0 0,.slice none 0 0] 218)) w1) (hp:PSt w1 b s (.ok st)):Mk b s w w.heap.size (.ok (Px.qa8,st)) N w1:=by
 refine ⟨k.qdo,⟨Px.qa8,none,none,0,0,none,0,0,qgr k hb,fun x st' hx=>?_⟩,hp⟩
 cases hx;exact ⟨rfl,hN,[],[],rfl,Or.inl ⟨rfl,rfl⟩,SmsAt.qbl.2 rfl,Or.inl ⟨rfl,rfl⟩,SmsAt.qbl.2 rfl⟩
def oneX (s:ByteArray) (g:Px.Ps→Except Nat (Px.Sm×Px.Ps)) (y:Px.Sm) (st:Px.Ps):Except Nat (Px.Sm×Px.Ps) :=
 match Px.block s g st with
 | .ok (l,st')=>.ok ({ y with one:=l },st')
 | .error p=>.error p
theorem Mk.one {b:Nat} {s:ByteArray} {w0 w w1:World} {q:Nat} {R:Except Nat (Px.Sm×Px.Ps)} {N:Int} {g:Px.Ps→Except Nat (Px.Sm×Px.Ps)} {va:Option Addr} {vn vc:Nat} (h:Mk b s w0 q R N w) (hg:Px.Goes s g) (hb:b < w0.heap.size) (hq:w0.heap.size≤q) (hp:qr6 b s w ((R.map Prod.snd).bind (Px.block s g)) (.returned (.slice va vn vc)) w1):Mk b s w0 q (qae R (oneX s g)) N (w1.setCell ⟨q,9,none⟩ (.slice va vn vc)):=by
 obtain ⟨k,va',vn',vc',he,h3⟩:=hp;obtain ⟨rfl,rfl,rfl⟩:va=va'∧vn=vn'∧vc=vc':=by simpa using he
 obtain ⟨y,ve,a1,n1,c1,a2,n2,c2,h1,h2⟩:=h.cells;have hqw:q < w.heap.size:=(Array.getElem?_eq_some_iff.1 h1).1;have z:=k.size;have hc:(w1.setCell ⟨q,9,none⟩ (.slice va vn vc)).heap[q]?=some (.cells (qay y (.pointer ve) (.slice va vn vc) (.slice a2 n2 c2)) 218):=by
  rw[heap_set _ (Kp.heap k h1 (by omega))];simp[qay]
 have hkp:Kp b w0 (w1.setCell ⟨q,9,none⟩ (.slice va vn vc)):=(h.kp.trans k).setN hq _;have hbq:b≠q:=by omega
 cases R with
 | error p =>
  exact ⟨hkp,⟨y,ve,va,vn,vc,a2,n2,c2,hc,fun x st hx=>by cases hx⟩,PSt.setN (r:=.error p) h3 hbq _⟩
 | ok r =>
  obtain ⟨x,st⟩:=r;obtain ⟨e1,e2,r1,r2,e3,e4,e5,e6,e7⟩:=h2 x st rfl;subst e1;have h3':match Px.block s g st with
   | .ok (l,st)=>∃ qs,SlAt w1 (.slice va vn vc) qs (In w w1)∧SmsAt w1 l (In w w1) qs∧PenAt w1 b s st.t (-1) st.nest st.deep
   | .error p=>∃ t nest deep,PenAt w1 b s t ((p:Nat):Int) nest deep:=h3
  cases hr:Px.block s g st with
  | error p =>
   rw[hr] at h3';have er:qae (.ok (y,st)) (oneX s g)=.error p:=by simp[qae,oneX,hr]
   rw[er];exact ⟨hkp,⟨y,ve,va,vn,vc,a2,n2,c2,hc,fun x st hx=>by cases hx⟩,PSt.setN (r:=.error p) h3' hbq _⟩
  | ok r =>
   obtain ⟨e,st'⟩:=r;rw[hr] at h3';obtain ⟨q',f1,f2,f3⟩:=h3';have er:qae (.ok (y,st)) (oneX s g)=.ok ({ y with one:=e },st'):=by simp[qae,oneX,hr]
   have hgo:=Px.qa0 hg _ _ _ (h.tk rfl) hr;rw[er];have hk:∀ i,In w0 w i∧i≠q→(w1.setCell ⟨q,9,none⟩ (.slice va vn vc)).heap[i]?=w.heap[i]?:=fun i hi=>by rw[qag _ hi.2];exact k.block i hi.1.2 (by have:=hi.1.1;omega)
   have hm:∀ i,In w0 w i∧i≠q→In w0 (w1.setCell ⟨q,9,none⟩ (.slice va vn vc)) i∧i≠q:=fun i hi=>⟨⟨hi.1.1,by rw[size_set];have:=hi.1.2;omega⟩,hi.2⟩
   have z0:=h.kp.size;have hk':∀ i,In w w1 i→(w1.setCell ⟨q,9,none⟩ (.slice va vn vc)).heap[i]?=w1.heap[i]?:=fun i hi=>qag _ (by have:=hi.1;omega)
   have hm':∀ i,In w w1 i→In w0 (w1.setCell ⟨q,9,none⟩ (.slice va vn vc)) i∧i≠q:=fun i hi=>⟨⟨by have:=hi.1;omega,by rw[size_set];exact hi.2⟩,by have:=hi.1;omega⟩
   refine ⟨hkp,⟨{ y with one:=e },ve,va,vn,vc,a2,n2,c2,hc,fun x2 st2 hx=>?_⟩,PSt.setN (r:=.ok st') ⟨f3,hgo.tk⟩ hbq _⟩
   cases hx;exact ⟨rfl,hgo.nest.trans e2,q',r2,(e3.keep hk).mono hm,(f1.keep hk').mono hm',(f2.keep hk').mono hm',(e6.keep hk).mono hm,(e7.keep hk).mono hm⟩
def twoX (s:ByteArray) (g:Px.Ps→Except Nat (Px.Sm×Px.Ps)) (y:Px.Sm) (st:Px.Ps):Except Nat (Px.Sm×Px.Ps) :=
 match Px.block s g st with
 | .ok (l,st')=>.ok ({ y with two:=l },st')
 | .error p=>.error p
theorem Mk.two {b:Nat} {s:ByteArray} {w0 w w1:World} {q:Nat} {R:Except Nat (Px.Sm×Px.Ps)} {N:Int} {g:Px.Ps→Except Nat (Px.Sm×Px.Ps)} {va:Option Addr} {vn vc:Nat} (h:Mk b s w0 q R N w) (hg:Px.Goes s g) (hb:b < w0.heap.size) (hq:w0.heap.size≤q) (hp:qr6 b s w ((R.map Prod.snd).bind (Px.block s g)) (.returned (.slice va vn vc)) w1):Mk b s w0 q (qae R (twoX s g)) N (w1.setCell ⟨q,10,none⟩ (.slice va vn vc)):=by
 obtain ⟨k,va',vn',vc',he,h3⟩:=hp;obtain ⟨rfl,rfl,rfl⟩:va=va'∧vn=vn'∧vc=vc':=by simpa using he
 obtain ⟨y,ve,a1,n1,c1,a2,n2,c2,h1,h2⟩:=h.cells;have hqw:q < w.heap.size:=(Array.getElem?_eq_some_iff.1 h1).1;have z:=k.size;have hc:(w1.setCell ⟨q,10,none⟩ (.slice va vn vc)).heap[q]?=some (.cells (qay y (.pointer ve) (.slice a1 n1 c1) (.slice va vn vc)) 218):=by
  rw[heap_set _ (Kp.heap k h1 (by omega))];simp[qay]
 have hkp:Kp b w0 (w1.setCell ⟨q,10,none⟩ (.slice va vn vc)):=(h.kp.trans k).setN hq _;have hbq:b≠q:=by omega
 cases R with
 | error p =>
  exact ⟨hkp,⟨y,ve,a1,n1,c1,va,vn,vc,hc,fun x st hx=>by cases hx⟩,PSt.setN (r:=.error p) h3 hbq _⟩
 | ok r =>
  obtain ⟨x,st⟩:=r;obtain ⟨e1,e2,r1,r2,e3,e4,e5,e6,e7⟩:=h2 x st rfl;subst e1;have h3':match Px.block s g st with
   | .ok (l,st)=>∃ qs,SlAt w1 (.slice va vn vc) qs (In w w1)∧SmsAt w1 l (In w w1) qs∧PenAt w1 b s st.t (-1) st.nest st.deep
   | .error p=>∃ t nest deep,PenAt w1 b s t ((p:Nat):Int) nest deep:=h3
  cases hr:Px.block s g st with
  | error p =>
   rw[hr] at h3';have er:qae (.ok (y,st)) (twoX s g)=.error p:=by simp[qae,twoX,hr]
   rw[er];exact ⟨hkp,⟨y,ve,a1,n1,c1,va,vn,vc,hc,fun x st hx=>by cases hx⟩,PSt.setN (r:=.error p) h3' hbq _⟩
  | ok r =>
   obtain ⟨e,st'⟩:=r;rw[hr] at h3';obtain ⟨q',f1,f2,f3⟩:=h3';have er:qae (.ok (y,st)) (twoX s g)=.ok ({ y with two:=e },st'):=by simp[qae,twoX,hr]
   have hgo:=Px.qa0 hg _ _ _ (h.tk rfl) hr;rw[er];have hk:∀ i,In w0 w i∧i≠q→(w1.setCell ⟨q,10,none⟩ (.slice va vn vc)).heap[i]?=w.heap[i]?:=fun i hi=>by rw[qag _ hi.2];exact k.block i hi.1.2 (by have:=hi.1.1;omega)
   have hm:∀ i,In w0 w i∧i≠q→In w0 (w1.setCell ⟨q,10,none⟩ (.slice va vn vc)) i∧i≠q:=fun i hi=>⟨⟨hi.1.1,by rw[size_set];have:=hi.1.2;omega⟩,hi.2⟩
   have z0:=h.kp.size;have hk':∀ i,In w w1 i→(w1.setCell ⟨q,10,none⟩ (.slice va vn vc)).heap[i]?=w1.heap[i]?:=fun i hi=>qag _ (by have:=hi.1;omega)
   have hm':∀ i,In w w1 i→In w0 (w1.setCell ⟨q,10,none⟩ (.slice va vn vc)) i∧i≠q:=fun i hi=>⟨⟨by have:=hi.1;omega,by rw[size_set];exact hi.2⟩,by have:=hi.1;omega⟩
   refine ⟨hkp,⟨{ y with two:=e },ve,a1,n1,c1,va,vn,vc,hc,fun x2 st2 hx=>?_⟩,PSt.setN (r:=.ok st') ⟨f3,hgo.tk⟩ hbq _⟩
   cases hx;exact ⟨rfl,hgo.nest.trans e2,r1,q',(e3.keep hk).mono hm,(e4.keep hk).mono hm,(e5.keep hk).mono hm,(f1.keep hk').mono hm',(f2.keep hk').mono hm'⟩
def qjj (s:ByteArray) (st:Px.Ps):Except Nat (Px.Sm×Px.Ps) :=
 match Px.kind s 119 st with
 | .ok st1=>.ok ({ Px.qa8 with op:=108,word:=Px.txt s st.t,pl:=st.t.a },st1)
 | .error p=>.error p
theorem qx9 {s:ByteArray} {st:Px.Ps}:(qae (.ok (Px.qa8,st)) (qfy s 119)).map Prod.snd=(qjj s st).map Prod.snd:=by
 unfold qae qfy qjj;simp only;cases Px.kind s 119 st<;>rfl
theorem zah (s:ByteArray) (st:Px.Ps):Px.letS s st=qae (qae (qae (qjj s st) (qbd s ⟨#[61]⟩)) (exX s)) (qbd s ⟨#[59]⟩):=by
 unfold Px.letS qjj;cases Px.kind s 119 st with
 | error p=>rfl
 | ok st1 =>
  simp only[qae,qbd];cases Px.need s ⟨#[61]⟩ st1 with
  | error p=>rfl
  | ok st2 =>
   simp only[exX];cases Px.qa4 s st2 with
   | error p=>rfl
   | ok r =>
    obtain ⟨e,st3⟩:=r;simp only;cases Px.need s ⟨#[59]⟩ st3<;>rfl
def opS (op:Nat) (st:Px.Ps):Except Nat (Px.Sm×Px.Ps):=.ok ({ Px.qa8 with op:=op },st)
def zdm (s:ByteArray) (g:Px.Ps→Except Nat (Px.Sm×Px.Ps)) (y:Px.Sm) (st:Px.Ps):Except Nat (Px.Sm×Px.Ps) :=
 if Px.onB s st.t ⟨#[101,108,115,101]⟩ then twoX s g y (Px.nx s st) else .ok (y,st)
theorem zh9 (s:ByteArray) (g:Px.Ps→Except Nat (Px.Sm×Px.Ps)) (st:Px.Ps):Px.ifS s g st=qae (qae (qae (opS 105 st) (exX s)) (oneX s g)) (zdm s g):=by
 unfold Px.ifS opS;simp only[qae,exX];cases Px.qa4 s st with
 | error p=>rfl
 | ok r =>
  obtain ⟨e,st1⟩:=r;simp only[oneX];cases Px.block s g st1 with
  | error p=>rfl
  | ok r =>
   obtain ⟨l,st2⟩:=r;simp only[zdm];by_cases h:Px.onB s st2.t ⟨#[101,108,115,101]⟩=true
   ·rw[if_pos h,if_pos h];simp only[twoX];cases Px.block s g (Px.nx s st2) with
    | error p=>rfl
    | ok r=>obtain ⟨m,st3⟩:=r;rfl
   ·rw[if_neg h,if_neg h]
theorem qzb (s:ByteArray) (g:Px.Ps→Except Nat (Px.Sm×Px.Ps)) (st:Px.Ps):Px.tryS s g st=qae (qae (qae (opS 116 st) (oneX s g)) (qbd s ⟨#[101,108,115,101]⟩)) (twoX s g):=by
 unfold Px.tryS opS;simp only[qae,oneX];cases Px.block s g st with
 | error p=>rfl
 | ok r =>
  obtain ⟨l,st1⟩:=r;simp only[qbd];cases Px.need s ⟨#[101,108,115,101]⟩ st1 with
  | error p=>rfl
  | ok st2 =>
   simp only[twoX];cases Px.block s g st2 with
   | error p=>rfl
   | ok r=>obtain ⟨m,st3⟩:=r;rfl
def qi7 (s:ByteArray) (st:Px.Ps):Except Nat (Px.Sm×Px.Ps) :=
 match Px.kind s 110 st with
 | .ok st1=>.ok ({ Px.qa8 with op:=114,n:=Px.valOf (Px.txt s st.t).toList,nPl:=st.t.a },st1)
 | .error p=>.error p
theorem qxm {s:ByteArray} {st:Px.Ps}:(qae (opS 114 st) (qfy s 110)).map Prod.snd=(qi7 s st).map Prod.snd:=by
 unfold qae qfy qi7 opS;simp only;cases Px.kind s 110 st<;>rfl
theorem qzz (s:ByteArray) (g:Px.Ps→Except Nat (Px.Sm×Px.Ps)) (st:Px.Ps):Px.qbu s g st=qae (qi7 s st) (oneX s g):=by
 unfold Px.qbu qi7;cases Px.kind s 110 st with
 | error p=>rfl
 | ok st1 =>
  simp only[qae,oneX];cases Px.block s g st1 with
  | error p=>rfl
  | ok r=>obtain ⟨m,st3⟩:=r;rfl
theorem zua (s:ByteArray) (st:Px.Ps):Px.qig s st=qae (qae (opS 102 st) (qbd s ⟨#[102,97,105,108]⟩)) (qbd s ⟨#[59]⟩):=by
 unfold Px.qig opS;simp only[qae,qbd];cases Px.need s ⟨#[102,97,105,108]⟩ st with
 | error p=>rfl
 | ok st1 =>
  simp only;cases Px.need s ⟨#[59]⟩ st1<;>rfl
theorem zmn {s:ByteArray} {g:Px.Ps→Except Nat (Px.Sm×Px.Ps)} {R:Except Nat (Px.Sm×Px.Ps)} (h:onR s (R.map Prod.snd) ⟨#[101,108,115,101]⟩=false):qae R (zdm s g)=R:=by
 cases R with
 | error p=>rfl
 | ok r =>
  obtain ⟨x,st⟩:=r;have h':Px.onB s st.t ⟨#[101,108,115,101]⟩=false:=h;simp[qae,zdm,h']
theorem zsw {s:ByteArray} {g:Px.Ps→Except Nat (Px.Sm×Px.Ps)} {R:Except Nat (Px.Sm×Px.Ps)} (h:onR s (R.map Prod.snd) ⟨#[101,108,115,101]⟩=true):qae R (zdm s g)=qae (qae R (gotX s ⟨#[101,108,115,101]⟩)) (twoX s g):=by
 obtain ⟨x,st,rfl,h1,h2⟩:=qvs h;rw[h2];simp[qae,zdm,h1]
theorem Mk.op {b:Nat} {s:ByteArray} {w0 w:World} {q:Nat} {st:Px.Ps} {N:Int} (o:Nat) (h:Mk b s w0 q (.ok (Px.qa8,st)) N w) (hb:b < w0.heap.size) (hq:w0.heap.size≤q):Mk b s w0 q (opS o st) N (w.setCell ⟨q,0,none⟩ (.int .u8 (o:Int))) :=
 h.store (fun y=>{ y with op:=o }) (fun _=>⟨rfl,rfl,rfl⟩) (h.kp.setN hq _) (by rw[size_set];exact Nat.le_refl _) (fun i _ hne=>qag _ hne) (fun y ve v1 v2 hh=>by rw[heap_set _ hh];simp[qay]) (PSt.setN (r:=.ok st) h.pen (by omega) _)
  (fun x' st' hx=>by cases hx;exact ⟨h.nest rfl,Px.qa8,st,rfl,rfl⟩)
end Ref
end Go.Proofs.YthanmfbakpcigaaGreatDoor
