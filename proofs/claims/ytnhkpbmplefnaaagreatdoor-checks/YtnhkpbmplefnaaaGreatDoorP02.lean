import Derived.Test.YtnhkpbmplefnaaaGreatDoorP01
import Derived.Maps.AppendAt
import Derived.Test.YtnhkpbmplefnaaaGreatDoorP00
import Derived.Deep.MidRow
import Derived.Deep.Cut
namespace Go.Proofs.YtnhkpbmplefnaaaGreatDoor
open Go.RowKit
namespace Ref
theorem Kp.heap {b:Nat} {w w':World} (h:Kp b w w') {k:Nat} {o:Obj} (hk:w.heap[k]?=some o) (hb:k≠b):w'.heap[k]?=some o:=by
 rcases Nat.lt_or_ge k w.heap.size with h1 | h1
 ·rw[h.block k h1 hb];exact hk
 ·simp[h1] at hk
set_option maxHeartbeats 2000000 in
theorem atom_fail (b:Nat) (s:ByteArray) (n:Nat) (st:Px.Ps) (w:World) (p:PenAt w b s st.t (-1) st.nest st.deep) (h0:st.t.k≠110) (h0':st.t.k≠119) (h1:Px.onB s st.t ⟨#[116,114,117,101]⟩=false) (h2:Px.onB s st.t ⟨#[102,97,108,115,101]⟩=false) (h3:Px.onB s st.t ⟨#[110,111,116]⟩=false) (h4:Px.onB s st.t ⟨#[40]⟩=false) :
  Calls Tryz.prog 213 #[.pointer (some ⟨b,0,none⟩)] w (ExPost b s w (Px.atom s (n+1) st)):=by
 obtain ⟨c0,c1,c2,c3,c4,c5,c6,c7,f,hb⟩:=p.cells
 have HD:Hid (PenAt w b s st.t (-1) st.nest st.deep):=p
 have e1:Hid (Px.atom s (n+1) st=.error st.t.a):=by
  unfold Hid;rw[Px.atom,if_neg h0,if_neg h0',if_neg (by simp[h1]),if_neg (by simp[h2]),if_neg (by simp[h3]),if_neg (by simp[h4])]
 have t1:((st.t.k:Int) == 110)=false:=by rw[beq_eq_false_iff_ne];omega
 have t2:((st.t.k:Int) == 119)=false:=by rw[beq_eq_false_iff_ne];omega
 have fin:∀ (w1:World) (E T:Obj),(∃ v0 v1 v2 v3 v4 v5,E=.cells #[v0,v1,v2,v3,v4,v5] 255)→PenAt w1 b s st.t (st.t.a:Int) st.nest st.deep→Kp b ((w.alloc E).alloc T).drew w1→ExPost b s w (Px.atom s (n+1) st) (.returned (.pointer (some ⟨w.heap.size,0,none⟩))) w1:=by
  intro w1 E T hE p1 k1
  obtain ⟨g1,g2,g3⟩:=two_kept rfl k1 hb
  rw[e1.out]
  obtain ⟨v0,v1,v2,v3,v4,v5,rfl⟩:=hE
  exact ⟨((((Kp.refl b w).alloc _).alloc _).drew).trans k1,_,rfl,Nat.le_refl _,⟨_,_,_,_,_,_,g1⟩,_,_,_,p1⟩
 have FIN:Hid (_):=fin
 clear fin p h0 h0'
 by_cases hk:st.t.k=107
 ·have t3:((st.t.k:Int) == 107)=true:=by rw[hk];rfl
  have t4:((s.extract st.t.a st.t.b).toList == [116,114,117,101])=false:=by rw[← onB_lit hk];exact h1
  have t5:((s.extract st.t.a st.t.b).toList == [102,97,108,115,101])=false:=by rw[← onB_lit hk];exact h2
  have t6:((s.extract st.t.a st.t.b).toList == [110,111,116])=false:=by rw[← onB_lit hk];exact h3
  have t7:((s.extract st.t.a st.t.b).toList == [40])=false:=by rw[← onB_lit hk];exact h4
  clear h1 h2 h3 h4 hk
  go_enter Tryz.func213,Tryz.ntmps213
  go_wp2_with fail
  go_region
  go_wp2_with fail
  refine (fail_ok b s st.t st.nest st.deep _ ((HD.out.alloc _).alloc _).drew).mono ?_
  rintro e w2 ⟨rfl,p2,k2⟩
  have P2:Hid (_∧_):=⟨p2,k2⟩
  clear p2 k2
  go_wp2_with fail
  go_ret
  exact FIN.out _ _ _ ⟨_,_,_,_,_,_,rfl⟩ P2.out.1 P2.out.2
 ·have t3:((st.t.k:Int) == 107)=false:=by rw[beq_eq_false_iff_ne];omega
  clear h1 h2 h3 h4 hk
  go_enter Tryz.func213,Tryz.ntmps213
  go_wp2_with fail
  go_region
  go_wp2_with fail
  refine (fail_ok b s st.t st.nest st.deep _ ((HD.out.alloc _).alloc _).drew).mono ?_
  rintro e w2 ⟨rfl,p2,k2⟩
  have P2:Hid (_∧_):=⟨p2,k2⟩
  clear p2 k2
  go_wp2_with fail
  go_ret
  exact FIN.out _ _ _ ⟨_,_,_,_,_,_,rfl⟩ P2.out.1 P2.out.2
theorem Dom.down {s:ByteArray} {n:Nat} {st st':Px.Ps} (h:Dom s (n+1) st) (tk:Px.Tk s st'.t) (lt:st.t.a < st'.t.a) (hn:st'.nest=st.nest∨st'.nest=st.nest+1):Dom s n st':=by
 have h1:=h.room
 have h2:=tk.ab
 have h3:=tk.le
 have h4:=h.n0
 have h5:=h.n1
 refine ⟨tk,by omega,by omega,?_⟩
 rcases hn with hn | hn<;>rw[hn]<;>push_cast at h5<;>omega
theorem size_set (w:World) (a:Addr) (v:Value):(w.setCell a v).heap.size=w.heap.size:=by simp[World.setCell]
def notR (a:Nat) (r:Except Nat (Px.Ex×Px.Ps)):Except Nat (Px.Ex×Px.Ps) :=
 match r with
 | .error p=>.error p
 | .ok (k,st')=>.ok (⟨33,0,Px.nowt,a,a,some k,none⟩,st')
def parR (s:ByteArray) (a:Nat) (r:Except Nat (Px.Ex×Px.Ps)):Except Nat (Px.Ex×Px.Ps) :=
 match r with
 | .error p=>.error p
 | .ok (e,st')=>if Px.onB s st'.t ⟨#[41]⟩ then .ok ({ e with pl:=a },Px.upp (Px.nx s st')) else .error st'.t.a
theorem not_post {b:Nat} {s:ByteArray} {w w2 w3:World} {E T:Obj} {q:Nat} {v:Value} {a:Nat} {r:Except Nat (Px.Ex×Px.Ps)} (hb:b < w.heap.size)
  (k2:Kp b ((w.alloc E).alloc T).drew w2) (H3:ExPost b s (w2.setCell ⟨w.heap.size,0,none⟩ v) r (.returned (.pointer (some ⟨q,0,none⟩))) w3)
  (g:w3.heap[w.heap.size]?=some (.cells #[.int .u8 33,.int .i64 0,.string ⟨#[]⟩,.int .i64 (a:Int),.int .i64 (a:Int),.slice none 0 0] 255)) :
  ExPost b s w (notR a r) (.returned (.pointer (some ⟨w.heap.size,0,none⟩)))
   ((w3.setCell ⟨w.heap.size,5,none⟩ (.slice (some ⟨w3.heap.size,0,none⟩) 1 1)).alloc (.cells #[.pointer (some ⟨q,0,none⟩)] 179)):=by
 obtain ⟨k3,q',he,h3⟩:=H3
 obtain rfl:q=q':=by simpa using he
 have z0:w.heap.size+2≤w2.heap.size:=(two_kept rfl k2 hb).2.2
 have z1:w2.heap.size≤w3.heap.size:=by have:=k3.size;rw[size_set] at this;exact this
 have ka:Kp b w w2:=((((Kp.refl b w).alloc _).alloc _).drew).trans k2
 have kb:Kp b w w3:=(ka.setN (Nat.le_refl _) v).trans k3
 generalize hW:(w3.setCell ⟨w.heap.size,5,none⟩ (.slice (some ⟨w3.heap.size,0,none⟩) 1 1)).alloc (.cells #[.pointer (some ⟨q,0,none⟩)] 179)=W
 have kW:Kp b w W:=by rw[← hW];exact (kb.setN (Nat.le_refl _) _).alloc _
 have zW:W.heap.size=w3.heap.size+1:=by rw[← hW];simp
 have gE:W.heap[w.heap.size]?=some (.cells #[.int .u8 33,.int .i64 0,.string ⟨#[]⟩,.int .i64 (a:Int),.int .i64 (a:Int),.slice (some ⟨w3.heap.size,0,none⟩) 1 1] 255):=by
  rw[← hW,Below.heap_alloc _ _ _ (by rw[size_set];omega),heap_set _ g];simp
 have gK:W.heap[w3.heap.size]?=some (.cells #[.pointer (some ⟨q,0,none⟩)] 179):=by
  rw[← hW]
  show ((w3.setCell _ _).heap.push _)[w3.heap.size]?=_
  rw[Array.getElem?_push,if_pos (by rw[size_set])]
 have gO:∀ k,k < w3.heap.size→k≠w.heap.size→W.heap[k]?=w3.heap[k]?:=by
  intro k h1 h2
  rw[← hW,Below.heap_alloc _ _ _ (by rw[size_set];omega),heap_set_ne _ h2]
 refine ⟨kW,_,rfl,?_⟩
 cases r with
 | error p =>
  obtain ⟨hq,hv,t,nest,deep,hp⟩:=h3
  have hpl:=hp.lt
  exact ⟨Nat.le_refl _,⟨_,_,_,_,_,_,gE⟩,t,nest,deep,⟨by rw[gO b hpl (by omega)];exact hp.h⟩⟩
 | ok r =>
  obtain ⟨k,st'⟩:=r
  obtain ⟨hk,hp⟩:=h3
  have hpl:=hp.lt
  have hsz:=size_set w2 ⟨w.heap.size,0,none⟩ v
  refine ⟨⟨⟨Nat.le_refl _,by omega⟩,w3.heap.size,q,⟨by omega,by omega⟩,by omega,gE,gK,?_⟩,⟨by rw[gO b hpl (by omega)];exact hp.h⟩⟩
  refine (hk.keep fun i hi=>gO i hi.2 (by have:=hi.1;omega)).mono fun i hi=>?_
  have h1:=hi.1
  have h2:=hi.2
  exact ⟨⟨by omega,by omega⟩,by omega,by omega⟩
set_option maxHeartbeats 2000000 in
theorem atom_not (b:Nat) (s:ByteArray) (n:Nat) (ih:AtomOk b s n (Px.atom s n)) (hs:s.size≤maxLen) (st:Px.Ps) (w:World) (hD:Dom s (n+1) st) (p:PenAt w b s st.t (-1) st.nest st.deep) (hk:st.t.k=107) (h1:Px.onB s st.t ⟨#[116,114,117,101]⟩=false) (h2:Px.onB s st.t ⟨#[102,97,108,115,101]⟩=false) (h3:Px.onB s st.t ⟨#[110,111,116]⟩=true) :
  Calls Tryz.prog 213 #[.pointer (some ⟨b,0,none⟩)] w (ExPost b s w (Px.atom s (n+1) st)):=by
 obtain ⟨c0,c1,c2,c3,c4,c5,c6,c7,f,hb⟩:=p.cells
 have HD:Hid (Dom s (n+1) st∧PenAt w b s st.t (-1) st.nest st.deep):=⟨hD,p⟩
 have e1:Hid (Px.atom s (n+1) st=notR st.t.a (Px.atom s n (Px.nx s st))):=by
  unfold Hid;rw[Px.atom,if_neg (by omega),if_neg (by omega),if_neg (by simp[h1]),if_neg (by simp[h2]),if_pos h3];cases Px.atom s n (Px.nx s st)<;>rfl
 have t1:((st.t.k:Int) == 110)=false:=by rw[hk];rfl
 have t2:((st.t.k:Int) == 119)=false:=by rw[hk];rfl
 have t3:((st.t.k:Int) == 107)=true:=by rw[hk];rfl
 have t4:((s.extract st.t.a st.t.b).toList == [116,114,117,101])=false:=by rw[← onB_lit hk];exact h1
 have t5:((s.extract st.t.a st.t.b).toList == [102,97,108,115,101])=false:=by rw[← onB_lit hk];exact h2
 have t6:((s.extract st.t.a st.t.b).toList == [110,111,116])=true:=by rw[← onB_lit hk];exact h3
 have D1:Hid (Dom s n (Px.nx s st)):=hD.down (Px.good_on hD.tk h3).tk (Px.good_on hD.tk h3).lt (Or.inl rfl)
 clear hD p hk h1 h2 h3
 go_enter Tryz.func213,Tryz.ntmps213
 go_wp2_with fail
 go_region
 go_wp2_with fail
 refine (next_ok b s st.t st.nest st.deep _ ((HD.out.2.alloc _).alloc _).drew HD.out.1.tk.le hs).mono ?_
 rintro e w2 ⟨rfl,p2,k2⟩
 obtain ⟨g1,g2,g3⟩:=two_kept rfl k2 hb
 obtain ⟨d0,d1,d2,d3,d4,d5,df⟩:=cells6 g1
 have P2:Hid (_∧_):=⟨p2,k2⟩
 have G1:Hid (_):=g1
 clear p2 k2 g1 g2 c0 c1 c2 c3 c4 c5 c6 c7 f
 go_wp2_with fail
 refine (ih (Px.nx s st) _ D1.out (P2.out.1.setN (by omega) _)).mono ?_
 rintro e w3 ⟨k3,q,rfl,h3⟩
 have g3':w3.heap[w.heap.size]?=_:=Kp.heap k3 (heap_set _ G1.out) (by omega)
 simp only[List.setIfInBounds_toArray,List.set_cons_zero] at g3'
 obtain ⟨r0,r1,r2,r3,r4,r5,rf⟩:=cells6 g3'
 have hz3:w.heap.size < w3.heap.size:=lt_of_cell r0
 have H3:Hid (ExPost b s (w2.setCell ⟨w.heap.size,0,none⟩ (.int .u8 33)) (Px.atom s n (Px.nx s st)) (.returned (.pointer (some ⟨q,0,none⟩))) w3∧_):=⟨⟨k3,q,rfl,h3⟩,g3'⟩
 clear k3 h3 g3' d0 d1 d2 d3 d4 d5 df
 go_wp2_with fail
 go_wp2
 go_ret
 rw[e1.out]
 exact not_post hb P2.out.2 H3.out.1 H3.out.2
theorem par_post {b:Nat} {s:ByteArray} {w w2 w3 w4 w5:World} {q a:Nat} {v0 v1 v2 v3 v4 v5:Value} {r:Except Nat (Px.Ex×Px.Ps)} (hb:b < w.heap.size) (hwq:w.heap.size≤q) (k3:Kp b w w3)
  (H3:ExPost b s w2 r (.returned (.pointer (some ⟨q,0,none⟩))) w3) (hq:w3.heap[q]?=some (.cells #[v0,v1,v2,v3,v4,v5] 255)) (k4:Kp b (w3.setCell ⟨q,3,none⟩ (.int .i64 (a:Int))) w4) (k5:Kp b w4 w5) (p5:PSt w5 b s (((r.map Prod.snd).bind (Px.need s ⟨#[41]⟩)).map Px.upp)) (z2:w.heap.size≤w2.heap.size) :
  ExPost b s w (parR s a r) (.returned (.pointer (some ⟨q,0,none⟩))) w5:=by
 obtain ⟨k3',q',he,h3⟩:=H3
 obtain rfl:q=q':=by simpa using he
 have k45:=k4.trans k5
 have kW:Kp b w w5:=(k3.setN hwq _).trans k45
 have hsz:=size_set w3 ⟨q,3,none⟩ (.int .i64 (a:Int))
 have z5:=k45.size
 have hq5:w5.heap[q]?=_:=Kp.heap k45 (heap_set (o:=3) (.int .i64 (a:Int)) hq) (by omega)
 refine ⟨kW,q,rfl,?_⟩
 cases r with
 | error p=>exact ⟨hwq,⟨_,_,_,_,_,_,hq5⟩,p5⟩
 | ok r =>
  obtain ⟨x,st'⟩:=r
  cases ho:Px.onB s st'.t ⟨#[41]⟩
  ·have e1:parR s a (.ok (x,st'))=.error st'.t.a:=by simp[parR,ho]
   rw[e1]
   simp[Except.map,Except.bind,Px.need,ho] at p5
   exact ⟨hwq,⟨_,_,_,_,_,_,hq5⟩,p5⟩
  ·have e1:parR s a (.ok (x,st'))=.ok ({ x with pl:=a },Px.upp (Px.nx s st')):=by simp[parR,ho]
   rw[e1]
   simp[Except.map,Except.bind,Px.need,ho] at p5
   refine ⟨?_,p5.1⟩
   have h6:=h3.1.place a
   have h7:ExAt w5 { x with pl:=a } (In w2 w3) q:=h6.keep fun i hi=>by
    have h1:=hi.1
    have h2:=hi.2
    exact k45.block i (by omega) (by omega)
   exact h7.mono fun i hi=>⟨by have:=hi.1;omega,by have:=hi.2;omega⟩
set_option maxHeartbeats 4000000 in
theorem atom_par (b:Nat) (s:ByteArray) (n:Nat) (ih:ExprOk b s n (Px.atom s n)) (hs:s.size≤maxLen) (st:Px.Ps) (w:World) (hD:Dom s (n+1) st) (p:PenAt w b s st.t (-1) st.nest st.deep) (hk:st.t.k=107) (h1:Px.onB s st.t ⟨#[116,114,117,101]⟩=false) (h2:Px.onB s st.t ⟨#[102,97,108,115,101]⟩=false) (h3:Px.onB s st.t ⟨#[110,111,116]⟩=false) (h4:Px.onB s st.t ⟨#[40]⟩=true) :
  Calls Tryz.prog 213 #[.pointer (some ⟨b,0,none⟩)] w (ExPost b s w (Px.atom s (n+1) st)):=by
 obtain ⟨c0,c1,c2,c3,c4,c5,c6,c7,f,hb⟩:=p.cells
 have HD:Hid (Dom s (n+1) st∧PenAt w b s st.t (-1) st.nest st.deep):=⟨hD,p⟩
 have e1:Hid (Px.atom s (n+1) st=parR s st.t.a (Px.expr s (Px.atom s n) (Px.nx s (Px.dn st)))):=by
  unfold Hid;rw[Px.atom,if_neg (by omega),if_neg (by omega),if_neg (by simp[h1]),if_neg (by simp[h2]),if_neg (by simp[h3]),if_pos h4];cases Px.expr s (Px.atom s n) (Px.nx s (Px.dn st))<;>rfl
 have t1:((st.t.k:Int) == 110)=false:=by rw[hk];rfl
 have t2:((st.t.k:Int) == 119)=false:=by rw[hk];rfl
 have t3:((st.t.k:Int) == 107)=true:=by rw[hk];rfl
 have t4:((s.extract st.t.a st.t.b).toList == [116,114,117,101])=false:=by rw[← onB_lit hk];exact h1
 have t5:((s.extract st.t.a st.t.b).toList == [102,97,108,115,101])=false:=by rw[← onB_lit hk];exact h2
 have t6:((s.extract st.t.a st.t.b).toList == [110,111,116])=false:=by rw[← onB_lit hk];exact h3
 have t7:((s.extract st.t.a st.t.b).toList == [40])=true:=by rw[← onB_lit hk];exact h4
 have D1:Hid (Dom s n (Px.nx s (Px.dn st))):=hD.down (Px.good_on hD.tk h4).tk (Px.good_on hD.tk h4).lt (Or.inr rfl)
 have hn0:=hD.n0
 have hn1:st.nest≤1000000:=by have:=hD.n1;omega
 clear hD p hk h1 h2 h3 h4
 go_enter Tryz.func213,Tryz.ntmps213
 go_wp2_with fail
 go_region
 go_wp2_with fail
 refine (down_ok b s st.t st.nest st.deep _ ((HD.out.2.alloc _).alloc _).drew hn0 hn1).mono ?_
 rintro e w1 ⟨rfl,p1,k1⟩
 have P1:Hid (_∧_):=⟨p1,k1⟩
 clear p1 k1 c0 c1 c2 c3 c4 c5 c6 c7 f
 go_wp2_with fail
 refine (next_ok b s st.t (st.nest+1) _ _ P1.out.1 HD.out.1.tk.le hs).mono ?_
 rintro e w2 ⟨rfl,p2,k2⟩
 have P2:Hid (_∧_):=⟨p2,k2⟩
 clear p2 k2
 go_wp2_with fail
 refine (ih (Px.nx s (Px.dn st)) _ D1.out P2.out.1).mono ?_
 rintro e w3 ⟨k3,q,rfl,h3⟩
 have k23:=(P1.out.2.trans P2.out.2).trans k3
 obtain ⟨g1,g2,g3⟩:=two_kept rfl k23 hb
 obtain ⟨d0,d1,d2,d3,df⟩:=cells4 g2
 have hq:∃ v0 v1 v2 v3 v4 v5,w3.heap[q]?=some (.cells #[v0,v1,v2,v3,v4,v5] 255):=by
  cases hr:Px.expr s (Px.atom s n) (Px.nx s (Px.dn st)) with
  | error p=>rw[hr] at h3;exact h3.2.1
  | ok r =>
   obtain ⟨x,st'⟩:=r
   rw[hr] at h3
   obtain ⟨_,v,hv⟩:=h3.1.root
   exact ⟨_,_,_,_,_,_,hv⟩
 obtain ⟨v0,v1,v2,v3,v4,v5,hq⟩:=hq
 obtain ⟨r0,r1,r2,r3,r4,r5,rf⟩:=cells6 hq
 have hwq:w.heap.size≤q:=by
  have z2:w.heap.size≤w2.heap.size:=by have:=(two_kept rfl (P1.out.2.trans P2.out.2) hb).2.2;omega
  cases hr:Px.expr s (Px.atom s n) (Px.nx s (Px.dn st)) with
  | error p=>rw[hr] at h3;have:=h3.1;omega
  | ok r =>
   obtain ⟨x,st'⟩:=r
   rw[hr] at h3
   have:=h3.1.root.1.1
   omega
 have hps:PSt w3 b s ((Px.expr s (Px.atom s n) (Px.nx s (Px.dn st))).map Prod.snd)∧∀ x st',Px.expr s (Px.atom s n) (Px.nx s (Px.dn st))=.ok (x,st')→Px.Good s (Px.nx s (Px.dn st)) st':=by
  have hgo:∀ x st',Px.expr s (Px.atom s n) (Px.nx s (Px.dn st))=.ok (x,st')→Px.Good s (Px.nx s (Px.dn st)) st':=fun x st' hr=>Px.expr_goes (Px.atom_goes s n) _ _ _ D1.out.tk hr
  refine ⟨?_,hgo⟩
  cases hr:Px.expr s (Px.atom s n) (Px.nx s (Px.dn st)) with
  | error p=>rw[hr] at h3;exact h3.2.2
  | ok r =>
   obtain ⟨x,st'⟩:=r
   rw[hr] at h3
   exact ⟨h3.2,(hgo x st' hr).tk⟩
 have H3:Hid ((Kp b w w3∧ExPost b s w2 (Px.expr s (Px.atom s n) (Px.nx s (Px.dn st))) (.returned (.pointer (some ⟨q,0,none⟩))) w3∧w3.heap[q]?=some (.cells #[v0,v1,v2,v3,v4,v5] 255))∧_):=⟨⟨((((Kp.refl b w).alloc _).alloc _).drew).trans k23,⟨k3,q,rfl,h3⟩,hq⟩,hps⟩
 clear k3 h3 g1 g2 k23 hq hps
 go_wp2_with fail
 refine (needU b s _ _ _ (H3.out.2.1.setN (by omega) _) hs).mono ?_
 rintro e w4 ⟨rfl,k4,p4⟩
 have P4:Hid (_∧_):=⟨k4,p4⟩
 clear k4 p4
 go_wp2_with fail
 refine (upU b s _ _ P4.out.2 ?hnest).mono ?_
 case hnest =>
  intro st0 h0
  cases hr:Px.expr s (Px.atom s n) (Px.nx s (Px.dn st)) with
  | error p=>rw[hr] at h0;cases h0
  | ok r =>
   obtain ⟨x,st'⟩:=r
   rw[hr] at h0
   have hg:=(H3.out.2.2 x st' hr).nest
   have hg':st'.nest=st.nest+1:=hg
   cases ho:Px.onB s st'.t ⟨#[41]⟩
   ·simp[Except.map,Except.bind,Px.need,ho] at h0
   ·simp[Except.map,Except.bind,Px.need,ho] at h0
    rw[← h0]
    show 0≤st'.nest∧st'.nest≤2000000
    omega
 rintro e w5 ⟨rfl,k5,p5⟩
 have P5:Hid (_∧_):=⟨k5,p5⟩
 clear k5 p5
 go_wp2_with fail
 go_ret
 rw[e1.out]
 exact par_post hb hwq H3.out.1.1 H3.out.1.2.1 H3.out.1.2.2 P4.out.1 P5.out.1 P5.out.2 (by have:=(two_kept rfl (P1.out.2.trans P2.out.2) hb).2.2;omega)
theorem atom_ok (b:Nat) (s:ByteArray) (hs:s.size≤maxLen) (n:Nat):AtomOk b s n (Px.atom s n):=by
 induction n with
 | zero=>intro st w hD p;have:=hD.room;omega
 | succ n ih =>
  intro st w hD p
  by_cases h0:st.t.k=110
  ·exact atom_num b s n hs st w hD p h0
  ·by_cases h0':st.t.k=119
   ·exact atom_word b s n hs st w hD p h0'
   ·cases h1:Px.onB s st.t ⟨#[116,114,117,101]⟩
    ·cases h2:Px.onB s st.t ⟨#[102,97,108,115,101]⟩
     ·cases h3:Px.onB s st.t ⟨#[110,111,116]⟩
      ·cases h4:Px.onB s st.t ⟨#[40]⟩
       ·exact atom_fail b s n st w p h0 h0' h1 h2 h3 h4
       ·exact atom_par b s n (expr_ok b s n _ ih (Px.atom_goes s n) hs) hs st w hD p (Px.onB_k h4) h1 h2 h3 h4
      ·exact atom_not b s n ih hs st w hD p (Px.onB_k h3) h1 h2 h3
     ·exact atom_false b s n hs st w hD p (Px.onB_k h2) h1 h2
    ·exact atom_true b s n hs st w hD p h1
theorem bad_leaf {b:Nat} {s:ByteArray} {w:World} {t:Px.Tok} {pe:Nat} {nest deep:Int} (p:PenAt w b s t (pe:Int) nest deep) (v0 v1 v2 v3 v4 v5:Value) :
  ExPost b s w (.error pe) (.returned (.pointer (some ⟨w.heap.size,0,none⟩))) (w.alloc (.cells #[v0,v1,v2,v3,v4,v5] 255)).drew:=by
 refine ⟨((Kp.refl _ _).alloc _).drew,w.heap.size,rfl,Nat.le_refl _,⟨v0,v1,v2,v3,v4,v5,?_⟩,t,nest,deep,(p.alloc _).drew⟩
 show (w.heap.push _)[w.heap.size]?=_
 rw[Array.getElem?_push,if_pos rfl]
theorem atom_bad (b:Nat) (s:ByteArray) (t:Px.Tok) (pe:Nat) (nest deep:Int) (w:World) (p:PenAt w b s t (pe:Int) nest deep) :
  Calls Tryz.prog 213 #[.pointer (some ⟨b,0,none⟩)] w (ExPost b s w (.error pe)):=by
 obtain ⟨c0,c1,c2,c3,c4,c5,c6,c7,f,hb⟩:=p.cells
 have HP:Hid (PenAt w b s t (pe:Int) nest deep):=p
 have hpe:(0:Int)≤pe:=by omega
 clear p
 go_enter Tryz.func213,Tryz.ntmps213
 go_wp2_with fail
 go_region
 go_wp2_with fail
 go_ret
 exact bad_leaf HP.out _ _ _ _ _ _
def PartBad (b:Nat) (s:ByteArray) (sum:Bool):Prop :=
 ∀ (t:Px.Tok) (pe:Nat) (nest deep:Int) (w:World),PenAt w b s t (pe:Int) nest deep →
  Calls Tryz.prog 203 #[.pointer (some ⟨b,0,none⟩),.bool sum] w (ExPost b s w (.error pe))
theorem row_bad (b:Nat) (s:ByteArray) (sum:Bool) (hp:PartBad b s sum) (x y:ByteArray) (t:Px.Tok) (pe:Nat) (nest deep:Int) (w:World) (p:PenAt w b s t (pe:Int) nest deep) :
  Calls Tryz.prog 179 #[.pointer (some ⟨b,0,none⟩),.string x,.string y,.bool sum] w (ExPost b s w (.error pe)):=by
 obtain ⟨c0,c1,c2,c3,c4,c5,c6,c7,f,hb⟩:=p.cells
 have HP:Hid (PenAt w b s t (pe:Int) nest deep):=p
 clear p
 go_enter Tryz.func179,Tryz.ntmps179
 go_wp2_with fail
 refine (hp t pe nest deep _ HP.out).mono ?_
 rintro e w1 ⟨k1,q,rfl,hq,hv,t',nest',deep',p1⟩
 have P1:Hid (PenAt w1 b s t' (pe:Int) nest' deep'):=p1
 have V:Hid (_∧_∧_):=⟨k1,hq,hv⟩
 clear k1 hq hv p1 c0 c1 c2 c3 c4 c5 c6 c7 f
 go_wp2_with fail
 refine wp_loop_rounds 1 ?_
 rw[rounds_succ]
 go_wp2_with (first | (go_at_call 176;refine (on_bad b s _ t' (pe:Int) nest' deep' _ P1.out (by omega)).mono ?_;rintro e w' ⟨rfl,rfl⟩))
 go_ret
 exact ⟨V.out.1,q,rfl,V.out.2.1,V.out.2.2,t',nest',deep',P1.out⟩
theorem part_bad_f (b:Nat) (s:ByteArray):PartBad b s false:=by
 intro t pe nest deep w p
 have HP:Hid (PenAt w b s t (pe:Int) nest deep):=p
 clear p
 go_enter Tryz.func203,Tryz.ntmps203
 go_wp2_with fail
 refine (atom_bad b s t pe nest deep _ HP.out).mono ?_
 rintro e w1 ⟨k1,q,rfl,h1⟩
 have H1:Hid (_∧_):=⟨k1,h1⟩
 clear k1 h1
 go_wp2_with fail
 go_ret
 exact ⟨H1.out.1,q,rfl,H1.out.2⟩
theorem part_bad_t (b:Nat) (s:ByteArray):PartBad b s true:=by
 intro t pe nest deep w p
 have HP:Hid (PenAt w b s t (pe:Int) nest deep):=p
 clear p
 go_enter Tryz.func203,Tryz.ntmps203
 go_wp2_with fail
 refine (row_bad b s false (part_bad_f b s) _ _ t pe nest deep _ HP.out).mono ?_
 rintro e w1 ⟨k1,q,rfl,h1⟩
 have H1:Hid (_∧_):=⟨k1,h1⟩
 clear k1 h1
 go_wp2_with fail
 go_ret
 exact ⟨H1.out.1,q,rfl,H1.out.2⟩
theorem expr_bad (b:Nat) (s:ByteArray) (t:Px.Tok) (pe:Nat) (nest deep:Int) (w:World) (p:PenAt w b s t (pe:Int) nest deep) :
  Calls Tryz.prog 130 #[.pointer (some ⟨b,0,none⟩)] w (ExPost b s w (.error pe)):=by
 obtain ⟨c0,c1,c2,c3,c4,c5,c6,c7,f,hb⟩:=p.cells
 have HP:Hid (PenAt w b s t (pe:Int) nest deep):=p
 clear p
 go_enter Tryz.func130,Tryz.ntmps130
 go_wp2_with fail
 refine (row_bad b s true (part_bad_t b s) _ _ t pe nest deep _ HP.out).mono ?_
 rintro e w1 ⟨k1,q,rfl,hq,hv,t',nest',deep',p1⟩
 have P1:Hid (PenAt w1 b s t' (pe:Int) nest' deep'):=p1
 have V:Hid (_∧_∧_):=⟨k1,hq,hv⟩
 clear k1 hq hv p1 c0 c1 c2 c3 c4 c5 c6 c7 f
 go_wp2_with (first | (go_at_call 176;refine (on_bad b s _ t' (pe:Int) nest' deep' _ P1.out (by omega)).mono ?_;rintro e w' ⟨rfl,rfl⟩))
 go_ret
 exact ⟨V.out.1,q,rfl,V.out.2.1,V.out.2.2,t',nest',deep',P1.out⟩
theorem exprU (b:Nat) (s:ByteArray) (r:Except Nat Px.Ps) (w:World) (p:PSt w b s r) (hs:s.size≤maxLen) (hn:∀ st,r=.ok st→0≤st.nest∧st.nest+(s.size+1:Nat)≤1000000) :
  Calls Tryz.prog 130 #[.pointer (some ⟨b,0,none⟩)] w (ExPost b s w (r.bind (Px.exprOf s))):=by
 cases r with
 | error pe=>obtain ⟨t,nest,deep,hp⟩:=p;exact expr_bad b s t pe nest deep w hp
 | ok st =>
  have h:=hn st rfl
  exact expr_ok b s (s.size+1) _ (atom_ok b s hs (s.size+1)) (Px.atom_goes s _) hs st w ⟨p.2,by omega,h.1,h.2⟩ p.1
open Go.RowKit
def ptr (q:Nat):Value:=.pointer (some ⟨q,0,none⟩)
def ExO (w:World) (x:Option Px.Ex) (ok:Nat→Prop) (v:Value):Prop :=
 match x with
 | none=>v=.pointer none
 | some e=>∃ q,v=ptr q∧ExAt w e ok q
def SlAt (w:World) (v:Value) (qs:List Nat) (ok:Nat→Prop):Prop :=
 (v=.slice none 0 0∧qs=[]) ∨
 ∃ g cap cur,v=.slice (some ⟨g,0,none⟩) qs.length cap∧ok g∧w.heap[g]?=some (.cells cur 103)∧qs.length≤cap∧cap≤maxLen∧cur.size=cap∧cur.toList.take qs.length=qs.map ptr
def smCells (x:Px.Sm) (ve v1 v2:Value):Array Value :=
 #[.int .u8 (x.op:Int),.string x.word,.int .i64 (x.pl:Int),ve,.string x.asw,.int .i64 (x.asPl:Int),.string x.undo,.int .i64 (x.n:Int),.int .i64 (x.nPl:Int),v1,v2]
def SmsAt (w:World):List Px.Sm→(Nat→Prop)→List Nat→Prop
 | [],_,qs=>qs=[]
 | ⟨op,word,pl,ex,av,asPl,undo,n,nPl,one,two⟩::rest,ok,qs=>∃ q qs',qs=q::qs'∧ok q∧SmsAt w rest ok qs'∧∃ ve v1 v2 q1 q2,
   w.heap[q]?=some (.cells #[.int .u8 (op:Int),.string word,.int .i64 (pl:Int),ve,.string av,.int .i64 (asPl:Int),.string undo,.int .i64 (n:Int),.int .i64 (nPl:Int),v1,v2] 181) ∧
   ExO w ex ok ve∧SlAt w v1 q1 ok∧SmsAt w one ok q1∧SlAt w v2 q2 ok∧SmsAt w two ok q2
theorem SmsAt.nil_iff {w:World} {ok:Nat→Prop} {qs:List Nat}:SmsAt w [] ok qs↔qs=[]:=by rw[SmsAt]
def SmAt (w:World) (x:Px.Sm) (ok:Nat→Prop) (q:Nat):Prop :=
 ok q∧∃ ve v1 v2 q1 q2,w.heap[q]?=some (.cells (smCells x ve v1 v2) 181)∧ExO w x.ex ok ve∧SlAt w v1 q1 ok∧SmsAt w x.one ok q1∧SlAt w v2 q2 ok∧SmsAt w x.two ok q2
theorem SmsAt.cons_iff {w:World} {x:Px.Sm} {rest:List Px.Sm} {ok:Nat→Prop} {qs:List Nat}:SmsAt w (x::rest) ok qs↔∃ q qs',qs=q::qs'∧ok q∧SmsAt w rest ok qs'∧∃ ve v1 v2 q1 q2,
   w.heap[q]?=some (.cells (smCells x ve v1 v2) 181)∧ExO w x.ex ok ve∧SlAt w v1 q1 ok∧SmsAt w x.one ok q1∧SlAt w v2 q2 ok∧SmsAt w x.two ok q2:=by
 obtain ⟨op,word,pl,ex,av,asPl,undo,n,nPl,one,two⟩:=x
 rw[SmsAt]
 rfl
theorem SmsAt.cons {w:World} {x:Px.Sm} {rest:List Px.Sm} {ok:Nat→Prop} {q:Nat} {qs:List Nat} (h:SmAt w x ok q) (hr:SmsAt w rest ok qs):SmsAt w (x::rest) ok (q::qs) :=
 SmsAt.cons_iff.2 ⟨q,qs,rfl,h.1,hr,h.2⟩
theorem SmsAt.uncons {w:World} {x:Px.Sm} {rest:List Px.Sm} {ok:Nat→Prop} {qs:List Nat} (h:SmsAt w (x::rest) ok qs):∃ q qs',qs=q::qs'∧SmAt w x ok q∧SmsAt w rest ok qs':=by
 obtain ⟨q,qs',h1,h2,h3,h4⟩:=SmsAt.cons_iff.1 h
 exact ⟨q,qs',h1,⟨h2,h4⟩,h3⟩
theorem SmsAt.snoc {w:World} {l:List Px.Sm} {x:Px.Sm} {ok:Nat→Prop} {q:Nat} {qs:List Nat} (h:SmsAt w l ok qs) (hx:SmAt w x ok q):SmsAt w (l++[x]) ok (qs++[q]):=by
 induction l generalizing qs with
 | nil=>cases SmsAt.nil_iff.1 h;exact SmsAt.cons hx (SmsAt.nil_iff.2 rfl)
 | cons y l ih =>
  obtain ⟨q',qs',rfl,h1,h2⟩:=h.uncons
  exact SmsAt.cons h1 (ih h2)
theorem SmsAt.len {w:World} {l:List Px.Sm} {ok:Nat→Prop} {qs:List Nat} (h:SmsAt w l ok qs):qs.length=l.length:=by
 induction l generalizing qs with
 | nil=>cases SmsAt.nil_iff.1 h;rfl
 | cons y l ih =>
  obtain ⟨q',qs',rfl,h1,h2⟩:=h.uncons
  simp[ih h2]
theorem ExO.mono {w:World} {x:Option Px.Ex} {ok ok':Nat→Prop} {v:Value} (h:ExO w x ok v) (hk:∀ k,ok k→ok' k):ExO w x ok' v:=by
 cases x with
 | none=>exact h
 | some e=>obtain ⟨q,h1,h2⟩:=h;exact ⟨q,h1,h2.mono hk⟩
theorem ExO.keep {w w':World} {x:Option Px.Ex} {ok:Nat→Prop} {v:Value} (h:ExO w x ok v) (hk:∀ k,ok k→w'.heap[k]?=w.heap[k]?):ExO w' x ok v:=by
 cases x with
 | none=>exact h
 | some e=>obtain ⟨q,h1,h2⟩:=h;exact ⟨q,h1,h2.keep hk⟩
theorem SlAt.mono {w:World} {v:Value} {qs:List Nat} {ok ok':Nat→Prop} (h:SlAt w v qs ok) (hk:∀ k,ok k→ok' k):SlAt w v qs ok':=by
 rcases h with h | ⟨g,cap,cur,h1,h2,h3⟩
 ·exact Or.inl h
 ·exact Or.inr ⟨g,cap,cur,h1,hk _ h2,h3⟩
theorem SlAt.keep {w w':World} {v:Value} {qs:List Nat} {ok:Nat→Prop} (h:SlAt w v qs ok) (hk:∀ k,ok k→w'.heap[k]?=w.heap[k]?):SlAt w' v qs ok:=by
 rcases h with h | ⟨g,cap,cur,h1,h2,h3,h4⟩
 ·exact Or.inl h
 ·exact Or.inr ⟨g,cap,cur,h1,h2,by rw[hk _ h2];exact h3,h4⟩
theorem SmsAt.mono {w:World} {l:List Px.Sm} {ok ok':Nat→Prop} {qs:List Nat} (h:SmsAt w l ok qs) (hk:∀ k,ok k→ok' k):SmsAt w l ok' qs:=by
 match l with
 | []=>exact SmsAt.nil_iff.2 (SmsAt.nil_iff.1 h)
 | ⟨op,word,pl,ex,av,asPl,undo,n,nPl,one,two⟩::rest =>
  obtain ⟨q,qs',h1,h2,h3,ve,v1,v2,q1,q2,h4,h5,h6,h7,h8,h9⟩:=SmsAt.cons_iff.1 h
  exact SmsAt.cons_iff.2 ⟨q,qs',h1,hk _ h2,h3.mono hk,ve,v1,v2,q1,q2,h4,h5.mono hk,h6.mono hk,h7.mono hk,h8.mono hk,h9.mono hk⟩
theorem SmsAt.keep {w w':World} {l:List Px.Sm} {ok:Nat→Prop} {qs:List Nat} (h:SmsAt w l ok qs) (hk:∀ k,ok k→w'.heap[k]?=w.heap[k]?):SmsAt w' l ok qs:=by
 match l with
 | []=>exact SmsAt.nil_iff.2 (SmsAt.nil_iff.1 h)
 | ⟨op,word,pl,ex,av,asPl,undo,n,nPl,one,two⟩::rest =>
  obtain ⟨q,qs',h1,h2,h3,ve,v1,v2,q1,q2,h4,h5,h6,h7,h8,h9⟩:=SmsAt.cons_iff.1 h
  exact SmsAt.cons_iff.2 ⟨q,qs',h1,h2,h3.keep hk,ve,v1,v2,q1,q2,by rw[hk _ h2];exact h4,h5.keep hk,h6.keep hk,h7.keep hk,h8.keep hk,h9.keep hk⟩
theorem SmAt.mono {w:World} {x:Px.Sm} {ok ok':Nat→Prop} {q:Nat} (h:SmAt w x ok q) (hk:∀ k,ok k→ok' k):SmAt w x ok' q:=by
 obtain ⟨h2,ve,v1,v2,q1,q2,h4,h5,h6,h7,h8,h9⟩:=h
 exact ⟨hk _ h2,ve,v1,v2,q1,q2,h4,h5.mono hk,h6.mono hk,h7.mono hk,h8.mono hk,h9.mono hk⟩
theorem SmAt.keep {w w':World} {x:Px.Sm} {ok:Nat→Prop} {q:Nat} (h:SmAt w x ok q) (hk:∀ k,ok k→w'.heap[k]?=w.heap[k]?):SmAt w' x ok q:=by
 obtain ⟨h2,ve,v1,v2,q1,q2,h4,h5,h6,h7,h8,h9⟩:=h
 exact ⟨h2,ve,v1,v2,q1,q2,by rw[hk _ h2];exact h4,h5.keep hk,h6.keep hk,h7.keep hk,h8.keep hk,h9.keep hk⟩
def BlPost (b:Nat) (s:ByteArray) (w:World) (r:Except Nat (List Px.Sm×Px.Ps)) (e:Ending) (w':World):Prop :=
 Kp b w w'∧∃ a n c,e=.returned (.slice a n c) ∧
  match r with
  | .ok (l,st)=>∃ qs,SlAt w' (.slice a n c) qs (In w w')∧SmsAt w' l (In w w') qs∧PenAt w' b s st.t (-1) st.nest st.deep
  | .error p=>∃ t nest deep,PenAt w' b s t ((p:Nat):Int) nest deep
def StPost (b:Nat) (s:ByteArray) (w:World) (r:Except Nat (Px.Sm×Px.Ps)) (e:Ending) (w':World):Prop :=
 Kp b w w'∧∃ q,e=.returned (ptr q) ∧
  match r with
  | .ok (x,st)=>SmAt w' x (In w w') q∧PenAt w' b s st.t (-1) st.nest st.deep
  | .error p=>∃ t nest deep,PenAt w' b s t ((p:Nat):Int) nest deep
def LsRel (b:Nat) (s:ByteArray) (g:Px.Ps→Except Nat (Px.Sm×Px.Ps)) (stop:Px.Ps→Bool) (D:Px.Ps→Prop) (R:Except Nat (List Px.Sm×Px.Ps)) (w wr:World) (v:Value):Prop :=
 Kp b w wr∧∃ qs,wr.ownsRow w.heap.size 103 1 v qs.length (qs.map ptr) ∧
 ((∃ l st m,SmsAt wr l (fun k=>In w wr k∧some k≠v.ownBlock) qs∧qs.length≤st.t.a∧PenAt wr b s st.t (-1) st.nest st.deep∧D st∧Px.stmts s g stop m l st=R∧s.size - st.t.a < m) ∨
  (∃ p t nest deep,R=.error p∧qs.length≤s.size+1∧PenAt wr b s t ((p:Nat):Int) nest deep))
end Ref
open Go.RowKit
namespace Lg
theorem cells3 {w:World} {k:Nat} {a b c:Value} {t:TypeId} (hh:w.heap[k]?=some (.cells #[a,b,c] t)) :
  w.cell? ⟨k,0,none⟩=some a∧w.cell? ⟨k,1,none⟩=some b∧w.cell? ⟨k,2,none⟩=some c∧∀ o,w.frozen? ⟨k,o,none⟩=false:=by
 refine ⟨?_,?_,?_,?_⟩<;>simp[World.cell?,World.frozen?,hh]
structure RdAt (w:World) (b:Nat) (s:ByteArray) (t:Px.Tok) (dep:Int) (td:Option Addr):Prop where
 h:w.heap[b]?=some (.cells #[.string s,.int .i64 (kd t.k:Int),.string (s.extract t.a t.b),.int .i64 (t.a:Int),.int .i64 dep,.pointer td] 149)
def opsC:List Value:=[.string ⟨#[43]⟩,.int .i64 1,.int .i64 1,.int .i64 1,.string ⟨#[45]⟩,.int .i64 1,.int .i64 1,.int .i64 1,.string ⟨#[42]⟩,.int .i64 2,.int .i64 1,.int .i64 1,.string ⟨#[47]⟩,.int .i64 2,.int .i64 1,.int .i64 1,
 .string ⟨#[60]⟩,.int .i64 0,.int .i64 1,.int .i64 2,.string ⟨#[61]⟩,.int .i64 0,.int .i64 0,.int .i64 2,.string ⟨#[35]⟩,.int .i64 0,.int .i64 0,.int .i64 2]
structure Gl (w:World) (b:Nat) (eT eN:Addr):Prop where
 t:w.cell? ⟨1,0,none⟩=some (.iface 357 (.pointer (some eT)))
 n:w.cell? ⟨3,0,none⟩=some (.iface 357 (.pointer (some eN)))
 ops:∀ j (hj:j < 28),w.cell? ⟨16,j,none⟩=some (opsC[j]'hj)
 lo:20≤b
theorem Gl.keep {w w':World} {b:Nat} {eT eN:Addr} (g:Gl w b eT eN) (k:Kp b w w'):Gl w' b eT eN :=
 ⟨by rw[k.cell (lt_of_cell g.t) (by have:=g.lo;omega)];exact g.t,by rw[k.cell (lt_of_cell g.n) (by have:=g.lo;omega)];exact g.n,fun j hj=>by rw[k.cell (lt_of_cell (g.ops 0 (by decide))) (by have:=g.lo;omega)];exact g.ops j hj,g.lo⟩
theorem Gl.setN {w:World} {b k o:Nat} {eT eN:Addr} {v:Value} (g:Gl w b eT eN) (hk:20≤k):Gl (w.setCell ⟨k,o,none⟩ v) b eT eN :=
 ⟨by rw[World.cell?_of_block (w:=w) (Below.heap_setCell _ _ _ _ (by show (_:Nat)≠k;dsimp only;omega))];exact g.t,by rw[World.cell?_of_block (w:=w) (Below.heap_setCell _ _ _ _ (by show (_:Nat)≠k;dsimp only;omega))];exact g.n,fun j hj=>by rw[World.cell?_of_block (w:=w) (Below.heap_setCell _ _ _ _ (by show (_:Nat)≠k;dsimp only;omega))];exact g.ops j hj,g.lo⟩
def Thrown (w':World) (base:Nat) (eT:Addr) (p:Nat) (e:Ending):Prop :=
 ∃ f,base≤f∧e=.panicked [{ v:=.iface 87 (.pointer (some ⟨f,0,none⟩)),recovered:=false }]∧w'.heap[f]?=some (.cells #[.int .i64 (p:Int),.iface 357 (.pointer (some eT))] 92)
theorem Thrown.form {w':World} {base p:Nat} {eT:Addr} {e:Ending} (h:Thrown w' base eT p e):∃ c,e=.panicked c:=by
 obtain ⟨f,h1,h2,h3⟩:=h
 exact ⟨_,h2⟩
theorem Thrown.low {w':World} {base base' p:Nat} {eT:Addr} {e:Ending} (h:Thrown w' base eT p e) (hb:base'≤base):Thrown w' base' eT p e:=by
 obtain ⟨f,h1,h2,h3⟩:=h
 exact ⟨f,Nat.le_trans hb h1,h2,h3⟩
theorem thrown_new (w:World) (eT:Addr) (pl:Nat):(Thrown (w.alloc (.cells #[.int .i64 (pl:Int),.iface 357 (.pointer (some eT))] 92)).drew w.heap.size eT pl (.panicked [{ v:=.iface 87 (.pointer (some ⟨w.heap.size,0,none⟩)),recovered:=false }])∧Below w.heap.size w (w.alloc (.cells #[.int .i64 (pl:Int),.iface 357 (.pointer (some eT))] 92)).drew):=by
 refine ⟨⟨w.heap.size,Nat.le_refl _,rfl,?_⟩,((Below.refl _ _).alloc (Nat.le_refl _) _).drew⟩
 show (w.heap.push _)[w.heap.size]?=_
 rw[Array.getElem?_push,if_pos rfl]
set_option maxRecDepth 100000 in
theorem refuse_any (b:Nat) (v0 v1 v2 v4 v5:Value) (pl:Nat) (eT eN:Addr) (w:World) (p:w.heap[b]?=some (.cells #[v0,v1,v2,.int .i64 (pl:Int),v4,v5] 149)) (g:Gl w b eT eN) :
  Calls Tryz.prog 60 #[.pointer (some ⟨b,0,none⟩)] w fun e w'=>Thrown w' w.heap.size eT pl e∧Below w.heap.size w w':=by
 obtain ⟨c0,c1,c2,c3,c4,c5,f⟩:=Ref.cells6 p
 have gt:=g.t
 clear p g
 go_enter Tryz.func60,Tryz.ntmps60
 go_wp2_with fail
 refine wp_region_any (by kernel_rfl) ?_
 change wpAny _ _ _ _ _ _ _ (World.drew _)
 refine wpAny_take (i:=0) (v:=?_) rfl (by kernel_rfl) (by kernel_rfl) (by kernel_rfl) (fun _ _ _ h=>h) (Or.inl ⟨by rfl,?hy0⟩) ?rest0
 case hy0=>intro w;go_simp;first | done | with_reducible rfl
 refine wpAny_take (i:=1) (v:=?_) rfl (by kernel_rfl) (by kernel_rfl) (by kernel_rfl) (fun _ _ _ h=>h) (Or.inl ⟨by rfl,?hy1⟩) ?rest1
 case hy1=>intro w;go_simp;first | done | with_reducible rfl
 refine wpAny_take (i:=2) (v:=?_) rfl (by kernel_rfl) (by kernel_rfl) (by kernel_rfl) (fun _ _ _ h=>h) (Or.inl ⟨by rfl,?hy2⟩) ?rest2
 case hy2=>intro w;go_simp;first | done | with_reducible rfl
 refine wpAny_take (i:=3) (v:=?_) rfl (by kernel_rfl) (by kernel_rfl) (by kernel_rfl) (fun _ _ _ h=>h) (Or.inl ⟨by rfl,?hy3⟩) ?rest3
 case hy3=>intro w;go_simp;first | done | with_reducible rfl
 refine wpAny_ready (rs:=[4,5]) (by kernel_rfl) (by simp) ?_
 refine AllReady.cons rfl (fun K hK=>?_) (AllReady.cons rfl (fun K hK=>?_) AllReady.nil)
 ·go_simp
  refine hK _ _ ?_
  clear hK K
  refine wpAny_ready (rs:=[5]) (by kernel_rfl) (by simp) ?_
  refine AllReady.cons rfl (fun K hK=>?_) AllReady.nil
  go_simp
  refine hK _ _ ?_
  clear hK K
  refine wpAny_ready (rs:=[6]) (by kernel_rfl) (by simp) ?_
  refine AllReady.cons rfl (fun K hK=>?_) AllReady.nil
  go_simp
  refine hK _ _ ?_
  clear hK K
  refine wpAny_ready (rs:=[7]) (by kernel_rfl) (by simp) ?_
  refine AllReady.cons rfl (fun K hK=>?_) AllReady.nil
  go_simp
  refine hK _ _ ?_
  clear hK K
  refine wpAny_ready (rs:=[8]) (by kernel_rfl) (by simp) ?_
  refine AllReady.cons rfl (fun K hK=>?_) AllReady.nil
  go_simp
  refine hK _ _ ?_
  clear hK K
  refine wpAny_ready (rs:=[9]) (by kernel_rfl) (by simp) ?_
  refine AllReady.cons rfl (fun K hK=>?_) AllReady.nil
  go_simp
  clear hK K
  exact ⟨rfl,thrown_new _ _ _⟩
 ·go_simp
  refine hK _ _ ?_
  clear hK K
  refine wpAny_ready (rs:=[4]) (by kernel_rfl) (by simp) ?_
  refine AllReady.cons rfl (fun K hK=>?_) AllReady.nil
  go_simp
  refine hK _ _ ?_
  clear hK K
  refine wpAny_ready (rs:=[6]) (by kernel_rfl) (by simp) ?_
  refine AllReady.cons rfl (fun K hK=>?_) AllReady.nil
  go_simp
  refine hK _ _ ?_
  clear hK K
  refine wpAny_ready (rs:=[7]) (by kernel_rfl) (by simp) ?_
  refine AllReady.cons rfl (fun K hK=>?_) AllReady.nil
  go_simp
  refine hK _ _ ?_
  clear hK K
  refine wpAny_ready (rs:=[8]) (by kernel_rfl) (by simp) ?_
  refine AllReady.cons rfl (fun K hK=>?_) AllReady.nil
  go_simp
  refine hK _ _ ?_
  clear hK K
  refine wpAny_ready (rs:=[9]) (by kernel_rfl) (by simp) ?_
  refine AllReady.cons rfl (fun K hK=>?_) AllReady.nil
  go_simp
  clear hK K
  exact ⟨rfl,thrown_new _ _ _⟩
theorem moveTo_any (b:Nat) (s:ByteArray) (i:Nat) (v1 v2 v3:Value) (dep:Int) (td:Option Addr) (eT eN:Addr) (w:World) (p:w.heap[b]?=some (.cells #[.string s,v1,v2,v3,.int .i64 dep,.pointer td] 149)) (g:Gl w b eT eN) (hi:i≤s.size) (hs:s.size≤maxLen) :
  Calls Tryz.prog 58 #[.pointer (some ⟨b,0,none⟩),.int .i64 (i:Int)] w fun e w'=>Kp b w w' ∧
   ((Px.tok s i).k≠63→e=.returned (.tuple #[])∧RdAt w' b s (Px.tok s i) dep td)∧((Px.tok s i).k=63→Thrown w' w.heap.size eT (Px.tok s i).a e):=by
 obtain ⟨c0,c1,c2,c3,c4,c5,f⟩:=Ref.cells6 p
 have hb:b < w.heap.size:=lt_of_cell c0
 have G:Hid (Gl w b eT eN):=g
 have P:Hid (w.heap[b]?=_):=p
 clear p g
 go_enter Tryz.func58,Tryz.ntmps58
 go_wp2_with fail
 refine (sign_any s i _ hi hs).mono ?_
 rintro e w1 ⟨⟨v,rfl,k,x,rfl,hv⟩,hbw⟩
 have K1:Hid (Kp b w w1):=(Kp.refl b w).below hbw
 have hz1:w.heap.size≤w1.heap.size:=hbw.size
 have p1:w1.heap[b]?=_:=(hbw.block b hb).trans P.out
 obtain ⟨d0,d1,d2,d3,d4,d5,df⟩:=Ref.cells6 p1
 have P1:Hid (_):=p1
 have HV:Hid (_):=hv
 have hne:¬ w1.heap.size=b:=by omega
 have hb1:b < w1.heap.size:=by omega
 clear p1 hbw hv c0 c1 c2 c3 c4 c5 f
 cases hk:((Px.tok s i).k != 63)
 ·have hk':(Px.tok s i).k=63:=by simpa using hk
  have K2:Hid (Kp b w ((((w1.setCell ⟨b,1,none⟩ (.int .i64 (k:Int))).setCell ⟨b,2,none⟩ (.string x)).setCell ⟨b,3,none⟩ (.int .i64 ((Px.tok s i).a:Int))).alloc (.cells #[.int .i64 (k:Int),.string x,.int .i64 ((Px.tok s i).a:Int)] 147))):=((((K1.out.setB _).setB _).setB _).alloc _)
  go_wp2_with fail
  refine (refuse_any b (.string s) (.int .i64 (k:Int)) (.string x) (.int .i64 dep) (.pointer td) (Px.tok s i).a eT eN _ ?_ (G.out.keep K2.out)).mono ?_
  ·rw[Below.heap_alloc _ _ _ (by simpa [World.setCell] using hb1),Ref.heap_set _ (Ref.heap_set _ (Ref.heap_set _ P1.out))]
   simp
  rintro e w2 ⟨ht,h2⟩
  obtain ⟨c,rfl⟩:=ht.form
  exact ⟨rfl,K2.out.below h2,fun h=>absurd hk' h,fun _=>ht.low K2.out.size⟩
 ·have hk':(Px.tok s i).k≠63:=by simpa using hk
  obtain ⟨rfl,rfl⟩:=HV.out hk'
  go_wp2_with fail
  go_end0
  refine ⟨((((K1.out.setB _).setB _).setB _).alloc _),fun _=>⟨rfl,⟨?_⟩⟩,fun h=>absurd h hk'⟩
  rw[Below.heap_alloc _ _ _ (by simpa [World.setCell] using hb1),Ref.heap_set _ (Ref.heap_set _ (Ref.heap_set _ P1.out))]
  simp
def DeepAt (w:World) (b:Nat) (eN:Addr) (deep:Int) (td:Option Addr):Prop :=
 (deep < 0∧td=none)∨(0≤deep∧∃ f,td=some ⟨f,0,none⟩∧f≠b∧w.heap[f]?=some (.cells #[.int .i64 deep,.iface 357 (.pointer (some eN))] 92))
theorem DeepAt.keep {w w':World} {b:Nat} {eN:Addr} {deep:Int} {td:Option Addr} (h:DeepAt w b eN deep td) (k:Kp b w w'):DeepAt w' b eN deep td:=by
 rcases h with h | ⟨h1,f,h2,h3,h4⟩
 ·exact Or.inl h
 ·exact Or.inr ⟨h1,f,h2,h3,by rw[k.block f (Array.getElem?_eq_some_iff.1 h4).1 h3];exact h4⟩
structure Rd (w:World) (b:Nat) (s:ByteArray) (st:Px.Ps) (eT eN:Addr):Prop where
 tk:Px.Tk s st.t
 k63:st.t.k≠63
 gl:Gl w b eT eN
 mem:∃ td,RdAt w b s st.t st.nest td∧DeepAt w b eN st.deep td
theorem Rd.lt {w:World} {b:Nat} {s:ByteArray} {st:Px.Ps} {eT eN:Addr} (r:Rd w b s st eT eN):b < w.heap.size:=by
 obtain ⟨td,h,_⟩:=r.mem
 exact (Array.getElem?_eq_some_iff.1 h.h).1
theorem Rd.keep {w w':World} {b:Nat} {s:ByteArray} {st:Px.Ps} {eT eN:Addr} (r:Rd w b s st eT eN) (k:Kp b w w') (hb:w'.heap[b]?=w.heap[b]?):Rd w' b s st eT eN:=by
 obtain ⟨td,h,d⟩:=r.mem
 exact ⟨r.tk,r.k63,r.gl.keep k,td,⟨by rw[hb];exact h.h⟩,d.keep k⟩
theorem Rd.alloc {w:World} {b:Nat} {s:ByteArray} {st:Px.Ps} {eT eN:Addr} (r:Rd w b s st eT eN) (o:Obj):Rd (w.alloc o) b s st eT eN:=r.keep ((Kp.refl _ _).alloc _) (Below.heap_alloc _ _ _ r.lt)
theorem Rd.drew {w:World} {b:Nat} {s:ByteArray} {st:Px.Ps} {eT eN:Addr} (r:Rd w b s st eT eN):Rd w.drew b s st eT eN:=r.keep (Kp.refl _ _).drew rfl
theorem Rd.setT {w:World} {b k o:Nat} {s:ByteArray} {st:Px.Ps} {eT eN:Addr} {c:Array Value} {t:TypeId} (r:Rd w b s st eT eN) (h:w.heap[k]?=some (.cells c t)) (ht:t≠92) (hk:b < k) (v:Value):Rd (w.setCell ⟨k,o,none⟩ v) b s st eT eN:=by
 obtain ⟨td,a,d⟩:=r.mem
 refine ⟨r.tk,r.k63,r.gl.setN (by have:=r.gl.lo;omega),td,⟨by rw[Below.heap_setCell _ _ _ _ (by show b≠k;omega)];exact a.h⟩,?_⟩
 rcases d with d | ⟨d1,f,d2,d3,d4⟩
 ·exact Or.inl d
 ·refine Or.inr ⟨d1,f,d2,d3,?_⟩
  rw[Below.heap_setCell _ _ _ _ (by show f≠k;rintro rfl;rw[h] at d4;simp at d4;exact ht d4.2)]
  exact d4
def fin {α:Type} (r:Except Nat (α×Px.Ps)):Except Nat (α×Px.Ps) :=
 match r with
 | .ok (x,st)=>if st.t.k=63 then .error st.t.a else .ok (x,st)
 | .error p=>.error p
def Out {α:Type} (b:Nat) (s:ByteArray) (eT eN:Addr) (w:World) (r:Except Nat (α×Px.Ps)) (V:World→α→Value→Prop) (e:Ending) (w':World):Prop :=
 Kp b w w'∧((∃ x st v,r=.ok (x,st)∧e=.returned v∧V w' x v∧Rd w' b s st eT eN)∨∃ p,fin r=.error p∧Thrown w' w.heap.size eT p e)
theorem step_any (b:Nat) (s:ByteArray) (st:Px.Ps) (eT eN:Addr) (w:World) (r:Rd w b s st eT eN) (hs:s.size≤maxLen) :
  Calls Tryz.prog 194 #[.pointer (some ⟨b,0,none⟩)] w
   (Out b s eT eN w (.ok (st.t,Px.nx s st)) (fun _ t v=>v=.agg #[.int .i64 (kd t.k:Int),.string (s.extract t.a t.b),.int .i64 (t.a:Int)])):=by
 obtain ⟨td,ra,rd⟩:=r.mem
 obtain ⟨c0,c1,c2,c3,c4,c5,f⟩:=Ref.cells6 ra.h
 have hb:=r.lt
 have R:Hid (Rd w b s st eT eN):=r
 have RA:Hid (RdAt w b s st.t st.nest td∧DeepAt w b eN st.deep td):=⟨ra,rd⟩
 have hab:=r.tk.ab
 have hle:=r.tk.le
 have hse:(s.extract st.t.a st.t.b).size=st.t.b - st.t.a:=by simp;omega
 unfold maxLen at hs
 clear r ra rd
 go_enter Tryz.func194,Tryz.ntmps194
 have hi:((st.t.a:Int)+((st.t.b - st.t.a:Nat):Int))=((st.t.b:Nat):Int):=by omega
 go_wp2_with fail
 have P1:Hid ((_:World).heap[b]?=_):=(Below.heap_alloc (w.alloc (.cells #[.int .i64 0,.string ⟨#[]⟩,.int .i64 0] 147)) (.cells #[.int .i64 (kd st.t.k:Int),.string (s.extract st.t.a st.t.b),.int .i64 (st.t.a:Int)] 147) b (by simp;omega)).trans ((Below.heap_alloc w (.cells #[.int .i64 0,.string ⟨#[]⟩,.int .i64 0] 147) b hb).trans RA.out.1.h)
 have K0:Hid (Kp b w ((w.alloc (.cells #[.int .i64 0,.string ⟨#[]⟩,.int .i64 0] 147)).alloc (.cells #[.int .i64 (kd st.t.k:Int),.string (s.extract st.t.a st.t.b),.int .i64 (st.t.a:Int)] 147))):=((Kp.refl b w).alloc _).alloc _
 refine (moveTo_any b s st.t.b _ _ _ _ _ eT eN _ P1.out (R.out.gl.keep K0.out) hle (by unfold maxLen;omega)).mono ?_
 rintro e w1 ⟨k1,h1,h2⟩
 by_cases hk:(Px.tok s st.t.b).k=63
 ·have ht:=h2 hk
  obtain ⟨c,rfl⟩:=ht.form
  exact ⟨rfl,K0.out.trans k1,Or.inr ⟨_,if_pos hk,ht.low K0.out.size⟩⟩
 ·obtain ⟨rfl,a1⟩:=h1 hk
  obtain ⟨g1,g2,g3⟩:=Ref.two_kept rfl k1 hb
  obtain ⟨d0,d1,d2,df⟩:=cells3 g2
  obtain ⟨u0,u1,u2,uf⟩:=cells3 g1
  have A1:Hid (Kp b _ w1∧RdAt w1 b s (Px.tok s st.t.b) st.nest td):=⟨k1,a1⟩
  clear k1 a1 h1 h2 g1 g2 c0 c1 c2 c3 c4 c5 f P1
  go_wp2_with fail
  have KW:∀ a1 a2 a3,Kp b w (((w1.setCell ⟨w.heap.size,0,none⟩ a1).setCell ⟨w.heap.size,1,none⟩ a2).setCell ⟨w.heap.size,2,none⟩ a3):=fun a1 a2 a3=>(((K0.out.trans A1.out.1).setN (Nat.le_refl _) _).setN (Nat.le_refl _) _).setN (Nat.le_refl _) _
  refine bodyPost_ret (v:=.agg #[.int .i64 (kd st.t.k:Int),.string (s.extract st.t.a st.t.b),.int .i64 (st.t.a:Int)]) (by simp[results,Tryz.results194,go_sem, *]) rfl ⟨KW _ _ _,Or.inl ⟨_,_,_,rfl,rfl,rfl,?_⟩⟩
  exact ⟨Px.nx_tk R.out.tk,hk,R.out.gl.keep (KW _ _ _),td,⟨by rw[Ref.heap_set_ne _ (by omega),Ref.heap_set_ne _ (by omega),Ref.heap_set_ne _ (by omega)];exact A1.out.2.h⟩,RA.out.2.keep (KW _ _ _)⟩
open Go.RowKit
theorem val_four {x:ByteArray} {k v:Nat} (hx:x.size≤4) (hd:∀ j (hj:j < x.size),Px.isDig x[j]=true) (hk:k < x.size) (hv:v=Px.valOf (x.data.toList.take k)):v≤1000:=by
 have h1:=Ref.val_bound (x.data.toList.take k) 0 (by
  intro c hc
  obtain ⟨j,hj,rfl⟩:=List.getElem_of_mem hc
  simp only[List.length_take,Array.length_toList] at hj
  have h2:=hd j (by show j < x.data.size;omega)
  unfold Px.isDig at h2
  simp only[Bool.and_eq_true,decide_eq_true_eq] at h2
  simpa using (show x.data[j].toNat≤57 from h2.2))
 have h3:(x.data.toList.take k).length≤3:=by simp;omega
 have h4:10 ^ (x.data.toList.take k).length≤10 ^ 3:=Nat.pow_le_pow_right (by omega) h3
 have h5:v=List.foldl (fun n c=>10 * n+(c.toNat - 48)) 0 (x.data.toList.take k):=hv
 omega
set_option maxRecDepth 100000 in
set_option maxHeartbeats 2000000 in
theorem valueOf_any (x:ByteArray) (w:World) (hx:x.size≤4) (hd:∀ j (hj:j < x.size),Px.isDig x[j]=true) :
  Calls Tryz.prog 200 #[.string x] w fun e w'=>e=.returned (.int .i64 (Px.valOf x.toList:Nat))∧w'=w:=by
 have HD:Hid (∀ j (hj:j < x.size),Px.isDig x[j]=true):=hd
 clear hd
 go_enter Tryz.func200,Tryz.ntmps200
 go_wp2
 go_loop [3,7] (fun vv vi=>∃ (k v:Nat),k≤x.size∧vi=.int .i64 k∧vv=.int .i64 v∧Hid (v=Px.valOf (x.data.toList.take k))) (fun _ vi=>x.size - (RowKit.intOf vi).toNat)
 case atStart=>exact ⟨0,0,Nat.zero_le _,rfl,rfl,rfl⟩
 case round =>
  obtain ⟨k,v,hk,rfl,rfl,hv⟩:=hrel
  by_cases hlt:k < x.size
  ·have hdk:=HD.out k hlt
   unfold Px.isDig at hdk
   simp only[Bool.and_eq_true,decide_eq_true_eq] at hdk
   have d1:(48:Int)≤x[k].toNat:=by omega
   have d2:(x[k].toNat:Int)≤57:=by omega
   have hb:v≤1000:=val_four hx HD.out hlt hv.out
   clear hdk
   go_wp2
   go_round
   case rel =>
    refine ⟨k+1,10 * v+(x[k].toNat - 48),by omega,by go_num,?_,?_⟩
    ·congr 1;omega
    ·show _=_
     rw[Ref.take_snoc x k hlt,Ref.val_snoc,← hv.out]
   case measure=>simp[RowKit.intOf];omega
  ·obtain rfl:k=x.size:=by omega
   go_wp2
   go_ret
   have:Px.valOf x.toList=v:=by rw[hv.out,ByteArray.toList_eq,List.take_of_length_le (by simp)]
   exact ⟨by rw[this];rfl,rfl⟩
open Go.RowKit
theorem fin_ok {α β:Type} {x:α} {y:β} {st:Px.Ps} {p:Nat} (h:fin (.ok (x,st))=.error p):fin (.ok (y,st))=.error p:=by
 unfold fin at h ⊢
 simp only at h ⊢
 split at h
 ·rename_i h1;rw[if_pos h1];cases h;rfl
 ·cases h
theorem fin_ok_k {α:Type} {x:α} {st:Px.Ps} {p:Nat} (h:fin (.ok (x,st))=.error p):st.t.k=63∧p=st.t.a:=by
 unfold fin at h
 simp only at h
 split at h
 ·rename_i h1;cases h;exact ⟨h1,rfl⟩
 ·cases h
theorem kd_one {k:Nat}:((kd k:Int) != 1)=!(k == 107):=by
 unfold kd
 by_cases h:k=107
 ·simp[h]
 ·by_cases h1:k=119
  ·simp[h1]
  ·by_cases h2:k=110
   ·simp[h2]
   ·simp[h,h1,h2]
theorem kd_two {k:Nat}:((kd k:Int) != 2)=!(k == 119):=by
 unfold kd
 by_cases h:k=107
 ·simp[h]
 ·by_cases h1:k=119
  ·simp[h1]
  ·by_cases h2:k=110
   ·simp[h2]
   ·simp[h,h1,h2]
theorem kd_three {k:Nat}:((kd k:Int) != 3)=!(k == 110):=by
 unfold kd
 by_cases h:k=107
 ·simp[h]
 ·by_cases h1:k=119
  ·simp[h1]
  ·by_cases h2:k=110
   ·simp[h2]
   ·simp[h,h1,h2]
theorem Rd.cells {w:World} {b:Nat} {s:ByteArray} {st:Px.Ps} {eT eN:Addr} (r:Rd w b s st eT eN):∃ td,
  w.cell? ⟨b,0,none⟩=some (.string s)∧w.cell? ⟨b,1,none⟩=some (.int .i64 (kd st.t.k:Int))∧w.cell? ⟨b,2,none⟩=some (.string (s.extract st.t.a st.t.b))∧w.cell? ⟨b,3,none⟩=some (.int .i64 (st.t.a:Int)) ∧
  w.cell? ⟨b,4,none⟩=some (.int .i64 st.nest)∧w.cell? ⟨b,5,none⟩=some (.pointer td)∧∀ o,w.frozen? ⟨b,o,none⟩=false:=by
 obtain ⟨td,ra,rd⟩:=r.mem
 exact ⟨td,Ref.cells6 ra.h⟩
theorem refuse_rd (b:Nat) (s:ByteArray) (st:Px.Ps) (eT eN:Addr) (w:World) (r:Rd w b s st eT eN) :
  Calls Tryz.prog 60 #[.pointer (some ⟨b,0,none⟩)] w fun e w'=>Thrown w' w.heap.size eT st.t.a e∧Kp b w w':=by
 obtain ⟨td,ra,rd⟩:=r.mem
 refine (refuse_any b _ _ _ _ _ st.t.a eT eN w ra.h r.gl).mono ?_
 rintro e w' ⟨h1,h2⟩
 exact ⟨h1,(Kp.refl _ _).below h2⟩
theorem take_yes (b:Nat) (s x:ByteArray) (st:Px.Ps) (eT eN:Addr) (w:World) (r:Rd w b s st eT eN) (hs:s.size≤maxLen) (ho:Px.onB s st.t x=true) :
  Calls Tryz.prog 168 #[.pointer (some ⟨b,0,none⟩),.string x] w (Out b s eT eN w (.ok ((),Px.nx s st)) (fun _ _ v=>v=.bool true)):=by
 obtain ⟨td,c0,c1,c2,c3,c4,c5,f⟩:=r.cells
 have R:Hid (Rd w b s st eT eN):=r
 unfold Px.onB at ho
 simp only[Bool.and_eq_true] at ho
 obtain ⟨h1,h2⟩:=ho
 have k1:((kd st.t.k:Int) != 1)=false:=by rw[kd_one,h1];rfl
 clear r h1
 go_enter Tryz.func168,Tryz.ntmps168
 go_wp2_with fail
 refine (step_any b s st eT eN _ R.out hs).mono ?_
 rintro e w1 ⟨k1,⟨t,st1,v,he,rfl,rfl,r1⟩ | ⟨p,hp,ht⟩⟩
 ·cases he
  have R1:Hid (_∧_):=⟨k1,r1⟩
  clear k1 r1 c0 c1 c2 c3 c4 c5 f
  go_wp2_with fail
  go_ret
  exact ⟨R1.out.1,Or.inl ⟨_,_,_,rfl,rfl,rfl,R1.out.2⟩⟩
 ·obtain ⟨c,rfl⟩:=ht.form
  exact ⟨rfl,k1,Or.inr ⟨p,fin_ok hp,ht⟩⟩
theorem take_no (b:Nat) (s x:ByteArray) (st:Px.Ps) (eT eN:Addr) (w:World) (r:Rd w b s st eT eN) (ho:Px.onB s st.t x=false) :
  Calls Tryz.prog 168 #[.pointer (some ⟨b,0,none⟩),.string x] w fun e w'=>e=.returned (.bool false)∧w=w':=by
 obtain ⟨td,c0,c1,c2,c3,c4,c5,f⟩:=r.cells
 clear r
 unfold Px.onB at ho
 cases hk:(st.t.k == 107)
 ·have k1:((kd st.t.k:Int) != 1)=true:=by rw[kd_one,hk];rfl
  clear ho hk
  go_enter Tryz.func168,Tryz.ntmps168
  go_wp2_with fail
  go_ret
  exact ⟨rfl,rfl⟩
 ·have k1:((kd st.t.k:Int) != 1)=false:=by rw[kd_one,hk];rfl
  rw[hk,Bool.true_and] at ho
  clear hk
  go_enter Tryz.func168,Tryz.ntmps168
  go_wp2_with fail
  go_ret
  exact ⟨rfl,rfl⟩
def needU (s:ByteArray) (x:ByteArray) (st:Px.Ps):Except Nat (Unit×Px.Ps):=if Px.onB s st.t x then .ok ((),Px.nx s st) else .error st.t.a
theorem must_any (b:Nat) (s x:ByteArray) (st:Px.Ps) (eT eN:Addr) (w:World) (r:Rd w b s st eT eN) (hs:s.size≤maxLen) :
  Calls Tryz.prog 175 #[.pointer (some ⟨b,0,none⟩),.string x] w (Out b s eT eN w (needU s x st) (fun _ _ v=>v=.tuple #[])):=by
 have R:Hid (Rd w b s st eT eN):=r
 clear r
 cases ho:Px.onB s st.t x
 ·go_enter Tryz.func175,Tryz.ntmps175
  go_wp2_with fail
  refine (take_no b s x st eT eN _ R.out ho).mono ?_
  rintro e w1 ⟨rfl,rfl⟩
  go_wp2_with fail
  refine (refuse_rd b s st eT eN _ R.out).mono ?_
  rintro e w1 ⟨ht,k1⟩
  obtain ⟨c,rfl⟩:=ht.form
  exact ⟨rfl,k1,Or.inr ⟨_,by rw[needU,if_neg (by simp[ho])];rfl,ht⟩⟩
 ·go_enter Tryz.func175,Tryz.ntmps175
  go_wp2_with fail
  refine (take_yes b s x st eT eN _ R.out hs ho).mono ?_
  rintro e w1 ⟨k1,⟨t,st1,v,he,rfl,rfl,r1⟩ | ⟨p,hp,ht⟩⟩
  ·cases he
   have R1:Hid (_∧_):=⟨k1,r1⟩
   clear k1 r1
   go_wp2_with fail
   go_end0
   exact ⟨R1.out.1,Or.inl ⟨_,_,_,by rw[needU,if_pos ho],rfl,rfl,R1.out.2⟩⟩
  ·obtain ⟨c,rfl⟩:=ht.form
   exact ⟨rfl,k1,Or.inr ⟨p,by rw[needU,if_pos ho];exact hp,ht⟩⟩
def kindU (s:ByteArray) (k:Nat) (st:Px.Ps):Except Nat (Px.Tok×Px.Ps):=if st.t.k=k then .ok (st.t,Px.nx s st) else .error st.t.a
def SgAt (s:ByteArray) (t:Px.Tok) (v:Value):Prop:=v=.agg #[.int .i64 (kd t.k:Int),.string (s.extract t.a t.b),.int .i64 (t.a:Int)]
theorem mustBe_any (b:Nat) (s:ByteArray) (k kk:Nat) (hkk:(k=119∧kk=2)∨(k=110∧kk=3)) (st:Px.Ps) (eT eN:Addr) (w:World) (r:Rd w b s st eT eN) (hs:s.size≤maxLen) :
  Calls Tryz.prog 199 #[.pointer (some ⟨b,0,none⟩),.int .i64 (kk:Int)] w (Out b s eT eN w (kindU s k st) (fun _ t v=>SgAt s t v)):=by
 obtain ⟨td,c0,c1,c2,c3,c4,c5,f⟩:=r.cells
 have hb:=r.lt
 have R:Hid (Rd w b s st eT eN):=r
 have hq:((kd st.t.k:Int) != (kk:Int))=!(st.t.k == k):=by
  rcases hkk with ⟨rfl,rfl⟩ | ⟨rfl,rfl⟩
  ·exact kd_two
  ·exact kd_three
 clear r hkk
 cases ho:(st.t.k == k)
 ·rw[ho] at hq
  have ho':¬ st.t.k=k:=by simpa using ho
  go_enter Tryz.func199,Tryz.ntmps199
  go_wp2_with fail
  refine (refuse_rd b s st eT eN _ (R.out.alloc _)).mono ?_
  rintro e w1 ⟨ht,k1⟩
  obtain ⟨c,rfl⟩:=ht.form
  exact ⟨rfl,k1.of_alloc,Or.inr ⟨_,by rw[kindU,if_neg ho'];rfl,ht.low (by simp)⟩⟩
 ·rw[ho] at hq
  have ho':Hid (st.t.k=k):=(by simpa using ho:st.t.k=k)
  clear ho
  go_enter Tryz.func199,Tryz.ntmps199
  go_wp2_with fail
  refine (step_any b s st eT eN _ (R.out.alloc _) hs).mono ?_
  rintro e w1 ⟨k1,⟨t,st1,v,he,rfl,rfl,r1⟩ | ⟨p,hp,ht⟩⟩
  ·cases he
   have g1:=one_new k1 hb
   obtain ⟨d0,d1,d2,df⟩:=cells3 g1
   have R1:Hid (_∧_∧_):=⟨k1,r1,g1⟩
   clear k1 r1 c0 c1 c2 c3 c4 c5 f g1
   go_wp2_with fail
   refine bodyPost_ret (v:=.agg #[.int .i64 (kd st.t.k:Int),.string (s.extract st.t.a st.t.b),.int .i64 (st.t.a:Int)]) (by simp[results,Tryz.results199,go_sem, *]) rfl ?_
   have g2:=R1.out.2.2
   have g3:=Ref.heap_set (o:=0) (.int .i64 (kd st.t.k:Int)) g2
   have g4:=Ref.heap_set (o:=1) (.string (s.extract st.t.a st.t.b)) g3
   exact ⟨((R1.out.1.of_alloc.setN (Nat.le_refl _) _).setN (Nat.le_refl _) _).setN (Nat.le_refl _) _,Or.inl ⟨_,_,_,by rw[kindU,if_pos ho'.out],rfl,rfl,((R1.out.2.1.setT g2 (by decide) hb _).setT g3 (by decide) hb _).setT g4 (by decide) hb _⟩⟩
  ·obtain ⟨c,rfl⟩:=ht.form
   exact ⟨rfl,k1.of_alloc,Or.inr ⟨p,by rw[kindU,if_pos ho'.out];exact hp,ht.low (by simp)⟩⟩
open Go.RowKit
def VarAt (w:World) (x:ByteArray) (a:Nat) (ok:Nat→Prop) (q:Nat):Prop:=ok q∧w.heap[q]?=some (.cells #[.string x,.int .i64 (a:Int)] 267)
def NumAt (w:World) (n a:Nat) (ok:Nat→Prop) (q:Nat):Prop:=ok q∧w.heap[q]?=some (.cells #[.int .i64 (n:Int),.int .i64 (a:Int)] 311)
theorem new1 {w:World} {o:Obj}:(w.alloc o).heap[w.heap.size]?=some o:=by
 show (w.heap.push o)[w.heap.size]?=_
 rw[Array.getElem?_push,if_pos rfl]
theorem new_at {w:World} {o:Obj} {n:Nat} (h:w.heap.size=n):(w.alloc o).heap[n]?=some o:=by rw[← h];exact new1
theorem new2 {w:World} {o p:Obj}:((w.alloc o).alloc p).heap[w.heap.size+1]?=some p:=Ref.push2_two
set_option maxRecDepth 100000 in
theorem word_any (b:Nat) (s:ByteArray) (st:Px.Ps) (eT eN:Addr) (w:World) (r:Rd w b s st eT eN) (hs:s.size≤maxLen) :
  Calls Tryz.prog 197 #[.pointer (some ⟨b,0,none⟩)] w (Out b s eT eN w (kindU s 119 st) (fun _ t v=>v=.string (s.extract t.a t.b))):=by
 have R:Hid (Rd w b s st eT eN):=r
 clear r
 go_enter Tryz.func197,Tryz.ntmps197
 go_wp2_with fail
 refine (mustBe_any b s 119 2 (Or.inl ⟨rfl,rfl⟩) st eT eN _ R.out hs).mono ?_
 rintro e w1 ⟨k1,⟨t,st1,v,he,rfl,hv,r1⟩ | ⟨p,hp,ht⟩⟩
 ·unfold SgAt at hv
  subst hv
  have R1:Hid (_∧_∧_):=⟨k1,r1,he⟩
  clear k1 r1 he
  have hfd:∀ W:World,(Instr.field 147 (.agg #[.int .i64 (kd t.k:Int),.string (s.extract t.a t.b),.int .i64 (t.a:Int)]) 1).run Tryz.prog W=.ok (.string (s.extract t.a t.b)) W:=fun _=>by kernel_rfl
  go_wp2_with fail
  go_ret
  exact ⟨R1.out.1,Or.inl ⟨_,_,_,R1.out.2.2,rfl,rfl,R1.out.2.1⟩⟩
 ·obtain ⟨c,rfl⟩:=ht.form
  exact ⟨rfl,k1,Or.inr ⟨p,hp,ht⟩⟩
theorem variable_any (b:Nat) (s:ByteArray) (st:Px.Ps) (eT eN:Addr) (w:World) (r:Rd w b s st eT eN) (hs:s.size≤maxLen) :
  Calls Tryz.prog 195 #[.pointer (some ⟨b,0,none⟩)] w (Out b s eT eN w (kindU s 119 st) (fun w' t v=>∃ q,v=Ref.ptr q∧VarAt w' (s.extract t.a t.b) t.a (Ref.In w w') q)):=by
 have R:Hid (Rd w b s st eT eN):=r
 clear r
 go_enter Tryz.func195,Tryz.ntmps195
 go_wp2_with fail
 refine (mustBe_any b s 119 2 (Or.inl ⟨rfl,rfl⟩) st eT eN _ R.out hs).mono ?_
 rintro e w1 ⟨k1,⟨t,st1,v,he,rfl,hv,r1⟩ | ⟨p,hp,ht⟩⟩
 ·unfold SgAt at hv
  subst hv
  have R1:Hid (_∧_∧_):=⟨k1,r1,he⟩
  clear k1 r1 he
  go_wp2_with fail
  go_ret
  have z:=R1.out.1.size
  exact ⟨(R1.out.1.alloc _).alloc _,Or.inl ⟨_,_,_,R1.out.2.2,rfl,⟨_,rfl,⟨⟨by omega,by simp⟩,new2⟩⟩,(R1.out.2.1.alloc _).alloc _⟩⟩
 ·obtain ⟨c,rfl⟩:=ht.form
  exact ⟨rfl,k1,Or.inr ⟨p,hp,ht⟩⟩
theorem number_any (b:Nat) (s:ByteArray) (st:Px.Ps) (eT eN:Addr) (w:World) (r:Rd w b s st eT eN) (hs:s.size≤maxLen) :
  Calls Tryz.prog 173 #[.pointer (some ⟨b,0,none⟩)] w (Out b s eT eN w (kindU s 110 st) (fun w' t v=>∃ q,v=Ref.ptr q∧NumAt w' (Px.valOf (s.extract t.a t.b).toList) t.a (Ref.In w w') q)):=by
 have R:Hid (Rd w b s st eT eN):=r
 clear r
 go_enter Tryz.func173,Tryz.ntmps173
 go_wp2_with fail
 refine (mustBe_any b s 110 3 (Or.inr ⟨rfl,rfl⟩) st eT eN _ R.out hs).mono ?_
 rintro e w1 ⟨k1,⟨t,st1,v,he,rfl,hv,r1⟩ | ⟨p,hp,ht⟩⟩
 ·unfold SgAt at hv
  subst hv
  have hT:t=st.t∧st.t.k=110:=by
   unfold kindU at he
   split at he
   ·rename_i hk;cases he;exact ⟨rfl,hk⟩
   ·cases he
  obtain ⟨rfl,hk⟩:=hT
  obtain ⟨hn1,hn2⟩:=R.out.tk.num hk
  have hlt:=R.out.tk.lt (by omega) (by omega)
  have hle:=R.out.tk.le
  have hx:(s.extract st.t.a st.t.b).size≤4:=by simp;omega
  have HX:Hid (∀ j (hj:j < (s.extract st.t.a st.t.b).size),Px.isDig (s.extract st.t.a st.t.b)[j]=true):=fun j hj=>by
   rw[ByteArray.getElem_extract]
   simp only[ByteArray.size_extract] at hj
   exact hn2 _ (by omega) (by omega) (by omega)
  have R1:Hid (_∧_∧_):=⟨k1,r1,he⟩
  clear k1 r1 he hn1 hn2 hlt hle hk
  go_wp2_with fail
  go_region_with (go_at_call 200;refine (valueOf_any _ _ hx HX.out).mono ?_;rintro e w2 ⟨rfl,rfl⟩)
  all_goals
   go_wp2_with fail
   go_ret
   have z:=R1.out.1.size
   refine ⟨((R1.out.1.alloc _).alloc _).drew,Or.inl ⟨_,_,_,R1.out.2.2,rfl,⟨_,rfl,⟨⟨by omega,by simp⟩,?_⟩⟩,((R1.out.2.1.alloc _).alloc _).drew⟩⟩
   exact new2
 ·obtain ⟨c,rfl⟩:=ht.form
  exact ⟨rfl,k1,Or.inr ⟨p,hp,ht⟩⟩
theorem fin_tok {α β:Type} {x:α} {y:β} {st st':Px.Ps} {p:Nat} (h:fin (.ok (x,st))=.error p) (ht:st'.t=st.t):fin (.ok (y,st'))=.error p:=by
 obtain ⟨h1,h2⟩:=fin_ok_k h
 unfold fin
 simp only
 rw[ht,if_pos h1,h2]
def openU (s:ByteArray) (x:ByteArray) (st:Px.Ps):Except Nat (Unit×Px.Ps):=if Px.onB s st.t x then .ok ((),Px.nx s (Px.dn st)) else .error st.t.a
def shutU (s:ByteArray) (x:ByteArray) (st:Px.Ps):Except Nat (Unit×Px.Ps):=if Px.onB s st.t x then .ok ((),Px.upp (Px.nx s st)) else .error st.t.a
theorem Rd.with {w w':World} {b:Nat} {s:ByteArray} {st st':Px.Ps} {eT eN:Addr} {td:Option Addr} (r:Rd w b s st eT eN) (k:Kp b w w') (ht:st'.t=st.t) (ha:RdAt w' b s st.t st'.nest td) (hd:DeepAt w' b eN st'.deep td):Rd w' b s st' eT eN :=
 ⟨by rw[ht];exact r.tk,by rw[ht];exact r.k63,r.gl.keep k,td,by rw[ht];exact ha,hd⟩
theorem open_any (b:Nat) (s x:ByteArray) (st:Px.Ps) (eT eN:Addr) (w:World) (r:Rd w b s st eT eN) (hs:s.size≤maxLen) (hn0:0≤st.nest) (hn1:st.nest≤1000000) :
  Calls Tryz.prog 201 #[.pointer (some ⟨b,0,none⟩),.string x] w (Out b s eT eN w (openU s x st) (fun _ _ v=>v=.tuple #[])):=by
 obtain ⟨td,c0,c1,c2,c3,c4,c5,f⟩:=r.cells
 have R:Hid (Rd w b s st eT eN):=r
 clear r
 go_enter Tryz.func201,Tryz.ntmps201
 go_wp2_with fail
 refine (must_any b s x st eT eN _ R.out hs).mono ?_
 rintro e w1 ⟨k1,⟨t,st1,v,he,rfl,rfl,r1⟩ | ⟨p,hp,ht⟩⟩
 ·clear c0 c1 c2 c3 c4 c5 f
  obtain ⟨td1,ra,rd⟩:=r1.mem
  obtain ⟨c0,c1,c2,c3,c4,c5,f⟩:=Ref.cells6 ra.h
  have ho:Px.onB s st.t x=true∧st1=Px.nx s st:=by
   unfold needU at he
   split at he
   ·rename_i ho;cases he;exact ⟨ho,rfl⟩
   ·cases he
  obtain ⟨ho,rfl⟩:=ho
  have e1:openU s x st=.ok ((),Px.nx s (Px.dn st)):=by rw[openU,if_pos ho]
  have gn:=r1.gl.n
  have hb1:=r1.lt
  have hnest:(Px.nx s st).nest=st.nest:=rfl
  have hdeep:(Px.nx s st).deep=st.deep:=rfl
  rw[hnest] at c4
  rw[hdeep] at rd
  have R1:Hid (Kp b w w1∧Rd w1 b s (Px.nx s st) eT eN∧RdAt w1 b s (Px.nx s st).t (Px.nx s st).nest td1∧openU s x st=.ok ((),Px.nx s (Px.dn st))):=⟨k1,r1,ra,e1⟩
  clear k1 r1 ra he ho e1
  by_cases h4:4≤st.nest
  ·rcases rd with ⟨d1,rfl⟩ | ⟨d1,ff,rfl,d3,d4⟩
   ·go_wp2_with fail
    go_end0
    have hz:((w1.setCell ⟨b,4,none⟩ (.int .i64 (st.nest+1))).setCell ⟨b,5,none⟩ (.pointer (some ⟨w1.heap.size,0,none⟩))).heap.size=w1.heap.size:=by simp[World.setCell]
    refine ⟨((R1.out.1.setB _).setB _).alloc _,Or.inl ⟨_,_,_,R1.out.2.2.2,rfl,rfl,R1.out.2.1.with (td:=some ⟨w1.heap.size,0,none⟩) ((((Kp.refl _ _).setB _).setB _).alloc _) rfl ⟨?_⟩ ?_⟩⟩
    ·rw[Below.heap_alloc _ _ _ (by rw[hz];exact hb1),Ref.heap_set _ (Ref.heap_set _ R1.out.2.2.1.h)];simp;rfl
    ·refine Or.inr ⟨?_,w1.heap.size,rfl,by omega,?_⟩
     ·show 0≤Px.deepOf st.nest st.deep st.t.a
      unfold Px.deepOf;rw[if_pos ⟨h4,d1⟩];omega
     ·show (World.alloc _ _).heap[w1.heap.size]?=some (Obj.cells #[.int .i64 (Px.deepOf st.nest st.deep st.t.a),_] _)
      unfold Px.deepOf;rw[if_pos ⟨h4,d1⟩]
      exact new_at hz
   ·have D4:Hid (_):=d4
    clear d4
    go_wp2_with fail
    go_end0
    refine ⟨R1.out.1.setB _,Or.inl ⟨_,_,_,R1.out.2.2.2,rfl,rfl,R1.out.2.1.with (td:=some ⟨ff,0,none⟩) ((Kp.refl _ _).setB _) rfl ⟨?_⟩ (DeepAt.keep ?_ ((Kp.refl _ _).setB _))⟩⟩
    ·rw[Ref.heap_set _ R1.out.2.2.1.h];simp;rfl
    ·refine Or.inr ⟨?_,ff,rfl,d3,?_⟩
     ·show 0≤Px.deepOf st.nest st.deep st.t.a
      unfold Px.deepOf;rw[if_neg (by omega)];exact d1
     ·show _=some (Obj.cells #[.int .i64 (Px.deepOf st.nest st.deep st.t.a),_] _)
      unfold Px.deepOf;rw[if_neg (by omega)];exact D4.out
  ·have RD:Hid (_):=rd
   clear rd
   go_wp2_with fail
   go_end0
   refine ⟨R1.out.1.setB _,Or.inl ⟨_,_,_,R1.out.2.2.2,rfl,rfl,R1.out.2.1.with (td:=td1) ((Kp.refl _ _).setB _) rfl ⟨?_⟩ (DeepAt.keep ?_ ((Kp.refl _ _).setB _))⟩⟩
   ·rw[Ref.heap_set _ R1.out.2.2.1.h];simp;rfl
   ·show DeepAt w1 b eN (Px.deepOf st.nest st.deep st.t.a) td1
    unfold Px.deepOf;rw[if_neg (by omega)];exact RD.out
 ·obtain ⟨c,rfl⟩:=ht.form
  refine ⟨rfl,k1,Or.inr ⟨p,?_,ht⟩⟩
  unfold needU at hp
  unfold openU
  split at hp
  ·rename_i ho
   rw[if_pos ho]
   exact fin_tok hp rfl
  ·rename_i ho
   rw[if_neg ho]
   exact hp
theorem shut_any (b:Nat) (s x:ByteArray) (st:Px.Ps) (eT eN:Addr) (w:World) (r:Rd w b s st eT eN) (hs:s.size≤maxLen) (hn0:0≤st.nest) (hn1:st.nest≤2000000) :
  Calls Tryz.prog 202 #[.pointer (some ⟨b,0,none⟩),.string x] w (Out b s eT eN w (shutU s x st) (fun _ _ v=>v=.tuple #[])):=by
 have R:Hid (Rd w b s st eT eN):=r
 clear r
 go_enter Tryz.func202,Tryz.ntmps202
 go_wp2_with fail
 refine (must_any b s x st eT eN _ R.out hs).mono ?_
 rintro e w1 ⟨k1,⟨t,st1,v,he,rfl,rfl,r1⟩ | ⟨p,hp,ht⟩⟩
 ·obtain ⟨td1,ra,rd⟩:=r1.mem
  obtain ⟨c0,c1,c2,c3,c4,c5,f⟩:=Ref.cells6 ra.h
  have ho:Px.onB s st.t x=true∧st1=Px.nx s st:=by
   unfold needU at he
   split at he
   ·rename_i ho;cases he;exact ⟨ho,rfl⟩
   ·cases he
  obtain ⟨ho,rfl⟩:=ho
  have e1:shutU s x st=.ok ((),Px.upp (Px.nx s st)):=by rw[shutU,if_pos ho]
  have hnest:(Px.nx s st).nest=st.nest:=rfl
  rw[hnest] at c4
  have R1:Hid (Kp b w w1∧Rd w1 b s (Px.nx s st) eT eN∧RdAt w1 b s (Px.nx s st).t (Px.nx s st).nest td1∧DeepAt w1 b eN (Px.nx s st).deep td1∧shutU s x st=.ok ((),Px.upp (Px.nx s st))):=⟨k1,r1,ra,rd,e1⟩
  clear k1 r1 ra rd he ho e1
  go_wp2_with fail
  go_end0
  refine ⟨R1.out.1.setB _,Or.inl ⟨_,_,_,R1.out.2.2.2.2,rfl,rfl,R1.out.2.1.with (td:=td1) ((Kp.refl _ _).setB _) rfl ⟨?_⟩ (DeepAt.keep R1.out.2.2.2.1 ((Kp.refl _ _).setB _))⟩⟩
  rw[Ref.heap_set _ R1.out.2.2.1.h];simp;rfl
 ·obtain ⟨c,rfl⟩:=ht.form
  refine ⟨rfl,k1,Or.inr ⟨p,?_,ht⟩⟩
  unfold needU at hp
  unfold shutU
  split at hp
  ·rename_i ho
   rw[if_pos ho]
   exact fin_tok hp rfl
  ·rename_i ho
   rw[if_neg ho]
   exact hp
open Go.RowKit
def opsA:Array Value:=opsC.toArray
def tx:Nat→ByteArray
 | 0=>⟨#[43]⟩ | 1=>⟨#[45]⟩ | 2=>⟨#[42]⟩ | 3=>⟨#[47]⟩ | 4=>⟨#[60]⟩ | 5=>⟨#[61]⟩ | _=>⟨#[35]⟩
def lv:Nat→Int
 | 0=>1 | 1=>1 | 2=>2 | 3=>2 | _=>0
def tkk:Nat→Int
 | 5=>0 | 6=>0 | _=>1
def mkk:Nat→Int
 | 0=>1 | 1=>1 | 2=>1 | 3=>1 | _=>2
theorem ops_at0 (W:World):(Instr.index 356 (.agg opsA) (.int .i64 0)).run Tryz.prog W=.ok (.agg #[.string (tx 0),.int .i64 (lv 0),.int .i64 (tkk 0),.int .i64 (mkk 0)]) W:=by kernel_rfl
theorem ops_at1 (W:World):(Instr.index 356 (.agg opsA) (.int .i64 1)).run Tryz.prog W=.ok (.agg #[.string (tx 1),.int .i64 (lv 1),.int .i64 (tkk 1),.int .i64 (mkk 1)]) W:=by kernel_rfl
theorem ops_at2 (W:World):(Instr.index 356 (.agg opsA) (.int .i64 2)).run Tryz.prog W=.ok (.agg #[.string (tx 2),.int .i64 (lv 2),.int .i64 (tkk 2),.int .i64 (mkk 2)]) W:=by kernel_rfl
theorem ops_at3 (W:World):(Instr.index 356 (.agg opsA) (.int .i64 3)).run Tryz.prog W=.ok (.agg #[.string (tx 3),.int .i64 (lv 3),.int .i64 (tkk 3),.int .i64 (mkk 3)]) W:=by kernel_rfl
theorem ops_at4 (W:World):(Instr.index 356 (.agg opsA) (.int .i64 4)).run Tryz.prog W=.ok (.agg #[.string (tx 4),.int .i64 (lv 4),.int .i64 (tkk 4),.int .i64 (mkk 4)]) W:=by kernel_rfl
theorem ops_at5 (W:World):(Instr.index 356 (.agg opsA) (.int .i64 5)).run Tryz.prog W=.ok (.agg #[.string (tx 5),.int .i64 (lv 5),.int .i64 (tkk 5),.int .i64 (mkk 5)]) W:=by kernel_rfl
theorem ops_at6 (W:World):(Instr.index 356 (.agg opsA) (.int .i64 6)).run Tryz.prog W=.ok (.agg #[.string (tx 6),.int .i64 (lv 6),.int .i64 (tkk 6),.int .i64 (mkk 6)]) W:=by kernel_rfl
theorem ops_at (i:Nat) (hi:i < 7) (W:World):(Instr.index 356 (.agg opsA) (.int .i64 (i:Int))).run Tryz.prog W=.ok (.agg #[.string (tx i),.int .i64 (lv i),.int .i64 (tkk i),.int .i64 (mkk i)]) W:=by
 have h:i=0∨i=1∨i=2∨i=3∨i=4∨i=5∨i=6:=by omega
 rcases h with rfl | rfl | rfl | rfl | rfl | rfl | rfl
 ·exact ops_at0 W
 ·exact ops_at1 W
 ·exact ops_at2 W
 ·exact ops_at3 W
 ·exact ops_at4 W
 ·exact ops_at5 W
 ·exact ops_at6 W
theorem Gl.range {w:World} {b:Nat} {eT eN:Addr} (g:Gl w b eT eN):w.rangeAt 16 0 opsC:=fun j v hv=>by
 obtain ⟨h1,h2⟩:=List.getElem?_eq_some_iff.1 hv
 rw[Nat.zero_add,← h2]
 exact g.ops j h1
theorem wp_table {Q:Exit→Act→World→Prop} {ops:Array Oper} {rest:List Oper} {op:Oper} {a:Act} {w:World} {b:Nat} {eT eN:Addr} (g:Gl w b eT eN) (hgd:op.guard=none) (x:Operand) (ho:op.op=.load 356 x)
  (hx:a.eval x=.pointer (some ⟨16,0,none⟩)) (h:wpList Tryz.prog ops Q rest (a.put op.dst (.agg opsA)) w):wpList Tryz.prog ops Q (op::rest) a w :=
 wpList_load_mid hgd _ x ho _ 0 hx opsC (.array 7 355) g.range (by kernel_rfl) rfl (by kernel_rfl) h
def opFrom (s:ByteArray) (t:Px.Tok) (l:Int):Nat→Nat→Option Nat
 | 0,_=>none
 | n+1,i=>if lv i=l∧Px.onB s t (tx i)=true then some i else opFrom s t l n (i+1)
def opU (s:ByteArray) (l:Int) (st:Px.Ps):Except Nat (Option Nat×Px.Ps) :=
 match opFrom s st.t l 7 0 with
 | some i=>.ok (some i,Px.nx s st)
 | none=>.ok (none,st)
set_option maxRecDepth 100000 in
theorem operator_any (b:Nat) (s:ByteArray) (l:Int) (st:Px.Ps) (eT eN:Addr) (w:World) (r:Rd w b s st eT eN) (hs:s.size≤maxLen) :
  Calls Tryz.prog 212 #[.pointer (some ⟨b,0,none⟩),.int .i64 l] w
   (Out b s eT eN w (opU s l st) (fun _ o v=>v=.tuple #[.int .i64 (o.getD 0:Nat),.int .i64 (st.t.a:Int),.bool o.isSome])):=by
 obtain ⟨td,c0,c1,c2,c3,c4,c5,f⟩:=r.cells
 have hb:=r.lt
 have R:Hid (Rd w b s st eT eN):=r
 clear r
 go_enter Tryz.func212,Tryz.ntmps212
 go_upto_region 2 with fail
 refine wp_region_lit (wp_table R.out.gl rfl _ rfl rfl ?_)
 go_wp2_with fail
 clear c0 c1 c2 c3 c4 c5 f
 go_loopw [16] (fun vi wr=>∃ i:Nat,vi=.int .i64 i∧i≤7∧Hid (Kp b w wr∧Rd wr b s st eT eN∧opFrom s st.t l 7 0=opFrom s st.t l (7 - i) i)) (fun vi _=>7 - (intOf vi).toNat)
 case atStart=>exact ⟨0,rfl,by omega,Kp.refl _ _,R.out,rfl⟩
 case round =>
  obtain ⟨i,rfl,hi,HR⟩:=hrel
  by_cases hlt:i < 7
  ·have hix:=ops_at i hlt
   by_cases hl:lv i=l
   ·subst hl
    cases ho:Px.onB s st.t (tx i)
    ·have hnext:Hid (opFrom s st.t (lv i) 7 0=opFrom s st.t (lv i) (7 - (i+1)) (i+1)):=HR.out.2.2.trans (by rw[show 7 - i=(7 - (i+1))+1 by omega,opFrom,if_neg (by simp[ho])])
     go_wp2_with fail
     refine (take_no b s (tx i) st eT eN _ (HR.out.2.1.alloc _) ho).mono ?_
     rintro e w1 ⟨rfl,rfl⟩
     go_wp2_with fail
     exact ⟨⟨i+1,by go_num,by omega,HR.out.1.alloc _,HR.out.2.1.alloc _,hnext.out⟩,by simp[intOf];omega⟩
    ·have hfound:Hid (opU s (lv i) st=.ok (some i,Px.nx s st)):=by
      unfold Hid opU
      rw[HR.out.2.2,show 7 - i=(7 - (i+1))+1 by omega,opFrom,if_pos ⟨rfl,ho⟩]
     go_wp2_with fail
     refine (take_yes b s (tx i) st eT eN _ (HR.out.2.1.alloc _) hs ho).mono ?_
     rintro e w1 ⟨k1,⟨t,st1,v,he,rfl,rfl,r1⟩ | ⟨p,hp,ht⟩⟩
     ·cases he
      have R1:Hid (_∧_):=⟨k1,r1⟩
      clear k1 r1
      go_wp2_with fail
      go_ret3
      exact ⟨HR.out.1.trans R1.out.1.of_alloc,Or.inl ⟨_,_,_,hfound.out,rfl,rfl,R1.out.2⟩⟩
     ·obtain ⟨c,rfl⟩:=ht.form
      exact ⟨rfl,HR.out.1.trans k1.of_alloc,Or.inr ⟨p,by rw[hfound.out];exact fin_ok hp,ht.low (by have:=HR.out.1.size;simp;omega)⟩⟩
   ·have hl':(lv i == l)=false:=by simpa using hl
    have hnext:Hid (opFrom s st.t l 7 0=opFrom s st.t l (7 - (i+1)) (i+1)):=HR.out.2.2.trans (by rw[show 7 - i=(7 - (i+1))+1 by omega,opFrom,if_neg (by simp[hl])])
    clear hl
    go_wp2_with fail
    exact ⟨⟨i+1,by go_num,by omega,HR.out.1.alloc _,HR.out.2.1.alloc _,hnext.out⟩,by simp[intOf];omega⟩
  ·obtain rfl:i=7:=by omega
   have hnone:Hid (opU s l st=.ok (none,st)):=by
    unfold Hid opU
    rw[HR.out.2.2]
    rfl
   go_wp2_with fail
   go_ret3
   exact ⟨HR.out.1,Or.inl ⟨_,_,_,hnone.out,rfl,rfl,HR.out.2.1⟩⟩
theorem op_sum (s:ByteArray) (st:Px.Ps):opFrom s st.t 1 7 0=if Px.onB s st.t ⟨#[43]⟩=true then some 0 else if Px.onB s st.t ⟨#[45]⟩=true then some 1 else none:=by
 simp[opFrom,lv,tx]
theorem op_term (s:ByteArray) (st:Px.Ps):opFrom s st.t 2 7 0=if Px.onB s st.t ⟨#[42]⟩=true then some 2 else if Px.onB s st.t ⟨#[47]⟩=true then some 3 else none:=by
 simp[opFrom,lv,tx]
theorem op_cmp (s:ByteArray) (st:Px.Ps):opFrom s st.t 0 7 0=if Px.onB s st.t ⟨#[60]⟩=true then some 4 else if Px.onB s st.t ⟨#[61]⟩=true then some 5 else if Px.onB s st.t ⟨#[35]⟩=true then some 6 else none:=by
 simp[opFrom,lv,tx]
end Lg
end Go.Proofs.YtnhkpbmplefnaaaGreatDoor
