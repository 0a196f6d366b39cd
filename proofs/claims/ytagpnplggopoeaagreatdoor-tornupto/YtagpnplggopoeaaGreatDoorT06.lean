import Derived.Test.YtagpnplggopoeaaGreatDoorT05
import Derived.Deep.DeepCutAuto
import Derived.Test.YtagpnplggopoeaaGreatDoorT00
set_option maxRecDepth 100000
set_option maxHeartbeats 4000000
namespace Go.Proofs.YtagpnplggopoeaaGreatDoor
open Go.RowKit
namespace Ref
theorem qaa {w:World} {k:Nat} {a b c d e f g h i j l:Value} {t:TypeId} (hh:w.heap[k]?=some (.cells #[a,b,c,d,e,f,g,h,i,j,l] t)) :
  w.cell? ⟨k,0,none⟩=some a∧w.cell? ⟨k,1,none⟩=some b∧w.cell? ⟨k,2,none⟩=some c∧w.cell? ⟨k,3,none⟩=some d∧w.cell? ⟨k,4,none⟩=some e∧w.cell? ⟨k,5,none⟩=some f∧w.cell? ⟨k,6,none⟩=some g∧w.cell? ⟨k,7,none⟩=some h∧w.cell? ⟨k,8,none⟩=some i∧w.cell? ⟨k,9,none⟩=some j∧w.cell? ⟨k,10,none⟩=some l∧∀ o,w.frozen? ⟨k,o,none⟩=false:=by
 refine ⟨?_,?_,?_,?_,?_,?_,?_,?_,?_,?_,?_,?_⟩<;>simp[World.cell?,World.frozen?,hh]
structure Mk (b:Nat) (s:ByteArray) (w0:World) (q:Nat) (R:Except Nat (Px.Sm×Px.Ps)) (N:Int) (w:World):Prop where
 kp:Kp b w0 w
 cells:∃ (y:Px.Sm) (ve:Option Addr) (a1:Option Addr) (n1 c1:Nat) (a2:Option Addr) (n2 c2:Nat),w.heap[q]?=some (.cells (qay y (.pointer ve) (.slice a1 n1 c1) (.slice a2 n2 c2)) 270) ∧
  ∀ x st,R=.ok (x,st)→y=x∧st.nest=N∧(∃ q1 q2,ExO w x.ex (fun k=>In w0 w k∧k≠q) (.pointer ve)∧SlAt w (.slice a1 n1 c1) q1 (fun k=>In w0 w k∧k≠q)∧SmsAt w x.one (fun k=>In w0 w k∧k≠q) q1∧SlAt w (.slice a2 n2 c2) q2 (fun k=>In w0 w k∧k≠q)∧SmsAt w x.two (fun k=>In w0 w k∧k≠q) q2)
 pen:PSt w b s (R.map Prod.snd)
theorem Mk.on {b:Nat} {s:ByteArray} {w0 w w1:World} {q:Nat} {R R':Except Nat (Px.Sm×Px.Ps)} {N:Int} (h:Mk b s w0 q R N w) (hb:b < w0.heap.size) (hq:w0.heap.size≤q) (k:Kp b w w1) (hp:PSt w1 b s (R'.map Prod.snd)) (hR:∀ x st',R'=.ok (x,st')→st'.nest=N∧∃ st,R=.ok (x,st)):Mk b s w0 q R' N w1:=by
 obtain ⟨y,ve,a1,n1,c1,a2,n2,c2,h1,h2⟩:=h.cells;refine ⟨h.kp.trans k,⟨y,ve,a1,n1,c1,a2,n2,c2,Kp.heap k h1 (by omega),fun x st' hx=>?_⟩,hp⟩
 obtain ⟨hn,st,hs⟩:=hR x st' hx;obtain ⟨e1,e2,q1,q2,e3,e4,e5,e6,e7⟩:=h2 x st hs;have z:=k.size;have hk:∀ i,In w0 w i∧i≠q→w1.heap[i]?=w.heap[i]?:=fun i hi=>k.block i hi.1.2 (by have:=hi.1.1;omega)
 have hm:∀ i,In w0 w i∧i≠q→In w0 w1 i∧i≠q:=fun i hi=>⟨⟨hi.1.1,by have:=hi.1.2;omega⟩,hi.2⟩
 exact ⟨e1,hn,q1,q2,(e3.keep hk).mono hm,(e4.keep hk).mono hm,(e5.keep hk).mono hm,(e6.keep hk).mono hm,(e7.keep hk).mono hm⟩
theorem Mk.store {b:Nat} {s:ByteArray} {w0 w W:World} {q:Nat} {R R':Except Nat (Px.Sm×Px.Ps)} {N:Int} (φ:Px.Sm→Px.Sm) (hφ:∀ y,(φ y).ex=y.ex∧(φ y).one=y.one∧(φ y).two=y.two) (h:Mk b s w0 q R N w) (k:Kp b w0 W) (hz:w.heap.size≤W.heap.size) (hO:∀ i,i < w.heap.size→i≠q→W.heap[i]?=w.heap[i]?)
  (hQ:∀ y ve v1 v2,w.heap[q]?=some (.cells (qay y ve v1 v2) 270)→W.heap[q]?=some (.cells (qay (φ y) ve v1 v2) 270)) (hp:PSt W b s (R'.map Prod.snd)) (hR:∀ x' st',R'=.ok (x',st')→st'.nest=N∧∃ x st,R=.ok (x,st)∧x'=φ x):Mk b s w0 q R' N W:=by
 obtain ⟨y,ve,a1,n1,c1,a2,n2,c2,h1,h2⟩:=h.cells;refine ⟨k,⟨φ y,ve,a1,n1,c1,a2,n2,c2,hQ _ _ _ _ h1,fun x' st' hx=>?_⟩,hp⟩
 obtain ⟨hn,x,st,hs,rfl⟩:=hR x' st' hx;obtain ⟨e1,e2,q1,q2,e3,e4,e5,e6,e7⟩:=h2 x st hs;obtain ⟨f1,f2,f3⟩:=hφ x;have hk:∀ i,In w0 w i∧i≠q→W.heap[i]?=w.heap[i]?:=fun i hi=>hO i hi.1.2 hi.2
 have hm:∀ i,In w0 w i∧i≠q→In w0 W i∧i≠q:=fun i hi=>⟨⟨hi.1.1,by have:=hi.1.2;omega⟩,hi.2⟩
 subst e1;rw[f1,f2,f3];exact ⟨rfl,hn,q1,q2,(e3.keep hk).mono hm,(e4.keep hk).mono hm,(e5.keep hk).mono hm,(e6.keep hk).mono hm,(e7.keep hk).mono hm⟩
def qae (R:Except Nat (Px.Sm×Px.Ps)) (f:Px.Sm→Px.Ps→Except Nat (Px.Sm×Px.Ps)):Except Nat (Px.Sm×Px.Ps) :=
 match R with
 | .ok (x,st)=>f x st
 | .error p=>.error p
def qa5 (s:ByteArray) (st:Px.Ps):Except Nat (Px.Sm×Px.Ps) :=
 match Px.kind s 119 st with
 | .ok st1=>.ok ({ Px.qa8 with op:=99,word:=Px.txt s st.t,pl:=st.t.a,n:=1 },st1)
 | .error p=>.error p
def qbd (s x:ByteArray) (y:Px.Sm) (st:Px.Ps):Except Nat (Px.Sm×Px.Ps) :=
 match Px.need s x st with
 | .ok st1=>.ok (y,st1)
 | .error p=>.error p
theorem qt7 (s:ByteArray) (st:Px.Ps):Px.call s st=qae (qae (qae (qae (qae (qae (qae (qa5 s st) (qbd s ⟨#[40]⟩)) (Px.qaw s)) (qbd s ⟨#[41]⟩)) (Px.qa9 s)) (Px.qat s)) (Px.qas s)) (qbd s ⟨#[59]⟩):=by
 unfold Px.call qa5;cases Px.kind s 119 st with
 | error p=>rfl
 | ok st1 =>
  simp only[qae,qbd];cases Px.need s ⟨#[40]⟩ st1 with
  | error p=>rfl
  | ok st2 =>
   simp only;cases Px.qaw s { Px.qa8 with op:=99,word:=Px.txt s st.t,pl:=st.t.a,n:=1 } st2 with
   | error p=>rfl
   | ok r =>
    obtain ⟨x3,st3⟩:=r;simp only;cases Px.need s ⟨#[41]⟩ st3 with
    | error p=>rfl
    | ok st4 =>
     simp only;cases Px.qa9 s x3 st4 with
     | error p=>rfl
     | ok r =>
      obtain ⟨x5,st5⟩:=r;simp only;cases Px.qat s x5 st5 with
      | error p=>rfl
      | ok r =>
       obtain ⟨x6,st6⟩:=r;simp only;cases Px.qas s x6 st6 with
       | error p=>rfl
       | ok r =>
        obtain ⟨x7,st7⟩:=r;simp only;cases Px.need s ⟨#[59]⟩ st7<;>rfl
def qfy (s:ByteArray) (k:Nat) (y:Px.Sm) (st:Px.Ps):Except Nat (Px.Sm×Px.Ps) :=
 match Px.kind s k st with
 | .ok st1=>.ok (y,st1)
 | .error p=>.error p
def gotX (s x:ByteArray) (y:Px.Sm) (st:Px.Ps):Except Nat (Px.Sm×Px.Ps):=.ok (y,if Px.onB s st.t x then Px.nx s st else st)
theorem zl1 {w:World} {b:Nat} {s:ByteArray} {k:Nat} {R:Except Nat (Px.Sm×Px.Ps)} (h:PSt w b s ((R.map Prod.snd).bind (Px.kind s k))):PSt w b s ((qae R (qfy s k)).map Prod.snd):=by
 cases R with
 | error p=>exact h
 | ok r =>
  obtain ⟨x,st⟩:=r;have h':PSt w b s (Px.kind s k st):=h;unfold qae qfy;simp only;cases hk:Px.kind s k st<;>rw[hk] at h'<;>exact h'
theorem zl0 {w:World} {b:Nat} {s x:ByteArray} {R:Except Nat (Px.Sm×Px.Ps)} (h:PSt w b s ((R.map Prod.snd).bind (Px.need s x))):PSt w b s ((qae R (qbd s x)).map Prod.snd):=by
 cases R with
 | error p=>exact h
 | ok r =>
  obtain ⟨y,st⟩:=r;have h':PSt w b s (Px.need s x st):=h;unfold qae qbd;simp only;cases hk:Px.need s x st<;>rw[hk] at h'<;>exact h'
theorem zse {w:World} {b:Nat} {s x:ByteArray} {R:Except Nat (Px.Sm×Px.Ps)} (h:PSt w b s (gotR s (R.map Prod.snd) x)):PSt w b s ((qae R (gotX s x)).map Prod.snd):=by
 cases R with
 | error p=>exact h
 | ok r =>
  obtain ⟨y,st⟩:=r;have h':PSt w b s (if Px.onB s st.t x then .ok (Px.nx s st) else .ok st):=h
  unfold qae gotX;simp only;cases hk:Px.onB s st.t x<;>simp[hk] at h'<;>exact h'
theorem zny {s:ByteArray} {k:Nat} {R:Except Nat (Px.Sm×Px.Ps)} {x:Px.Sm} {st':Px.Ps} (h:qae R (qfy s k)=.ok (x,st')):∃ st,R=.ok (x,st)∧st.t.k=k∧st'=Px.nx s st:=by
 cases R with
 | error p=>cases h
 | ok r =>
  obtain ⟨y,st⟩:=r;unfold qae qfy Px.kind at h;simp only at h;by_cases hk:st.t.k=k
  ·rw[if_pos hk] at h;cases h;exact ⟨st,rfl,hk,rfl⟩
  ·rw[if_neg hk] at h;cases h
theorem zmy {s z:ByteArray} {R:Except Nat (Px.Sm×Px.Ps)} {x:Px.Sm} {st':Px.Ps} (h:qae R (qbd s z)=.ok (x,st')):∃ st,R=.ok (x,st)∧Px.onB s st.t z=true∧st'=Px.nx s st:=by
 cases R with
 | error p=>cases h
 | ok r =>
  obtain ⟨y,st⟩:=r;unfold qae qbd Px.need at h;simp only at h;by_cases hk:Px.onB s st.t z=true
  ·rw[if_pos hk] at h;cases h;exact ⟨st,rfl,hk,rfl⟩
  ·rw[if_neg hk] at h;cases h
theorem zt6 {s z:ByteArray} {R:Except Nat (Px.Sm×Px.Ps)} {x:Px.Sm} {st':Px.Ps} (h:qae R (gotX s z)=.ok (x,st')):∃ st,R=.ok (x,st)∧st'=if Px.onB s st.t z then Px.nx s st else st:=by
 cases R with
 | error p=>cases h
 | ok r =>
  obtain ⟨y,st⟩:=r;unfold qae gotX at h;simp only at h;cases h;exact ⟨st,rfl,rfl⟩
theorem Mk.nest {b:Nat} {s:ByteArray} {w0 w:World} {q:Nat} {R:Except Nat (Px.Sm×Px.Ps)} {N:Int} (h:Mk b s w0 q R N w) {x:Px.Sm} {st:Px.Ps} (e:R=.ok (x,st)):st.nest=N:=by
 obtain ⟨y,ve,a1,n1,c1,a2,n2,c2,h1,h2⟩:=h.cells;exact (h2 x st e).2.1
theorem Mk.tk {b:Nat} {s:ByteArray} {w0 w:World} {q:Nat} {R:Except Nat (Px.Sm×Px.Ps)} {N:Int} (h:Mk b s w0 q R N w) {x:Px.Sm} {st:Px.Ps} (e:R=.ok (x,st)):Px.Tk s st.t:=by
 have:=h.pen
 rw[e] at this;exact this.2
theorem Mk.need {b:Nat} {s z:ByteArray} {w0 w w1:World} {q:Nat} {R:Except Nat (Px.Sm×Px.Ps)} {N:Int} (h:Mk b s w0 q R N w) (hb:b < w0.heap.size) (hq:w0.heap.size≤q) (k:Kp b w w1) (hp:PSt w1 b s ((R.map Prod.snd).bind (Px.need s z))):Mk b s w0 q (qae R (qbd s z)) N w1 :=
 h.on hb hq k (zl0 hp) fun x st' hx=>by
  obtain ⟨st,h1,h2,rfl⟩:=zmy hx;exact ⟨(h.nest h1:st.nest=N),st,h1⟩
theorem Mk.kind {b:Nat} {s:ByteArray} {z:Nat} {w0 w w1:World} {q:Nat} {R:Except Nat (Px.Sm×Px.Ps)} {N:Int} (h:Mk b s w0 q R N w) (hb:b < w0.heap.size) (hq:w0.heap.size≤q) (k:Kp b w w1) (hp:PSt w1 b s ((R.map Prod.snd).bind (Px.kind s z))):Mk b s w0 q (qae R (qfy s z)) N w1 :=
 h.on hb hq k (zl1 hp) fun x st' hx=>by
  obtain ⟨st,h1,h2,rfl⟩:=zny hx;exact ⟨(h.nest h1:st.nest=N),st,h1⟩
theorem Mk.got {b:Nat} {s z:ByteArray} {w0 w w1:World} {q:Nat} {R:Except Nat (Px.Sm×Px.Ps)} {N:Int} (h:Mk b s w0 q R N w) (hb:b < w0.heap.size) (hq:w0.heap.size≤q) (k:Kp b w w1) (hp:PSt w1 b s (gotR s (R.map Prod.snd) z)):Mk b s w0 q (qae R (gotX s z)) N w1 :=
 h.on hb hq k (zse hp) fun x st' hx=>by
  obtain ⟨st,h1,rfl⟩:=zt6 hx;refine ⟨?_,st,h1⟩;split
  ·exact (h.nest h1:st.nest=N)
  ·exact h.nest h1
def exX (s:ByteArray) (y:Px.Sm) (st:Px.Ps):Except Nat (Px.Sm×Px.Ps) :=
 match Px.qa4 s st with
 | .ok (e,st')=>.ok ({ y with ex:=some e },st')
 | .error p=>.error p
theorem Mk.expr {b:Nat} {s:ByteArray} {w0 w w1:World} {q q1:Nat} {R:Except Nat (Px.Sm×Px.Ps)} {N:Int} (h:Mk b s w0 q R N w) (hb:b < w0.heap.size) (hq:w0.heap.size≤q) (hp:qb2 b s w ((R.map Prod.snd).bind (Px.qa4 s)) (.returned (.pointer (some ⟨q1,0,none⟩))) w1):Mk b s w0 q (qae R (exX s)) N (w1.setCell ⟨q,3,none⟩ (.pointer (some ⟨q1,0,none⟩))):=by
 obtain ⟨k,q1',he,h3⟩:=hp;obtain rfl:q1=q1':=by simpa using he
 obtain ⟨y,ve,a1,n1,c1,a2,n2,c2,h1,h2⟩:=h.cells;have hqw:q < w.heap.size:=(Array.getElem?_eq_some_iff.1 h1).1;have z:=k.size;have hc:(w1.setCell ⟨q,3,none⟩ (.pointer (some ⟨q1,0,none⟩))).heap[q]?=some (.cells (qay y (.pointer (some ⟨q1,0,none⟩)) (.slice a1 n1 c1) (.slice a2 n2 c2)) 270):=by
  rw[heap_set _ (Kp.heap k h1 (by omega))];simp[qay]
 have hkp:Kp b w0 (w1.setCell ⟨q,3,none⟩ (.pointer (some ⟨q1,0,none⟩))):=(h.kp.trans k).setN hq _;have hbq:b≠q:=by omega
 cases R with
 | error p =>
  exact ⟨hkp,⟨y,_,a1,n1,c1,a2,n2,c2,hc,fun x st hx=>by cases hx⟩,PSt.setN (r:=.error p) h3.2.2 hbq _⟩
 | ok r =>
  obtain ⟨x,st⟩:=r;obtain ⟨e1,e2,r1,r2,e3,e4,e5,e6,e7⟩:=h2 x st rfl;subst e1;have h3':match Px.qa4 s st with
   | .ok (x,st)=>ExAt w1 x (In w w1) q1∧PenAt w1 b s st.t (-1) st.nest st.deep
   | .error p=>w.heap.size≤q1∧(∃ v0 v1 v2 v3 v4 v5,w1.heap[q1]?=some (.cells #[v0,v1,v2,v3,v4,v5] 280))∧∃ t nest deep,PenAt w1 b s t ((p:Nat):Int) nest deep:=h3
  cases hr:Px.qa4 s st with
  | error p =>
   rw[hr] at h3';have er:qae (.ok (y,st)) (exX s)=.error p:=by simp[qae,exX,hr]
   rw[er];exact ⟨hkp,⟨y,_,a1,n1,c1,a2,n2,c2,hc,fun x st hx=>by cases hx⟩,PSt.setN (r:=.error p) h3'.2.2 hbq _⟩
  | ok r =>
   obtain ⟨e,st'⟩:=r;rw[hr] at h3';have er:qae (.ok (y,st)) (exX s)=.ok ({ y with ex:=some e },st'):=by simp[qae,exX,hr]
   have hgo:=Px.qbb s _ _ _ (h.tk rfl) hr;rw[er];have hk:∀ i,In w0 w i∧i≠q→(w1.setCell ⟨q,3,none⟩ (.pointer (some ⟨q1,0,none⟩))).heap[i]?=w.heap[i]?:=fun i hi=>by rw[qag _ hi.2];exact k.block i hi.1.2 (by have:=hi.1.1;omega)
   have hm:∀ i,In w0 w i∧i≠q→In w0 (w1.setCell ⟨q,3,none⟩ (.pointer (some ⟨q1,0,none⟩))) i∧i≠q:=fun i hi=>⟨⟨hi.1.1,by rw[size_set];have:=hi.1.2;omega⟩,hi.2⟩
   have z0:=h.kp.size;refine ⟨hkp,⟨{ y with ex:=some e },_,a1,n1,c1,a2,n2,c2,hc,fun x2 st2 hx=>?_⟩,PSt.setN (r:=.ok st') ⟨h3'.2,hgo.tk⟩ hbq _⟩
   cases hx;refine ⟨rfl,hgo.nest.trans e2,r1,r2,⟨q1,rfl,?_⟩,(e4.keep hk).mono hm,(e5.keep hk).mono hm,(e6.keep hk).mono hm,(e7.keep hk).mono hm⟩;refine (h3'.1.keep fun i hi=>qag _ (by have:=hi.1;omega)).mono fun i hi=>⟨⟨?_,?_⟩,?_⟩
   ·have:=hi.1;omega
   ·rw[size_set];exact hi.2
   ·have:=hi.1;omega
theorem zoe {s:ByteArray} {st:Px.Ps}:(qae (.ok (Px.qa8,st)) (qfy s 119)).map Prod.snd=(qa5 s st).map Prod.snd:=by
 unfold qae qfy qa5;simp only;cases Px.kind s 119 st<;>rfl
theorem zyd {s:ByteArray} {R:Except Nat (Px.Sm×Px.Ps)} (h:onR s (R.map Prod.snd) ⟨#[41]⟩=true):qae R (Px.qaw s)=R:=by
 cases R with
 | error p=>rfl
 | ok r =>
  obtain ⟨x,st⟩:=r;have h':Px.onB s st.t ⟨#[41]⟩=true:=h;simp[qae,Px.qaw,h']
theorem zvj {s:ByteArray} {R:Except Nat (Px.Sm×Px.Ps)} (h:onR s (R.map Prod.snd) ⟨#[41]⟩=false):qae R (Px.qaw s)=qae R (exX s):=by
 cases R with
 | error p=>rfl
 | ok r =>
  obtain ⟨x,st⟩:=r;have h':Px.onB s st.t ⟨#[41]⟩=false:=h;simp[qae,Px.qaw,h',exX];cases Px.qa4 s st<;>rfl
theorem qvs {s z:ByteArray} {R:Except Nat (Px.Sm×Px.Ps)} (h:onR s (R.map Prod.snd) z=true):∃ x st,R=.ok (x,st)∧Px.onB s st.t z=true∧qae R (gotX s z)=.ok (x,Px.nx s st):=by
 cases R with
 | error p=>cases h
 | ok r =>
  obtain ⟨x,st⟩:=r;have h':Px.onB s st.t z=true:=h;exact ⟨x,st,rfl,h',by simp[qae,gotX,h']⟩
theorem qs8 {s z:ByteArray} {R:Except Nat (Px.Sm×Px.Ps)} (h:onR s (R.map Prod.snd) z=false):qae R (gotX s z)=R:=by
 cases R with
 | error p=>rfl
 | ok r =>
  obtain ⟨x,st⟩:=r;have h':Px.onB s st.t z=false:=h;simp[qae,gotX,h']
theorem zws {s:ByteArray} {R:Except Nat (Px.Sm×Px.Ps)} (h:onR s (R.map Prod.snd) ⟨#[97,115]⟩=false):qae R (Px.qa9 s)=R:=by
 cases R with
 | error p=>rfl
 | ok r =>
  obtain ⟨x,st⟩:=r;have h':Px.onB s st.t ⟨#[97,115]⟩=false:=h;simp[qae,Px.qa9,h']
theorem zmm {s:ByteArray} {R:Except Nat (Px.Sm×Px.Ps)} (h:onR s (R.map Prod.snd) ⟨#[117,110,100,111]⟩=false):qae R (Px.qat s)=R:=by
 cases R with
 | error p=>rfl
 | ok r =>
  obtain ⟨x,st⟩:=r;have h':Px.onB s st.t ⟨#[117,110,100,111]⟩=false:=h;simp[qae,Px.qat,h']
theorem zgy {s:ByteArray} {R:Except Nat (Px.Sm×Px.Ps)} (h:onR s (R.map Prod.snd) ⟨#[116,114,105,101,115]⟩=false):qae R (Px.qas s)=R:=by
 cases R with
 | error p=>rfl
 | ok r =>
  obtain ⟨x,st⟩:=r;have h':Px.onB s st.t ⟨#[116,114,105,101,115]⟩=false:=h;simp[qae,Px.qas,h']
theorem zx8 {s:ByteArray} {R:Except Nat (Px.Sm×Px.Ps)} (h:onR s (R.map Prod.snd) ⟨#[97,115]⟩=true):(qae (qae R (gotX s ⟨#[97,115]⟩)) (qfy s 119)).map Prod.snd=(qae R (Px.qa9 s)).map Prod.snd ∧
  ∀ x' st',qae R (Px.qa9 s)=.ok (x',st')→∃ x,qae (qae R (gotX s ⟨#[97,115]⟩)) (qfy s 119)=.ok (x,st')∧x'={ x with asw:=qdm s ((qae R (gotX s ⟨#[97,115]⟩)).map Prod.snd) 119,asPl:=qf0 ((qae R (gotX s ⟨#[97,115]⟩)).map Prod.snd) 119 }:=by
 obtain ⟨x,st,rfl,h1,h2⟩:=qvs h;rw[h2];simp only[qae,Px.qa9,if_pos h1,qfy];by_cases hk:(Px.nx s st).t.k=119
 ·simp[Px.kind,hk,Except.map,qdm,qf0,Px.txt]
 ·simp[Px.kind,hk,Except.map]
theorem zkt {s:ByteArray} {R:Except Nat (Px.Sm×Px.Ps)} (h:onR s (R.map Prod.snd) ⟨#[117,110,100,111]⟩=true):(qae (qae R (gotX s ⟨#[117,110,100,111]⟩)) (qfy s 119)).map Prod.snd=(qae R (Px.qat s)).map Prod.snd ∧
  ∀ x' st',qae R (Px.qat s)=.ok (x',st')→∃ x,qae (qae R (gotX s ⟨#[117,110,100,111]⟩)) (qfy s 119)=.ok (x,st')∧x'={ x with undo:=qdm s ((qae R (gotX s ⟨#[117,110,100,111]⟩)).map Prod.snd) 119 }:=by
 obtain ⟨x,st,rfl,h1,h2⟩:=qvs h;rw[h2];simp only[qae,Px.qat,if_pos h1,qfy];by_cases hk:(Px.nx s st).t.k=119
 ·simp[Px.kind,hk,Except.map,qdm,Px.txt]
 ·simp[Px.kind,hk,Except.map]
theorem zet {s:ByteArray} {R:Except Nat (Px.Sm×Px.Ps)} (h:onR s (R.map Prod.snd) ⟨#[116,114,105,101,115]⟩=true):(qae (qae R (gotX s ⟨#[116,114,105,101,115]⟩)) (qfy s 110)).map Prod.snd=(qae R (Px.qas s)).map Prod.snd ∧
  ∀ x' st',qae R (Px.qas s)=.ok (x',st')→∃ x,qae (qae R (gotX s ⟨#[116,114,105,101,115]⟩)) (qfy s 110)=.ok (x,st')∧x'={ x with n:=Px.valOf (qdm s ((qae R (gotX s ⟨#[116,114,105,101,115]⟩)).map Prod.snd) 110).toList,nPl:=qf0 ((qae R (gotX s ⟨#[116,114,105,101,115]⟩)).map Prod.snd) 110 }:=by
 obtain ⟨x,st,rfl,h1,h2⟩:=qvs h;rw[h2];simp only[qae,Px.qas,if_pos h1,qfy];by_cases hk:(Px.nx s st).t.k=110
 ·simp[Px.kind,hk,Except.map,qdm,qf0,Px.txt]
 ·simp[Px.kind,hk,Except.map]
theorem qlq {w:World} {b:Nat} {s:ByteArray} {r:Except Nat Px.Ps} (h:PSt w b s r):(qdm s r 110).size≤4∧∀ j (hj:j < (qdm s r 110).size),Px.qba (qdm s r 110)[j]=true:=by
 cases r with
 | error p=>exact ⟨Nat.zero_le _,fun j hj=>absurd hj (Nat.not_lt_zero j)⟩
 | ok st =>
  by_cases hk:st.t.k=110
  ·have e:qdm s (.ok st) 110=s.extract st.t.a st.t.b:=by simp[qdm,hk]
   have:=qkx h.2 hk
   simp only[e];exact this
  ·have e:qdm s (.ok st) 110=⟨#[]⟩:=by simp[qdm,hk]
   simp only[e];exact ⟨Nat.zero_le _,fun j hj=>absurd hj (Nat.not_lt_zero j)⟩
theorem qyn (b:Nat) (s:ByteArray) (hs3:s.size≤300) (w0:World) (q:Nat) (hb:b < w0.heap.size) (hq:w0.heap.size≤q) (st:Px.Ps) (w:World) (hN0:0≤st.nest) (hN:st.nest+(s.size+1:Nat)≤1000000) (M:Mk b s w0 q (.ok (Px.qa8,st)) st.nest w) :
  Calls Tryz.prog 163 #[.pointer (some ⟨b,0,none⟩),.pointer (some ⟨q,0,none⟩)] w fun e w'=>e=.returned (.tuple #[])∧Mk b s w0 q (Px.call s st) st.nest w':=by
 have hs:s.size≤maxLen:=by unfold maxLen;omega
 have HM:Hid (_):=M;clear M;go_enter Tryz.func163,Tryz.ntmps163
 go_wp2_with fail;refine (qda b s 119 (.ok st) _ HM.out.pen hs).mono ?_;rintro e w1 ⟨⟨kv,kx,rfl⟩,k1,p1⟩;have m1:=HM.out.kind hb hq k1 p1;obtain ⟨y,ve,a1,n1,c1,a2,n2,c2,hc,hcx⟩:=m1.cells;clear hcx;obtain ⟨d0,d1,d2,d3,d4,d5,d6,d7,d8,d9,d10,df⟩:=qaa hc;have hq1:q < w1.heap.size:=lt_of_cell d0;have M1:Hid (_):=m1;clear k1 p1 hc m1;go_wp2_with fail;have m2:Mk b s w0 q (qa5 s st) st.nest _:=Mk.store (fun y=>{ y with op:=99,word:=qdm s (.ok st) 119,pl:=qf0 (.ok st) 119,n:=1 }) (fun y=>⟨rfl,rfl,rfl⟩) M1.out
  (W:=((((w1.setCell ⟨q,0,none⟩ (.int .u8 99)).setCell ⟨q,1,none⟩ (.string (qdm s (.ok st) 119))).setCell ⟨q,2,none⟩ (.int .i64 (qf0 (.ok st) 119))).setCell ⟨q,7,none⟩ (.int .i64 1)).alloc (.cells #[.int .u8 kv,.string (qdm s (.ok st) 119),.int .i64 (qf0 (.ok st) 119),.int .i64 kx] 209))
  (((((M1.out.kp.setN hq _).setN hq _).setN hq _).setN hq _).alloc _) (by simp) (fun i hi hne=>by rw[Below.heap_alloc _ _ _ (by simpa [size_set] using hi),qag _ hne,qag _ hne,qag _ hne,qag _ hne])
  (fun y ve v1 v2 h=>by rw[Below.heap_alloc _ _ _ (by simpa [size_set] using hq1),heap_set _ (heap_set _ (heap_set _ (heap_set _ h)))];simp[qay])
  ?pp ?rr
 case pp =>
  rw[← zoe];exact ((((M1.out.pen.setN (by omega) _).setN (by omega) _).setN (by omega) _).setN (by omega) _).alloc _
 case rr =>
  intro x' st' hx;unfold qa5 Px.kind at hx;by_cases hk:st.t.k=119
  ·rw[if_pos hk] at hx;cases hx;refine ⟨rfl,Px.qa8,Px.nx s st,?_,?_⟩
   ·simp[qae,qfy,Px.kind,hk]
   ·simp[qdm,qf0,hk,Px.txt]
  ·rw[if_neg hk] at hx;cases hx
 have M2:Hid (_):=m2;clear m2 M1 d0 d1 d2 d3 d4 d5 d6 d7 d8 d9 d10 df;refine (qcb b s _ _ _ M2.out.pen hs).mono ?_;rintro e w2 ⟨rfl,k2,p2⟩;have M3:Hid (Mk b s w0 q (qae (qa5 s st) (qbd s ⟨#[40]⟩)) st.nest w2):=M2.out.need hb hq k2 p2;clear k2 p2 M2;go_wp2_with fail;refine (onU b s _ _ _ M3.out.pen).mono ?_;rintro e w' ⟨rfl,rfl⟩;generalize hB:onR s ((qae (qa5 s st) (qbd s ⟨#[40]⟩)).map Prod.snd) ⟨#[41]⟩=B;have HB:Hid (_):=hB;clear hB;go_upto_if 35 with fail
 go_cut [] (fun wc=>Hid (Mk b s w0 q (qae (qae (qa5 s st) (qbd s ⟨#[40]⟩)) (Px.qaw s)) st.nest wc))
 case first =>
  cases B
  ·go_wp2_with fail;refine (zue b s _ _ M3.out.pen hs ?hn).mono ?_
   case hn =>
    intro st1 h1;cases hr:qae (qa5 s st) (qbd s ⟨#[40]⟩) with
    | error p=>rw[hr] at h1;cases h1
    | ok r =>
     obtain ⟨x,st2⟩:=r;rw[hr] at h1;cases h1;rw[M3.out.nest hr];exact ⟨hN0,hN⟩
   rintro e w3 h3;obtain ⟨q1,he⟩:∃ q1,e=.returned (.pointer (some ⟨q1,0,none⟩)):=by obtain ⟨_,q1,he,_⟩:=h3;exact ⟨q1,he⟩
   subst he;have m4:=M3.out.expr hb hq h3;obtain ⟨y,ve,a1,n1,c1,a2,n2,c2,hc,hcx⟩:=M3.out.cells;have hc3:=Kp.heap h3.1 hc (by omega)
   obtain ⟨d0,d1,d2,d3,d4,d5,d6,d7,d8,d9,d10,df⟩:=qaa hc3;have M4:Hid (_):=m4;clear hc hcx hc3 m4 h3;go_wp2_with fail;go_meet
   case rel =>
    show Mk _ _ _ _ _ _ _
    rw[zvj HB.out];exact M4.out
  ·go_wp2_with fail;go_meet
   case rel =>
    show Mk _ _ _ _ _ _ _
    rw[zyd HB.out];exact M3.out
 case rest =>
 have M4:Hid (_):=hcut;clear hcut M3 HB;go_wp2_with fail;refine (qcb b s _ _ _ M4.out.pen hs).mono ?_;rintro e w3 ⟨rfl,k3,p3⟩;have N1:Hid (Mk b s w0 q (qae (qae (qae (qa5 s st) (qbd s ⟨#[40]⟩)) (Px.qaw s)) (qbd s ⟨#[41]⟩)) st.nest w3):=M4.out.need hb hq k3 p3;clear k3 p3 M4;go_wp2_with fail;refine (gotU b s _ _ _ N1.out.pen hs).mono ?_;rintro e w4 ⟨rfl,k4,p4⟩;have M4:Hid (Mk b s w0 q (qae (qae (qae (qae (qa5 s st) (qbd s ⟨#[40]⟩)) (Px.qaw s)) (qbd s ⟨#[41]⟩)) (gotX s ⟨#[97,115]⟩)) st.nest w4):=N1.out.got hb hq k4 p4;clear k4 p4;generalize hB:onR s (((qae (qae (qae (qa5 s st) (qbd s ⟨#[40]⟩)) (Px.qaw s)) (qbd s ⟨#[41]⟩))).map Prod.snd) ⟨#[97,115]⟩=B
 have HB:Hid (_):=hB;clear hB;go_upto_if 45 with fail
 go_cut [7] (fun _ wc=>Hid (Mk b s w0 q (qae (qae (qae (qae (qa5 s st) (qbd s ⟨#[40]⟩)) (Px.qaw s)) (qbd s ⟨#[41]⟩)) (Px.qa9 s)) st.nest wc))
 case first =>
  cases B
  ·go_wp2_with fail;go_meet
   case rel =>
    show Mk _ _ _ _ _ _ _
    have h:=M4.out;rw[qs8 HB.out] at h;rw[zws HB.out];exact h
  ·go_wp2_with fail;generalize hr5:(qae (qae (qae (qae (qa5 s st) (qbd s ⟨#[40]⟩)) (Px.qaw s)) (qbd s ⟨#[41]⟩)) (gotX s ⟨#[97,115]⟩)).map Prod.snd=r5 at *;refine (qda b s 119 r5 _ (by rw[← hr5];exact M4.out.pen) hs).mono ?_
   rintro e w5 ⟨⟨kv5,kx5,rfl⟩,k5,p5⟩;have m5:=M4.out.kind hb hq k5 (by rw[hr5];exact p5)
   obtain ⟨y,ve,a1,n1,c1,a2,n2,c2,hc,hcx⟩:=m5.cells;obtain ⟨d0,d1,d2,d3,d4,d5,d6,d7,d8,d9,d10,df⟩:=qaa hc;have hq5:q < w5.heap.size:=lt_of_cell d0;have V5:Hid (_):=qlq (show PSt w4 b s r5 by rw[← hr5];exact M4.out.pen)
   have M5:Hid (_):=m5;have HR5:Hid (_):=hr5;clear k5 p5 hc hcx m5 hr5;go_wp2_with fail;go_meet
   case rel =>
    show Mk _ _ _ _ _ _ _
    obtain ⟨pn,pr⟩:=zx8 HB.out;rw[HR5.out] at pr;exact Mk.store (fun y=>{ y with asw:=qdm s r5 119,asPl:=qf0 r5 119 }) (fun y=>⟨rfl,rfl,rfl⟩) M5.out (W:=(((w5.setCell ⟨q,4,none⟩ (.string (qdm s r5 119))).setCell ⟨q,5,none⟩ (.int .i64 (qf0 r5 119))).alloc (.cells #[.int .u8 kv5,.string (qdm s r5 119),.int .i64 (qf0 r5 119),.int .i64 kx5] 209))) (((M5.out.kp.setN hq _).setN hq _).alloc _) (by simp) (fun i hi hne=>by rw[Below.heap_alloc _ _ _ (by simpa [size_set] using hi),qag _ hne,qag _ hne])
     (fun y ve v1 v2 h=>by rw[Below.heap_alloc _ _ _ (by simpa [size_set] using hq5),heap_set _ (heap_set _ h)];simp[qay]) (by rw[← pn];exact ((M5.out.pen.setN (by omega) _).setN (by omega) _).alloc _)
     (fun x' st' hx=>by
      obtain ⟨x,h1,h2⟩:=pr x' st' hx;exact ⟨M5.out.nest h1,x,st',h1,h2⟩)
 case rest =>
 have N2:Hid (_):=hcut;clear hcut M4 N1 HB;go_wp2_with fail;refine (gotU b s _ _ _ N2.out.pen hs).mono ?_;rintro e w4 ⟨rfl,k4,p4⟩;have M4:Hid (Mk b s w0 q (qae (qae (qae (qae (qae (qa5 s st) (qbd s ⟨#[40]⟩)) (Px.qaw s)) (qbd s ⟨#[41]⟩)) (Px.qa9 s)) (gotX s ⟨#[117,110,100,111]⟩)) st.nest w4):=N2.out.got hb hq k4 p4;clear k4 p4;generalize hB:onR s (((qae (qae (qae (qae (qa5 s st) (qbd s ⟨#[40]⟩)) (Px.qaw s)) (qbd s ⟨#[41]⟩)) (Px.qa9 s))).map Prod.snd) ⟨#[117,110,100,111]⟩=B;have HB:Hid (_):=hB;clear hB;go_upto_if 60 with fail
 go_cut [9] (fun _ wc=>Hid (Mk b s w0 q (qae (qae (qae (qae (qae (qa5 s st) (qbd s ⟨#[40]⟩)) (Px.qaw s)) (qbd s ⟨#[41]⟩)) (Px.qa9 s)) (Px.qat s)) st.nest wc))
 case first =>
  cases B
  ·go_wp2_with fail;go_meet
   case rel =>
    show Mk _ _ _ _ _ _ _
    have h:=M4.out;rw[qs8 HB.out] at h;rw[zmm HB.out];exact h
  ·go_wp2_with fail;generalize hr5:(qae (qae (qae (qae (qae (qa5 s st) (qbd s ⟨#[40]⟩)) (Px.qaw s)) (qbd s ⟨#[41]⟩)) (Px.qa9 s)) (gotX s ⟨#[117,110,100,111]⟩)).map Prod.snd=r5 at *;refine (qda b s 119 r5 _ (by rw[← hr5];exact M4.out.pen) hs).mono ?_
   rintro e w5 ⟨⟨kv5,kx5,rfl⟩,k5,p5⟩;have m5:=M4.out.kind hb hq k5 (by rw[hr5];exact p5)
   obtain ⟨y,ve,a1,n1,c1,a2,n2,c2,hc,hcx⟩:=m5.cells;obtain ⟨d0,d1,d2,d3,d4,d5,d6,d7,d8,d9,d10,df⟩:=qaa hc;have hq5:q < w5.heap.size:=lt_of_cell d0;have V5:Hid (_):=qlq (show PSt w4 b s r5 by rw[← hr5];exact M4.out.pen)
   have M5:Hid (_):=m5;have HR5:Hid (_):=hr5;clear k5 p5 hc hcx m5 hr5;go_wp2_with fail;go_meet
   case rel =>
    show Mk _ _ _ _ _ _ _
    obtain ⟨pn,pr⟩:=zkt HB.out;rw[HR5.out] at pr;exact Mk.store (fun y=>{ y with undo:=qdm s r5 119 }) (fun y=>⟨rfl,rfl,rfl⟩) M5.out (W:=((w5.setCell ⟨q,6,none⟩ (.string (qdm s r5 119))).alloc (.cells #[.int .u8 kv5,.string (qdm s r5 119),.int .i64 (qf0 r5 119),.int .i64 kx5] 209))) ((M5.out.kp.setN hq _).alloc _) (by simp) (fun i hi hne=>by rw[Below.heap_alloc _ _ _ (by simpa [size_set] using hi),qag _ hne])
     (fun y ve v1 v2 h=>by rw[Below.heap_alloc _ _ _ (by simpa [size_set] using hq5),heap_set _ h];simp[qay]) (by rw[← pn];exact (M5.out.pen.setN (by omega) _).alloc _)
     (fun x' st' hx=>by
      obtain ⟨x,h1,h2⟩:=pr x' st' hx;exact ⟨M5.out.nest h1,x,st',h1,h2⟩)
 case rest =>
 have N3:Hid (_):=hcut;clear hcut M4 N2 HB;go_wp2_with fail;refine (gotU b s _ _ _ N3.out.pen hs).mono ?_;rintro e w4 ⟨rfl,k4,p4⟩;have M4:Hid (Mk b s w0 q (qae (qae (qae (qae (qae (qae (qa5 s st) (qbd s ⟨#[40]⟩)) (Px.qaw s)) (qbd s ⟨#[41]⟩)) (Px.qa9 s)) (Px.qat s)) (gotX s ⟨#[116,114,105,101,115]⟩)) st.nest w4):=N3.out.got hb hq k4 p4;clear k4 p4;generalize hB:onR s (((qae (qae (qae (qae (qae (qa5 s st) (qbd s ⟨#[40]⟩)) (Px.qaw s)) (qbd s ⟨#[41]⟩)) (Px.qa9 s)) (Px.qat s))).map Prod.snd) ⟨#[116,114,105,101,115]⟩=B;have HB:Hid (_):=hB
 clear hB;go_upto_if 70 with fail
 go_cut [11] (fun _ wc=>Hid (Mk b s w0 q (qae (qae (qae (qae (qae (qae (qa5 s st) (qbd s ⟨#[40]⟩)) (Px.qaw s)) (qbd s ⟨#[41]⟩)) (Px.qa9 s)) (Px.qat s)) (Px.qas s)) st.nest wc))
 case first =>
  cases B
  ·go_wp2_with fail;go_meet
   case rel =>
    show Mk _ _ _ _ _ _ _
    have h:=M4.out;rw[qs8 HB.out] at h;rw[zgy HB.out];exact h
  ·go_wp2_with fail;generalize hr5:(qae (qae (qae (qae (qae (qae (qa5 s st) (qbd s ⟨#[40]⟩)) (Px.qaw s)) (qbd s ⟨#[41]⟩)) (Px.qa9 s)) (Px.qat s)) (gotX s ⟨#[116,114,105,101,115]⟩)).map Prod.snd=r5 at *;refine (qda b s 110 r5 _ (by rw[← hr5];exact M4.out.pen) hs).mono ?_
   rintro e w5 ⟨⟨kv5,kx5,rfl⟩,k5,p5⟩;have m5:=M4.out.kind hb hq k5 (by rw[hr5];exact p5)
   obtain ⟨y,ve,a1,n1,c1,a2,n2,c2,hc,hcx⟩:=m5.cells;obtain ⟨d0,d1,d2,d3,d4,d5,d6,d7,d8,d9,d10,df⟩:=qaa hc;have hq5:q < w5.heap.size:=lt_of_cell d0;have V5:Hid (_):=qlq (show PSt w4 b s r5 by rw[← hr5];exact M4.out.pen)
   have M5:Hid (_):=m5;have HR5:Hid (_):=hr5;clear k5 p5 hc hcx m5 hr5;go_wp2_with fail;refine (qot _ _ V5.out.1 V5.out.2).mono ?_;rintro e w' ⟨rfl,hw⟩;rw[hw];clear hw;go_wp2_with fail;go_meet
   case rel =>
    show Mk _ _ _ _ _ _ _
    obtain ⟨pn,pr⟩:=zet HB.out;rw[HR5.out] at pr;exact Mk.store (fun y=>{ y with n:=Px.valOf (qdm s r5 110).toList,nPl:=qf0 r5 110 }) (fun y=>⟨rfl,rfl,rfl⟩) M5.out (W:=(((w5.setCell ⟨q,7,none⟩ (.int .i64 (Px.valOf (qdm s r5 110).toList))).setCell ⟨q,8,none⟩ (.int .i64 (qf0 r5 110))).alloc (.cells #[.int .u8 kv5,.string (qdm s r5 110),.int .i64 (qf0 r5 110),.int .i64 kx5] 209))) (((M5.out.kp.setN hq _).setN hq _).alloc _) (by simp) (fun i hi hne=>by rw[Below.heap_alloc _ _ _ (by simpa [size_set] using hi),qag _ hne,qag _ hne])
     (fun y ve v1 v2 h=>by rw[Below.heap_alloc _ _ _ (by simpa [size_set] using hq5),heap_set _ (heap_set _ h)];simp[qay]) (by rw[← pn];exact ((M5.out.pen.setN (by omega) _).setN (by omega) _).alloc _)
     (fun x' st' hx=>by
      obtain ⟨x,h1,h2⟩:=pr x' st' hx;exact ⟨M5.out.nest h1,x,st',h1,h2⟩)
 case rest =>
 have N4:Hid (_):=hcut;clear hcut M4 N3 HB;go_wp2_with fail;refine (qcb b s _ _ _ N4.out.pen hs).mono ?_;rintro e w8 ⟨rfl,k8,p8⟩;have M8:Hid (Mk b s w0 q (qae (qae (qae (qae (qae (qae (qae (qa5 s st) (qbd s ⟨#[40]⟩)) (Px.qaw s)) (qbd s ⟨#[41]⟩)) (Px.qa9 s)) (Px.qat s)) (Px.qas s)) (qbd s ⟨#[59]⟩)) st.nest w8):=N4.out.need hb hq k8 p8;clear k8 p8 N4;go_wp2_with fail;go_end0
 rw[qt7];exact ⟨rfl,M8.out⟩
open Go.RowKit
theorem Mk.post {b:Nat} {s:ByteArray} {w0 w:World} {q:Nat} {R:Except Nat (Px.Sm×Px.Ps)} {N:Int} (h:Mk b s w0 q R N w) (hq:w0.heap.size≤q):qju b s w0 R (.returned (ptr q)) w:=by
 refine ⟨h.kp,q,rfl,?_⟩;obtain ⟨y,ve,a1,n1,c1,a2,n2,c2,h1,h2⟩:=h.cells;have hp:=h.pen;have hqw:q < w.heap.size:=(Array.getElem?_eq_some_iff.1 h1).1;cases R with
 | error p=>exact hp
 | ok r =>
  obtain ⟨x,st⟩:=r;obtain ⟨e1,e2,q1,q2,e3,e4,e5,e6,e7⟩:=h2 x st rfl;subst e1;have hm:∀ i,In w0 w i∧i≠q→In w0 w i:=fun i hi=>hi.1
  exact ⟨⟨⟨hq,hqw⟩,.pointer ve,.slice a1 n1 c1,.slice a2 n2 c2,q1,q2,h1,e3.mono hm,e4.mono hm,e5.mono hm,e6.mono hm,e7.mono hm⟩,hp.1⟩
theorem Mk.zwd {b:Nat} {s:ByteArray} {w:World} {st:Px.Ps} {N:Int} (hN:st.nest=N) (hp:PSt w b s (.ok st)) :
  Mk b s w w.heap.size (.ok ({ Px.qa8 with op:=102 },st)) N (w.alloc (.cells #[.int .u8 102,.string ⟨#[]⟩,.int .i64 0,.pointer none,.string ⟨#[]⟩,.int .i64 0,.string ⟨#[]⟩,.int .i64 0,.int .i64 0,.slice none 0 0,.slice none 0 0] 270)):=by
 refine ⟨(Kp.refl _ _).alloc _,⟨{ Px.qa8 with op:=102 },none,none,0,0,none,0,0,qgr (Kp.refl b _) hp.lt,fun x st' hx=>?_⟩,hp.alloc _⟩
 cases hx;exact ⟨rfl,hN,[],[],rfl,Or.inl ⟨rfl,rfl⟩,SmsAt.qbl.2 rfl,Or.inl ⟨rfl,rfl⟩,SmsAt.qbl.2 rfl⟩
theorem Mk.start {b:Nat} {s:ByteArray} {w w1:World} {st:Px.Ps} {N:Int} (hb:b < w.heap.size) (hN:st.nest=N)
  (k:Kp b (w.alloc (.cells #[.int .u8 0,.string ⟨#[]⟩,.int .i64 0,.pointer none,.string ⟨#[]⟩,.int .i64 0,.string ⟨#[]⟩,.int .i64 0,.int .i64 0,.slice none 0 0,.slice none 0 0] 270)) w1) (hp:PSt w1 b s (.ok st)):Mk b s w w.heap.size (.ok (Px.qa8,st)) N w1:=by
 refine ⟨k.qdo,⟨Px.qa8,none,none,0,0,none,0,0,qgr k hb,fun x st' hx=>?_⟩,hp⟩
 cases hx;exact ⟨rfl,hN,[],[],rfl,Or.inl ⟨rfl,rfl⟩,SmsAt.qbl.2 rfl,Or.inl ⟨rfl,rfl⟩,SmsAt.qbl.2 rfl⟩
def oneX (s:ByteArray) (g:Px.Ps→Except Nat (Px.Sm×Px.Ps)) (y:Px.Sm) (st:Px.Ps):Except Nat (Px.Sm×Px.Ps) :=
 match Px.block s g st with
 | .ok (l,st')=>.ok ({ y with one:=l },st')
 | .error p=>.error p
theorem Mk.one {b:Nat} {s:ByteArray} {w0 w w1:World} {q:Nat} {R:Except Nat (Px.Sm×Px.Ps)} {N:Int} {g:Px.Ps→Except Nat (Px.Sm×Px.Ps)} {va:Option Addr} {vn vc:Nat} (h:Mk b s w0 q R N w) (hg:Px.Goes s g) (hb:b < w0.heap.size) (hq:w0.heap.size≤q) (hp:qr6 b s w ((R.map Prod.snd).bind (Px.block s g)) (.returned (.slice va vn vc)) w1):Mk b s w0 q (qae R (oneX s g)) N (w1.setCell ⟨q,9,none⟩ (.slice va vn vc)):=by
 obtain ⟨k,va',vn',vc',he,h3⟩:=hp;obtain ⟨rfl,rfl,rfl⟩:va=va'∧vn=vn'∧vc=vc':=by simpa using he
 obtain ⟨y,ve,a1,n1,c1,a2,n2,c2,h1,h2⟩:=h.cells;have hqw:q < w.heap.size:=(Array.getElem?_eq_some_iff.1 h1).1;have z:=k.size;have hc:(w1.setCell ⟨q,9,none⟩ (.slice va vn vc)).heap[q]?=some (.cells (qay y (.pointer ve) (.slice va vn vc) (.slice a2 n2 c2)) 270):=by
  rw[heap_set _ (Kp.heap k h1 (by omega))];simp[qay]
 have hkp:Kp b w0 (w1.setCell ⟨q,9,none⟩ (.slice va vn vc)):=(h.kp.trans k).setN hq _;have hbq:b≠q:=by omega
 cases R with
 | error p =>
  exact ⟨hkp,⟨y,ve,va,vn,vc,a2,n2,c2,hc,fun x st hx=>by cases hx⟩,PSt.setN (r:=.error p) h3 hbq _⟩
 | ok r =>
  obtain ⟨x,st⟩:=r;obtain ⟨e1,e2,r1,r2,e3,e4,e5,e6,e7⟩:=h2 x st rfl;subst e1;have h3':match Px.block s g st with
   | .ok (l,st)=>∃ qs,SlAt w1 (.slice va vn vc) qs (In w w1)∧SmsAt w1 l (In w w1) qs∧PenAt w1 b s st.t (-1) st.nest st.deep
   | .error p=>∃ t nest deep,PenAt w1 b s t ((p:Nat):Int) nest deep:=h3
  cases hr:Px.block s g st with
  | error p =>
   rw[hr] at h3';have er:qae (.ok (y,st)) (oneX s g)=.error p:=by simp[qae,oneX,hr]
   rw[er];exact ⟨hkp,⟨y,ve,va,vn,vc,a2,n2,c2,hc,fun x st hx=>by cases hx⟩,PSt.setN (r:=.error p) h3' hbq _⟩
  | ok r =>
   obtain ⟨e,st'⟩:=r;rw[hr] at h3';obtain ⟨q',f1,f2,f3⟩:=h3';have er:qae (.ok (y,st)) (oneX s g)=.ok ({ y with one:=e },st'):=by simp[qae,oneX,hr]
   have hgo:=Px.qa0 hg _ _ _ (h.tk rfl) hr;rw[er];have hk:∀ i,In w0 w i∧i≠q→(w1.setCell ⟨q,9,none⟩ (.slice va vn vc)).heap[i]?=w.heap[i]?:=fun i hi=>by rw[qag _ hi.2];exact k.block i hi.1.2 (by have:=hi.1.1;omega)
   have hm:∀ i,In w0 w i∧i≠q→In w0 (w1.setCell ⟨q,9,none⟩ (.slice va vn vc)) i∧i≠q:=fun i hi=>⟨⟨hi.1.1,by rw[size_set];have:=hi.1.2;omega⟩,hi.2⟩
   have z0:=h.kp.size;have hk':∀ i,In w w1 i→(w1.setCell ⟨q,9,none⟩ (.slice va vn vc)).heap[i]?=w1.heap[i]?:=fun i hi=>qag _ (by have:=hi.1;omega)
   have hm':∀ i,In w w1 i→In w0 (w1.setCell ⟨q,9,none⟩ (.slice va vn vc)) i∧i≠q:=fun i hi=>⟨⟨by have:=hi.1;omega,by rw[size_set];exact hi.2⟩,by have:=hi.1;omega⟩
   refine ⟨hkp,⟨{ y with one:=e },ve,va,vn,vc,a2,n2,c2,hc,fun x2 st2 hx=>?_⟩,PSt.setN (r:=.ok st') ⟨f3,hgo.tk⟩ hbq _⟩
   cases hx;exact ⟨rfl,hgo.nest.trans e2,q',r2,(e3.keep hk).mono hm,(f1.keep hk').mono hm',(f2.keep hk').mono hm',(e6.keep hk).mono hm,(e7.keep hk).mono hm⟩
def twoX (s:ByteArray) (g:Px.Ps→Except Nat (Px.Sm×Px.Ps)) (y:Px.Sm) (st:Px.Ps):Except Nat (Px.Sm×Px.Ps) :=
 match Px.block s g st with
 | .ok (l,st')=>.ok ({ y with two:=l },st')
 | .error p=>.error p
theorem Mk.two {b:Nat} {s:ByteArray} {w0 w w1:World} {q:Nat} {R:Except Nat (Px.Sm×Px.Ps)} {N:Int} {g:Px.Ps→Except Nat (Px.Sm×Px.Ps)} {va:Option Addr} {vn vc:Nat} (h:Mk b s w0 q R N w) (hg:Px.Goes s g) (hb:b < w0.heap.size) (hq:w0.heap.size≤q) (hp:qr6 b s w ((R.map Prod.snd).bind (Px.block s g)) (.returned (.slice va vn vc)) w1):Mk b s w0 q (qae R (twoX s g)) N (w1.setCell ⟨q,10,none⟩ (.slice va vn vc)):=by
 obtain ⟨k,va',vn',vc',he,h3⟩:=hp;obtain ⟨rfl,rfl,rfl⟩:va=va'∧vn=vn'∧vc=vc':=by simpa using he
 obtain ⟨y,ve,a1,n1,c1,a2,n2,c2,h1,h2⟩:=h.cells;have hqw:q < w.heap.size:=(Array.getElem?_eq_some_iff.1 h1).1;have z:=k.size;have hc:(w1.setCell ⟨q,10,none⟩ (.slice va vn vc)).heap[q]?=some (.cells (qay y (.pointer ve) (.slice a1 n1 c1) (.slice va vn vc)) 270):=by
  rw[heap_set _ (Kp.heap k h1 (by omega))];simp[qay]
 have hkp:Kp b w0 (w1.setCell ⟨q,10,none⟩ (.slice va vn vc)):=(h.kp.trans k).setN hq _;have hbq:b≠q:=by omega
 cases R with
 | error p =>
  exact ⟨hkp,⟨y,ve,a1,n1,c1,va,vn,vc,hc,fun x st hx=>by cases hx⟩,PSt.setN (r:=.error p) h3 hbq _⟩
 | ok r =>
  obtain ⟨x,st⟩:=r;obtain ⟨e1,e2,r1,r2,e3,e4,e5,e6,e7⟩:=h2 x st rfl;subst e1;have h3':match Px.block s g st with
   | .ok (l,st)=>∃ qs,SlAt w1 (.slice va vn vc) qs (In w w1)∧SmsAt w1 l (In w w1) qs∧PenAt w1 b s st.t (-1) st.nest st.deep
   | .error p=>∃ t nest deep,PenAt w1 b s t ((p:Nat):Int) nest deep:=h3
  cases hr:Px.block s g st with
  | error p =>
   rw[hr] at h3';have er:qae (.ok (y,st)) (twoX s g)=.error p:=by simp[qae,twoX,hr]
   rw[er];exact ⟨hkp,⟨y,ve,a1,n1,c1,va,vn,vc,hc,fun x st hx=>by cases hx⟩,PSt.setN (r:=.error p) h3' hbq _⟩
  | ok r =>
   obtain ⟨e,st'⟩:=r;rw[hr] at h3';obtain ⟨q',f1,f2,f3⟩:=h3';have er:qae (.ok (y,st)) (twoX s g)=.ok ({ y with two:=e },st'):=by simp[qae,twoX,hr]
   have hgo:=Px.qa0 hg _ _ _ (h.tk rfl) hr;rw[er];have hk:∀ i,In w0 w i∧i≠q→(w1.setCell ⟨q,10,none⟩ (.slice va vn vc)).heap[i]?=w.heap[i]?:=fun i hi=>by rw[qag _ hi.2];exact k.block i hi.1.2 (by have:=hi.1.1;omega)
   have hm:∀ i,In w0 w i∧i≠q→In w0 (w1.setCell ⟨q,10,none⟩ (.slice va vn vc)) i∧i≠q:=fun i hi=>⟨⟨hi.1.1,by rw[size_set];have:=hi.1.2;omega⟩,hi.2⟩
   have z0:=h.kp.size;have hk':∀ i,In w w1 i→(w1.setCell ⟨q,10,none⟩ (.slice va vn vc)).heap[i]?=w1.heap[i]?:=fun i hi=>qag _ (by have:=hi.1;omega)
   have hm':∀ i,In w w1 i→In w0 (w1.setCell ⟨q,10,none⟩ (.slice va vn vc)) i∧i≠q:=fun i hi=>⟨⟨by have:=hi.1;omega,by rw[size_set];exact hi.2⟩,by have:=hi.1;omega⟩
   refine ⟨hkp,⟨{ y with two:=e },ve,a1,n1,c1,va,vn,vc,hc,fun x2 st2 hx=>?_⟩,PSt.setN (r:=.ok st') ⟨f3,hgo.tk⟩ hbq _⟩
   cases hx;exact ⟨rfl,hgo.nest.trans e2,r1,q',(e3.keep hk).mono hm,(e4.keep hk).mono hm,(e5.keep hk).mono hm,(f1.keep hk').mono hm',(f2.keep hk').mono hm'⟩
def qjj (s:ByteArray) (st:Px.Ps):Except Nat (Px.Sm×Px.Ps) :=
 match Px.kind s 119 st with
 | .ok st1=>.ok ({ Px.qa8 with op:=108,word:=Px.txt s st.t,pl:=st.t.a },st1)
 | .error p=>.error p
theorem qx9 {s:ByteArray} {st:Px.Ps}:(qae (.ok (Px.qa8,st)) (qfy s 119)).map Prod.snd=(qjj s st).map Prod.snd:=by
 unfold qae qfy qjj;simp only;cases Px.kind s 119 st<;>rfl
theorem zah (s:ByteArray) (st:Px.Ps):Px.letS s st=qae (qae (qae (qjj s st) (qbd s ⟨#[61]⟩)) (exX s)) (qbd s ⟨#[59]⟩):=by
 unfold Px.letS qjj;cases Px.kind s 119 st with
 | error p=>rfl
 | ok st1 =>
  simp only[qae,qbd];cases Px.need s ⟨#[61]⟩ st1 with
  | error p=>rfl
  | ok st2 =>
   simp only[exX];cases Px.qa4 s st2 with
   | error p=>rfl
   | ok r =>
    obtain ⟨e,st3⟩:=r;simp only;cases Px.need s ⟨#[59]⟩ st3<;>rfl
def opS (op:Nat) (st:Px.Ps):Except Nat (Px.Sm×Px.Ps):=.ok ({ Px.qa8 with op:=op },st)
def zdm (s:ByteArray) (g:Px.Ps→Except Nat (Px.Sm×Px.Ps)) (y:Px.Sm) (st:Px.Ps):Except Nat (Px.Sm×Px.Ps) :=
 if Px.onB s st.t ⟨#[101,108,115,101]⟩ then twoX s g y (Px.nx s st) else .ok (y,st)
theorem zh9 (s:ByteArray) (g:Px.Ps→Except Nat (Px.Sm×Px.Ps)) (st:Px.Ps):Px.ifS s g st=qae (qae (qae (opS 105 st) (exX s)) (oneX s g)) (zdm s g):=by
 unfold Px.ifS opS;simp only[qae,exX];cases Px.qa4 s st with
 | error p=>rfl
 | ok r =>
  obtain ⟨e,st1⟩:=r;simp only[oneX];cases Px.block s g st1 with
  | error p=>rfl
  | ok r =>
   obtain ⟨l,st2⟩:=r;simp only[zdm];by_cases h:Px.onB s st2.t ⟨#[101,108,115,101]⟩=true
   ·rw[if_pos h,if_pos h];simp only[twoX];cases Px.block s g (Px.nx s st2) with
    | error p=>rfl
    | ok r=>obtain ⟨m,st3⟩:=r;rfl
   ·rw[if_neg h,if_neg h]
theorem qzb (s:ByteArray) (g:Px.Ps→Except Nat (Px.Sm×Px.Ps)) (st:Px.Ps):Px.tryS s g st=qae (qae (qae (opS 116 st) (oneX s g)) (qbd s ⟨#[101,108,115,101]⟩)) (twoX s g):=by
 unfold Px.tryS opS;simp only[qae,oneX];cases Px.block s g st with
 | error p=>rfl
 | ok r =>
  obtain ⟨l,st1⟩:=r;simp only[qbd];cases Px.need s ⟨#[101,108,115,101]⟩ st1 with
  | error p=>rfl
  | ok st2 =>
   simp only[twoX];cases Px.block s g st2 with
   | error p=>rfl
   | ok r=>obtain ⟨m,st3⟩:=r;rfl
def qi7 (s:ByteArray) (st:Px.Ps):Except Nat (Px.Sm×Px.Ps) :=
 match Px.kind s 110 st with
 | .ok st1=>.ok ({ Px.qa8 with op:=114,n:=Px.valOf (Px.txt s st.t).toList,nPl:=st.t.a },st1)
 | .error p=>.error p
theorem qxm {s:ByteArray} {st:Px.Ps}:(qae (opS 114 st) (qfy s 110)).map Prod.snd=(qi7 s st).map Prod.snd:=by
 unfold qae qfy qi7 opS;simp only;cases Px.kind s 110 st<;>rfl
theorem qzz (s:ByteArray) (g:Px.Ps→Except Nat (Px.Sm×Px.Ps)) (st:Px.Ps):Px.qbu s g st=qae (qi7 s st) (oneX s g):=by
 unfold Px.qbu qi7;cases Px.kind s 110 st with
 | error p=>rfl
 | ok st1 =>
  simp only[qae,oneX];cases Px.block s g st1 with
  | error p=>rfl
  | ok r=>obtain ⟨m,st3⟩:=r;rfl
theorem zua (s:ByteArray) (st:Px.Ps):Px.qig s st=qae (qae (opS 102 st) (qbd s ⟨#[102,97,105,108]⟩)) (qbd s ⟨#[59]⟩):=by
 unfold Px.qig opS;simp only[qae,qbd];cases Px.need s ⟨#[102,97,105,108]⟩ st with
 | error p=>rfl
 | ok st1 =>
  simp only;cases Px.need s ⟨#[59]⟩ st1<;>rfl
theorem zmn {s:ByteArray} {g:Px.Ps→Except Nat (Px.Sm×Px.Ps)} {R:Except Nat (Px.Sm×Px.Ps)} (h:onR s (R.map Prod.snd) ⟨#[101,108,115,101]⟩=false):qae R (zdm s g)=R:=by
 cases R with
 | error p=>rfl
 | ok r =>
  obtain ⟨x,st⟩:=r;have h':Px.onB s st.t ⟨#[101,108,115,101]⟩=false:=h;simp[qae,zdm,h']
theorem zsw {s:ByteArray} {g:Px.Ps→Except Nat (Px.Sm×Px.Ps)} {R:Except Nat (Px.Sm×Px.Ps)} (h:onR s (R.map Prod.snd) ⟨#[101,108,115,101]⟩=true):qae R (zdm s g)=qae (qae R (gotX s ⟨#[101,108,115,101]⟩)) (twoX s g):=by
 obtain ⟨x,st,rfl,h1,h2⟩:=qvs h;rw[h2];simp[qae,zdm,h1]
theorem Mk.op {b:Nat} {s:ByteArray} {w0 w:World} {q:Nat} {st:Px.Ps} {N:Int} (o:Nat) (h:Mk b s w0 q (.ok (Px.qa8,st)) N w) (hb:b < w0.heap.size) (hq:w0.heap.size≤q):Mk b s w0 q (opS o st) N (w.setCell ⟨q,0,none⟩ (.int .u8 (o:Int))) :=
 h.store (fun y=>{ y with op:=o }) (fun _=>⟨rfl,rfl,rfl⟩) (h.kp.setN hq _) (by rw[size_set];exact Nat.le_refl _) (fun i _ hne=>qag _ hne) (fun y ve v1 v2 hh=>by rw[heap_set _ hh];simp[qay]) (PSt.setN (r:=.ok st) h.pen (by omega) _)
  (fun x' st' hx=>by cases hx;exact ⟨h.nest rfl,Px.qa8,st,rfl,rfl⟩)
open Go.RowKit
theorem qk6 (b:Nat) (s:ByteArray) (n:Nat) (hs3:s.size≤300) (st:Px.Ps) (w:World) (hD:DomS s (n+1) st) (p:PenAt w b s st.t (-1) st.nest st.deep) (ho:Px.onB s st.t ⟨#[108,101,116]⟩=true) :
  Calls Tryz.prog 125 #[.pointer (some ⟨b,0,none⟩)] w (qju b s w (Px.letS s (Px.nx s st))):=by
 have hs:s.size≤maxLen:=by unfold maxLen;omega
 have hb:=p.lt;have HD:Hid (DomS s (n+1) st∧PenAt w b s st.t (-1) st.nest st.deep):=⟨hD,p⟩;have hN0:=hD.n0;have hN:st.nest+(s.size+1:Nat)≤1000000:=by have:=hD.n1;omega
 clear hD p;go_enter Tryz.func125,Tryz.ntmps125
 go_wp2_with fail;refine (qkt b s _ st.t st.nest st.deep _ (HD.out.2.alloc _) HD.out.1.tk.le hs ho).mono ?_;rintro e w1 ⟨rfl,p1,k1⟩;have m1:Mk b s w w.heap.size (.ok (Px.qa8,Px.nx s st)) st.nest w1:=Mk.start hb rfl k1 ⟨p1,Px.qnn HD.out.1.tk⟩;have D1:Hid (DomS s (n+1) (Px.nx s st)):=HD.out.1.good (Px.qaf HD.out.1.tk ho);clear p1 k1;have M1:Hid (_):=m1;clear m1;go_wp2_with fail;refine (qda b s 119 (.ok (Px.nx s st)) _ M1.out.pen hs).mono ?_;rintro e w2 ⟨⟨kv,kx,rfl⟩,k2,p2⟩;have m2:=M1.out.kind hb (Nat.le_refl _) k2 p2;obtain ⟨y,ve,a1,n1,c1,a2,n2,c2,hc,hcx⟩:=m2.cells;obtain ⟨d0,d1,d2,d3,d4,d5,d6,d7,d8,d9,d10,df⟩:=qaa hc
 have hq2:w.heap.size < w2.heap.size:=lt_of_cell d0;have M2:Hid (_):=m2;clear k2 p2 hc hcx m2 M1;go_wp2_with fail;have m3:Mk b s w w.heap.size (qjj s (Px.nx s st)) st.nest _:=Mk.store (fun y=>{ y with op:=108,word:=qdm s (.ok (Px.nx s st)) 119,pl:=qf0 (.ok (Px.nx s st)) 119 }) (fun y=>⟨rfl,rfl,rfl⟩) M2.out
  (W:=(((w2.setCell ⟨w.heap.size,0,none⟩ (.int .u8 108)).setCell ⟨w.heap.size,1,none⟩ (.string (qdm s (.ok (Px.nx s st)) 119))).setCell ⟨w.heap.size,2,none⟩ (.int .i64 (qf0 (.ok (Px.nx s st)) 119))).alloc (.cells #[.int .u8 kv,.string (qdm s (.ok (Px.nx s st)) 119),.int .i64 (qf0 (.ok (Px.nx s st)) 119),.int .i64 kx] 209))
  ((((M2.out.kp.setN (Nat.le_refl _) _).setN (Nat.le_refl _) _).setN (Nat.le_refl _) _).alloc _) (by simp) (fun i hi hne=>by rw[Below.heap_alloc _ _ _ (by simpa [size_set] using hi),qag _ hne,qag _ hne,qag _ hne])
  (fun y ve v1 v2 h=>by rw[Below.heap_alloc _ _ _ (by simpa [size_set] using hq2),heap_set _ (heap_set _ (heap_set _ h))];simp[qay])
  ?pp ?rr
 case pp =>
  rw[← qx9];exact (((M2.out.pen.setN (by omega) _).setN (by omega) _).setN (by omega) _).alloc _
 case rr =>
  intro x' st' hx;unfold qjj Px.kind at hx;by_cases hk:(Px.nx s st).t.k=119
  ·rw[if_pos hk] at hx;cases hx;refine ⟨rfl,Px.qa8,Px.nx s (Px.nx s st),?_,?_⟩
   ·simp[qae,qfy,Px.kind,hk]
   ·simp[qdm,qf0,hk,Px.txt]
  ·rw[if_neg hk] at hx;cases hx
 have M3:Hid (_):=m3;clear m3 M2 d0 d1 d2 d3 d4 d5 d6 d7 d8 d9 d10 df;refine (qcb b s _ _ _ M3.out.pen hs).mono ?_;rintro e w3 ⟨rfl,k3,p3⟩;have M4:Hid (Mk b s w w.heap.size (qae (qjj s (Px.nx s st)) (qbd s ⟨#[61]⟩)) st.nest w3):=M3.out.need hb (Nat.le_refl _) k3 p3;clear k3 p3 M3;go_wp2_with fail;refine (zue b s _ _ M4.out.pen hs ?hn).mono ?_
 case hn =>
  intro st1 h1;cases hr:qae (qjj s (Px.nx s st)) (qbd s ⟨#[61]⟩) with
  | error p=>rw[hr] at h1;cases h1
  | ok r =>
   obtain ⟨x,st2⟩:=r;rw[hr] at h1;cases h1;rw[M4.out.nest hr];exact ⟨hN0,hN⟩
 rintro e w4 h4;obtain ⟨q1,he⟩:∃ q1,e=.returned (.pointer (some ⟨q1,0,none⟩)):=by obtain ⟨_,q1,he,_⟩:=h4;exact ⟨q1,he⟩
 subst he;have m5:=M4.out.expr hb (Nat.le_refl _) h4;obtain ⟨y,ve,a1,n1,c1,a2,n2,c2,hc,hcx⟩:=M4.out.cells;have hc3:=Kp.heap h4.1 hc (by omega)
 obtain ⟨d0,d1,d2,d3,d4,d5,d6,d7,d8,d9,d10,df⟩:=qaa hc3;have M5:Hid (_):=m5;clear hc hcx hc3 m5 h4;go_wp2_with fail;refine (qcb b s _ _ _ M5.out.pen hs).mono ?_;rintro e w5 ⟨rfl,k5,p5⟩;have M6:Hid (_):=M5.out.need hb (Nat.le_refl _) k5 p5;clear k5 p5 M5 d0 d1 d2 d3 d4 d5 d6 d7 d8 d9 d10 df;go_wp2_with fail;go_ret;rw[zah];exact M6.out.post (Nat.le_refl _)
theorem qi0 (b:Nat) (s:ByteArray) (n:Nat) (hs3:s.size≤300) (st:Px.Ps) (w:World) (hD:DomS s (n+1) st) (p:PenAt w b s st.t (-1) st.nest st.deep) (h0:Px.onB s st.t ⟨#[108,101,116]⟩=false) (ho:Px.onB s st.t ⟨#[99,97,108,108]⟩=true) :
  Calls Tryz.prog 125 #[.pointer (some ⟨b,0,none⟩)] w (qju b s w (Px.call s (Px.nx s st))):=by
 have hs:s.size≤maxLen:=by unfold maxLen;omega
 have hb:=p.lt;have HD:Hid (DomS s (n+1) st∧PenAt w b s st.t (-1) st.nest st.deep):=⟨hD,p⟩;have hN0:=hD.n0;have hN:st.nest+(s.size+1:Nat)≤1000000:=by have:=hD.n1;omega
 clear hD p;go_enter Tryz.func125,Tryz.ntmps125
 go_wp2_with fail;refine (qf1 b s _ st.t st.nest st.deep _ (HD.out.2.alloc _) h0).mono ?_;rintro e w' ⟨rfl,hw⟩;rw[← hw];clear hw;go_wp2_with fail;refine (qkt b s _ st.t st.nest st.deep _ (HD.out.2.alloc _) HD.out.1.tk.le hs ho).mono ?_;rintro e w1 ⟨rfl,p1,k1⟩;have m1:Mk b s w w.heap.size (.ok (Px.qa8,Px.nx s st)) st.nest w1:=Mk.start hb rfl k1 ⟨p1,Px.qnn HD.out.1.tk⟩;have D1:Hid (DomS s (n+1) (Px.nx s st)):=HD.out.1.good (Px.qaf HD.out.1.tk ho);clear p1 k1;have M1:Hid (_):=m1;clear m1;go_wp2_with fail;refine (qyn b s hs3 w w.heap.size hb (Nat.le_refl _) (Px.nx s st) _ hN0 hN M1.out).mono ?_
 rintro e w2 ⟨rfl,m2⟩;have M2:Hid (_):=m2;clear m2;go_wp2_with fail;go_ret;exact M2.out.post (Nat.le_refl _)
theorem qiz (b:Nat) (s:ByteArray) (n:Nat) (hs3:s.size≤300) (st:Px.Ps) (w:World) (hD:DomS s (n+1) st) (p:PenAt w b s st.t (-1) st.nest st.deep) (h0:Px.onB s st.t ⟨#[108,101,116]⟩=false) (h1:Px.onB s st.t ⟨#[99,97,108,108]⟩=false) (h2:Px.onB s st.t ⟨#[105,102]⟩=false) (h3:Px.onB s st.t ⟨#[116,114,121]⟩=false) (h4:Px.onB s st.t ⟨#[114,101,112,101,97,116]⟩=false) :
  Calls Tryz.prog 125 #[.pointer (some ⟨b,0,none⟩)] w (qju b s w (Px.qig s st)):=by
 have hs:s.size≤maxLen:=by unfold maxLen;omega
 have hb:=p.lt;have HD:Hid (DomS s (n+1) st∧PenAt w b s st.t (-1) st.nest st.deep):=⟨hD,p⟩;have hN0:=hD.n0;have hN:st.nest+(s.size+1:Nat)≤1000000:=by have:=hD.n1;omega
 clear hD p;go_enter Tryz.func125,Tryz.ntmps125
 go_wp2_with fail;refine (qf1 b s _ st.t st.nest st.deep _ (HD.out.2.alloc _) h0).mono ?_;rintro e w' ⟨rfl,hw⟩;rw[← hw];clear hw;go_wp2_with fail;refine (qf1 b s _ st.t st.nest st.deep _ (HD.out.2.alloc _) h1).mono ?_;rintro e w' ⟨rfl,hw⟩;rw[← hw];clear hw;go_wp2_with fail;refine (qf1 b s _ st.t st.nest st.deep _ (HD.out.2.alloc _) h2).mono ?_;rintro e w' ⟨rfl,hw⟩;rw[← hw];clear hw;go_wp2_with fail;refine (qf1 b s _ st.t st.nest st.deep _ (HD.out.2.alloc _) h3).mono ?_;rintro e w' ⟨rfl,hw⟩;rw[← hw];clear hw;go_wp2_with fail;refine (qf1 b s _ st.t st.nest st.deep _ (HD.out.2.alloc _) h4).mono ?_
 rintro e w' ⟨rfl,hw⟩;rw[← hw];clear hw;have M1:Hid (Mk b s w w.heap.size (opS 102 st) st.nest _):=Mk.zwd rfl ⟨HD.out.2,HD.out.1.tk⟩;go_wp2_with fail;refine (qcb b s _ _ _ M1.out.pen hs).mono ?_;rintro e w1 ⟨rfl,k1,p1⟩;have M2:Hid (_):=M1.out.need hb (Nat.le_refl _) k1 p1;clear k1 p1 M1;go_wp2_with fail;refine (qcb b s _ _ _ M2.out.pen hs).mono ?_;rintro e w2 ⟨rfl,k2,p2⟩;have M3:Hid (_):=M2.out.need hb (Nat.le_refl _) k2 p2;clear k2 p2 M2;go_wp2_with fail;go_ret;rw[zua];exact M3.out.post (Nat.le_refl _)
open Go.RowKit
theorem qo7 (b:Nat) (s:ByteArray) (n:Nat) (hst:qr3 b s n (Px.stmt s n)) (hs3:s.size≤300) (st:Px.Ps) (w:World) (hD:DomS s (n+1) st) (p:PenAt w b s st.t (-1) st.nest st.deep) (h0:Px.onB s st.t ⟨#[108,101,116]⟩=false) (h1:Px.onB s st.t ⟨#[99,97,108,108]⟩=false) (ho:Px.onB s st.t ⟨#[105,102]⟩=true) :
  Calls Tryz.prog 125 #[.pointer (some ⟨b,0,none⟩)] w (qju b s w (Px.ifS s (Px.stmt s n) (Px.nx s st))):=by
 have hs:s.size≤maxLen:=by unfold maxLen;omega
 have hb:=p.lt;have HD:Hid (DomS s (n+1) st∧PenAt w b s st.t (-1) st.nest st.deep):=⟨hD,p⟩;have hN0:=hD.n0;have hN:st.nest+(s.size+1:Nat)≤1000000:=by have:=hD.n1;omega
 clear hD p;go_enter Tryz.func125,Tryz.ntmps125
 go_wp2_with fail;refine (qf1 b s _ st.t st.nest st.deep _ (HD.out.2.alloc _) h0).mono ?_;rintro e w' ⟨rfl,hw⟩;rw[← hw];clear hw;go_wp2_with fail;refine (qf1 b s _ st.t st.nest st.deep _ (HD.out.2.alloc _) h1).mono ?_;rintro e w' ⟨rfl,hw⟩;rw[← hw];clear hw;go_wp2_with fail;refine (qkt b s _ st.t st.nest st.deep _ (HD.out.2.alloc _) HD.out.1.tk.le hs ho).mono ?_;rintro e w1 ⟨rfl,p1,k1⟩;have m1:Mk b s w w.heap.size (.ok (Px.qa8,Px.nx s st)) st.nest w1:=Mk.start hb rfl k1 ⟨p1,Px.qnn HD.out.1.tk⟩;have D1:Hid (DomS s (n+1) (Px.nx s st)):=HD.out.1.good (Px.qaf HD.out.1.tk ho);clear p1 k1
 obtain ⟨y,ve,a1,n1,c1,a2,n2,c2,hc,hcx⟩:=m1.cells;obtain ⟨d0,d1,d2,d3,d4,d5,d6,d7,d8,d9,d10,df⟩:=qaa hc;have M2:Hid (Mk b s w w.heap.size (opS 105 (Px.nx s st)) st.nest (w1.setCell ⟨w.heap.size,0,none⟩ (.int .u8 105))):=m1.op 105 hb (Nat.le_refl _);clear hc hcx m1;go_wp2_with fail;refine (zue b s _ _ M2.out.pen hs ?hn).mono ?_
 case hn =>
  intro st1 h1;cases h1;exact ⟨hN0,hN⟩
 rintro e w4 h4;obtain ⟨q1,he⟩:∃ q1,e=.returned (.pointer (some ⟨q1,0,none⟩)):=by obtain ⟨_,q1,he,_⟩:=h4;exact ⟨q1,he⟩
 subst he;have m5:=M2.out.expr hb (Nat.le_refl _) h4;clear d0 d1 d2 d3 d4 d5 d6 d7 d8 d9 d10 df;obtain ⟨y,ve,a1,n1,c1,a2,n2,c2,hc,hcx⟩:=M2.out.cells;have hc3:=Kp.heap h4.1 hc (by omega)
 obtain ⟨d0,d1,d2,d3,d4,d5,d6,d7,d8,d9,d10,df⟩:=qaa hc3;have M3:Hid (_):=m5;clear hc hcx hc3 m5 h4 M2;go_wp2_with fail;clear d0 d1 d2 d3 d4 d5 d6 d7 d8 d9 d10 df;refine (qwt b s n _ hst (Px.qam s n) hs3 _ _ M3.out.pen ?hd).mono ?_
 case hd =>
  intro st1 h1;cases hr:Px.qa4 s (Px.nx s st) with
  | error p=>simp[qae,opS,exX,hr,Except.map] at h1
  | ok r =>
   obtain ⟨e2,st2⟩:=r;simp[qae,opS,exX,hr,Except.map] at h1;rw[← h1];exact D1.out.good (Px.qbb s _ _ _ D1.out.tk hr)
 rintro e w5 h4;obtain ⟨va,vn,vc,he⟩:∃ va vn vc,e=.returned (.slice va vn vc):=by obtain ⟨_,va,vn,vc,he,_⟩:=h4;exact ⟨va,vn,vc,he⟩
 subst he;have m5:=M3.out.one (Px.qam s n) hb (Nat.le_refl _) h4;obtain ⟨y,ve,a1,n1,c1,a2,n2,c2,hc,hcx⟩:=M3.out.cells;have hc3:=Kp.heap h4.1 hc (by omega)
 obtain ⟨d0,d1,d2,d3,d4,d5,d6,d7,d8,d9,d10,df⟩:=qaa hc3;have M4:Hid (_):=m5;clear hc hcx hc3 m5 h4;clear M3;go_wp2_with fail;clear d0 d1 d2 d3 d4 d5 d6 d7 d8 d9 d10 df;refine (gotU b s _ _ _ M4.out.pen hs).mono ?_;rintro e w6 ⟨rfl,k6,p6⟩;have M6:Hid (_):=M4.out.got hb (Nat.le_refl _) k6 p6;clear k6 p6;generalize hB:onR s ((qae (qae (opS 105 (Px.nx s st)) (exX s)) (oneX s (Px.stmt s n))).map Prod.snd) ⟨#[101,108,115,101]⟩=B;have HB:Hid (_):=hB;clear hB;cases B
 ·go_wp2_with fail;go_ret;rw[zh9,zmn HB.out];have h:=M6.out;rw[qs8 HB.out] at h;exact h.post (Nat.le_refl _)
 ·go_wp2_with fail;refine (qwt b s n _ hst (Px.qam s n) hs3 _ _ M6.out.pen ?hd).mono ?_
  case hd =>
   intro st1 h1;obtain ⟨x0,st0,hr0,ho0,hg0⟩:=qvs HB.out;rw[hg0] at h1;cases h1;have D2:DomS s (n+1) st0:=by
    cases hr:Px.qa4 s (Px.nx s st) with
    | error p=>simp[qae,opS,exX,hr] at hr0
    | ok r =>
     obtain ⟨e2,st2⟩:=r;have g2:=D1.out.good (Px.qbb s _ _ _ D1.out.tk hr);cases hr2:Px.block s (Px.stmt s n) st2 with
     | error p=>simp[qae,opS,exX,hr,oneX,hr2] at hr0
     | ok r2 =>
      obtain ⟨l2,st3⟩:=r2;simp[qae,opS,exX,hr,oneX,hr2] at hr0;rw[← hr0.2];exact g2.good (Px.qa0 (Px.qam s n) _ _ _ g2.tk hr2)
   exact D2.good (Px.qaf D2.tk ho0)
  rintro e w7 h4;obtain ⟨va,vn,vc,he⟩:∃ va vn vc,e=.returned (.slice va vn vc):=by obtain ⟨_,va,vn,vc,he,_⟩:=h4;exact ⟨va,vn,vc,he⟩
  subst he;have m5:=M6.out.two (Px.qam s n) hb (Nat.le_refl _) h4;obtain ⟨y,ve,a1,n1,c1,a2,n2,c2,hc,hcx⟩:=M6.out.cells;have hc3:=Kp.heap h4.1 hc (by omega)
  obtain ⟨d0,d1,d2,d3,d4,d5,d6,d7,d8,d9,d10,df⟩:=qaa hc3;have M7:Hid (_):=m5;clear hc hcx hc3 m5 h4;go_wp2_with fail;go_ret;rw[zh9,zsw HB.out];exact M7.out.post (Nat.le_refl _)
open Go.RowKit
theorem qk5 (b:Nat) (s:ByteArray) (n:Nat) (hst:qr3 b s n (Px.stmt s n)) (hs3:s.size≤300) (st:Px.Ps) (w:World) (hD:DomS s (n+1) st) (p:PenAt w b s st.t (-1) st.nest st.deep) (h0:Px.onB s st.t ⟨#[108,101,116]⟩=false) (h1:Px.onB s st.t ⟨#[99,97,108,108]⟩=false) (h2:Px.onB s st.t ⟨#[105,102]⟩=false) (ho:Px.onB s st.t ⟨#[116,114,121]⟩=true) :
  Calls Tryz.prog 125 #[.pointer (some ⟨b,0,none⟩)] w (qju b s w (Px.tryS s (Px.stmt s n) (Px.nx s st))):=by
 have hs:s.size≤maxLen:=by unfold maxLen;omega
 have hb:=p.lt;have HD:Hid (DomS s (n+1) st∧PenAt w b s st.t (-1) st.nest st.deep):=⟨hD,p⟩;have hN0:=hD.n0;have hN:st.nest+(s.size+1:Nat)≤1000000:=by have:=hD.n1;omega
 clear hD p;go_enter Tryz.func125,Tryz.ntmps125
 go_wp2_with fail;refine (qf1 b s _ st.t st.nest st.deep _ (HD.out.2.alloc _) h0).mono ?_;rintro e w' ⟨rfl,hw⟩;rw[← hw];clear hw;go_wp2_with fail;refine (qf1 b s _ st.t st.nest st.deep _ (HD.out.2.alloc _) h1).mono ?_;rintro e w' ⟨rfl,hw⟩;rw[← hw];clear hw;go_wp2_with fail;refine (qf1 b s _ st.t st.nest st.deep _ (HD.out.2.alloc _) h2).mono ?_;rintro e w' ⟨rfl,hw⟩;rw[← hw];clear hw;go_wp2_with fail;refine (qkt b s _ st.t st.nest st.deep _ (HD.out.2.alloc _) HD.out.1.tk.le hs ho).mono ?_;rintro e w1 ⟨rfl,p1,k1⟩;have m1:Mk b s w w.heap.size (.ok (Px.qa8,Px.nx s st)) st.nest w1:=Mk.start hb rfl k1 ⟨p1,Px.qnn HD.out.1.tk⟩
 have D1:Hid (DomS s (n+1) (Px.nx s st)):=HD.out.1.good (Px.qaf HD.out.1.tk ho);clear p1 k1;obtain ⟨y,ve,a1,n1,c1,a2,n2,c2,hc,hcx⟩:=m1.cells;obtain ⟨d0,d1,d2,d3,d4,d5,d6,d7,d8,d9,d10,df⟩:=qaa hc;have M2:Hid (Mk b s w w.heap.size (opS 116 (Px.nx s st)) st.nest (w1.setCell ⟨w.heap.size,0,none⟩ (.int .u8 116))):=m1.op 116 hb (Nat.le_refl _);clear hc hcx m1;go_wp2_with fail;clear d0 d1 d2 d3 d4 d5 d6 d7 d8 d9 d10 df;refine (qwt b s n _ hst (Px.qam s n) hs3 _ _ M2.out.pen ?hd).mono ?_
 case hd =>
  intro st1 h1;cases h1;exact D1.out
 rintro e w4 h4;obtain ⟨va,vn,vc,he⟩:∃ va vn vc,e=.returned (.slice va vn vc):=by obtain ⟨_,va,vn,vc,he,_⟩:=h4;exact ⟨va,vn,vc,he⟩
 subst he;have m5:=M2.out.one (Px.qam s n) hb (Nat.le_refl _) h4;obtain ⟨y,ve,a1,n1,c1,a2,n2,c2,hc,hcx⟩:=M2.out.cells;have hc3:=Kp.heap h4.1 hc (by omega)
 obtain ⟨d0,d1,d2,d3,d4,d5,d6,d7,d8,d9,d10,df⟩:=qaa hc3;have M3:Hid (_):=m5;clear hc hcx hc3 m5 h4;clear M2;go_wp2_with fail;clear d0 d1 d2 d3 d4 d5 d6 d7 d8 d9 d10 df;refine (qcb b s _ _ _ M3.out.pen hs).mono ?_;rintro e w5 ⟨rfl,k5,p5⟩;have M4:Hid (Mk b s w w.heap.size (qae (qae (opS 116 (Px.nx s st)) (oneX s (Px.stmt s n))) (qbd s ⟨#[101,108,115,101]⟩)) st.nest w5):=M3.out.need hb (Nat.le_refl _) k5 p5;clear k5 p5 M3;go_wp2_with fail;refine (qwt b s n _ hst (Px.qam s n) hs3 _ _ M4.out.pen ?hd).mono ?_
 case hd =>
  intro st1 h1;cases hr:Px.block s (Px.stmt s n) (Px.nx s st) with
  | error p=>simp[qae,opS,oneX,hr,Except.map] at h1
  | ok r =>
   obtain ⟨l2,st2⟩:=r;have g2:=D1.out.good (Px.qa0 (Px.qam s n) _ _ _ D1.out.tk hr);cases hr2:Px.need s ⟨#[101,108,115,101]⟩ st2 with
   | error p=>simp[qae,opS,oneX,hr,qbd,hr2,Except.map] at h1
   | ok st3 =>
    simp[qae,opS,oneX,hr,qbd,hr2,Except.map] at h1;rw[← h1];exact g2.good (Px.qav g2.tk hr2)
 rintro e w6 h4;obtain ⟨va,vn,vc,he⟩:∃ va vn vc,e=.returned (.slice va vn vc):=by obtain ⟨_,va,vn,vc,he,_⟩:=h4;exact ⟨va,vn,vc,he⟩
 subst he;have m5:=M4.out.two (Px.qam s n) hb (Nat.le_refl _) h4;obtain ⟨y,ve,a1,n1,c1,a2,n2,c2,hc,hcx⟩:=M4.out.cells;have hc3:=Kp.heap h4.1 hc (by omega)
 obtain ⟨d0,d1,d2,d3,d4,d5,d6,d7,d8,d9,d10,df⟩:=qaa hc3;have M5:Hid (_):=m5;clear hc hcx hc3 m5 h4;clear M4;go_wp2_with fail;go_ret;rw[qzb];exact M5.out.post (Nat.le_refl _)
theorem qkn (b:Nat) (s:ByteArray) (n:Nat) (hst:qr3 b s n (Px.stmt s n)) (hs3:s.size≤300) (st:Px.Ps) (w:World) (hD:DomS s (n+1) st) (p:PenAt w b s st.t (-1) st.nest st.deep) (h0:Px.onB s st.t ⟨#[108,101,116]⟩=false) (h1:Px.onB s st.t ⟨#[99,97,108,108]⟩=false) (h2:Px.onB s st.t ⟨#[105,102]⟩=false) (h3:Px.onB s st.t ⟨#[116,114,121]⟩=false) (ho:Px.onB s st.t ⟨#[114,101,112,101,97,116]⟩=true) :
  Calls Tryz.prog 125 #[.pointer (some ⟨b,0,none⟩)] w (qju b s w (Px.qbu s (Px.stmt s n) (Px.nx s st))):=by
 have hs:s.size≤maxLen:=by unfold maxLen;omega
 have hb:=p.lt;have HD:Hid (DomS s (n+1) st∧PenAt w b s st.t (-1) st.nest st.deep):=⟨hD,p⟩;have hN0:=hD.n0;have hN:st.nest+(s.size+1:Nat)≤1000000:=by have:=hD.n1;omega
 clear hD p;go_enter Tryz.func125,Tryz.ntmps125
 go_wp2_with fail;refine (qf1 b s _ st.t st.nest st.deep _ (HD.out.2.alloc _) h0).mono ?_;rintro e w' ⟨rfl,hw⟩;rw[← hw];clear hw;go_wp2_with fail;refine (qf1 b s _ st.t st.nest st.deep _ (HD.out.2.alloc _) h1).mono ?_;rintro e w' ⟨rfl,hw⟩;rw[← hw];clear hw;go_wp2_with fail;refine (qf1 b s _ st.t st.nest st.deep _ (HD.out.2.alloc _) h2).mono ?_;rintro e w' ⟨rfl,hw⟩;rw[← hw];clear hw;go_wp2_with fail;refine (qf1 b s _ st.t st.nest st.deep _ (HD.out.2.alloc _) h3).mono ?_;rintro e w' ⟨rfl,hw⟩;rw[← hw];clear hw;go_wp2_with fail;refine (qkt b s _ st.t st.nest st.deep _ (HD.out.2.alloc _) HD.out.1.tk.le hs ho).mono ?_
 rintro e w1 ⟨rfl,p1,k1⟩;have m1:Mk b s w w.heap.size (.ok (Px.qa8,Px.nx s st)) st.nest w1:=Mk.start hb rfl k1 ⟨p1,Px.qnn HD.out.1.tk⟩;have D1:Hid (DomS s (n+1) (Px.nx s st)):=HD.out.1.good (Px.qaf HD.out.1.tk ho);clear p1 k1;obtain ⟨y,ve,a1,n1,c1,a2,n2,c2,hc,hcx⟩:=m1.cells;obtain ⟨d0,d1,d2,d3,d4,d5,d6,d7,d8,d9,d10,df⟩:=qaa hc;have M2:Hid (Mk b s w w.heap.size (opS 114 (Px.nx s st)) st.nest (w1.setCell ⟨w.heap.size,0,none⟩ (.int .u8 114))):=m1.op 114 hb (Nat.le_refl _);clear hc hcx m1;go_wp2_with fail;clear d0 d1 d2 d3 d4 d5 d6 d7 d8 d9 d10 df;refine (qda b s 110 (.ok (Px.nx s st)) _ M2.out.pen hs).mono ?_
 rintro e w2 ⟨⟨kv,kx,rfl⟩,k2,p2⟩;have m3:=M2.out.kind hb (Nat.le_refl _) k2 p2;obtain ⟨y,ve,a1,n1,c1,a2,n2,c2,hc,hcx⟩:=m3.cells;obtain ⟨d0,d1,d2,d3,d4,d5,d6,d7,d8,d9,d10,df⟩:=qaa hc;have hq2:w.heap.size < w2.heap.size:=lt_of_cell d0;have V:Hid (_):=qlq (r:=.ok (Px.nx s st)) M2.out.pen;have M3:Hid (_):=m3;clear k2 p2 hc hcx m3 M2;go_wp2_with fail;refine (qot _ _ V.out.1 V.out.2).mono ?_;rintro e w' ⟨rfl,hw⟩;rw[hw];clear hw;go_wp2_with fail;have m4:Mk b s w w.heap.size (qi7 s (Px.nx s st)) st.nest _:=Mk.store (fun y=>{ y with n:=Px.valOf (qdm s (.ok (Px.nx s st)) 110).toList,nPl:=qf0 (.ok (Px.nx s st)) 110 }) (fun y=>⟨rfl,rfl,rfl⟩) M3.out
  (W:=((w2.setCell ⟨w.heap.size,7,none⟩ (.int .i64 (Px.valOf (qdm s (.ok (Px.nx s st)) 110).toList))).setCell ⟨w.heap.size,8,none⟩ (.int .i64 (qf0 (.ok (Px.nx s st)) 110))).alloc (.cells #[.int .u8 kv,.string (qdm s (.ok (Px.nx s st)) 110),.int .i64 (qf0 (.ok (Px.nx s st)) 110),.int .i64 kx] 209))
  (((M3.out.kp.setN (Nat.le_refl _) _).setN (Nat.le_refl _) _).alloc _) (by simp) (fun i hi hne=>by rw[Below.heap_alloc _ _ _ (by simpa [size_set] using hi),qag _ hne,qag _ hne])
  (fun y ve v1 v2 h=>by rw[Below.heap_alloc _ _ _ (by simpa [size_set] using hq2),heap_set _ (heap_set _ h)];simp[qay])
  ?pp ?rr
 case pp =>
  rw[← qxm];exact ((M3.out.pen.setN (by omega) _).setN (by omega) _).alloc _
 case rr =>
  intro x' st' hx;unfold qi7 Px.kind at hx;by_cases hk:(Px.nx s st).t.k=110
  ·rw[if_pos hk] at hx;cases hx;refine ⟨rfl,{ Px.qa8 with op:=114 },Px.nx s (Px.nx s st),?_,?_⟩
   ·simp[qae,qfy,Px.kind,hk,opS]
   ·simp[qdm,qf0,hk,Px.txt]
  ·rw[if_neg hk] at hx;cases hx
 have M4:Hid (_):=m4;clear m4 M3 d0 d1 d2 d3 d4 d5 d6 d7 d8 d9 d10 df;refine (qwt b s n _ hst (Px.qam s n) hs3 _ _ M4.out.pen ?hd).mono ?_
 case hd =>
  intro st1 h1;cases hr:Px.kind s 110 (Px.nx s st) with
  | error p=>simp[qi7,hr,Except.map] at h1
  | ok st2 =>
   simp[qi7,hr,Except.map] at h1;rw[← h1];exact D1.out.good (Px.qa6 D1.out.tk (by decide) (by decide) hr)
 rintro e w4 h4;obtain ⟨va,vn,vc,he⟩:∃ va vn vc,e=.returned (.slice va vn vc):=by obtain ⟨_,va,vn,vc,he,_⟩:=h4;exact ⟨va,vn,vc,he⟩
 subst he;have m5:=M4.out.one (Px.qam s n) hb (Nat.le_refl _) h4;obtain ⟨y,ve,a1,n1,c1,a2,n2,c2,hc,hcx⟩:=M4.out.cells;have hc3:=Kp.heap h4.1 hc (by omega)
 obtain ⟨d0,d1,d2,d3,d4,d5,d6,d7,d8,d9,d10,df⟩:=qaa hc3;have M5:Hid (_):=m5;clear hc hcx hc3 m5 h4;clear M4;go_wp2_with fail;go_ret;rw[qzz];exact M5.out.post (Nat.le_refl _)
open Go.RowKit
theorem zrs (b:Nat) (s:ByteArray) (hs3:s.size≤300) (n:Nat):qr3 b s n (Px.stmt s n):=by
 induction n with
 | zero=>intro st w hD p;have:=hD.room;omega
 | succ n ih =>
  intro st w hD p;rw[Px.stmt];cases h0:Px.onB s st.t ⟨#[108,101,116]⟩
  ·cases h1:Px.onB s st.t ⟨#[99,97,108,108]⟩
   ·cases h2:Px.onB s st.t ⟨#[105,102]⟩
    ·cases h3:Px.onB s st.t ⟨#[116,114,121]⟩
     ·cases h4:Px.onB s st.t ⟨#[114,101,112,101,97,116]⟩
      ·exact qiz b s n hs3 st w hD p h0 h1 h2 h3 h4
      ·exact qkn b s n ih hs3 st w hD p h0 h1 h2 h3 h4
     ·exact qk5 b s n ih hs3 st w hD p h0 h1 h2 h3
    ·exact qo7 b s n ih hs3 st w hD p h0 h1 h2
   ·exact qi0 b s n hs3 st w hD p h0 h1
  ·exact qk6 b s n hs3 st w hD p h0
open Go.RowKit
theorem qb1 {w:World} {k:Nat} {a b c d e f g h:Value} {t:TypeId} (hh:w.heap[k]?=some (.cells #[a,b,c,d,e,f,g,h] t)) :
  w.cell? ⟨k,0,none⟩=some a∧w.cell? ⟨k,1,none⟩=some b∧w.cell? ⟨k,2,none⟩=some c∧w.cell? ⟨k,3,none⟩=some d∧w.cell? ⟨k,4,none⟩=some e∧w.cell? ⟨k,5,none⟩=some f∧w.cell? ⟨k,6,none⟩=some g∧w.cell? ⟨k,7,none⟩=some h∧∀ o,w.frozen? ⟨k,o,none⟩=false:=by
 refine ⟨?_,?_,?_,?_,?_,?_,?_,?_,?_⟩<;>simp[World.cell?,World.frozen?,hh]
def zkf (s:ByteArray) (w:World) (e:Ending) (w':World):Prop :=
 Below w.heap.size w w'∧∃ a n c,∃ (x p:Nat),e=.returned (.tuple #[.slice a n c,.int .i64 (x:Int),.int .i64 (p:Int)]) ∧
  match Px.read s with
  | .error (c',p')=>x=c'∧p=p'∧a=none∧n=0∧c=0
  | .ok l=>x=0∧p=0∧∃ qs,SlAt w' (.slice a n c) qs (In w w')∧SmsAt w' l (In w w') qs
theorem zfu (s:ByteArray) (w:World) (h:300 < s.size) (hs:s.size≤maxLen) :
  Calls Tryz.prog 46 #[.string s] w (zkf s w):=by
 unfold maxLen at hs;have e1:Hid (Px.read s=.error (1,0)):=by unfold Hid;rw[Px.read,if_pos h]
 go_enter Tryz.func46,Tryz.ntmps46
 go_wp2_with fail;go_ret3
 refine ⟨Below.refl _ _,none,0,0,1,0,rfl,?_⟩;rw[e1.out];exact ⟨rfl,rfl,rfl,rfl,rfl⟩
theorem zcs (s:ByteArray) (w:World) (hs3:s.size≤300) :
  Calls Tryz.prog 46 #[.string s] w (zkf s w):=by
 obtain ⟨i0,hi,hz0,hz1,hz2⟩:=info_parts zh6;have hs:s.size≤maxLen:=by unfold maxLen;omega
 have hd:decide (300 < (s.size:Int))=false:=by simp;omega
 have er:Hid (Px.read s=match Px.stmts s (Px.stmt s (s.size+1)) (fun st=>st.t.k == 0) (s.size+1) [] ⟨Px.tok s 0,0,-1⟩ with
  | .error p=>.error (2,p)
  | .ok (l,st)=>if 0≤st.deep then .error (3,st.deep.toNat) else .ok l):=by
  unfold Hid;rw[Px.read,if_neg (by omega)]
  cases Px.stmts s (Px.stmt s (s.size+1)) (fun st=>st.t.k == 0) (s.size+1) [] ⟨Px.tok s 0,0,-1⟩<;>rfl
 have hst:=zrs w.heap.size s hs3 (s.size+1);have HG:Hid (_):=Px.qam s (s.size+1);generalize Px.stmt s (s.size+1)=g at *;go_enter Tryz.func46,Tryz.ntmps46
 go_wp2_with fail;refine (qn3 s 0 _ (Nat.zero_le _) hs).mono ?_;unfold qcl;rintro e w1 ⟨rfl,hbw⟩;have g1:w1.heap[w.heap.size]?=some (.cells #[.string s,.int .u8 0,.string ⟨#[]⟩,.int .i64 0,.int .i64 0,.int .i64 (-1),.int .i64 0,.int .i64 (-1)] 211):=by
  rw[hbw.block _ (by simp)]
  show (w.heap.push _)[w.heap.size]?=_
  rw[Array.getElem?_push,if_pos rfl]
 obtain ⟨c0,c1,c2,c3,c4,c5,c6,c7,f⟩:=qb1 g1;have hbz:w.heap.size < w1.heap.size:=lt_of_cell c0;have BW:Hid (Below w.heap.size w w1):=((Below.refl _ _).alloc (Nat.le_refl _) _).trans (hbw.mono (by simp))
 have G1:Hid (_):=g1;clear hbw g1;go_wp2_with fail;generalize hW:(((w1.setCell ⟨w.heap.size,1,none⟩ (.int .u8 ((Px.tok s 0).k:Int))).setCell ⟨w.heap.size,2,none⟩ (.string (s.extract (Px.tok s 0).a (Px.tok s 0).b))).setCell ⟨w.heap.size,3,none⟩ (.int .i64 ((Px.tok s 0).a:Int))).setCell ⟨w.heap.size,4,none⟩ (.int .i64 ((Px.tok s 0).b:Int))=W;have P0:Hid (PenAt W w.heap.size s (Px.tok s 0) (-1) 0 (-1)):=⟨by rw[← hW,heap_set _ (heap_set _ (heap_set _ (heap_set _ G1.out)))];simp⟩
 have BW2:Hid (Below w.heap.size w W):=by rw[← hW];exact (((BW.out.setCell (Nat.le_refl _) _).setCell (Nat.le_refl _) _).setCell (Nat.le_refl _) _).setCell (Nat.le_refl _) _
 have hbW:w.heap.size < W.heap.size:=P0.out.lt;have TK:Hid (Px.Tk s (Px.tok s 0)):=(Px.qfv s 0 (Nat.zero_le _)).1;clear hW c0 c1 c2 c3 c4 c5 c6 c7 f BW G1 hbz;generalize hR:Px.stmts s g (fun st=>st.t.k == 0) (s.size+1) [] ⟨Px.tok s 0,0,-1⟩=R at er
 have HRR:Hid (_):=hR;clear hR;generalize hBB:w.heap.size=B at *;have HBB:Hid (_):=hBB;clear hBB;go_loopw [6] (fun v wr=>Hid (zpo B s g (fun st=>st.t.k == 0) (DomS s (s.size+1)) R W wr v)) (fun _ wr=>penM s B wr)
 case atStart =>
  refine ⟨Kp.refl _ _,[],World.ownsRow_nil _ _ _ _,Or.inl ⟨[],⟨Px.tok s 0,0,-1⟩,s.size+1,SmsAt.qbl.2 rfl,by simp,P0.out,⟨TK.out,by simp;omega,by simp,by simp;omega⟩,HRR.out,by simp;omega⟩⟩
 case round =>
  obtain ⟨kr,qs,hown,hcase⟩:=hrel.out;clear hrel;obtain ⟨va,vn,vc,rfl⟩:=qpi hown;have KR:Hid (Kp B W wr∧wr.ownsRow W.heap.size 213 1 (.slice va vn vc) qs.length (qs.map ptr)):=⟨kr,hown⟩;clear kr hown;rcases hcase with ⟨l,st1,m,hl,hq,p1,hD1,hch,hm⟩ | ⟨pe,t,nest,deep,hRe,hq,p1⟩
  ·obtain ⟨m,rfl⟩:∃ m',m=m'+1:=⟨m - 1,by omega⟩
   obtain ⟨c0,c1,c2,c3,c4,c5,c6,c7,f,hbr⟩:=p1.cells;have L:Hid (_):=hl;have PP:Hid (_):=p1;have DD:Hid (_):=hD1;have CH:Hid (_):=hch;clear hl p1 hD1 hch;by_cases hk0:st1.t.k=0
   ·have t1:((st1.t.k:Int) != 0)=false:=by rw[hk0];rfl
    have hRok:Hid (R=.ok (l,st1)):=by unfold Hid;rw[← CH.out,Px.stmts,if_pos (by simp[hk0])]
    by_cases hdp:0≤st1.deep
    ·go_wp2_with fail;go_region
     go_wp2_with fail;go_ret3
     refine ⟨by rw[HBB.out];exact (BW2.out.trans (KR.out.1.qbg (Nat.le_refl _) (by omega))).drew,none,0,0,3,st1.deep.toNat,by rw[Int.toNat_of_nonneg hdp];rfl,?_⟩
     rw[er.out,hRok.out];simp only[if_pos hdp,and_self]
    ·go_wp2_with fail;go_ret3
     have z1:=KR.out.1.size;have z0:=BW2.out.size;refine ⟨by rw[HBB.out];exact (BW2.out.trans (KR.out.1.qbg (Nat.le_refl _) (by omega))),va,vn,vc,0,0,rfl,?_⟩
     rw[er.out,hRok.out];simp only[if_neg (show ¬ 0≤st1.deep by omega)]
     refine ⟨trivial,trivial,qs,?_,?_⟩
     ·refine zqa KR.out.2 fun k hk=>?_
      have:=KR.out.2.lt k hk
      exact ⟨by omega,by omega⟩
     ·exact L.out.mono fun k hk=>⟨by have:=hk.1.1;omega,hk.1.2⟩
   ·have t1:((st1.t.k:Int) != 0)=true:=by rw[bne_iff_ne];omega
    go_wp2_with fail;refine (hst st1 _ DD.out PP.out).mono ?_;rintro e w3 ⟨k3,q,rfl,h3⟩;have hown3:w3.ownsRow W.heap.size 213 1 (.slice va vn vc) qs.length (qs.map ptr):=qle KR.out.2 fun k hk=>k3.block k (KR.out.2.lt k hk).2 (by have:=(KR.out.2.lt k hk).1;omega)
    have hsz3:W.heap.size≤w3.heap.size:=by have:=k3.size;have:=KR.out.1.size;omega
    have hqb:qs.length≤300:=by have:=DD.out.tk.ab;have:=DD.out.tk.le;omega
    have H3:Hid (qju B s wr (g st1) (.returned (ptr q)) w3):=⟨k3,q,rfl,h3⟩;unfold ptr;clear k3 h3 c0 c1 c2 c3 c4 c5 c6 c7 f;go_wp2_with (first
     | (at_builtin;refine wpList_append_own_at _ rfl _ _ 71 rfl W.heap.size 213 i0 (.pointer none) 1 8 Tryz.underlying71 hi hz0 hz1 hz2 rfl (by decide) _ _ _ rfl (hown3.alloc _) ⟨w3.heap.size,0,none⟩ 1 1 [.pointer (some ⟨q,0,none⟩)] rfl rfl ?c1 ?c2 ?c3 ?c4 ?c5 ?_)
     | fail)
    case c1 =>
     intro j u hj;match j,hj with
     | 0,hj=>simp at hj;subst hj;simp[Addr.add]
    case c2=>intro u hu;simp at hu;subst hu;rfl
    case c3=>unfold maxLen;omega
    case c4=>omega
    case c5=>simp;omega
    ·intro v' w4 hown' hgrow _ hloc;obtain ⟨r1,r2⟩:=zhd hbW HG.out KR.out.1 KR.out.2 L.out hq DD.out hm (R:=R) (stop:=fun st=>st.t.k == 0) (by rw[← CH.out,Px.stmts,if_neg (by simp[hk0])];cases g st1<;>rfl) H3.out hown' hgrow hloc
     have RR:Hid (_∧_):=⟨r1,r2⟩;clear r1 r2 hown' hgrow hloc hown3;go_wp2;exact ⟨RR.out.1,by rw[qmn PP.out];exact RR.out.2⟩
  ·obtain ⟨c0,c1,c2,c3,c4,c5,c6,c7,f,hbr⟩:=p1.cells;have PP:Hid (R=.error pe∧PenAt wr B s t (pe:Int) nest deep):=⟨hRe,p1⟩;have hpe:(0:Int)≤pe:=by omega
   clear p1 hRe;go_wp2_with fail;go_region
   go_wp2_with fail;go_ret3
   refine ⟨by rw[HBB.out];exact (BW2.out.trans (KR.out.1.qbg (Nat.le_refl _) (by omega))).drew,none,0,0,2,pe,rfl,?_⟩
   rw[er.out,PP.out.1];exact ⟨rfl,rfl,rfl,rfl,rfl⟩
open Go.RowKit
def qbr (l:List (ByteArray×Nat)):List Value:=l.flatMap fun v=>[.string v.1,.int .u8 (v.2:Int)]
theorem quy (l:List (ByteArray×Nat)) (i:Nat) (h:i < l.length):(qbr l)[i * 2]?=some (.string l[i].1)∧(qbr l)[i * 2+1]?=some (.int .u8 (l[i].2:Int)):=by
 induction l generalizing i with
 | nil=>simp at h
 | cons v l ih =>
  cases i with
  | zero=>exact ⟨rfl,rfl⟩
  | succ i =>
   have:=ih i (by simpa using h)
   have e:(i+1) * 2=i * 2+2:=by omega
   rw[e];exact this
theorem qor {w:World} {base:Nat} {va:Option Addr} {vn vc:Nat} {l:List (ByteArray×Nat)} (h:w.ownsRow base 330 2 (.slice va vn vc) l.length (qbr l)) (i:Nat) (hi:i < l.length) :
  ∃ g,va=some ⟨g,0,none⟩∧base≤g∧vn=l.length∧w.cell? ⟨g,i * 2,none⟩=some (.string l[i].1)∧w.cell? ⟨g,i * 2+1,none⟩=some (.int .u8 (l[i].2:Int)):=by
 rcases h.2 with ⟨h1,h2⟩ | ⟨g,cap,cur,h1,h2,h3,h4,h5,h6,h7⟩
 ·omega
 ·cases h1;have hc:∀ j,j < l.length * 2→w.cell? ⟨g,j,none⟩=(qbr l)[j]?:=by
   intro j hj;rw[← h7,List.getElem?_take_of_lt hj];simp[World.cell?,h3]
  obtain ⟨e1,e2⟩:=quy l i hi;exact ⟨g,rfl,h2,rfl,by rw[hc _ (by omega)];exact e1,by rw[hc _ (by omega)];exact e2⟩
def qku (l:List (ByteArray×Nat)) (x:ByteArray):Int :=
 match Px.qa3 l x with
 | none=>-1
 | some i=>i
theorem qnw {w:World} {base:Nat} {va:Option Addr} {vn vc:Nat} {l:List (ByteArray×Nat)} (h:w.ownsRow base 330 2 (.slice va vn vc) l.length (qbr l)):vn=l.length∧l.length≤maxLen:=by
 rcases h.2 with ⟨h1,h2⟩ | ⟨g,cap,cur,h1,h2,h3,h4,h5,h6,h7⟩
 ·cases h1;exact ⟨h2.symm,by omega⟩
 ·cases h1;exact ⟨rfl,by omega⟩
theorem zik {l:List (ByteArray×Nat)} {x:ByteArray} {k:Nat} (hk:k < l.length) (h:(l[k].1.toList == x.toList)=false) (hv:Px.qa3 l x=(Px.qa3 (l.drop k) x).map (·+k)):Px.qa3 l x=(Px.qa3 (l.drop (k+1)) x).map (·+(k+1)):=by
 rw[hv,List.drop_eq_getElem_cons hk,Px.qa3,if_neg (by simp[h])]
 cases Px.qa3 (l.drop (k+1)) x with
 | none=>rfl
 | some i=>simp;omega
theorem zol {l:List (ByteArray×Nat)} {x:ByteArray} {k:Nat} (hk:k < l.length) (h:(l[k].1.toList == x.toList)=true) (hv:Px.qa3 l x=(Px.qa3 (l.drop k) x).map (·+k)):Px.qa3 l x=some k:=by
 rw[hv,List.drop_eq_getElem_cons hk,Px.qa3,if_pos h];simp
theorem qie (l:List (ByteArray×Nat)) (x:ByteArray) (w:World) (base:Nat) (va:Option Addr) (vn vc:Nat) (h:w.ownsRow base 330 2 (.slice va vn vc) l.length (qbr l)) :
  Calls Tryz.prog 204 #[.slice va vn vc,.string x] w fun e w'=>e=.returned (.int .i64 (qku l x))∧w=w':=by
 obtain ⟨rfl,hml⟩:=qnw h;unfold maxLen at hml;have H:Hid (_):=h;clear h;go_enter Tryz.func204,Tryz.ntmps204
 go_wp2_with fail;go_loop [5] (fun i=>∃ k:Nat,k≤l.length∧i=.int .i64 k∧Hid (Px.qa3 l x=(Px.qa3 (l.drop k) x).map (·+k))) (fun i=>l.length - (intOf i).toNat)
 case atStart=>exact ⟨0,by omega,rfl,by simp[Hid]⟩
 case round =>
  obtain ⟨k,hk,rfl,hv⟩:=hrel;by_cases hlt:k < l.length
  ·obtain ⟨g,rfl,hg,_,hc,hc'⟩:=qor H.out k hlt;cases hb:(l[k].1.toList == x.toList)
   ·go_wp2_with fail;exact ⟨⟨k+1,by omega,by go_num,zik hlt hb hv.out⟩,by simp[intOf];omega⟩
   ·go_wp2_with fail;go_ret;exact ⟨qsr (by rw[qku,zol hlt hb hv.out]),rfl⟩
  ·go_wp2_with fail;go_ret;exact ⟨qsr (by rw[qku,hv.out,List.drop_of_length_le (by omega)];rfl),rfl⟩
theorem qdc (k z:Nat) (w:World) :
  Calls Tryz.prog 168 #[.int .u8 (k:Int),.int .u8 (z:Int)] w fun e w'=>e=.returned (.bool (Px.isK k z))∧w=w':=by
 have e1:Hid (Px.isK k z=(((k:Int) == z) || ((k:Int) == 63))):=by
  unfold Hid Px.isK;rw[Bool.eq_iff_iff];simp;omega
 cases h1:((k:Int) == z)
 all_goals
  go_enter Tryz.func168,Tryz.ntmps168
  go_wp2_with fail;go_ret;exact ⟨qcv (by rw[e1.out,h1];simp),rfl⟩
structure LkAt (w:World) (c:Nat) (k:Px.Lk):Prop where
 ex:∃ va vn vc,w.heap[c]?=some (.cells #[.slice va vn vc,.int .i64 (k.e:Int),.int .i64 (k.pl:Int)] 140)∧w.ownsRow (c+1) 330 2 (.slice va vn vc) k.vars.length (qbr k.vars)
theorem cells3 {w:World} {k:Nat} {a b c:Value} {t:TypeId} (hh:w.heap[k]?=some (.cells #[a,b,c] t)) :
  w.cell? ⟨k,0,none⟩=some a∧w.cell? ⟨k,1,none⟩=some b∧w.cell? ⟨k,2,none⟩=some c∧∀ o,w.frozen? ⟨k,o,none⟩=false:=by
 refine ⟨?_,?_,?_,?_⟩<;>simp[World.cell?,World.frozen?,hh]
theorem qxv {w:World} {c o:Nat} {u:Value} {e:TypeId} {size:Nat} {v:Value} {n:Nat} {xs:List Value} (h:w.ownsRow (c+1) e size v n xs):(w.setCell ⟨c,o,none⟩ u).ownsRow (c+1) e size v n xs :=
 ownsRow_setCell_below h (Nat.lt_succ_self _) u
theorem qqh {c o:Nat} {a w:World} (h:Below c a w) (u:Value):Below c a (w.setCell ⟨c,o,none⟩ u):=h.setCell (p:=⟨c,o,none⟩) (Nat.le_refl _) u
theorem qad {w:World} {base:Nat} {e:TypeId} {size:Nat} {v:Value} {n:Nat} {xs:List Value} (h:w.ownsRow base e size v n xs):∃ a k c,v=.slice a k c:=by
 rcases h.2 with ⟨h1,_⟩ | ⟨g,cap,cur,h1,_⟩
 ·exact ⟨_,_,_,h1⟩
 ·exact ⟨_,_,_,h1⟩
theorem qsf (l:List (ByteArray×Nat)) (x:ByteArray) (z:Nat):qbr (l++[(x,z)])=qbr l++[.string x,.int .u8 (z:Int)]:=by simp[qbr]
theorem qey (c e p:Nat) (k:Px.Lk) (w:World) (h:LkAt w c k) :
  Calls Tryz.prog 169 #[.pointer (some ⟨c,0,none⟩),.int .i64 (e:Int),.int .i64 (p:Int)] w fun e' w'=>e'=.returned (.tuple #[])∧LkAt w' c (Px.say e p k)∧Below c w w':=by
 obtain ⟨va,vn,vc,h1,h2⟩:=h.ex;obtain ⟨c0,c1,c2,f⟩:=cells3 h1;have yes:Px.say e p k=⟨k.vars,e,p⟩→LkAt ((w.setCell ⟨c,1,none⟩ (.int .i64 (e:Int))).setCell ⟨c,2,none⟩ (.int .i64 (p:Int))) c (Px.say e p k)∧Below c w ((w.setCell ⟨c,1,none⟩ (.int .i64 (e:Int))).setCell ⟨c,2,none⟩ (.int .i64 (p:Int))):=by
  intro hs;rw[hs];exact ⟨⟨va,vn,vc,by rw[heap_set _ (heap_set _ h1)];simp,qxv (qxv h2)⟩,qqh (qqh (Below.refl _ _) _) _⟩
 have no:Px.say e p k=k→LkAt w c (Px.say e p k)∧Below c w w:=by
  intro hs;rw[hs];exact ⟨⟨va,vn,vc,h1,h2⟩,Below.refl _ _⟩
 have YES:Hid (_):=yes;have NO:Hid (_):=no;clear yes no h h1 h2;by_cases g0:k.e=0
 ·have t0:((k.e:Int) == 0)=true:=by rw[g0];rfl
  go_enter Tryz.func169,Tryz.ntmps169
  go_wp2_with fail;go_end0
  exact ⟨rfl,YES.out (by unfold Px.say;rw[if_pos (Or.inl g0)])⟩
 ·have t0:((k.e:Int) == 0)=false:=by rw[beq_eq_false_iff_ne];omega
  by_cases g1:p < k.pl
  ·have t1:(p:Int) < k.pl:=by omega
   go_enter Tryz.func169,Tryz.ntmps169
   go_wp2_with fail;go_end0
   exact ⟨rfl,YES.out (by unfold Px.say;rw[if_pos (Or.inr (Or.inl g1))])⟩
  ·have t1:¬ (p:Int) < k.pl:=by omega
   by_cases g2:p=k.pl
   ·have t2:((p:Int) == k.pl)=true:=by rw[beq_iff_eq];omega
    have G2:Hid (_):=g2;clear g2;by_cases g3:e < k.e
    ·have t3:(e:Int) < k.e:=by omega
     go_enter Tryz.func169,Tryz.ntmps169
     go_wp2_with fail;go_end0
     exact ⟨rfl,YES.out (by unfold Px.say;rw[if_pos (Or.inr (Or.inr ⟨G2.out,g3⟩))])⟩
    ·have t3:¬ (e:Int) < k.e:=by omega
     go_enter Tryz.func169,Tryz.ntmps169
     go_wp2_with fail;go_end0
     exact ⟨rfl,NO.out (by unfold Px.say;rw[if_neg (by omega)])⟩
   ·have t2:((p:Int) == k.pl)=false:=by rw[beq_eq_false_iff_ne];omega
    go_enter Tryz.func169,Tryz.ntmps169
    go_wp2_with fail;go_end0
    exact ⟨rfl,NO.out (by unfold Px.say;rw[if_neg (by omega)])⟩
theorem zt2:(Tryz.prog.info? 330).map (fun i=>(i.zero,i.size,i.bytes))=some (some (.agg #[.string ⟨#[]⟩,.int .u8 0]),2,24):=by kernel_rfl
theorem qds {l:List (ByteArray×Nat)} {x:ByteArray} {i:Nat} (h:Px.qa3 l x=some i):i < l.length:=by
 induction l generalizing i with
 | nil=>cases h
 | cons v l ih =>
  rw[Px.qa3] at h;split at h
  ·cases h;simp
  ·cases hf:Px.qa3 l x with
   | none=>rw[hf] at h;cases h
   | some j=>rw[hf] at h;cases h;have:=ih hf;simp;omega
theorem qlx (c:Nat) (x:ByteArray) (p z:Nat) (k:Px.Lk) (w:World) (h:LkAt w c k) (hv:k.vars.length≤1000000) :
  Calls Tryz.prog 167 #[.pointer (some ⟨c,0,none⟩),.string x,.int .i64 (p:Int),.int .u8 (z:Int)] w fun e' w'=>e'=.returned (.tuple #[])∧LkAt w' c (Px.qc7 x p z k)∧Below c w w':=by
 obtain ⟨va,vn,vc,h1,h2⟩:=h.ex;obtain ⟨c0,c1,c2,f⟩:=cells3 h1;obtain ⟨rfl,_⟩:=qnw h2;have hcz:c < w.heap.size:=lt_of_cell c0;have H:Hid (_∧_):=⟨h1,h2⟩;have HL:Hid (_):=h;clear h1 h2 h;cases hf:Px.qa3 k.vars x with
 | none =>
  obtain ⟨i0,hi,hz0,hz1,hz2⟩:=info_parts zt2;have e1:Hid (Px.qc7 x p z k=⟨k.vars++[(x,z)],k.e,k.pl⟩):=by unfold Hid Px.qc7;rw[hf]
  have e2:Hid (qku k.vars x=-1):=by unfold Hid qku;rw[hf]
  clear hf;go_enter Tryz.func167,Tryz.ntmps167
  go_wp2_with fail;refine (qie k.vars x _ _ _ _ _ H.out.2).mono ?_;rintro e w' ⟨rfl,rfl⟩;rw[e2.out];go_wp2_with (first
   | (at_builtin;refine wpList_append_own_at _ rfl _ _ 72 rfl (c+1) 330 i0 (.agg #[.string ⟨#[]⟩,.int .u8 0]) 2 24 Tryz.underlying72 hi hz0 hz1 hz2 rfl (by decide) _ _ _ rfl (H.out.2.alloc _) ⟨w.heap.size,0,none⟩ 1 1 [.string x,.int .u8 (z:Int)] rfl rfl ?c1 ?c2 ?c3 ?c4 ?c5 ?_)
   | fail)
  case c1 =>
   intro j u hj;match j,hj with
   | 0,hj=>simp at hj;subst hj;simp[Addr.add]
   | 1,hj=>simp at hj;subst hj;simp[Addr.add]
  case c2=>intro u hu;simp at hu;rcases hu with rfl | rfl<;>rfl
  case c3=>unfold maxLen;omega
  case c4=>omega
  case c5=>simp;omega
  ·intro v' w3 hown' hgrow _ hloc;obtain ⟨va',vn',vc',rfl⟩:=qad hown';have hob:∀ i,(Value.slice va k.vars.length vc).ownBlock=some i→c+1≤i:=fun i hi=>(H.out.2.lt i hi).1
   have h3:w3.heap[c]?=some (.cells #[.slice va k.vars.length vc,.int .i64 (k.e:Int),.int .i64 (k.pl:Int)] 140):=by
    rw[hgrow.block c (by simp;omega) (fun e=>by have:=hob c e.symm;omega),Below.heap_alloc _ _ _ hcz];exact H.out.1
   obtain ⟨d0,d1,d2,df⟩:=cells3 h3;have hb3:Below c w w3:=((Below.refl _ _).alloc (by omega) _).grown hgrow (by simp;omega) (fun i hi=>by have:=hob i hi;omega)
   have H3:Hid (_∧_∧_):=⟨hown',h3,hb3⟩;clear hown' hgrow hloc h3 hb3 hob;go_wp2_with fail;refine bodyPost_ret (results_none rfl _ _ _) rfl ?_;rw[e1.out];refine ⟨rfl,⟨va',vn',vc',by rw[heap_set _ H3.out.2.1];simp,?_⟩,qqh H3.out.2.2 _⟩
   have:=qxv (c:=c) (o:=0) (u:=.slice va' vn' vc') H3.out.1
   rw[qsf]
   simpa using this
 | some i =>
  have hlt:=qds hf;obtain ⟨g,rfl,hg,_,hc,hc'⟩:=qor H.out.2 i hlt;have e2:Hid (qku k.vars x=(i:Int)):=by unfold Hid qku;rw[hf]
  have e3:Px.qcn k.vars i=k.vars[i].2:=by simp[Px.qcn,hlt]
  have e1:Hid (Px.qc7 x p z k=if Px.qft k.vars[i].2 z then Px.say 6 p k else k):=by unfold Hid Px.qc7;rw[hf];simp only[e3]
  have e4:Hid (Px.qft k.vars[i].2 z=(((k.vars[i].2:Int) != z) && ((k.vars[i].2:Int) != 63) && ((z:Int) != 63))):=by
   unfold Hid Px.qft;rw[Bool.eq_iff_iff];simp;omega
  have E3:Hid (_):=e3;clear hf e3;generalize hkz:k.vars[i].2=kz at *;clear hkz;cases g1:((kz:Int) != z)
  ·go_enter Tryz.func167,Tryz.ntmps167
   go_wp2_with fail;refine (qie k.vars x _ _ _ _ _ H.out.2).mono ?_;rintro e w' ⟨rfl,rfl⟩;rw[e2.out];go_wp2_with fail;go_end0
   rw[e1.out,e4.out,g1];exact ⟨rfl,HL.out,Below.refl _ _⟩
  ·cases g2:((kz:Int) != 63)
   ·go_enter Tryz.func167,Tryz.ntmps167
    go_wp2_with fail;refine (qie k.vars x _ _ _ _ _ H.out.2).mono ?_;rintro e w' ⟨rfl,rfl⟩;rw[e2.out];go_wp2_with fail;go_end0
    rw[e1.out,e4.out,g1,g2];exact ⟨rfl,HL.out,Below.refl _ _⟩
   ·cases g3:((z:Int) != 63)
    ·go_enter Tryz.func167,Tryz.ntmps167
     go_wp2_with fail;refine (qie k.vars x _ _ _ _ _ H.out.2).mono ?_;rintro e w' ⟨rfl,rfl⟩;rw[e2.out];go_wp2_with fail;go_end0
     rw[e1.out,e4.out,g1,g2,g3];exact ⟨rfl,HL.out,Below.refl _ _⟩
    ·go_enter Tryz.func167,Tryz.ntmps167
     go_wp2_with fail;refine (qie k.vars x _ _ _ _ _ H.out.2).mono ?_;rintro e w' ⟨rfl,rfl⟩;rw[e2.out];go_wp2_with fail;refine (qey c 6 p k _ HL.out).mono ?_;rintro e w1 ⟨rfl,l1,b1⟩;have L1:Hid (_∧_):=⟨l1,b1⟩;clear l1 b1;go_wp2_with fail;go_end0
     rw[e1.out,e4.out,g1,g2,g3];exact ⟨rfl,L1.out⟩
end Ref
end Go.Proofs.YtagpnplggopoeaaGreatDoor
