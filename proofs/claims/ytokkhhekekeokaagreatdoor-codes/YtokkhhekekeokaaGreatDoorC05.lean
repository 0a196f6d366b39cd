import Derived.Test.YtokkhhekekeokaaGreatDoorC04
import Derived.Deep.DeepCutAuto
set_option maxRecDepth 100000
set_option maxHeartbeats 4000000
namespace Go.Proofs.YtokkhhekekeokaaGreatDoor
open Go.RowKit Tryz
namespace Ref
open Px
variable {w w0 w1:fu}{b base k n o q size vc vn:Nat}{a c d f h v:fC}{e t:TypeId}
theorem kG {b e g i j l:fC}(hh:w.heap[k]?=some (.cells #[a,b,c,d,e,f,g,h,i,j,l] t)) :
  w.cell? ⟨k,0,none⟩=some a/\w.cell? ⟨k,1,none⟩=some b/\w.cell? ⟨k,2,none⟩=some c/\w.cell? ⟨k,3,none⟩=some d/\w.cell? ⟨k,4,none⟩=some e/\w.cell? ⟨k,5,none⟩=some f/\w.cell? ⟨k,6,none⟩=some g/\w.cell? ⟨k,7,none⟩=some h/\w.cell? ⟨k,8,none⟩=some i/\w.cell? ⟨k,9,none⟩=some j/\w.cell? ⟨k,10,none⟩=some l/\∀ o,w.frozen? ⟨k,o,none⟩=false:=by
 refine ⟨?_,?_,?_,?_,?_,?_,?_,?_,?_,?_,?_,?_⟩<;>simp[World.cell?,World.frozen?,hh]
structure Mk (b:Nat)(s:fq)(w0:fu)(q:Nat)(R:Except Nat (Sm×Px.Ps))(N:Int)(w:fu):Prop where
 kp:Kp b w0 w
 cells:∃ (y:Sm) (ve:Option Addr) (a1:Option Addr) (n1 c1:Nat) (a2:Option Addr) (n2 c2:Nat),w.heap[q]?=some (.cells (oI y (.pointer ve) (.slice a1 n1 c1) (.slice a2 n2 c2)) 250) /\
  ∀ x st,R=.ok (x,st)->y=x/\st.fF=N/\(∃ q1 q2,wW w x.ex (fun k=>In w0 w k/\k≠q) (.pointer ve)/\iq w (.slice a1 n1 c1) q1 (fun k=>In w0 w k/\k≠q)/\fV w x.one (fun k=>In w0 w k/\k≠q) q1/\iq w (.slice a2 n2 c2) q2 (fun k=>In w0 w k/\k≠q)/\fV w x.two (fun k=>In w0 w k/\k≠q) q2)
 pen:jF w b s (R.map Prod.snd)
variable {s x z:fq}{R R':Except Nat (Sm×Px.Ps)}{N:Int}
theorem Mk.on (h:Mk b s w0 q R N w)(hb:b < w0.heap.size)(hq:w0.heap.size<=q)(k:Kp b w w1)(hp:jF w1 b s (R'.map Prod.snd))(hR:∀ x st',R'=.ok (x,st')->st'.fF=N/\∃ st,R=.ok (x,st)):Mk b s w0 q R' N w1:=by
 obtain ⟨y,ve,a1,n1,c1,a2,n2,c2,h1,h2⟩:=h.cells;refine ⟨h.kp.trans k,⟨y,ve,a1,n1,c1,a2,n2,c2,Kp.heap k h1 (by omega),fun x st' hx=>?_⟩,hp⟩
 obtain ⟨hn,st,hs⟩:=hR x st' hx;obtain ⟨e1,e2,q1,q2,e3,e4,e5,e6,e7⟩:=h2 x st hs;have z:=k.size;have hk:∀ i,In w0 w i/\i≠q->w1.heap[i]?=w.heap[i]?:=fun i hi=>k.block i hi.1.2 (by have:=hi.1.1;omega)
 have hm:∀ i,In w0 w i/\i≠q->In w0 w1 i/\i≠q:=fun i hi=>⟨⟨hi.1.1,by have:=hi.1.2;omega⟩,hi.2⟩
 exact ⟨e1,hn,q1,q2,(e3.keep hk).mono hm,(e4.keep hk).mono hm,(e5.keep hk).mono hm,(e6.keep hk).mono hm,(e7.keep hk).mono hm⟩
theorem Mk.store {W:fu}(φ:Sm->Sm)(hφ:∀ y,(φ y).ex=y.ex/\(φ y).one=y.one/\(φ y).two=y.two)(h:Mk b s w0 q R N w)(k:Kp b w0 W)(hz:w.heap.size<=W.heap.size)(hO:∀ i,i < w.heap.size->i≠q->W.heap[i]?=w.heap[i]?)(hQ:∀ y ve v1 v2,w.heap[q]?=some (.cells (oI y ve v1 v2) 250)->W.heap[q]?=some (.cells (oI (φ y) ve v1 v2) 250))(hp:jF W b s (R'.map Prod.snd))(hR:∀ x' st',R'=.ok (x',st')->st'.fF=N/\∃ x st,R=.ok (x,st)/\x'=φ x):Mk b s w0 q R' N W:=by
 obtain ⟨y,ve,a1,n1,c1,a2,n2,c2,h1,h2⟩:=h.cells;refine ⟨k,⟨φ y,ve,a1,n1,c1,a2,n2,c2,hQ _ _ _ _ h1,fun x' st' hx=>?_⟩,hp⟩
 obtain ⟨hn,x,st,hs,rfl⟩:=hR x' st' hx;obtain ⟨e1,e2,q1,q2,e3,e4,e5,e6,e7⟩:=h2 x st hs;obtain ⟨f1,f2,f3⟩:=hφ x;have hk:∀ i,In w0 w i/\i≠q->W.heap[i]?=w.heap[i]?:=fun i hi=>hO i hi.1.2 hi.2
 have hm:∀ i,In w0 w i/\i≠q->In w0 W i/\i≠q:=fun i hi=>⟨⟨hi.1.1,by have:=hi.1.2;omega⟩,hi.2⟩
 subst e1;rw[f1,f2,f3];exact ⟨rfl,hn,q1,q2,(e3.keep hk).mono hm,(e4.keep hk).mono hm,(e5.keep hk).mono hm,(e6.keep hk).mono hm,(e7.keep hk).mono hm⟩
def gD (R:Except Nat (Sm×Px.Ps))(f:Sm->Px.Ps->Except Nat (Sm×Px.Ps)):Except Nat (Sm×Px.Ps) :=
 match R with
 | .ok (x,st)=>f x st
 | .error p=>.error p
def qo (s:fq)(st:Px.Ps):Except Nat (Sm×Px.Ps) :=
 match Px.kind s 119 st with
 | .ok st1=>.ok ({ jk with op:=99,fD:=Px.txt s st.t,pl:=st.t.a,n:=1 },st1)
 | .error p=>.error p
def jI (s x:fq)(y:Sm)(st:Px.Ps):Except Nat (Sm×Px.Ps) :=
 match Px.need s x st with
 | .ok st1=>.ok (y,st1)
 | .error p=>.error p
theorem LV (s:fq)(st:Px.Ps):Px.call s st=gD (gD (gD (gD (gD (gD (gD (qo s st) (jI s ⟨#[40]⟩)) (lJ s)) (jI s ⟨#[41]⟩)) (lg s)) (lY s)) (nC s)) (jI s ⟨#[59]⟩):=by
 unfold Px.call qo;cases Px.kind s 119 st with
 | error p=>rfl
 | ok st1 =>
  simp only[gD,jI];cases Px.need s ⟨#[40]⟩ st1 with
  | error p=>rfl
  | ok st2 =>
   simp only;cases lJ s { jk with op:=99,fD:=Px.txt s st.t,pl:=st.t.a,n:=1 } st2 with
   | error p=>rfl
   | ok r =>
    obtain ⟨x3,gV⟩:=r;simp only;cases Px.need s ⟨#[41]⟩ gV with
    | error p=>rfl
    | ok jL =>
     simp only;cases lg s x3 jL with
     | error p=>rfl
     | ok r =>
      obtain ⟨x5,kT⟩:=r;simp only;cases lY s x5 kT with
      | error p=>rfl
      | ok r =>
       obtain ⟨x6,mF⟩:=r;simp only;cases nC s x6 mF with
       | error p=>rfl
       | ok r =>
        obtain ⟨x7,pz⟩:=r;simp only;cases Px.need s ⟨#[59]⟩ pz<;>rfl
def qD (s:fq)(k:Nat)(y:Sm)(st:Px.Ps):Except Nat (Sm×Px.Ps) :=
 match Px.kind s k st with
 | .ok st1=>.ok (y,st1)
 | .error p=>.error p
def jJ (s x:fq)(y:Sm)(st:Px.Ps):Except Nat (Sm×Px.Ps):=.ok (y,if gy s st.t x then Px.nx s st else st)
theorem A5 (h:jF w b s ((R.map Prod.snd).bind (Px.kind s k))):jF w b s ((gD R (qD s k)).map Prod.snd):=by
 cases R with
 | error p=>exact h
 | ok r =>
  obtain ⟨x,st⟩:=r;have h':jF w b s (Px.kind s k st):=h;unfold gD qD;simp only;cases hk:Px.kind s k st<;>rw[hk] at h'<;>exact h'
theorem A6 (h:jF w b s ((R.map Prod.snd).bind (Px.need s x))):jF w b s ((gD R (jI s x)).map Prod.snd):=by
 cases R with
 | error p=>exact h
 | ok r =>
  obtain ⟨y,st⟩:=r;have h':jF w b s (Px.need s x st):=h;unfold gD jI;simp only;cases hk:Px.need s x st<;>rw[hk] at h'<;>exact h'
theorem A7 (h:jF w b s (xX s (R.map Prod.snd) x)):jF w b s ((gD R (jJ s x)).map Prod.snd):=by
 cases R with
 | error p=>exact h
 | ok r =>
  obtain ⟨y,st⟩:=r;have h':jF w b s (if gy s st.t x then .ok (Px.nx s st) else .ok st):=h
  unfold gD jJ;simp only;cases hk:gy s st.t x<;>simp[hk] at h'<;>exact h'
variable {st st':Px.Ps}
theorem Be {x:Sm}(h:gD R (qD s k)=.ok (x,st')):∃ st,R=.ok (x,st)/\st.t.k=k/\st'=Px.nx s st:=by
 cases R with
 | error p=>cases h
 | ok r =>
  obtain ⟨y,st⟩:=r;unfold gD qD Px.kind at h;simp only at h;by_cases hk:st.t.k=k
  ·rw[if_pos hk] at h;cases h;exact ⟨st,rfl,hk,rfl⟩
  ·rw[if_neg hk] at h;cases h
theorem Bi {x:Sm}(h:gD R (jI s z)=.ok (x,st')):∃ st,R=.ok (x,st)/\gy s st.t z=true/\st'=Px.nx s st:=by
 cases R with
 | error p=>cases h
 | ok r =>
  obtain ⟨y,st⟩:=r;unfold gD jI Px.need at h;simp only at h;by_cases hk:gy s st.t z=true
  ·rw[if_pos hk] at h;cases h;exact ⟨st,rfl,hk,rfl⟩
  ·rw[if_neg hk] at h;cases h
theorem Bk {x:Sm}(h:gD R (jJ s z)=.ok (x,st')):∃ st,R=.ok (x,st)/\st'=if gy s st.t z then Px.nx s st else st:=by
 cases R with
 | error p=>cases h
 | ok r =>
  obtain ⟨y,st⟩:=r;unfold gD jJ at h;simp only at h;cases h;exact ⟨st,rfl,rfl⟩
theorem Mk.fF {b:Nat}{s:fq}{w0 w:fu}{q:Nat}{R:Except Nat (Sm×Px.Ps)}{N:Int}(h:Mk b s w0 q R N w){x:Sm}{st:Px.Ps}(e:R=.ok (x,st)):st.fF=N:=by
 obtain ⟨y,ve,a1,n1,c1,a2,n2,c2,h1,h2⟩:=h.cells;exact (h2 x st e).2.1
theorem Mk.tk (h:Mk b s w0 q R N w){x:Sm}(e:R=.ok (x,st)):Tk s st.t:=by
 have:=h.pen
 rw[e] at this;exact this.2
theorem Mk.need {b:Nat}{s z:fq}{w0 w w1:fu}{q:Nat}{R:Except Nat (Sm×Px.Ps)}{N:Int}(h:Mk b s w0 q R N w)(hb:b < w0.heap.size)(hq:w0.heap.size<=q)(k:Kp b w w1)(hp:jF w1 b s ((R.map Prod.snd).bind (Px.need s z))):Mk b s w0 q (gD R (jI s z)) N w1 :=
 h.on hb hq k (A6 hp) fun x st' hx=>by
  obtain ⟨st,h1,h2,rfl⟩:=Bi hx;exact ⟨(h.fF h1:st.fF=N),st,h1⟩
theorem Mk.kind {b:Nat}{s:fq}{z:Nat}{w0 w w1:fu}{q:Nat}{R:Except Nat (Sm×Px.Ps)}{N:Int}(h:Mk b s w0 q R N w)(hb:b < w0.heap.size)(hq:w0.heap.size<=q)(k:Kp b w w1)(hp:jF w1 b s ((R.map Prod.snd).bind (Px.kind s z))):Mk b s w0 q (gD R (qD s z)) N w1 :=
 h.on hb hq k (A5 hp) fun x st' hx=>by
  obtain ⟨st,h1,h2,rfl⟩:=Be hx;exact ⟨(h.fF h1:st.fF=N),st,h1⟩
theorem Mk.got (h:Mk b s w0 q R N w)(hb:b < w0.heap.size)(hq:w0.heap.size<=q)(k:Kp b w w1)(hp:jF w1 b s (xX s (R.map Prod.snd) z)):Mk b s w0 q (gD R (jJ s z)) N w1 :=
 h.on hb hq k (A7 hp) fun x st' hx=>by
  obtain ⟨st,h1,rfl⟩:=Bk hx;refine ⟨?_,st,h1⟩;split
  ·exact (h.fF h1:st.fF=N)
  ·exact h.fF h1
def sZ (s:fq)(y:Sm)(st:Px.Ps):Except Nat (Sm×Px.Ps) :=
 match jN s st with
 | .ok (e,st')=>.ok ({ y with ex:=some e },st')
 | .error p=>.error p
theorem Mk.expr {q1:Nat}(h:Mk b s w0 q R N w)(hb:b < w0.heap.size)(hq:w0.heap.size<=q)(hp:mQ b s w ((R.map Prod.snd).bind (jN s)) (.returned (.pointer (some ⟨q1,0,none⟩))) w1):Mk b s w0 q (gD R (sZ s)) N (w1.setCell ⟨q,3,none⟩ (.pointer (some ⟨q1,0,none⟩))):=by
 obtain ⟨k,q1',he,h3⟩:=hp;obtain rfl:q1=q1':=by simpa using he
 obtain ⟨y,ve,a1,n1,c1,a2,n2,c2,h1,h2⟩:=h.cells;have Fe:q < w.heap.size:=(aG.1 h1).1;have z:=k.size;have hc:(w1.setCell ⟨q,3,none⟩ (.pointer (some ⟨q1,0,none⟩))).heap[q]?=some (.cells (oI y (.pointer (some ⟨q1,0,none⟩)) (.slice a1 n1 c1) (.slice a2 n2 c2)) 250):=by
  rw[heap_set _ (Kp.heap k h1 (by omega))];simp[oI]
 have hkp:Kp b w0 (w1.setCell ⟨q,3,none⟩ (.pointer (some ⟨q1,0,none⟩))):=(h.kp.trans k).gI hq _;have hbq:b≠q:=by omega
 cases R with
 | error p =>
  exact ⟨hkp,⟨y,_,a1,n1,c1,a2,n2,c2,hc,fun x st hx=>by cases hx⟩,jF.gI (r:=.error p) h3.2.2 hbq _⟩
 | ok r =>
  obtain ⟨x,st⟩:=r;obtain ⟨e1,e2,r1,r2,e3,e4,e5,e6,e7⟩:=h2 x st rfl;subst e1;have h3':match jN s st with
   | .ok (x,st)=>ig w1 x (In w w1) q1/\fQ w1 b s st.t (-1) st.fF st.fH
   | .error p=>w.heap.size<=q1/\(∃ v0 v1 v2 v3 v4 v5,w1.heap[q1]?=some (.cells #[v0,v1,v2,v3,v4,v5] 260))/\∃ t fF fH,fQ w1 b s t ((p:Nat):Int) fF fH:=h3
  cases hr:jN s st with
  | error p =>
   rw[hr] at h3';have er:gD (.ok (y,st)) (sZ s)=.error p:=by simp[gD,sZ,hr]
   rw[er];exact ⟨hkp,⟨y,_,a1,n1,c1,a2,n2,c2,hc,fun x st hx=>by cases hx⟩,jF.gI (r:=.error p) h3'.2.2 hbq _⟩
  | ok r =>
   obtain ⟨e,st'⟩:=r;rw[hr] at h3';have er:gD (.ok (y,st)) (sZ s)=.ok ({ y with ex:=some e },st'):=by simp[gD,sZ,hr]
   have hgo:=rX s _ _ _ (h.tk rfl) hr;rw[er];have hk:∀ i,In w0 w i/\i≠q->(w1.setCell ⟨q,3,none⟩ (.pointer (some ⟨q1,0,none⟩))).heap[i]?=w.heap[i]?:=fun i hi=>by rw[jr _ hi.2];exact k.block i hi.1.2 (by have:=hi.1.1;omega)
   have hm:∀ i,In w0 w i/\i≠q->In w0 (w1.setCell ⟨q,3,none⟩ (.pointer (some ⟨q1,0,none⟩))) i/\i≠q:=fun i hi=>⟨⟨hi.1.1,by rw[size_set];have:=hi.1.2;omega⟩,hi.2⟩
   have z0:=h.kp.size;refine ⟨hkp,⟨{ y with ex:=some e },_,a1,n1,c1,a2,n2,c2,hc,fun x2 st2 hx=>?_⟩,jF.gI (r:=.ok st') ⟨h3'.2,hgo.tk⟩ hbq _⟩
   cases hx;refine ⟨rfl,hgo.fF.trans e2,r1,r2,⟨q1,rfl,?_⟩,(e4.keep hk).mono hm,(e5.keep hk).mono hm,(e6.keep hk).mono hm,(e7.keep hk).mono hm⟩;refine (h3'.1.keep fun i hi=>jr _ (by have:=hi.1;omega)).mono fun i hi=>⟨⟨?_,?_⟩,?_⟩
   ·have:=hi.1;omega
   ·rw[size_set];exact hi.2
   ·have:=hi.1;omega
theorem Bm:(gD (.ok (jk,st)) (qD s 119)).map Prod.snd=(qo s st).map Prod.snd:=by
 unfold gD qD qo;simp only;cases Px.kind s 119 st<;>rfl
theorem Bs (h:qX s (R.map Prod.snd) ⟨#[41]⟩=true):gD R (lJ s)=R:=by
 cases R with
 | error p=>rfl
 | ok r =>
  obtain ⟨x,st⟩:=r;have h':gy s st.t ⟨#[41]⟩=true:=h;simp[gD,lJ,h']
theorem Bx (h:qX s (R.map Prod.snd) ⟨#[41]⟩=false):gD R (lJ s)=gD R (sZ s):=by
 cases R with
 | error p=>rfl
 | ok r =>
  obtain ⟨x,st⟩:=r;have h':gy s st.t ⟨#[41]⟩=false:=h;simp[gD,lJ,h',sZ];cases jN s st<;>rfl
theorem Hq (h:qX s (R.map Prod.snd) z=true):∃ x st,R=.ok (x,st)/\gy s st.t z=true/\gD R (jJ s z)=.ok (x,Px.nx s st):=by
 cases R with
 | error p=>cases h
 | ok r =>
  obtain ⟨x,st⟩:=r;have h':gy s st.t z=true:=h;exact ⟨x,st,rfl,h',by simp[gD,jJ,h']⟩
theorem LW (h:qX s (R.map Prod.snd) z=false):gD R (jJ s z)=R:=by
 cases R with
 | error p=>rfl
 | ok r =>
  obtain ⟨x,st⟩:=r;have h':gy s st.t z=false:=h;simp[gD,jJ,h']
theorem B3 (h:qX s (R.map Prod.snd) ⟨#[97,115]⟩=false):gD R (lg s)=R:=by
 cases R with
 | error p=>rfl
 | ok r =>
  obtain ⟨x,st⟩:=r;have h':gy s st.t ⟨#[97,115]⟩=false:=h;simp[gD,lg,h']
theorem B4 (h:qX s (R.map Prod.snd) ⟨#[117,110,100,111]⟩=false):gD R (lY s)=R:=by
 cases R with
 | error p=>rfl
 | ok r =>
  obtain ⟨x,st⟩:=r;have h':gy s st.t ⟨#[117,110,100,111]⟩=false:=h;simp[gD,lY,h']
theorem B5 (h:qX s (R.map Prod.snd) ⟨#[116,114,105,101,115]⟩=false):gD R (nC s)=R:=by
 cases R with
 | error p=>rfl
 | ok r =>
  obtain ⟨x,st⟩:=r;have h':gy s st.t ⟨#[116,114,105,101,115]⟩=false:=h;simp[gD,nC,h']
theorem B6 (h:qX s (R.map Prod.snd) ⟨#[97,115]⟩=true):(gD (gD R (jJ s ⟨#[97,115]⟩)) (qD s 119)).map Prod.snd=(gD R (lg s)).map Prod.snd /\
  ∀ x' st',gD R (lg s)=.ok (x',st')->∃ x,gD (gD R (jJ s ⟨#[97,115]⟩)) (qD s 119)=.ok (x,st')/\x'={ x with gu:=mg s ((gD R (jJ s ⟨#[97,115]⟩)).map Prod.snd) 119,fZ:=pI ((gD R (jJ s ⟨#[97,115]⟩)).map Prod.snd) 119 }:=by
 obtain ⟨x,st,rfl,h1,h2⟩:=Hq h;rw[h2];simp only[gD,lg,if_pos h1,qD];by_cases hk:(Px.nx s st).t.k=119
 ·simp[Px.kind,hk,Except.map,mg,pI,Px.txt]
 ·simp[Px.kind,hk,Except.map]
theorem B7 (h:qX s (R.map Prod.snd) ⟨#[117,110,100,111]⟩=true):(gD (gD R (jJ s ⟨#[117,110,100,111]⟩)) (qD s 119)).map Prod.snd=(gD R (lY s)).map Prod.snd /\
  ∀ x' st',gD R (lY s)=.ok (x',st')->∃ x,gD (gD R (jJ s ⟨#[117,110,100,111]⟩)) (qD s 119)=.ok (x,st')/\x'={ x with undo:=mg s ((gD R (jJ s ⟨#[117,110,100,111]⟩)).map Prod.snd) 119 }:=by
 obtain ⟨x,st,rfl,h1,h2⟩:=Hq h;rw[h2];simp only[gD,lY,if_pos h1,qD];by_cases hk:(Px.nx s st).t.k=119
 ·simp[Px.kind,hk,Except.map,mg,Px.txt]
 ·simp[Px.kind,hk,Except.map]
theorem B8 (h:qX s (R.map Prod.snd) ⟨#[116,114,105,101,115]⟩=true):(gD (gD R (jJ s ⟨#[116,114,105,101,115]⟩)) (qD s 110)).map Prod.snd=(gD R (nC s)).map Prod.snd /\
  ∀ x' st',gD R (nC s)=.ok (x',st')->∃ x,gD (gD R (jJ s ⟨#[116,114,105,101,115]⟩)) (qD s 110)=.ok (x,st')/\x'={ x with n:=Px.valOf (mg s ((gD R (jJ s ⟨#[116,114,105,101,115]⟩)).map Prod.snd) 110).toList,gG:=pI ((gD R (jJ s ⟨#[116,114,105,101,115]⟩)).map Prod.snd) 110 }:=by
 obtain ⟨x,st,rfl,h1,h2⟩:=Hq h;rw[h2];simp only[gD,nC,if_pos h1,qD];by_cases hk:(Px.nx s st).t.k=110
 ·simp[Px.kind,hk,Except.map,mg,pI,Px.txt]
 ·simp[Px.kind,hk,Except.map]
theorem LX {r:Except Nat Px.Ps}(h:jF w b s r):(mg s r 110).size<=4/\∀ j (hj:j < (mg s r 110).size),kC (mg s r 110)[j]=true:=by
 cases r with
 | error p=>exact ⟨aK _,fun j hj=>absurd hj (bO j)⟩
 | ok st =>
  by_cases hk:st.t.k=110
  ·have e:mg s (.ok st) 110=s.extract st.t.a st.t.b:=by simp[mg,hk]
   have:=OU h.2 hk
   simp only[e];exact this
  ·have e:mg s (.ok st) 110=⟨#[]⟩:=by simp[mg,hk]
   simp only[e];exact ⟨aK _,fun j hj=>absurd hj (bO j)⟩
theorem Pn (b:Nat)(s:fq)(hs3:s.size<=300)(w0:fu)(q:Nat)(hb:b < w0.heap.size)(hq:w0.heap.size<=q)(st:Px.Ps)(w:fu)(hN0:0<=st.fF)(hN:st.fF+(s.size+1:Nat)<=1000000)(M:Mk b s w0 q (.ok (jk,st)) st.fF w) :
  Calls prog 118 #[.pointer (some ⟨b,0,none⟩),.pointer (some ⟨q,0,none⟩)] w fun e w'=>e=.returned (.tuple #[])/\Mk b s w0 q (Px.call s st) st.fF w':=by
 have hs:s.size<=maxLen:=by unfold maxLen;omega
 have HM:Hid (_):=M;clear M;go_enter func118,ntmps118
 go_wp2_with fail;refine (lT b s 119 (.ok st) _ HM.o.pen hs).mono ?_;rintro e w1 ⟨⟨kv,kx,rfl⟩,k1,p1⟩;have m1:=HM.o.kind hb hq k1 p1;obtain ⟨y,ve,a1,n1,c1,a2,n2,c2,hc,hcx⟩:=m1.cells;clear hcx;obtain ⟨d0,d1,d2,d3,d4,d5,d6,d7,d8,d9,jT,df⟩:=kG hc;have hq1:q < w1.heap.size:=lt_of_cell d0;have M1:Hid (_):=m1;clear k1 p1 hc m1;go_wp2_with fail;have m2:Mk b s w0 q (qo s st) st.fF _:=Mk.store (fun y=>{ y with op:=99,fD:=mg s (.ok st) 119,pl:=pI (.ok st) 119,n:=1 }) (fun y=>⟨rfl,rfl,rfl⟩) M1.o
  (W:=((((w1.setCell ⟨q,0,none⟩ (.int .u8 99)).setCell ⟨q,1,none⟩ (.string (mg s (.ok st) 119))).setCell ⟨q,2,none⟩ (.int .i64 (pI (.ok st) 119))).setCell ⟨q,7,none⟩ (.int .i64 1)).alloc (.cells #[.int .u8 kv,.string (mg s (.ok st) 119),.int .i64 (pI (.ok st) 119),.int .i64 kx] 180))
  (((((M1.o.kp.gI hq _).gI hq _).gI hq _).gI hq _).alloc _) (by simp) (fun i hi hne=>by rw[aD _ _ _ (by simpa [size_set] using hi),jr _ hne,jr _ hne,jr _ hne,jr _ hne])
  (fun y ve v1 v2 h=>by rw[aD _ _ _ (by simpa [size_set] using hq1),heap_set _ (heap_set _ (heap_set _ (heap_set _ h)))];simp[oI])
  ?pp ?rr
 case pp =>
  rw[<- Bm];exact ((((M1.o.pen.gI (by omega) _).gI (by omega) _).gI (by omega) _).gI (by omega) _).alloc _
 case rr =>
  intro x' st' hx;unfold qo Px.kind at hx;by_cases hk:st.t.k=119
  ·rw[if_pos hk] at hx;cases hx;refine ⟨rfl,jk,Px.nx s st,?_,?_⟩
   ·simp[gD,qD,Px.kind,hk]
   ·simp[mg,pI,hk,Px.txt]
  ·rw[if_neg hk] at hx;cases hx
 have M2:Hid (_):=m2;clear m2 M1 d0 d1 d2 d3 d4 d5 d6 d7 d8 d9 jT df;refine (kI b s _ _ _ M2.o.pen hs).mono ?_;rintro e w2 ⟨rfl,k2,p2⟩;have M3:Hid (Mk b s w0 q (gD (qo s st) (jI s ⟨#[40]⟩)) st.fF w2):=M2.o.need hb hq k2 p2;clear k2 p2 M2;go_wp2_with fail;refine (uC b s _ _ _ M3.o.pen).mono ?_;rintro e w' ⟨rfl,rfl⟩;generalize hB:qX s ((gD (qo s st) (jI s ⟨#[40]⟩)).map Prod.snd) ⟨#[41]⟩=B;have HB:Hid (_):=hB;clear hB;go_upto_if 35 with fail
 go_cut [] (fun wc=>Hid (Mk b s w0 q (gD (gD (qo s st) (jI s ⟨#[40]⟩)) (lJ s)) st.fF wc))
 case first =>
  cases B
  ·go_wp2_with fail;refine (O9 b s _ _ M3.o.pen hs ?hn).mono ?_
   case hn =>
    intro st1 h1;cases hr:gD (qo s st) (jI s ⟨#[40]⟩) with
    | error p=>rw[hr] at h1;cases h1
    | ok r =>
     obtain ⟨x,st2⟩:=r;rw[hr] at h1;cases h1;rw[M3.o.fF hr];exact ⟨hN0,hN⟩
   rintro e w3 h3;obtain ⟨q1,he⟩:∃ q1,e=.returned (.pointer (some ⟨q1,0,none⟩)):=by obtain ⟨_,q1,he,_⟩:=h3;exact ⟨q1,he⟩
   subst he;have m4:=M3.o.expr hb hq h3;obtain ⟨y,ve,a1,n1,c1,a2,n2,c2,hc,hcx⟩:=M3.o.cells;have hc3:=Kp.heap h3.1 hc (by omega)
   obtain ⟨d0,d1,d2,d3,d4,d5,d6,d7,d8,d9,jT,df⟩:=kG hc3;have M4:Hid (_):=m4;clear hc hcx hc3 m4 h3;go_wp2_with fail;go_meet
   case rel =>
    show Mk _ _ _ _ _ _ _
    rw[Bx HB.o];exact M4.o
  ·go_wp2_with fail;go_meet
   case rel =>
    show Mk _ _ _ _ _ _ _
    rw[Bs HB.o];exact M3.o
 case rest =>
 have M4:Hid (_):=hcut;clear hcut M3 HB;go_wp2_with fail;refine (kI b s _ _ _ M4.o.pen hs).mono ?_;rintro e w3 ⟨rfl,k3,p3⟩;have N1:Hid (Mk b s w0 q (gD (gD (gD (qo s st) (jI s ⟨#[40]⟩)) (lJ s)) (jI s ⟨#[41]⟩)) st.fF w3):=M4.o.need hb hq k3 p3;clear k3 p3 M4;go_wp2_with fail;refine (zV b s _ _ _ N1.o.pen hs).mono ?_;rintro e w4 ⟨rfl,k4,p4⟩;have M4:Hid (Mk b s w0 q (gD (gD (gD (gD (qo s st) (jI s ⟨#[40]⟩)) (lJ s)) (jI s ⟨#[41]⟩)) (jJ s ⟨#[97,115]⟩)) st.fF w4):=N1.o.got hb hq k4 p4;clear k4 p4;generalize hB:qX s (((gD (gD (gD (qo s st) (jI s ⟨#[40]⟩)) (lJ s)) (jI s ⟨#[41]⟩))).map Prod.snd) ⟨#[97,115]⟩=B
 have HB:Hid (_):=hB;clear hB;go_upto_if 45 with fail
 go_cut [7] (fun _ wc=>Hid (Mk b s w0 q (gD (gD (gD (gD (qo s st) (jI s ⟨#[40]⟩)) (lJ s)) (jI s ⟨#[41]⟩)) (lg s)) st.fF wc))
 case first =>
  cases B
  ·go_wp2_with fail;go_meet
   case rel =>
    show Mk _ _ _ _ _ _ _
    have h:=M4.o;rw[LW HB.o] at h;rw[B3 HB.o];exact h
  ·go_wp2_with fail;generalize tq:(gD (gD (gD (gD (qo s st) (jI s ⟨#[40]⟩)) (lJ s)) (jI s ⟨#[41]⟩)) (jJ s ⟨#[97,115]⟩)).map Prod.snd=r5 at *;refine (lT b s 119 r5 _ (by rw[<- tq];exact M4.o.pen) hs).mono ?_
   rintro e w5 ⟨⟨Hr,Ht,rfl⟩,k5,p5⟩;have m5:=M4.o.kind hb hq k5 (by rw[tq];exact p5)
   obtain ⟨y,ve,a1,n1,c1,a2,n2,c2,hc,hcx⟩:=m5.cells;obtain ⟨d0,d1,d2,d3,d4,d5,d6,d7,d8,d9,jT,df⟩:=kG hc;have Bp:q < w5.heap.size:=lt_of_cell d0;have V5:Hid (_):=LX (show jF w4 b s r5 by rw[<- tq];exact M4.o.pen)
   have M5:Hid (_):=m5;have Hu:Hid (_):=tq;clear k5 p5 hc hcx m5 tq;go_wp2_with fail;go_meet
   case rel =>
    show Mk _ _ _ _ _ _ _
    obtain ⟨pn,pr⟩:=B6 HB.o;rw[Hu.o] at pr;exact Mk.store (fun y=>{ y with gu:=mg s r5 119,fZ:=pI r5 119 }) (fun y=>⟨rfl,rfl,rfl⟩) M5.o (W:=(((w5.setCell ⟨q,4,none⟩ (.string (mg s r5 119))).setCell ⟨q,5,none⟩ (.int .i64 (pI r5 119))).alloc (.cells #[.int .u8 Hr,.string (mg s r5 119),.int .i64 (pI r5 119),.int .i64 Ht] 180))) (((M5.o.kp.gI hq _).gI hq _).alloc _) (by simp) (fun i hi hne=>by rw[aD _ _ _ (by simpa [size_set] using hi),jr _ hne,jr _ hne])
     (fun y ve v1 v2 h=>by rw[aD _ _ _ (by simpa [size_set] using Bp),heap_set _ (heap_set _ h)];simp[oI]) (by rw[<- pn];exact ((M5.o.pen.gI (by omega) _).gI (by omega) _).alloc _)
     (fun x' st' hx=>by
      obtain ⟨x,h1,h2⟩:=pr x' st' hx;exact ⟨M5.o.fF h1,x,st',h1,h2⟩)
 case rest =>
 have N2:Hid (_):=hcut;clear hcut M4 N1 HB;go_wp2_with fail;refine (zV b s _ _ _ N2.o.pen hs).mono ?_;rintro e w4 ⟨rfl,k4,p4⟩;have M4:Hid (Mk b s w0 q (gD (gD (gD (gD (gD (qo s st) (jI s ⟨#[40]⟩)) (lJ s)) (jI s ⟨#[41]⟩)) (lg s)) (jJ s ⟨#[117,110,100,111]⟩)) st.fF w4):=N2.o.got hb hq k4 p4;clear k4 p4;generalize hB:qX s (((gD (gD (gD (gD (qo s st) (jI s ⟨#[40]⟩)) (lJ s)) (jI s ⟨#[41]⟩)) (lg s))).map Prod.snd) ⟨#[117,110,100,111]⟩=B;have HB:Hid (_):=hB;clear hB;go_upto_if 60 with fail
 go_cut [9] (fun _ wc=>Hid (Mk b s w0 q (gD (gD (gD (gD (gD (qo s st) (jI s ⟨#[40]⟩)) (lJ s)) (jI s ⟨#[41]⟩)) (lg s)) (lY s)) st.fF wc))
 case first =>
  cases B
  ·go_wp2_with fail;go_meet
   case rel =>
    show Mk _ _ _ _ _ _ _
    have h:=M4.o;rw[LW HB.o] at h;rw[B4 HB.o];exact h
  ·go_wp2_with fail;generalize tq:(gD (gD (gD (gD (gD (qo s st) (jI s ⟨#[40]⟩)) (lJ s)) (jI s ⟨#[41]⟩)) (lg s)) (jJ s ⟨#[117,110,100,111]⟩)).map Prod.snd=r5 at *;refine (lT b s 119 r5 _ (by rw[<- tq];exact M4.o.pen) hs).mono ?_
   rintro e w5 ⟨⟨Hr,Ht,rfl⟩,k5,p5⟩;have m5:=M4.o.kind hb hq k5 (by rw[tq];exact p5)
   obtain ⟨y,ve,a1,n1,c1,a2,n2,c2,hc,hcx⟩:=m5.cells;obtain ⟨d0,d1,d2,d3,d4,d5,d6,d7,d8,d9,jT,df⟩:=kG hc;have Bp:q < w5.heap.size:=lt_of_cell d0;have V5:Hid (_):=LX (show jF w4 b s r5 by rw[<- tq];exact M4.o.pen)
   have M5:Hid (_):=m5;have Hu:Hid (_):=tq;clear k5 p5 hc hcx m5 tq;go_wp2_with fail;go_meet
   case rel =>
    show Mk _ _ _ _ _ _ _
    obtain ⟨pn,pr⟩:=B7 HB.o;rw[Hu.o] at pr;exact Mk.store (fun y=>{ y with undo:=mg s r5 119 }) (fun y=>⟨rfl,rfl,rfl⟩) M5.o (W:=((w5.setCell ⟨q,6,none⟩ (.string (mg s r5 119))).alloc (.cells #[.int .u8 Hr,.string (mg s r5 119),.int .i64 (pI r5 119),.int .i64 Ht] 180))) ((M5.o.kp.gI hq _).alloc _) (by simp) (fun i hi hne=>by rw[aD _ _ _ (by simpa [size_set] using hi),jr _ hne])
     (fun y ve v1 v2 h=>by rw[aD _ _ _ (by simpa [size_set] using Bp),heap_set _ h];simp[oI]) (by rw[<- pn];exact (M5.o.pen.gI (by omega) _).alloc _)
     (fun x' st' hx=>by
      obtain ⟨x,h1,h2⟩:=pr x' st' hx;exact ⟨M5.o.fF h1,x,st',h1,h2⟩)
 case rest =>
 have N3:Hid (_):=hcut;clear hcut M4 N2 HB;go_wp2_with fail;refine (zV b s _ _ _ N3.o.pen hs).mono ?_;rintro e w4 ⟨rfl,k4,p4⟩;have M4:Hid (Mk b s w0 q (gD (gD (gD (gD (gD (gD (qo s st) (jI s ⟨#[40]⟩)) (lJ s)) (jI s ⟨#[41]⟩)) (lg s)) (lY s)) (jJ s ⟨#[116,114,105,101,115]⟩)) st.fF w4):=N3.o.got hb hq k4 p4;clear k4 p4;generalize hB:qX s (((gD (gD (gD (gD (gD (qo s st) (jI s ⟨#[40]⟩)) (lJ s)) (jI s ⟨#[41]⟩)) (lg s)) (lY s))).map Prod.snd) ⟨#[116,114,105,101,115]⟩=B;have HB:Hid (_):=hB
 clear hB;go_upto_if 70 with fail
 go_cut [11] (fun _ wc=>Hid (Mk b s w0 q (gD (gD (gD (gD (gD (gD (qo s st) (jI s ⟨#[40]⟩)) (lJ s)) (jI s ⟨#[41]⟩)) (lg s)) (lY s)) (nC s)) st.fF wc))
 case first =>
  cases B
  ·go_wp2_with fail;go_meet
   case rel =>
    show Mk _ _ _ _ _ _ _
    have h:=M4.o;rw[LW HB.o] at h;rw[B5 HB.o];exact h
  ·go_wp2_with fail;generalize tq:(gD (gD (gD (gD (gD (gD (qo s st) (jI s ⟨#[40]⟩)) (lJ s)) (jI s ⟨#[41]⟩)) (lg s)) (lY s)) (jJ s ⟨#[116,114,105,101,115]⟩)).map Prod.snd=r5 at *;refine (lT b s 110 r5 _ (by rw[<- tq];exact M4.o.pen) hs).mono ?_
   rintro e w5 ⟨⟨Hr,Ht,rfl⟩,k5,p5⟩;have m5:=M4.o.kind hb hq k5 (by rw[tq];exact p5)
   obtain ⟨y,ve,a1,n1,c1,a2,n2,c2,hc,hcx⟩:=m5.cells;obtain ⟨d0,d1,d2,d3,d4,d5,d6,d7,d8,d9,jT,df⟩:=kG hc;have Bp:q < w5.heap.size:=lt_of_cell d0;have V5:Hid (_):=LX (show jF w4 b s r5 by rw[<- tq];exact M4.o.pen)
   have M5:Hid (_):=m5;have Hu:Hid (_):=tq;clear k5 p5 hc hcx m5 tq;go_wp2_with fail;refine (OM _ _ V5.o.1 V5.o.2).mono ?_;rintro e w' ⟨rfl,hw⟩;rw[hw];clear hw;go_wp2_with fail;go_meet
   case rel =>
    show Mk _ _ _ _ _ _ _
    obtain ⟨pn,pr⟩:=B8 HB.o;rw[Hu.o] at pr;exact Mk.store (fun y=>{ y with n:=Px.valOf (mg s r5 110).toList,gG:=pI r5 110 }) (fun y=>⟨rfl,rfl,rfl⟩) M5.o (W:=(((w5.setCell ⟨q,7,none⟩ (.int .i64 (Px.valOf (mg s r5 110).toList))).setCell ⟨q,8,none⟩ (.int .i64 (pI r5 110))).alloc (.cells #[.int .u8 Hr,.string (mg s r5 110),.int .i64 (pI r5 110),.int .i64 Ht] 180))) (((M5.o.kp.gI hq _).gI hq _).alloc _) (by simp) (fun i hi hne=>by rw[aD _ _ _ (by simpa [size_set] using hi),jr _ hne,jr _ hne])
     (fun y ve v1 v2 h=>by rw[aD _ _ _ (by simpa [size_set] using Bp),heap_set _ (heap_set _ h)];simp[oI]) (by rw[<- pn];exact ((M5.o.pen.gI (by omega) _).gI (by omega) _).alloc _)
     (fun x' st' hx=>by
      obtain ⟨x,h1,h2⟩:=pr x' st' hx;exact ⟨M5.o.fF h1,x,st',h1,h2⟩)
 case rest =>
 have N4:Hid (_):=hcut;clear hcut M4 N3 HB;go_wp2_with fail;refine (kI b s _ _ _ N4.o.pen hs).mono ?_;rintro e w8 ⟨rfl,k8,p8⟩;have M8:Hid (Mk b s w0 q (gD (gD (gD (gD (gD (gD (gD (qo s st) (jI s ⟨#[40]⟩)) (lJ s)) (jI s ⟨#[41]⟩)) (lg s)) (lY s)) (nC s)) (jI s ⟨#[59]⟩)) st.fF w8):=N4.o.need hb hq k8 p8;clear k8 p8 N4;go_wp2_with fail;go_end0
 rw[LV];exact ⟨rfl,M8.o⟩
theorem Mk.post (h:Mk b s w0 q R N w)(hq:w0.heap.size<=q):xY b s w0 R (.returned (ptr q)) w:=by
 refine ⟨h.kp,q,rfl,?_⟩;obtain ⟨y,ve,a1,n1,c1,a2,n2,c2,h1,h2⟩:=h.cells;have hp:=h.pen;have Fe:q < w.heap.size:=(aG.1 h1).1;cases R with
 | error p=>exact hp
 | ok r =>
  obtain ⟨x,st⟩:=r;obtain ⟨e1,e2,q1,q2,e3,e4,e5,e6,e7⟩:=h2 x st rfl;subst e1;have hm:∀ i,In w0 w i/\i≠q->In w0 w i:=fun i hi=>hi.1
  exact ⟨⟨⟨hq,Fe⟩,.pointer ve,.slice a1 n1 c1,.slice a2 n2 c2,q1,q2,h1,e3.mono hm,e4.mono hm,e5.mono hm,e6.mono hm,e7.mono hm⟩,hp.1⟩
theorem Mk.B9 (hN:st.fF=N)(hp:jF w b s (.ok st)) :
  Mk b s w w.heap.size (.ok ({ jk with op:=102 },st)) N (w.alloc (.cells #[.int .u8 102,.string ⟨#[]⟩,.int .i64 0,.pointer none,.string ⟨#[]⟩,.int .i64 0,.string ⟨#[]⟩,.int .i64 0,.int .i64 0,.slice none 0 0,.slice none 0 0] 250)):=by
 refine ⟨(Kp.refl _ _).alloc _,⟨{ jk with op:=102 },none,none,0,0,none,0,0,xQ (Kp.refl b _) hp.lt,fun x st' hx=>?_⟩,hp.alloc _⟩
 cases hx;exact ⟨rfl,hN,[],[],rfl,ak ⟨rfl,rfl⟩,fV.nQ.2 rfl,ak ⟨rfl,rfl⟩,fV.nQ.2 rfl⟩
theorem Mk.start (hb:b < w.heap.size)(hN:st.fF=N)(k:Kp b (w.alloc (.cells #[.int .u8 0,.string ⟨#[]⟩,.int .i64 0,.pointer none,.string ⟨#[]⟩,.int .i64 0,.string ⟨#[]⟩,.int .i64 0,.int .i64 0,.slice none 0 0,.slice none 0 0] 250)) w1)(hp:jF w1 b s (.ok st)):Mk b s w w.heap.size (.ok (jk,st)) N w1:=by
 refine ⟨k.vR,⟨jk,none,none,0,0,none,0,0,xQ k hb,fun x st' hx=>?_⟩,hp⟩
 cases hx;exact ⟨rfl,hN,[],[],rfl,ak ⟨rfl,rfl⟩,fV.nQ.2 rfl,ak ⟨rfl,rfl⟩,fV.nQ.2 rfl⟩
def mq (s:fq)(g:Px.Ps->Except Nat (Sm×Px.Ps))(y:Sm)(st:Px.Ps):Except Nat (Sm×Px.Ps) :=
 match Px.block s g st with
 | .ok (l,st')=>.ok ({ y with one:=l },st')
 | .error p=>.error p
theorem Mk.one {b:Nat}{s:fq}{w0 w w1:fu}{q:Nat}{R:Except Nat (Sm×Px.Ps)}{N:Int}{g:Px.Ps->Except Nat (Sm×Px.Ps)}{va:Option Addr}{vn vc:Nat}(h:Mk b s w0 q R N w)(hg:Px.Goes s g)(hb:b < w0.heap.size)(hq:w0.heap.size<=q)(hp:E9 b s w ((R.map Prod.snd).bind (Px.block s g)) (.returned (.slice va vn vc)) w1):Mk b s w0 q (gD R (mq s g)) N (w1.setCell ⟨q,9,none⟩ (.slice va vn vc)):=by
 obtain ⟨k,va',vn',vc',he,h3⟩:=hp;obtain ⟨rfl,rfl,rfl⟩:va=va'/\vn=vn'/\vc=vc':=by simpa using he
 obtain ⟨y,ve,a1,n1,c1,a2,n2,c2,h1,h2⟩:=h.cells;have Fe:q < w.heap.size:=(aG.1 h1).1;have z:=k.size;have hc:(w1.setCell ⟨q,9,none⟩ (.slice va vn vc)).heap[q]?=some (.cells (oI y (.pointer ve) (.slice va vn vc) (.slice a2 n2 c2)) 250):=by
  rw[heap_set _ (Kp.heap k h1 (by omega))];simp[oI]
 have hkp:Kp b w0 (w1.setCell ⟨q,9,none⟩ (.slice va vn vc)):=(h.kp.trans k).gI hq _;have hbq:b≠q:=by omega
 cases R with
 | error p =>
  exact ⟨hkp,⟨y,ve,va,vn,vc,a2,n2,c2,hc,fun x st hx=>by cases hx⟩,jF.gI (r:=.error p) h3 hbq _⟩
 | ok r =>
  obtain ⟨x,st⟩:=r;obtain ⟨e1,e2,r1,r2,e3,e4,e5,e6,e7⟩:=h2 x st rfl;subst e1;have h3':match Px.block s g st with
   | .ok (l,st)=>∃ qs,iq w1 (.slice va vn vc) qs (In w w1)/\fV w1 l (In w w1) qs/\fQ w1 b s st.t (-1) st.fF st.fH
   | .error p=>∃ t fF fH,fQ w1 b s t ((p:Nat):Int) fF fH:=h3
  cases hr:Px.block s g st with
  | error p =>
   rw[hr] at h3';have er:gD (.ok (y,st)) (mq s g)=.error p:=by simp[gD,mq,hr]
   rw[er];exact ⟨hkp,⟨y,ve,va,vn,vc,a2,n2,c2,hc,fun x st hx=>by cases hx⟩,jF.gI (r:=.error p) h3' hbq _⟩
  | ok r =>
   obtain ⟨e,st'⟩:=r;rw[hr] at h3';obtain ⟨q',f1,f2,f3⟩:=h3';have er:gD (.ok (y,st)) (mq s g)=.ok ({ y with one:=e },st'):=by simp[gD,mq,hr]
   have hgo:=pE hg _ _ _ (h.tk rfl) hr;rw[er];have hk:∀ i,In w0 w i/\i≠q->(w1.setCell ⟨q,9,none⟩ (.slice va vn vc)).heap[i]?=w.heap[i]?:=fun i hi=>by rw[jr _ hi.2];exact k.block i hi.1.2 (by have:=hi.1.1;omega)
   have hm:∀ i,In w0 w i/\i≠q->In w0 (w1.setCell ⟨q,9,none⟩ (.slice va vn vc)) i/\i≠q:=fun i hi=>⟨⟨hi.1.1,by rw[size_set];have:=hi.1.2;omega⟩,hi.2⟩
   have z0:=h.kp.size;have hk':∀ i,In w w1 i->(w1.setCell ⟨q,9,none⟩ (.slice va vn vc)).heap[i]?=w1.heap[i]?:=fun i hi=>jr _ (by have:=hi.1;omega)
   have hm':∀ i,In w w1 i->In w0 (w1.setCell ⟨q,9,none⟩ (.slice va vn vc)) i/\i≠q:=fun i hi=>⟨⟨by have:=hi.1;omega,by rw[size_set];exact hi.2⟩,by have:=hi.1;omega⟩
   refine ⟨hkp,⟨{ y with one:=e },ve,va,vn,vc,a2,n2,c2,hc,fun x2 st2 hx=>?_⟩,jF.gI (r:=.ok st') ⟨f3,hgo.tk⟩ hbq _⟩
   cases hx;exact ⟨rfl,hgo.fF.trans e2,q',r2,(e3.keep hk).mono hm,(f1.keep hk').mono hm',(f2.keep hk').mono hm',(e6.keep hk).mono hm,(e7.keep hk).mono hm⟩
def qY (s:fq)(g:Px.Ps->Except Nat (Sm×Px.Ps))(y:Sm)(st:Px.Ps):Except Nat (Sm×Px.Ps) :=
 match Px.block s g st with
 | .ok (l,st')=>.ok ({ y with two:=l },st')
 | .error p=>.error p
theorem Mk.two {b:Nat}{s:fq}{w0 w w1:fu}{q:Nat}{R:Except Nat (Sm×Px.Ps)}{N:Int}{g:Px.Ps->Except Nat (Sm×Px.Ps)}{va:Option Addr}{vn vc:Nat}(h:Mk b s w0 q R N w)(hg:Px.Goes s g)(hb:b < w0.heap.size)(hq:w0.heap.size<=q)(hp:E9 b s w ((R.map Prod.snd).bind (Px.block s g)) (.returned (.slice va vn vc)) w1):Mk b s w0 q (gD R (qY s g)) N (w1.setCell ⟨q,10,none⟩ (.slice va vn vc)):=by
 obtain ⟨k,va',vn',vc',he,h3⟩:=hp;obtain ⟨rfl,rfl,rfl⟩:va=va'/\vn=vn'/\vc=vc':=by simpa using he
 obtain ⟨y,ve,a1,n1,c1,a2,n2,c2,h1,h2⟩:=h.cells;have Fe:q < w.heap.size:=(aG.1 h1).1;have z:=k.size;have hc:(w1.setCell ⟨q,10,none⟩ (.slice va vn vc)).heap[q]?=some (.cells (oI y (.pointer ve) (.slice a1 n1 c1) (.slice va vn vc)) 250):=by
  rw[heap_set _ (Kp.heap k h1 (by omega))];simp[oI]
 have hkp:Kp b w0 (w1.setCell ⟨q,10,none⟩ (.slice va vn vc)):=(h.kp.trans k).gI hq _;have hbq:b≠q:=by omega
 cases R with
 | error p =>
  exact ⟨hkp,⟨y,ve,a1,n1,c1,va,vn,vc,hc,fun x st hx=>by cases hx⟩,jF.gI (r:=.error p) h3 hbq _⟩
 | ok r =>
  obtain ⟨x,st⟩:=r;obtain ⟨e1,e2,r1,r2,e3,e4,e5,e6,e7⟩:=h2 x st rfl;subst e1;have h3':match Px.block s g st with
   | .ok (l,st)=>∃ qs,iq w1 (.slice va vn vc) qs (In w w1)/\fV w1 l (In w w1) qs/\fQ w1 b s st.t (-1) st.fF st.fH
   | .error p=>∃ t fF fH,fQ w1 b s t ((p:Nat):Int) fF fH:=h3
  cases hr:Px.block s g st with
  | error p =>
   rw[hr] at h3';have er:gD (.ok (y,st)) (qY s g)=.error p:=by simp[gD,qY,hr]
   rw[er];exact ⟨hkp,⟨y,ve,a1,n1,c1,va,vn,vc,hc,fun x st hx=>by cases hx⟩,jF.gI (r:=.error p) h3' hbq _⟩
  | ok r =>
   obtain ⟨e,st'⟩:=r;rw[hr] at h3';obtain ⟨q',f1,f2,f3⟩:=h3';have er:gD (.ok (y,st)) (qY s g)=.ok ({ y with two:=e },st'):=by simp[gD,qY,hr]
   have hgo:=pE hg _ _ _ (h.tk rfl) hr;rw[er];have hk:∀ i,In w0 w i/\i≠q->(w1.setCell ⟨q,10,none⟩ (.slice va vn vc)).heap[i]?=w.heap[i]?:=fun i hi=>by rw[jr _ hi.2];exact k.block i hi.1.2 (by have:=hi.1.1;omega)
   have hm:∀ i,In w0 w i/\i≠q->In w0 (w1.setCell ⟨q,10,none⟩ (.slice va vn vc)) i/\i≠q:=fun i hi=>⟨⟨hi.1.1,by rw[size_set];have:=hi.1.2;omega⟩,hi.2⟩
   have z0:=h.kp.size;have hk':∀ i,In w w1 i->(w1.setCell ⟨q,10,none⟩ (.slice va vn vc)).heap[i]?=w1.heap[i]?:=fun i hi=>jr _ (by have:=hi.1;omega)
   have hm':∀ i,In w w1 i->In w0 (w1.setCell ⟨q,10,none⟩ (.slice va vn vc)) i/\i≠q:=fun i hi=>⟨⟨by have:=hi.1;omega,by rw[size_set];exact hi.2⟩,by have:=hi.1;omega⟩
   refine ⟨hkp,⟨{ y with two:=e },ve,a1,n1,c1,va,vn,vc,hc,fun x2 st2 hx=>?_⟩,jF.gI (r:=.ok st') ⟨f3,hgo.tk⟩ hbq _⟩
   cases hx;exact ⟨rfl,hgo.fF.trans e2,r1,q',(e3.keep hk).mono hm,(e4.keep hk).mono hm,(e5.keep hk).mono hm,(f1.keep hk').mono hm',(f2.keep hk').mono hm'⟩
def Bq (s:fq)(st:Px.Ps):Except Nat (Sm×Px.Ps) :=
 match Px.kind s 119 st with
 | .ok st1=>.ok ({ jk with op:=108,fD:=Px.txt s st.t,pl:=st.t.a },st1)
 | .error p=>.error p
theorem Cf:(gD (.ok (jk,st)) (qD s 119)).map Prod.snd=(Bq s st).map Prod.snd:=by
 unfold gD qD Bq;simp only;cases Px.kind s 119 st<;>rfl
theorem LY (s:fq)(st:Px.Ps):kJ s st=gD (gD (gD (Bq s st) (jI s ⟨#[61]⟩)) (sZ s)) (jI s ⟨#[59]⟩):=by
 unfold kJ Bq;cases Px.kind s 119 st with
 | error p=>rfl
 | ok st1 =>
  simp only[gD,jI];cases Px.need s ⟨#[61]⟩ st1 with
  | error p=>rfl
  | ok st2 =>
   simp only[sZ];cases jN s st2 with
   | error p=>rfl
   | ok r =>
    obtain ⟨e,gV⟩:=r;simp only;cases Px.need s ⟨#[59]⟩ gV<;>rfl
def qp (op:Nat)(st:Px.Ps):Except Nat (Sm×Px.Ps):=.ok ({ jk with op:=op },st)
def Fg (s:fq)(g:Px.Ps->Except Nat (Sm×Px.Ps))(y:Sm)(st:Px.Ps):Except Nat (Sm×Px.Ps) :=
 if gy s st.t ⟨#[101,108,115,101]⟩ then qY s g y (Px.nx s st) else .ok (y,st)
theorem Hw (s:fq)(g:Px.Ps->Except Nat (Sm×Px.Ps))(st:Px.Ps):pK s g st=gD (gD (gD (qp 105 st) (sZ s)) (mq s g)) (Fg s g):=by
 unfold pK qp;simp only[gD,sZ];cases jN s st with
 | error p=>rfl
 | ok r =>
  obtain ⟨e,st1⟩:=r;simp only[mq];cases Px.block s g st1 with
  | error p=>rfl
  | ok r =>
   obtain ⟨l,st2⟩:=r;simp only[Fg];by_cases h:gy s st2.t ⟨#[101,108,115,101]⟩=true
   ·rw[if_pos h,if_pos h];simp only[qY];cases Px.block s g (Px.nx s st2) with
    | error p=>rfl
    | ok r=>obtain ⟨m,gV⟩:=r;rfl
   ·rw[if_neg h,if_neg h]
theorem LZ (s:fq)(g:Px.Ps->Except Nat (Sm×Px.Ps))(st:Px.Ps):kK s g st=gD (gD (gD (qp 116 st) (mq s g)) (jI s ⟨#[101,108,115,101]⟩)) (qY s g):=by
 unfold kK qp;simp only[gD,mq];cases Px.block s g st with
 | error p=>rfl
 | ok r =>
  obtain ⟨l,st1⟩:=r;simp only[jI];cases Px.need s ⟨#[101,108,115,101]⟩ st1 with
  | error p=>rfl
  | ok st2 =>
   simp only[qY];cases Px.block s g st2 with
   | error p=>rfl
   | ok r=>obtain ⟨m,gV⟩:=r;rfl
def Br (s:fq)(st:Px.Ps):Except Nat (Sm×Px.Ps) :=
 match Px.kind s 110 st with
 | .ok st1=>.ok ({ jk with op:=114,n:=Px.valOf (Px.txt s st.t).toList,gG:=st.t.a },st1)
 | .error p=>.error p
theorem Cl:(gD (qp 114 st) (qD s 110)).map Prod.snd=(Br s st).map Prod.snd:=by
 unfold gD qD Br qp;simp only;cases Px.kind s 110 st<;>rfl
theorem L8 (s:fq)(g:Px.Ps->Except Nat (Sm×Px.Ps))(st:Px.Ps):qz s g st=gD (Br s st) (mq s g):=by
 unfold qz Br;cases Px.kind s 110 st with
 | error p=>rfl
 | ok st1 =>
  simp only[gD,mq];cases Px.block s g st1 with
  | error p=>rfl
  | ok r=>obtain ⟨m,gV⟩:=r;rfl
theorem Cp (s:fq)(st:Px.Ps):uh s st=gD (gD (qp 102 st) (jI s ⟨#[102,97,105,108]⟩)) (jI s ⟨#[59]⟩):=by
 unfold uh qp;simp only[gD,jI];cases Px.need s ⟨#[102,97,105,108]⟩ st with
 | error p=>rfl
 | ok st1 =>
  simp only;cases Px.need s ⟨#[59]⟩ st1<;>rfl
variable {g:Px.Ps->Except Nat (Sm×Px.Ps)}
theorem Cs (h:qX s (R.map Prod.snd) ⟨#[101,108,115,101]⟩=false):gD R (Fg s g)=R:=by
 cases R with
 | error p=>rfl
 | ok r =>
  obtain ⟨x,st⟩:=r;have h':gy s st.t ⟨#[101,108,115,101]⟩=false:=h;simp[gD,Fg,h']
theorem C5 (h:qX s (R.map Prod.snd) ⟨#[101,108,115,101]⟩=true):gD R (Fg s g)=gD (gD R (jJ s ⟨#[101,108,115,101]⟩)) (qY s g):=by
 obtain ⟨x,st,rfl,h1,h2⟩:=Hq h;rw[h2];simp[gD,Fg,h1]
theorem Mk.op {b:Nat}{s:fq}{w0 w:fu}{q:Nat}{st:Px.Ps}{N:Int}(o:Nat)(h:Mk b s w0 q (.ok (jk,st)) N w)(hb:b < w0.heap.size)(hq:w0.heap.size<=q):Mk b s w0 q (qp o st) N (w.setCell ⟨q,0,none⟩ (.int .u8 (o:Int))) :=
 h.store (fun y=>{ y with op:=o }) (fun _=>⟨rfl,rfl,rfl⟩) (h.kp.gI hq _) (by rw[size_set];exact aj _) (fun i _ hne=>jr _ hne) (fun y ve v1 v2 hh=>by rw[heap_set _ hh];simp[oI]) (jF.gI (r:=.ok st) h.pen (by omega) _)
  (fun x' st' hx=>by cases hx;exact ⟨h.fF rfl,jk,st,rfl,rfl⟩)
theorem Hy (b:Nat)(s:fq)(n:Nat)(hs3:s.size<=300)(st:Px.Ps)(w:fu)(hD:gP s (n+1) st)(p:fQ w b s st.t (-1) st.fF st.fH)(ho:gy s st.t ⟨#[108,101,116]⟩=true) :
  Calls prog 84 #[.pointer (some ⟨b,0,none⟩)] w (xY b s w (kJ s (Px.nx s st))):=by
 have hs:s.size<=maxLen:=by unfold maxLen;omega
 have hb:=p.lt;have HD:Hid (gP s (n+1) st/\fQ w b s st.t (-1) st.fF st.fH):=⟨hD,p⟩;have hN0:=hD.n0;have hN:st.fF+(s.size+1:Nat)<=1000000:=by have:=hD.n1;omega
 clear hD p;go_enter func84,ntmps84
 go_wp2_with fail;refine (Db b s _ st.t st.fF st.fH _ (HD.o.2.alloc _) HD.o.1.tk.le hs ho).mono ?_;rintro e w1 ⟨rfl,p1,k1⟩;have m1:Mk b s w w.heap.size (.ok (jk,Px.nx s st)) st.fF w1:=Mk.start hb rfl k1 ⟨p1,xR HD.o.1.tk⟩;have D1:Hid (gP s (n+1) (Px.nx s st)):=HD.o.1.good (gX HD.o.1.tk ho);clear p1 k1;have M1:Hid (_):=m1;clear m1;go_wp2_with fail;refine (lT b s 119 (.ok (Px.nx s st)) _ M1.o.pen hs).mono ?_;rintro e w2 ⟨⟨kv,kx,rfl⟩,k2,p2⟩;have m2:=M1.o.kind hb (aj _) k2 p2;obtain ⟨y,ve,a1,n1,c1,a2,n2,c2,hc,hcx⟩:=m2.cells;obtain ⟨d0,d1,d2,d3,d4,d5,d6,d7,d8,d9,jT,df⟩:=kG hc
 have hq2:w.heap.size < w2.heap.size:=lt_of_cell d0;have M2:Hid (_):=m2;clear k2 p2 hc hcx m2 M1;go_wp2_with fail;have m3:Mk b s w w.heap.size (Bq s (Px.nx s st)) st.fF _:=Mk.store (fun y=>{ y with op:=108,fD:=mg s (.ok (Px.nx s st)) 119,pl:=pI (.ok (Px.nx s st)) 119 }) (fun y=>⟨rfl,rfl,rfl⟩) M2.o
  (W:=(((w2.setCell ⟨w.heap.size,0,none⟩ (.int .u8 108)).setCell ⟨w.heap.size,1,none⟩ (.string (mg s (.ok (Px.nx s st)) 119))).setCell ⟨w.heap.size,2,none⟩ (.int .i64 (pI (.ok (Px.nx s st)) 119))).alloc (.cells #[.int .u8 kv,.string (mg s (.ok (Px.nx s st)) 119),.int .i64 (pI (.ok (Px.nx s st)) 119),.int .i64 kx] 180))
  ((((M2.o.kp.gI (aj _) _).gI (aj _) _).gI (aj _) _).alloc _) (by simp) (fun i hi hne=>by rw[aD _ _ _ (by simpa [size_set] using hi),jr _ hne,jr _ hne,jr _ hne])
  (fun y ve v1 v2 h=>by rw[aD _ _ _ (by simpa [size_set] using hq2),heap_set _ (heap_set _ (heap_set _ h))];simp[oI])
  ?pp ?rr
 case pp =>
  rw[<- Cf];exact (((M2.o.pen.gI (by omega) _).gI (by omega) _).gI (by omega) _).alloc _
 case rr =>
  intro x' st' hx;unfold Bq Px.kind at hx;by_cases hk:(Px.nx s st).t.k=119
  ·rw[if_pos hk] at hx;cases hx;refine ⟨rfl,jk,Px.nx s (Px.nx s st),?_,?_⟩
   ·simp[gD,qD,Px.kind,hk]
   ·simp[mg,pI,hk,Px.txt]
  ·rw[if_neg hk] at hx;cases hx
 have M3:Hid (_):=m3;clear m3 M2 d0 d1 d2 d3 d4 d5 d6 d7 d8 d9 jT df;refine (kI b s _ _ _ M3.o.pen hs).mono ?_;rintro e w3 ⟨rfl,k3,p3⟩;have M4:Hid (Mk b s w w.heap.size (gD (Bq s (Px.nx s st)) (jI s ⟨#[61]⟩)) st.fF w3):=M3.o.need hb (aj _) k3 p3;clear k3 p3 M3;go_wp2_with fail;refine (O9 b s _ _ M4.o.pen hs ?hn).mono ?_
 case hn =>
  intro st1 h1;cases hr:gD (Bq s (Px.nx s st)) (jI s ⟨#[61]⟩) with
  | error p=>rw[hr] at h1;cases h1
  | ok r =>
   obtain ⟨x,st2⟩:=r;rw[hr] at h1;cases h1;rw[M4.o.fF hr];exact ⟨hN0,hN⟩
 rintro e w4 h4;obtain ⟨q1,he⟩:∃ q1,e=.returned (.pointer (some ⟨q1,0,none⟩)):=by obtain ⟨_,q1,he,_⟩:=h4;exact ⟨q1,he⟩
 subst he;have m5:=M4.o.expr hb (aj _) h4;obtain ⟨y,ve,a1,n1,c1,a2,n2,c2,hc,hcx⟩:=M4.o.cells;have hc3:=Kp.heap h4.1 hc (by omega)
 obtain ⟨d0,d1,d2,d3,d4,d5,d6,d7,d8,d9,jT,df⟩:=kG hc3;have M5:Hid (_):=m5;clear hc hcx hc3 m5 h4;go_wp2_with fail;refine (kI b s _ _ _ M5.o.pen hs).mono ?_;rintro e w5 ⟨rfl,k5,p5⟩;have M6:Hid (_):=M5.o.need hb (aj _) k5 p5;clear k5 p5 M5 d0 d1 d2 d3 d4 d5 d6 d7 d8 d9 jT df;go_wp2_with fail;go_ret;rw[LY];exact M6.o.post (aj _)
theorem Hz (b:Nat)(s:fq)(n:Nat)(hs3:s.size<=300)(st:Px.Ps)(w:fu)(hD:gP s (n+1) st)(p:fQ w b s st.t (-1) st.fF st.fH)(h0:gy s st.t ⟨#[108,101,116]⟩=false)(ho:gy s st.t ⟨#[99,97,108,108]⟩=true) :
  Calls prog 84 #[.pointer (some ⟨b,0,none⟩)] w (xY b s w (Px.call s (Px.nx s st))):=by
 have hs:s.size<=maxLen:=by unfold maxLen;omega
 have hb:=p.lt;have HD:Hid (gP s (n+1) st/\fQ w b s st.t (-1) st.fF st.fH):=⟨hD,p⟩;have hN0:=hD.n0;have hN:st.fF+(s.size+1:Nat)<=1000000:=by have:=hD.n1;omega
 clear hD p;go_enter func84,ntmps84
 go_wp2_with fail;refine (sV b s _ st.t st.fF st.fH _ (HD.o.2.alloc _) h0).mono ?_;rintro e w' ⟨rfl,hw⟩;rw[<- hw];clear hw;go_wp2_with fail;refine (Db b s _ st.t st.fF st.fH _ (HD.o.2.alloc _) HD.o.1.tk.le hs ho).mono ?_;rintro e w1 ⟨rfl,p1,k1⟩;have m1:Mk b s w w.heap.size (.ok (jk,Px.nx s st)) st.fF w1:=Mk.start hb rfl k1 ⟨p1,xR HD.o.1.tk⟩;have D1:Hid (gP s (n+1) (Px.nx s st)):=HD.o.1.good (gX HD.o.1.tk ho);clear p1 k1;have M1:Hid (_):=m1;clear m1;go_wp2_with fail;refine (Pn b s hs3 w w.heap.size hb (aj _) (Px.nx s st) _ hN0 hN M1.o).mono ?_
 rintro e w2 ⟨rfl,m2⟩;have M2:Hid (_):=m2;clear m2;go_wp2_with fail;go_ret;exact M2.o.post (aj _)
theorem HY (b:Nat)(s:fq)(n:Nat)(hs3:s.size<=300)(st:Px.Ps)(w:fu)(hD:gP s (n+1) st)(p:fQ w b s st.t (-1) st.fF st.fH)(h0:gy s st.t ⟨#[108,101,116]⟩=false)(h1:gy s st.t ⟨#[99,97,108,108]⟩=false)(h2:gy s st.t ⟨#[105,102]⟩=false)(h3:gy s st.t ⟨#[116,114,121]⟩=false)(h4:gy s st.t ⟨#[114,101,112,101,97,116]⟩=false) :
  Calls prog 84 #[.pointer (some ⟨b,0,none⟩)] w (xY b s w (uh s st)):=by
 have hs:s.size<=maxLen:=by unfold maxLen;omega
 have hb:=p.lt;have HD:Hid (gP s (n+1) st/\fQ w b s st.t (-1) st.fF st.fH):=⟨hD,p⟩;have hN0:=hD.n0;have hN:st.fF+(s.size+1:Nat)<=1000000:=by have:=hD.n1;omega
 clear hD p;go_enter func84,ntmps84
 go_wp2_with fail;refine (sV b s _ st.t st.fF st.fH _ (HD.o.2.alloc _) h0).mono ?_;rintro e w' ⟨rfl,hw⟩;rw[<- hw];clear hw;go_wp2_with fail;refine (sV b s _ st.t st.fF st.fH _ (HD.o.2.alloc _) h1).mono ?_;rintro e w' ⟨rfl,hw⟩;rw[<- hw];clear hw;go_wp2_with fail;refine (sV b s _ st.t st.fF st.fH _ (HD.o.2.alloc _) h2).mono ?_;rintro e w' ⟨rfl,hw⟩;rw[<- hw];clear hw;go_wp2_with fail;refine (sV b s _ st.t st.fF st.fH _ (HD.o.2.alloc _) h3).mono ?_;rintro e w' ⟨rfl,hw⟩;rw[<- hw];clear hw;go_wp2_with fail;refine (sV b s _ st.t st.fF st.fH _ (HD.o.2.alloc _) h4).mono ?_
 rintro e w' ⟨rfl,hw⟩;rw[<- hw];clear hw;have M1:Hid (Mk b s w w.heap.size (qp 102 st) st.fF _):=Mk.B9 rfl ⟨HD.o.2,HD.o.1.tk⟩;go_wp2_with fail;refine (kI b s _ _ _ M1.o.pen hs).mono ?_;rintro e w1 ⟨rfl,k1,p1⟩;have M2:Hid (_):=M1.o.need hb (aj _) k1 p1;clear k1 p1 M1;go_wp2_with fail;refine (kI b s _ _ _ M2.o.pen hs).mono ?_;rintro e w2 ⟨rfl,k2,p2⟩;have M3:Hid (_):=M2.o.need hb (aj _) k2 p2;clear k2 p2 M2;go_wp2_with fail;go_ret;rw[Cp];exact M3.o.post (aj _)
theorem Ia (b:Nat)(s:fq)(n:Nat)(hst:Fb b s n (Px.stmt s n))(hs3:s.size<=300)(st:Px.Ps)(w:fu)(hD:gP s (n+1) st)(p:fQ w b s st.t (-1) st.fF st.fH)(h0:gy s st.t ⟨#[108,101,116]⟩=false)(h1:gy s st.t ⟨#[99,97,108,108]⟩=false)(ho:gy s st.t ⟨#[105,102]⟩=true) :
  Calls prog 84 #[.pointer (some ⟨b,0,none⟩)] w (xY b s w (pK s (Px.stmt s n) (Px.nx s st))):=by
 have hs:s.size<=maxLen:=by unfold maxLen;omega
 have hb:=p.lt;have HD:Hid (gP s (n+1) st/\fQ w b s st.t (-1) st.fF st.fH):=⟨hD,p⟩;have hN0:=hD.n0;have hN:st.fF+(s.size+1:Nat)<=1000000:=by have:=hD.n1;omega
 clear hD p;go_enter func84,ntmps84
 go_wp2_with fail;refine (sV b s _ st.t st.fF st.fH _ (HD.o.2.alloc _) h0).mono ?_;rintro e w' ⟨rfl,hw⟩;rw[<- hw];clear hw;go_wp2_with fail;refine (sV b s _ st.t st.fF st.fH _ (HD.o.2.alloc _) h1).mono ?_;rintro e w' ⟨rfl,hw⟩;rw[<- hw];clear hw;go_wp2_with fail;refine (Db b s _ st.t st.fF st.fH _ (HD.o.2.alloc _) HD.o.1.tk.le hs ho).mono ?_;rintro e w1 ⟨rfl,p1,k1⟩;have m1:Mk b s w w.heap.size (.ok (jk,Px.nx s st)) st.fF w1:=Mk.start hb rfl k1 ⟨p1,xR HD.o.1.tk⟩;have D1:Hid (gP s (n+1) (Px.nx s st)):=HD.o.1.good (gX HD.o.1.tk ho);clear p1 k1
 obtain ⟨y,ve,a1,n1,c1,a2,n2,c2,hc,hcx⟩:=m1.cells;obtain ⟨d0,d1,d2,d3,d4,d5,d6,d7,d8,d9,jT,df⟩:=kG hc;have M2:Hid (Mk b s w w.heap.size (qp 105 (Px.nx s st)) st.fF (w1.setCell ⟨w.heap.size,0,none⟩ (.int .u8 105))):=m1.op 105 hb (aj _);clear hc hcx m1;go_wp2_with fail;refine (O9 b s _ _ M2.o.pen hs ?hn).mono ?_
 case hn =>
  intro st1 h1;cases h1;exact ⟨hN0,hN⟩
 rintro e w4 h4;obtain ⟨q1,he⟩:∃ q1,e=.returned (.pointer (some ⟨q1,0,none⟩)):=by obtain ⟨_,q1,he,_⟩:=h4;exact ⟨q1,he⟩
 subst he;have m5:=M2.o.expr hb (aj _) h4;clear d0 d1 d2 d3 d4 d5 d6 d7 d8 d9 jT df;obtain ⟨y,ve,a1,n1,c1,a2,n2,c2,hc,hcx⟩:=M2.o.cells;have hc3:=Kp.heap h4.1 hc (by omega)
 obtain ⟨d0,d1,d2,d3,d4,d5,d6,d7,d8,d9,jT,df⟩:=kG hc3;have M3:Hid (_):=m5;clear hc hcx hc3 m5 h4 M2;go_wp2_with fail;clear d0 d1 d2 d3 d4 d5 d6 d7 d8 d9 jT df;refine (Ho b s n _ hst (jS s n) hs3 _ _ M3.o.pen ?hd).mono ?_
 case hd =>
  intro st1 h1;cases hr:jN s (Px.nx s st) with
  | error p=>simp[gD,qp,sZ,hr,Except.map] at h1
  | ok r =>
   obtain ⟨e2,st2⟩:=r;simp[gD,qp,sZ,hr,Except.map] at h1;rw[<- h1];exact D1.o.good (rX s _ _ _ D1.o.tk hr)
 rintro e w5 h4;obtain ⟨va,vn,vc,he⟩:∃ va vn vc,e=.returned (.slice va vn vc):=by obtain ⟨_,va,vn,vc,he,_⟩:=h4;exact ⟨va,vn,vc,he⟩
 subst he;have m5:=M3.o.one (jS s n) hb (aj _) h4;obtain ⟨y,ve,a1,n1,c1,a2,n2,c2,hc,hcx⟩:=M3.o.cells;have hc3:=Kp.heap h4.1 hc (by omega)
 obtain ⟨d0,d1,d2,d3,d4,d5,d6,d7,d8,d9,jT,df⟩:=kG hc3;have M4:Hid (_):=m5;clear hc hcx hc3 m5 h4;clear M3;go_wp2_with fail;clear d0 d1 d2 d3 d4 d5 d6 d7 d8 d9 jT df;refine (zV b s _ _ _ M4.o.pen hs).mono ?_;rintro e w6 ⟨rfl,k6,p6⟩;have M6:Hid (_):=M4.o.got hb (aj _) k6 p6;clear k6 p6;generalize hB:qX s ((gD (gD (qp 105 (Px.nx s st)) (sZ s)) (mq s (Px.stmt s n))).map Prod.snd) ⟨#[101,108,115,101]⟩=B;have HB:Hid (_):=hB;clear hB;cases B
 ·go_wp2_with fail;go_ret;rw[Hw,Cs HB.o];have h:=M6.o;rw[LW HB.o] at h;exact h.post (aj _)
 ·go_wp2_with fail;refine (Ho b s n _ hst (jS s n) hs3 _ _ M6.o.pen ?hd).mono ?_
  case hd =>
   intro st1 h1;obtain ⟨x0,st0,hr0,ho0,hg0⟩:=Hq HB.o;rw[hg0] at h1;cases h1;have D2:gP s (n+1) st0:=by
    cases hr:jN s (Px.nx s st) with
    | error p=>simp[gD,qp,sZ,hr] at hr0
    | ok r =>
     obtain ⟨e2,st2⟩:=r;have g2:=D1.o.good (rX s _ _ _ D1.o.tk hr);cases hr2:Px.block s (Px.stmt s n) st2 with
     | error p=>simp[gD,qp,sZ,hr,mq,hr2] at hr0
     | ok r2 =>
      obtain ⟨l2,gV⟩:=r2;simp[gD,qp,sZ,hr,mq,hr2] at hr0;rw[<- hr0.2];exact g2.good (pE (jS s n) _ _ _ g2.tk hr2)
   exact D2.good (gX D2.tk ho0)
  rintro e w7 h4;obtain ⟨va,vn,vc,he⟩:∃ va vn vc,e=.returned (.slice va vn vc):=by obtain ⟨_,va,vn,vc,he,_⟩:=h4;exact ⟨va,vn,vc,he⟩
  subst he;have m5:=M6.o.two (jS s n) hb (aj _) h4;obtain ⟨y,ve,a1,n1,c1,a2,n2,c2,hc,hcx⟩:=M6.o.cells;have hc3:=Kp.heap h4.1 hc (by omega)
  obtain ⟨d0,d1,d2,d3,d4,d5,d6,d7,d8,d9,jT,df⟩:=kG hc3;have M7:Hid (_):=m5;clear hc hcx hc3 m5 h4;go_wp2_with fail;go_ret;rw[Hw,C5 HB.o];exact M7.o.post (aj _)
theorem Ib (b:Nat)(s:fq)(n:Nat)(hst:Fb b s n (Px.stmt s n))(hs3:s.size<=300)(st:Px.Ps)(w:fu)(hD:gP s (n+1) st)(p:fQ w b s st.t (-1) st.fF st.fH)(h0:gy s st.t ⟨#[108,101,116]⟩=false)(h1:gy s st.t ⟨#[99,97,108,108]⟩=false)(h2:gy s st.t ⟨#[105,102]⟩=false)(ho:gy s st.t ⟨#[116,114,121]⟩=true) :
  Calls prog 84 #[.pointer (some ⟨b,0,none⟩)] w (xY b s w (kK s (Px.stmt s n) (Px.nx s st))):=by
 have hs:s.size<=maxLen:=by unfold maxLen;omega
 have hb:=p.lt;have HD:Hid (gP s (n+1) st/\fQ w b s st.t (-1) st.fF st.fH):=⟨hD,p⟩;have hN0:=hD.n0;have hN:st.fF+(s.size+1:Nat)<=1000000:=by have:=hD.n1;omega
 clear hD p;go_enter func84,ntmps84
 go_wp2_with fail;refine (sV b s _ st.t st.fF st.fH _ (HD.o.2.alloc _) h0).mono ?_;rintro e w' ⟨rfl,hw⟩;rw[<- hw];clear hw;go_wp2_with fail;refine (sV b s _ st.t st.fF st.fH _ (HD.o.2.alloc _) h1).mono ?_;rintro e w' ⟨rfl,hw⟩;rw[<- hw];clear hw;go_wp2_with fail;refine (sV b s _ st.t st.fF st.fH _ (HD.o.2.alloc _) h2).mono ?_;rintro e w' ⟨rfl,hw⟩;rw[<- hw];clear hw;go_wp2_with fail;refine (Db b s _ st.t st.fF st.fH _ (HD.o.2.alloc _) HD.o.1.tk.le hs ho).mono ?_;rintro e w1 ⟨rfl,p1,k1⟩;have m1:Mk b s w w.heap.size (.ok (jk,Px.nx s st)) st.fF w1:=Mk.start hb rfl k1 ⟨p1,xR HD.o.1.tk⟩
 have D1:Hid (gP s (n+1) (Px.nx s st)):=HD.o.1.good (gX HD.o.1.tk ho);clear p1 k1;obtain ⟨y,ve,a1,n1,c1,a2,n2,c2,hc,hcx⟩:=m1.cells;obtain ⟨d0,d1,d2,d3,d4,d5,d6,d7,d8,d9,jT,df⟩:=kG hc;have M2:Hid (Mk b s w w.heap.size (qp 116 (Px.nx s st)) st.fF (w1.setCell ⟨w.heap.size,0,none⟩ (.int .u8 116))):=m1.op 116 hb (aj _);clear hc hcx m1;go_wp2_with fail;clear d0 d1 d2 d3 d4 d5 d6 d7 d8 d9 jT df;refine (Ho b s n _ hst (jS s n) hs3 _ _ M2.o.pen ?hd).mono ?_
 case hd =>
  intro st1 h1;cases h1;exact D1.o
 rintro e w4 h4;obtain ⟨va,vn,vc,he⟩:∃ va vn vc,e=.returned (.slice va vn vc):=by obtain ⟨_,va,vn,vc,he,_⟩:=h4;exact ⟨va,vn,vc,he⟩
 subst he;have m5:=M2.o.one (jS s n) hb (aj _) h4;obtain ⟨y,ve,a1,n1,c1,a2,n2,c2,hc,hcx⟩:=M2.o.cells;have hc3:=Kp.heap h4.1 hc (by omega)
 obtain ⟨d0,d1,d2,d3,d4,d5,d6,d7,d8,d9,jT,df⟩:=kG hc3;have M3:Hid (_):=m5;clear hc hcx hc3 m5 h4;clear M2;go_wp2_with fail;clear d0 d1 d2 d3 d4 d5 d6 d7 d8 d9 jT df;refine (kI b s _ _ _ M3.o.pen hs).mono ?_;rintro e w5 ⟨rfl,k5,p5⟩;have M4:Hid (Mk b s w w.heap.size (gD (gD (qp 116 (Px.nx s st)) (mq s (Px.stmt s n))) (jI s ⟨#[101,108,115,101]⟩)) st.fF w5):=M3.o.need hb (aj _) k5 p5;clear k5 p5 M3;go_wp2_with fail;refine (Ho b s n _ hst (jS s n) hs3 _ _ M4.o.pen ?hd).mono ?_
 case hd =>
  intro st1 h1;cases hr:Px.block s (Px.stmt s n) (Px.nx s st) with
  | error p=>simp[gD,qp,mq,hr,Except.map] at h1
  | ok r =>
   obtain ⟨l2,st2⟩:=r;have g2:=D1.o.good (pE (jS s n) _ _ _ D1.o.tk hr);cases hr2:Px.need s ⟨#[101,108,115,101]⟩ st2 with
   | error p=>simp[gD,qp,mq,hr,jI,hr2,Except.map] at h1
   | ok gV =>
    simp[gD,qp,mq,hr,jI,hr2,Except.map] at h1;rw[<- h1];exact g2.good (lZ g2.tk hr2)
 rintro e w6 h4;obtain ⟨va,vn,vc,he⟩:∃ va vn vc,e=.returned (.slice va vn vc):=by obtain ⟨_,va,vn,vc,he,_⟩:=h4;exact ⟨va,vn,vc,he⟩
 subst he;have m5:=M4.o.two (jS s n) hb (aj _) h4;obtain ⟨y,ve,a1,n1,c1,a2,n2,c2,hc,hcx⟩:=M4.o.cells;have hc3:=Kp.heap h4.1 hc (by omega)
 obtain ⟨d0,d1,d2,d3,d4,d5,d6,d7,d8,d9,jT,df⟩:=kG hc3;have M5:Hid (_):=m5;clear hc hcx hc3 m5 h4;clear M4;go_wp2_with fail;go_ret;rw[LZ];exact M5.o.post (aj _)
theorem Po (b:Nat)(s:fq)(n:Nat)(hst:Fb b s n (Px.stmt s n))(hs3:s.size<=300)(st:Px.Ps)(w:fu)(hD:gP s (n+1) st)(p:fQ w b s st.t (-1) st.fF st.fH)(h0:gy s st.t ⟨#[108,101,116]⟩=false)(h1:gy s st.t ⟨#[99,97,108,108]⟩=false)(h2:gy s st.t ⟨#[105,102]⟩=false)(h3:gy s st.t ⟨#[116,114,121]⟩=false)(ho:gy s st.t ⟨#[114,101,112,101,97,116]⟩=true) :
  Calls prog 84 #[.pointer (some ⟨b,0,none⟩)] w (xY b s w (qz s (Px.stmt s n) (Px.nx s st))):=by
 have hs:s.size<=maxLen:=by unfold maxLen;omega
 have hb:=p.lt;have HD:Hid (gP s (n+1) st/\fQ w b s st.t (-1) st.fF st.fH):=⟨hD,p⟩;have hN0:=hD.n0;have hN:st.fF+(s.size+1:Nat)<=1000000:=by have:=hD.n1;omega
 clear hD p;go_enter func84,ntmps84
 go_wp2_with fail;refine (sV b s _ st.t st.fF st.fH _ (HD.o.2.alloc _) h0).mono ?_;rintro e w' ⟨rfl,hw⟩;rw[<- hw];clear hw;go_wp2_with fail;refine (sV b s _ st.t st.fF st.fH _ (HD.o.2.alloc _) h1).mono ?_;rintro e w' ⟨rfl,hw⟩;rw[<- hw];clear hw;go_wp2_with fail;refine (sV b s _ st.t st.fF st.fH _ (HD.o.2.alloc _) h2).mono ?_;rintro e w' ⟨rfl,hw⟩;rw[<- hw];clear hw;go_wp2_with fail;refine (sV b s _ st.t st.fF st.fH _ (HD.o.2.alloc _) h3).mono ?_;rintro e w' ⟨rfl,hw⟩;rw[<- hw];clear hw;go_wp2_with fail;refine (Db b s _ st.t st.fF st.fH _ (HD.o.2.alloc _) HD.o.1.tk.le hs ho).mono ?_
 rintro e w1 ⟨rfl,p1,k1⟩;have m1:Mk b s w w.heap.size (.ok (jk,Px.nx s st)) st.fF w1:=Mk.start hb rfl k1 ⟨p1,xR HD.o.1.tk⟩;have D1:Hid (gP s (n+1) (Px.nx s st)):=HD.o.1.good (gX HD.o.1.tk ho);clear p1 k1;obtain ⟨y,ve,a1,n1,c1,a2,n2,c2,hc,hcx⟩:=m1.cells;obtain ⟨d0,d1,d2,d3,d4,d5,d6,d7,d8,d9,jT,df⟩:=kG hc;have M2:Hid (Mk b s w w.heap.size (qp 114 (Px.nx s st)) st.fF (w1.setCell ⟨w.heap.size,0,none⟩ (.int .u8 114))):=m1.op 114 hb (aj _);clear hc hcx m1;go_wp2_with fail;clear d0 d1 d2 d3 d4 d5 d6 d7 d8 d9 jT df;refine (lT b s 110 (.ok (Px.nx s st)) _ M2.o.pen hs).mono ?_
 rintro e w2 ⟨⟨kv,kx,rfl⟩,k2,p2⟩;have m3:=M2.o.kind hb (aj _) k2 p2;obtain ⟨y,ve,a1,n1,c1,a2,n2,c2,hc,hcx⟩:=m3.cells;obtain ⟨d0,d1,d2,d3,d4,d5,d6,d7,d8,d9,jT,df⟩:=kG hc;have hq2:w.heap.size < w2.heap.size:=lt_of_cell d0;have V:Hid (_):=LX (r:=.ok (Px.nx s st)) M2.o.pen;have M3:Hid (_):=m3;clear k2 p2 hc hcx m3 M2;go_wp2_with fail;refine (OM _ _ V.o.1 V.o.2).mono ?_;rintro e w' ⟨rfl,hw⟩;rw[hw];clear hw;go_wp2_with fail;have m4:Mk b s w w.heap.size (Br s (Px.nx s st)) st.fF _:=Mk.store (fun y=>{ y with n:=Px.valOf (mg s (.ok (Px.nx s st)) 110).toList,gG:=pI (.ok (Px.nx s st)) 110 }) (fun y=>⟨rfl,rfl,rfl⟩) M3.o
  (W:=((w2.setCell ⟨w.heap.size,7,none⟩ (.int .i64 (Px.valOf (mg s (.ok (Px.nx s st)) 110).toList))).setCell ⟨w.heap.size,8,none⟩ (.int .i64 (pI (.ok (Px.nx s st)) 110))).alloc (.cells #[.int .u8 kv,.string (mg s (.ok (Px.nx s st)) 110),.int .i64 (pI (.ok (Px.nx s st)) 110),.int .i64 kx] 180))
  (((M3.o.kp.gI (aj _) _).gI (aj _) _).alloc _) (by simp) (fun i hi hne=>by rw[aD _ _ _ (by simpa [size_set] using hi),jr _ hne,jr _ hne])
  (fun y ve v1 v2 h=>by rw[aD _ _ _ (by simpa [size_set] using hq2),heap_set _ (heap_set _ h)];simp[oI])
  ?pp ?rr
 case pp =>
  rw[<- Cl];exact ((M3.o.pen.gI (by omega) _).gI (by omega) _).alloc _
 case rr =>
  intro x' st' hx;unfold Br Px.kind at hx;by_cases hk:(Px.nx s st).t.k=110
  ·rw[if_pos hk] at hx;cases hx;refine ⟨rfl,{ jk with op:=114 },Px.nx s (Px.nx s st),?_,?_⟩
   ·simp[gD,qD,Px.kind,hk,qp]
   ·simp[mg,pI,hk,Px.txt]
  ·rw[if_neg hk] at hx;cases hx
 have M4:Hid (_):=m4;clear m4 M3 d0 d1 d2 d3 d4 d5 d6 d7 d8 d9 jT df;refine (Ho b s n _ hst (jS s n) hs3 _ _ M4.o.pen ?hd).mono ?_
 case hd =>
  intro st1 h1;cases hr:Px.kind s 110 (Px.nx s st) with
  | error p=>simp[Br,hr,Except.map] at h1
  | ok st2 =>
   simp[Br,hr,Except.map] at h1;rw[<- h1];exact D1.o.good (oG D1.o.tk (by decide) (by decide) hr)
 rintro e w4 h4;obtain ⟨va,vn,vc,he⟩:∃ va vn vc,e=.returned (.slice va vn vc):=by obtain ⟨_,va,vn,vc,he,_⟩:=h4;exact ⟨va,vn,vc,he⟩
 subst he;have m5:=M4.o.one (jS s n) hb (aj _) h4;obtain ⟨y,ve,a1,n1,c1,a2,n2,c2,hc,hcx⟩:=M4.o.cells;have hc3:=Kp.heap h4.1 hc (by omega)
 obtain ⟨d0,d1,d2,d3,d4,d5,d6,d7,d8,d9,jT,df⟩:=kG hc3;have M5:Hid (_):=m5;clear hc hcx hc3 m5 h4;clear M4;go_wp2_with fail;go_ret;rw[L8];exact M5.o.post (aj _)
theorem C6 (b:Nat)(s:fq)(hs3:s.size<=300)(n:Nat):Fb b s n (Px.stmt s n):=by
 induction n with
 | zero=>intro st w hD p;have:=hD.room;omega
 | succ n ih =>
  intro st w hD p;rw[Px.stmt];cases h0:gy s st.t ⟨#[108,101,116]⟩
  ·cases h1:gy s st.t ⟨#[99,97,108,108]⟩
   ·cases h2:gy s st.t ⟨#[105,102]⟩
    ·cases h3:gy s st.t ⟨#[116,114,121]⟩
     ·cases h4:gy s st.t ⟨#[114,101,112,101,97,116]⟩
      ·exact HY b s n hs3 st w hD p h0 h1 h2 h3 h4
      ·exact Po b s n ih hs3 st w hD p h0 h1 h2 h3 h4
     ·exact Ib b s n ih hs3 st w hD p h0 h1 h2 h3
    ·exact Ia b s n ih hs3 st w hD p h0 h1 h2
   ·exact Hz b s n hs3 st w hD p h0 h1
  ·exact Hy b s n hs3 st w hD p h0
theorem nk {b e g:fC}(hh:w.heap[k]?=some (.cells #[a,b,c,d,e,f,g,h] t)) :
  w.cell? ⟨k,0,none⟩=some a/\w.cell? ⟨k,1,none⟩=some b/\w.cell? ⟨k,2,none⟩=some c/\w.cell? ⟨k,3,none⟩=some d/\w.cell? ⟨k,4,none⟩=some e/\w.cell? ⟨k,5,none⟩=some f/\w.cell? ⟨k,6,none⟩=some g/\w.cell? ⟨k,7,none⟩=some h/\∀ o,w.frozen? ⟨k,o,none⟩=false:=by
 refine ⟨?_,?_,?_,?_,?_,?_,?_,?_,?_⟩<;>simp[World.cell?,World.frozen?,hh]
def Pp (s:fq)(w:fu)(e:Ending)(w':fu):Prop :=
 Below w.heap.size w w'/\∃ a n c,∃ (x p:Nat),e=.returned (.tuple #[.slice a n c,.int .i64 (x:Int),.int .i64 (p:Int)]) /\
  match Px.read s with
  | .error (c',p')=>x=c'/\p=p'/\a=none/\n=0/\c=0
  | .ok l=>x=0/\p=0/\∃ qs,iq w' (.slice a n c) qs (In w w')/\fV w' l (In w w') qs
theorem C7 (s:fq)(w:fu)(h:300 < s.size)(hs:s.size<=maxLen) :
  Calls prog 28 #[.string s] w (Pp s w):=by
 unfold maxLen at hs;have e1:Hid (Px.read s=.error (1,0)):=by unfold Hid;rw[Px.read,if_pos h]
 go_enter func28,ntmps28
 go_wp2_with fail;go_ret3
 refine ⟨aH _ _,none,0,0,1,0,rfl,?_⟩;rw[e1.o];exact ⟨rfl,rfl,rfl,rfl,rfl⟩
theorem Dd (s:fq)(w:fu)(hs3:s.size<=300) :
  Calls prog 28 #[.string s] w (Pp s w):=by
 obtain ⟨i0,hi,hz0,hz1,hz2⟩:=info_parts VX;have hs:s.size<=maxLen:=by unfold maxLen;omega
 have hd:decide (300 < (s.size:Int))=false:=by simp;omega
 have er:Hid (Px.read s=match Px.stmts s (Px.stmt s (s.size+1)) (fun st=>st.t.k == 0) (s.size+1) [] ⟨Px.tok s 0,0,-1⟩ with
  | .error p=>.error (2,p)
  | .ok (l,st)=>if 0<=st.fH then .error (3,st.fH.toNat) else .ok l):=by
  unfold Hid;rw[Px.read,if_neg (by omega)]
  cases Px.stmts s (Px.stmt s (s.size+1)) (fun st=>st.t.k == 0) (s.size+1) [] ⟨Px.tok s 0,0,-1⟩<;>rfl
 have hst:=C6 w.heap.size s hs3 (s.size+1);have HG:Hid (_):=jS s (s.size+1);generalize Px.stmt s (s.size+1)=g at *;go_enter func28,ntmps28
 go_wp2_with fail;refine (LC s 0 _ (aK _) hs).mono ?_;unfold kY;rintro e w1 ⟨rfl,hbw⟩;have g1:w1.heap[w.heap.size]?=some (.cells #[.string s,.int .u8 0,.string ⟨#[]⟩,.int .i64 0,.int .i64 0,.int .i64 (-1),.int .i64 0,.int .i64 (-1)] 182):=by
  rw[hbw.block _ (by simp)]
  show (w.heap.push _)[w.heap.size]?=_
  rw[aB,if_pos rfl]
 obtain ⟨c0,c1,c2,c3,c4,c5,c6,c7,f⟩:=nk g1;have hbz:w.heap.size < w1.heap.size:=lt_of_cell c0;have BW:Hid (Below w.heap.size w w1):=((aH _ _).alloc (aj _) _).trans (hbw.mono (by simp))
 have G1:Hid (_):=g1;clear hbw g1;go_wp2_with fail;generalize hW:(((w1.setCell ⟨w.heap.size,1,none⟩ (.int .u8 ((Px.tok s 0).k:Int))).setCell ⟨w.heap.size,2,none⟩ (.string (s.extract (Px.tok s 0).a (Px.tok s 0).b))).setCell ⟨w.heap.size,3,none⟩ (.int .i64 ((Px.tok s 0).a:Int))).setCell ⟨w.heap.size,4,none⟩ (.int .i64 ((Px.tok s 0).b:Int))=W;have P0:Hid (fQ W w.heap.size s (Px.tok s 0) (-1) 0 (-1)):=⟨by rw[<- hW,heap_set _ (heap_set _ (heap_set _ (heap_set _ G1.o)))];simp⟩
 have L9:Hid (Below w.heap.size w W):=by rw[<- hW];exact (((BW.o.setCell (aj _) _).setCell (aj _) _).setCell (aj _) _).setCell (aj _) _
 have hbW:w.heap.size < W.heap.size:=P0.o.lt;have TK:Hid (Tk s (Px.tok s 0)):=(uj s 0 (aK _)).1;clear hW c0 c1 c2 c3 c4 c5 c6 c7 f BW G1 hbz;generalize hR:Px.stmts s g (fun st=>st.t.k == 0) (s.size+1) [] ⟨Px.tok s 0,0,-1⟩=R at er
 have HRR:Hid (_):=hR;clear hR;generalize V6:w.heap.size=B at *;have Pq:Hid (_):=V6;clear V6;go_loopw [6] (fun v wr=>Hid (LP B s g (fun st=>st.t.k == 0) (gP s (s.size+1)) R W wr v)) (fun _ wr=>qW s B wr)
 case atStart =>
  refine ⟨Kp.refl _ _,[],aT _ _ _ _,ak ⟨[],⟨Px.tok s 0,0,-1⟩,s.size+1,fV.nQ.2 rfl,by simp,P0.o,⟨TK.o,by simp;omega,by simp,by simp;omega⟩,HRR.o,by simp;omega⟩⟩
 case round =>
  obtain ⟨kr,qs,hown,hcase⟩:=hrel.o;clear hrel;obtain ⟨va,vn,vc,rfl⟩:=Pk hown;have KR:Hid (Kp B W wr/\wr.ownsRow W.heap.size 184 1 (.slice va vn vc) qs.length (qs.map ptr)):=⟨kr,hown⟩;clear kr hown;rcases hcase with ⟨l,st1,m,hl,hq,p1,hD1,hch,hm⟩ | ⟨pe,t,fF,fH,hRe,hq,p1⟩
  ·obtain ⟨m,rfl⟩:∃ m',m=m'+1:=⟨m - 1,by omega⟩
   obtain ⟨c0,c1,c2,c3,c4,c5,c6,c7,f,hbr⟩:=p1.cells;have L:Hid (_):=hl;have PP:Hid (_):=p1;have DD:Hid (_):=hD1;have CH:Hid (_):=hch;clear hl p1 hD1 hch;by_cases hk0:st1.t.k=0
   ·have t1:((st1.t.k:Int) != 0)=false:=by rw[hk0];rfl
    have zX:Hid (R=.ok (l,st1)):=by unfold Hid;rw[<- CH.o,Px.stmts,if_pos (by simp[hk0])]
    by_cases hdp:0<=st1.fH
    ·go_wp2_with fail;go_region
     go_wp2_with fail;go_ret3
     refine ⟨by rw[Pq.o];exact (L9.o.trans (KR.o.1.mY (aj _) (by omega))).drew,none,0,0,3,st1.fH.toNat,by rw[Int.toNat_of_nonneg hdp];rfl,?_⟩
     rw[er.o,zX.o];simp only[if_pos hdp,and_self]
    ·go_wp2_with fail;go_ret3
     have z1:=KR.o.1.size;have z0:=L9.o.size;refine ⟨by rw[Pq.o];exact (L9.o.trans (KR.o.1.mY (aj _) (by omega))),va,vn,vc,0,0,rfl,?_⟩
     rw[er.o,zX.o];simp only[if_neg (show ¬ 0<=st1.fH by omega)]
     refine ⟨trivial,trivial,qs,?_,?_⟩
     ·refine V4 KR.o.2 fun k hk=>?_
      have:=KR.o.2.lt k hk
      exact ⟨by omega,by omega⟩
     ·exact L.o.mono fun k hk=>⟨by have:=hk.1.1;omega,hk.1.2⟩
   ·have t1:((st1.t.k:Int) != 0)=true:=by rw[bne_iff_ne];omega
    go_wp2_with fail;refine (hst st1 _ DD.o PP.o).mono ?_;rintro e w3 ⟨k3,q,rfl,h3⟩;have hown3:w3.ownsRow W.heap.size 184 1 (.slice va vn vc) qs.length (qs.map ptr):=Hg KR.o.2 fun k hk=>k3.block k (KR.o.2.lt k hk).2 (by have:=(KR.o.2.lt k hk).1;omega)
    have Hl:W.heap.size<=w3.heap.size:=by have:=k3.size;have:=KR.o.1.size;omega
    have Pm:qs.length<=300:=by have:=DD.o.tk.ab;have:=DD.o.tk.le;omega
    have H3:Hid (xY B s wr (g st1) (.returned (ptr q)) w3):=⟨k3,q,rfl,h3⟩;unfold ptr;clear k3 h3 c0 c1 c2 c3 c4 c5 c6 c7 f;go_wp2_with (first
     | (at_builtin;refine wpList_append_own_at _ rfl _ _ 51 rfl W.heap.size 184 i0 (.pointer none) 1 8 underlying51 hi hz0 hz1 hz2 rfl (by decide) _ _ _ rfl (hown3.alloc _) ⟨w3.heap.size,0,none⟩ 1 1 [.pointer (some ⟨q,0,none⟩)] rfl rfl ?c1 ?c2 ?c3 ?c4 ?c5 ?_)
     | fail)
    case c1 =>
     intro j u hj;match j,hj with
     | 0,hj=>simp at hj;subst hj;simp[Addr.add]
    case c2=>intro u hu;simp at hu;subst hu;rfl
    case c3=>unfold maxLen;omega
    case c4=>omega
    case c5=>simp;omega
    ·intro v' w4 hown' hgrow _ hloc;obtain ⟨r1,r2⟩:=VZ hbW HG.o KR.o.1 KR.o.2 L.o hq DD.o hm (R:=R) (stop:=fun st=>st.t.k == 0) (by rw[<- CH.o,Px.stmts,if_neg (by simp[hk0])];cases g st1<;>rfl) H3.o hown' hgrow hloc
     have RR:Hid (_/\_):=⟨r1,r2⟩;clear r1 r2 hown' hgrow hloc hown3;go_wp2;exact ⟨RR.o.1,by rw[EX PP.o];exact RR.o.2⟩
  ·obtain ⟨c0,c1,c2,c3,c4,c5,c6,c7,f,hbr⟩:=p1.cells;have PP:Hid (R=.error pe/\fQ wr B s t (pe:Int) fF fH):=⟨hRe,p1⟩;have hpe:(0:Int)<=pe:=by omega
   clear p1 hRe;go_wp2_with fail;go_region
   go_wp2_with fail;go_ret3
   refine ⟨by rw[Pq.o];exact (L9.o.trans (KR.o.1.mY (aj _) (by omega))).drew,none,0,0,2,pe,rfl,?_⟩
   rw[er.o,PP.o.1];exact ⟨rfl,rfl,rfl,rfl,rfl⟩
def rP (l:List (fq×Nat)):List fC:=l.flatMap fun v=>[.string v.1,.int .u8 (v.2:Int)]
theorem De (l:List (fq×Nat))(i:Nat)(h:i < l.length):(rP l)[i * 2]?=some (.string l[i].1)/\(rP l)[i * 2+1]?=some (.int .u8 (l[i].2:Int)):=by
 induction l generalizing i with
 | nil=>simp at h
 | cons v l ih =>
  cases i with
  | zero=>exact ⟨rfl,rfl⟩
  | succ i =>
   have:=ih i (by simpa using h)
   have e:(i+1) * 2=i * 2+2:=by omega
   rw[e];exact this
variable {va:Option Addr}{l:List (fq×Nat)}
theorem Pt (h:w.ownsRow base 315 2 (.slice va vn vc) l.length (rP l))(i:Nat)(hi:i < l.length) :
  ∃ g,va=some ⟨g,0,none⟩/\base<=g/\vn=l.length/\w.cell? ⟨g,i * 2,none⟩=some (.string l[i].1)/\w.cell? ⟨g,i * 2+1,none⟩=some (.int .u8 (l[i].2:Int)):=by
 rcases h.2 with ⟨h1,h2⟩ | ⟨g,cap,cur,h1,h2,h3,h4,h5,h6,h7⟩
 ·omega
 ·cases h1;have hc:∀ j,j < l.length * 2->w.cell? ⟨g,j,none⟩=(rP l)[j]?:=by
   intro j hj;rw[<- h7,bC hj];simp[World.cell?,h3]
  obtain ⟨e1,e2⟩:=De l i hi;exact ⟨g,rfl,h2,rfl,by rw[hc _ (by omega)];exact e1,by rw[hc _ (by omega)];exact e2⟩
def wz (l:List (fq×Nat))(x:fq):Int :=
 match iK l x with
 | none=>-1
 | some i=>i
theorem Ma (h:w.ownsRow base 315 2 (.slice va vn vc) l.length (rP l)):vn=l.length/\l.length<=maxLen:=by
 rcases h.2 with ⟨h1,h2⟩ | ⟨g,cap,cur,h1,h2,h3,h4,h5,h6,h7⟩
 ·cases h1;exact ⟨h2.symm,by omega⟩
 ·cases h1;exact ⟨rfl,by omega⟩
theorem Do (hk:k < l.length)(h:(l[k].1.toList == x.toList)=false)(hv:iK l x=(iK (l.drop k) x).map (·+k)):iK l x=(iK (l.drop (k+1)) x).map (·+(k+1)):=by
 rw[hv,cB hk,iK,if_neg (by simp[h])]
 cases iK (l.drop (k+1)) x with
 | none=>rfl
 | some i=>simp;omega
theorem Ds (hk:k < l.length)(h:(l[k].1.toList == x.toList)=true)(hv:iK l x=(iK (l.drop k) x).map (·+k)):iK l x=some k:=by
 rw[hv,cB hk,iK,if_pos h];simp
theorem Dh (l:List (fq×Nat))(x:fq)(w:fu)(base:Nat)(va:Option Addr)(vn vc:Nat)(h:w.ownsRow base 315 2 (.slice va vn vc) l.length (rP l)) :
  Calls prog 126 #[.slice va vn vc,.string x] w fun e w'=>e=.returned (.int .i64 (wz l x))/\w=w':=by
 obtain ⟨rfl,hml⟩:=Ma h;unfold maxLen at hml;have H:Hid (_):=h;clear h;go_enter func126,ntmps126
 go_wp2_with fail;go_loop [5] (fun i=>∃ k:Nat,k<=l.length/\i=.int .i64 k/\Hid (iK l x=(iK (l.drop k) x).map (·+k))) (fun i=>l.length - (intOf i).toNat)
 case atStart=>exact ⟨0,by omega,rfl,by simp[Hid]⟩
 case round =>
  obtain ⟨k,hk,rfl,hv⟩:=hrel;by_cases hlt:k < l.length
  ·obtain ⟨g,rfl,hg,_,hc,hc'⟩:=Pt H.o k hlt;cases hb:(l[k].1.toList == x.toList)
   ·go_wp2_with fail;exact ⟨⟨k+1,by omega,by go_num,Do hlt hb hv.o⟩,by simp[intOf];omega⟩
   ·go_wp2_with fail;go_ret;exact ⟨LG (by rw[wz,Ds hlt hb hv.o]),rfl⟩
  ·go_wp2_with fail;go_ret;exact ⟨LG (by rw[wz,hv.o,cZ (by omega)];rfl),rfl⟩
theorem pW (k z:Nat)(w:fu) :
  Calls prog 123 #[.int .u8 (k:Int),.int .u8 (z:Int)] w fun e w'=>e=.returned (.bool (Px.isK k z))/\w=w':=by
 have e1:Hid (Px.isK k z=(((k:Int) == z) || ((k:Int) == 63))):=by
  unfold Hid Px.isK;rw[bA];simp;omega
 cases h1:((k:Int) == z)
 all_goals
  go_enter func123,ntmps123
  go_wp2_with fail;go_ret;exact ⟨uK (by rw[e1.o,h1];simp),rfl⟩
structure iy (w:fu)(c:Nat)(k:Px.Lk):Prop where
 ex:∃ va vn vc,w.heap[c]?=some (.cells #[.slice va vn vc,.int .i64 (k.e:Int),.int .i64 (k.pl:Int)] 99)/\w.ownsRow (c+1) 315 2 (.slice va vn vc) k.vars.length (rP k.vars)
theorem cells3 {b:fC}(hh:w.heap[k]?=some (.cells #[a,b,c] t)) :
  w.cell? ⟨k,0,none⟩=some a/\w.cell? ⟨k,1,none⟩=some b/\w.cell? ⟨k,2,none⟩=some c/\∀ o,w.frozen? ⟨k,o,none⟩=false:=by
 refine ⟨?_,?_,?_,?_⟩<;>simp[World.cell?,World.frozen?,hh]
variable {xs:List fC}
theorem Pv {c:Nat}{u:fC}(h:w.ownsRow (c+1) e size v n xs):(w.setCell ⟨c,o,none⟩ u).ownsRow (c+1) e size v n xs :=
 ownsRow_setCell_below h (Nat.lt_succ_self _) u
theorem Pw {c:Nat}{a:fu}(h:Below c a w)(u:fC):Below c a (w.setCell ⟨c,o,none⟩ u):=h.setCell (p:=⟨c,o,none⟩) (aj _) u
theorem jm (h:w.ownsRow base e size v n xs):∃ a k c,v=.slice a k c:=by
 rcases h.2 with ⟨h1,_⟩ | ⟨g,cap,cur,h1,_⟩
 ·exact ⟨_,_,_,h1⟩
 ·exact ⟨_,_,_,h1⟩
theorem D0 (l:List (fq×Nat))(x:fq)(z:Nat):rP (l++[(x,z)])=rP l++[.string x,.int .u8 (z:Int)]:=by simp[rP]
theorem vH (c e p:Nat)(k:Px.Lk)(w:fu)(h:iy w c k) :
  Calls prog 124 #[.pointer (some ⟨c,0,none⟩),.int .i64 (e:Int),.int .i64 (p:Int)] w fun e' w'=>e'=.returned (.tuple #[])/\iy w' c (Px.say e p k)/\Below c w w':=by
 obtain ⟨va,vn,vc,h1,h2⟩:=h.ex;obtain ⟨c0,c1,c2,f⟩:=cells3 h1;have yes:Px.say e p k=⟨k.vars,e,p⟩->iy ((w.setCell ⟨c,1,none⟩ (.int .i64 (e:Int))).setCell ⟨c,2,none⟩ (.int .i64 (p:Int))) c (Px.say e p k)/\Below c w ((w.setCell ⟨c,1,none⟩ (.int .i64 (e:Int))).setCell ⟨c,2,none⟩ (.int .i64 (p:Int))):=by
  intro hs;rw[hs];exact ⟨⟨va,vn,vc,by rw[heap_set _ (heap_set _ h1)];simp,Pv (Pv h2)⟩,Pw (Pw (aH _ _) _) _⟩
 have no:Px.say e p k=k->iy w c (Px.say e p k)/\Below c w w:=by
  intro hs;rw[hs];exact ⟨⟨va,vn,vc,h1,h2⟩,aH _ _⟩
 have YES:Hid (_):=yes;have NO:Hid (_):=no;clear yes no h h1 h2;by_cases g0:k.e=0
 ·have t0:((k.e:Int) == 0)=true:=by rw[g0];rfl
  go_enter func124,ntmps124
  go_wp2_with fail;go_end0
  exact ⟨rfl,YES.o (by unfold Px.say;rw[if_pos (ak g0)])⟩
 ·have t0:((k.e:Int) == 0)=false:=by rw[beq_eq_false_iff_ne];omega
  by_cases g1:p < k.pl
  ·have t1:(p:Int) < k.pl:=by omega
   go_enter func124,ntmps124
   go_wp2_with fail;go_end0
   exact ⟨rfl,YES.o (by unfold Px.say;rw[if_pos (ah (ak g1))])⟩
  ·have t1:¬ (p:Int) < k.pl:=by omega
   by_cases g2:p=k.pl
   ·have t2:((p:Int) == k.pl)=true:=by rw[beq_iff_eq];omega
    have G2:Hid (_):=g2;clear g2;by_cases g3:e < k.e
    ·have t3:(e:Int) < k.e:=by omega
     go_enter func124,ntmps124
     go_wp2_with fail;go_end0
     exact ⟨rfl,YES.o (by unfold Px.say;rw[if_pos (ah (ah ⟨G2.o,g3⟩))])⟩
    ·have t3:¬ (e:Int) < k.e:=by omega
     go_enter func124,ntmps124
     go_wp2_with fail;go_end0
     exact ⟨rfl,NO.o (by unfold Px.say;rw[if_neg (by omega)])⟩
   ·have t2:((p:Int) == k.pl)=false:=by rw[beq_eq_false_iff_ne];omega
    go_enter func124,ntmps124
    go_wp2_with fail;go_end0
    exact ⟨rfl,NO.o (by unfold Px.say;rw[if_neg (by omega)])⟩
theorem Eg:(prog.info? 315).map (fun i=>(i.zero,i.size,i.bytes))=some (some (.agg #[.string ⟨#[]⟩,.int .u8 0]),2,24):=by kernel_rfl
theorem vo {i:Nat}(h:iK l x=some i):i < l.length:=by
 induction l generalizing i with
 | nil=>cases h
 | cons v l ih =>
  rw[iK] at h;split at h
  ·cases h;simp
  ·cases hf:iK l x with
   | none=>rw[hf] at h;cases h
   | some j=>rw[hf] at h;cases h;have:=ih hf;simp;omega
theorem Ic (c:Nat)(x:fq)(p z:Nat)(k:Px.Lk)(w:fu)(h:iy w c k)(hv:k.vars.length<=1000000) :
  Calls prog 122 #[.pointer (some ⟨c,0,none⟩),.string x,.int .i64 (p:Int),.int .u8 (z:Int)] w fun e' w'=>e'=.returned (.tuple #[])/\iy w' c (nP x p z k)/\Below c w w':=by
 obtain ⟨va,vn,vc,h1,h2⟩:=h.ex;obtain ⟨c0,c1,c2,f⟩:=cells3 h1;obtain ⟨rfl,_⟩:=Ma h2;have hcz:c < w.heap.size:=lt_of_cell c0;have H:Hid (_/\_):=⟨h1,h2⟩;have HL:Hid (_):=h;clear h1 h2 h;cases hf:iK k.vars x with
 | none =>
  obtain ⟨i0,hi,hz0,hz1,hz2⟩:=info_parts Eg;have e1:Hid (nP x p z k=⟨k.vars++[(x,z)],k.e,k.pl⟩):=by unfold Hid nP;rw[hf]
  have e2:Hid (wz k.vars x=-1):=by unfold Hid wz;rw[hf]
  clear hf;go_enter func122,ntmps122
  go_wp2_with fail;refine (Dh k.vars x _ _ _ _ _ H.o.2).mono ?_;rintro e w' ⟨rfl,rfl⟩;rw[e2.o];go_wp2_with (first
   | (at_builtin;refine wpList_append_own_at _ rfl _ _ 52 rfl (c+1) 315 i0 (.agg #[.string ⟨#[]⟩,.int .u8 0]) 2 24 underlying52 hi hz0 hz1 hz2 rfl (by decide) _ _ _ rfl (H.o.2.alloc _) ⟨w.heap.size,0,none⟩ 1 1 [.string x,.int .u8 (z:Int)] rfl rfl ?c1 ?c2 ?c3 ?c4 ?c5 ?_)
   | fail)
  case c1 =>
   intro j u hj;match j,hj with
   | 0,hj=>simp at hj;subst hj;simp[Addr.add]
   | 1,hj=>simp at hj;subst hj;simp[Addr.add]
  case c2=>intro u hu;simp at hu;rcases hu with rfl | rfl<;>rfl
  case c3=>unfold maxLen;omega
  case c4=>omega
  case c5=>simp;omega
  ·intro v' w3 hown' hgrow _ hloc;obtain ⟨va',vn',vc',rfl⟩:=jm hown';have oP:∀ i,(Value.slice va k.vars.length vc).ownBlock=some i->c+1<=i:=fun i hi=>(H.o.2.lt i hi).1
   have h3:w3.heap[c]?=some (.cells #[.slice va k.vars.length vc,.int .i64 (k.e:Int),.int .i64 (k.pl:Int)] 99):=by
    rw[hgrow.block c (by simp;omega) (fun e=>by have:=oP c e.symm;omega),aD _ _ _ hcz];exact H.o.1
   obtain ⟨d0,d1,d2,df⟩:=cells3 h3;have hb3:Below c w w3:=((aH _ _).alloc (by omega) _).grown hgrow (by simp;omega) (fun i hi=>by have:=oP i hi;omega)
   have H3:Hid (_/\_/\_):=⟨hown',h3,hb3⟩;clear hown' hgrow hloc h3 hb3 oP;go_wp2_with fail;refine bodyPost_ret (results_none rfl _ _ _) rfl ?_;rw[e1.o];refine ⟨rfl,⟨va',vn',vc',by rw[heap_set _ H3.o.2.1];simp,?_⟩,Pw H3.o.2.2 _⟩
   have:=Pv (c:=c) (o:=0) (u:=.slice va' vn' vc') H3.o.1
   rw[D0]
   simpa using this
 | some i =>
  have hlt:=vo hf;obtain ⟨g,rfl,hg,_,hc,hc'⟩:=Pt H.o.2 i hlt;have e2:Hid (wz k.vars x=(i:Int)):=by unfold Hid wz;rw[hf]
  have e3:og k.vars i=k.vars[i].2:=by simp[og,hlt]
  have e1:Hid (nP x p z k=if uD k.vars[i].2 z then Px.say 6 p k else k):=by unfold Hid nP;rw[hf];simp only[e3]
  have e4:Hid (uD k.vars[i].2 z=(((k.vars[i].2:Int) != z) && ((k.vars[i].2:Int) != 63) && ((z:Int) != 63))):=by
   unfold Hid uD;rw[bA];simp;omega
  have E3:Hid (_):=e3;clear hf e3;generalize hkz:k.vars[i].2=kz at *;clear hkz;cases g1:((kz:Int) != z)
  ·go_enter func122,ntmps122
   go_wp2_with fail;refine (Dh k.vars x _ _ _ _ _ H.o.2).mono ?_;rintro e w' ⟨rfl,rfl⟩;rw[e2.o];go_wp2_with fail;go_end0
   rw[e1.o,e4.o,g1];exact ⟨rfl,HL.o,aH _ _⟩
  ·cases g2:((kz:Int) != 63)
   ·go_enter func122,ntmps122
    go_wp2_with fail;refine (Dh k.vars x _ _ _ _ _ H.o.2).mono ?_;rintro e w' ⟨rfl,rfl⟩;rw[e2.o];go_wp2_with fail;go_end0
    rw[e1.o,e4.o,g1,g2];exact ⟨rfl,HL.o,aH _ _⟩
   ·cases g3:((z:Int) != 63)
    ·go_enter func122,ntmps122
     go_wp2_with fail;refine (Dh k.vars x _ _ _ _ _ H.o.2).mono ?_;rintro e w' ⟨rfl,rfl⟩;rw[e2.o];go_wp2_with fail;go_end0
     rw[e1.o,e4.o,g1,g2,g3];exact ⟨rfl,HL.o,aH _ _⟩
    ·go_enter func122,ntmps122
     go_wp2_with fail;refine (Dh k.vars x _ _ _ _ _ H.o.2).mono ?_;rintro e w' ⟨rfl,rfl⟩;rw[e2.o];go_wp2_with fail;refine (vH c 6 p k _ HL.o).mono ?_;rintro e w1 ⟨rfl,l1,b1⟩;have L1:Hid (_/\_):=⟨l1,b1⟩;clear l1 b1;go_wp2_with fail;go_end0
     rw[e1.o,e4.o,g1,g2,g3];exact ⟨rfl,L1.o⟩
