import Derived.Test.YtokkhhekekeokaaGreatDoorH16
set_option maxRecDepth 100000
namespace Go.Proofs.YtokkhhekekeokaaGreatDoor
open Go.RowKit
namespace Px
def zki (P:Pg) (S:List (Option Vst)):List (Nat×Nat×Nat)→Option Nat→Prop
 | [],t=>t=none
 | b::r,t=>∃ q i s,t=some q∧P.ins[q]?=some i∧i.k=15∧atV S q=some s∧b.2.1=s.1∧b.2.2=i.a∧zki P S r s.2
def FlV:List (Nat×Nat×Nat)→Nat→Prop
 | [],_=>True
 | b::r,n=>b.1≤n∧FlV r b.1
theorem FlV.le {l:List (Nat×Nat×Nat)} {n n':Nat} (h:FlV l n) (hn:n≤n'):FlV l n':=by
 cases l with
 | nil=>trivial
 | cons b r=>exact ⟨Nat.le_trans h.1 hn,h.2⟩
def R64 (v:Int):Prop:=-9223372036854775808≤v∧v≤9223372036854775807
theorem qus (v:Int):R64 (wrap64 v):=by unfold R64 wrap64;omega
theorem qw2 (b:Bool):R64 (truth b):=by cases b<;>exact ⟨by decide,by decide⟩
theorem zpm:R64 0:=⟨by decide,by decide⟩
structure InvM (P:Pg) (S:List (Option Vst)) (c:Nat) (m:Ms):Prop where
 vars:m.vars.length=P.nv
 rst:∀ v∈m.st,R64 v
 rvars:∀ v∈m.vars,R64 v
 rleft:∀ v∈m.left,R64 v
 rund:∀ u∈m.undos,R64 u.2∧u.1 < P.words.length
 fl:FlV m.begun m.undos.length
 tried:m.tried < 65536
 at_:∃ t,zki P S m.begun t∧qcg S t≤m.st.length∧(m.qak=false→atV S m.place=some (m.st.length,t))
 pl:m.place≤P.ins.length
 fin:m.fin=0
 c1:m.st.length≤c
 c2:m.undos.length≤c
 c3:m.begun.length≤c
 c4:m.asks.length≤c
theorem InvM.up {P:Pg} {S:List (Option Vst)} {c c':Nat} {m:Ms} (h:InvM P S c m) (hc:c≤c'):InvM P S c' m :=
 ⟨h.vars,h.rst,h.rvars,h.rleft,h.rund,h.fl,h.tried,h.at_,h.pl,h.fin,Nat.le_trans h.c1 hc,Nat.le_trans h.c2 hc,Nat.le_trans h.c3 hc,Nat.le_trans h.c4 hc⟩
theorem qhg {P:Pg} {i:Nat} {arg:Int} {most:Nat} {und:Bool} {m:Ms} {e:Nat} {v:Int} {m':Ms} (h:askM P i arg most und m=(e,v,m')) :
  ∃ a l t,m'={ m with asks:=m.asks++[a],left:=l,tried:=t }∧(∀ x∈l,x∈m.left)∧(t≤m.tried∨t < most)∧(e=0→v∈m.left∧0≤v)∧(e≠0→v=0)∧e≤3:=by
 unfold askM at h;split at h
 ·rename_i hl;cases h;exact ⟨_,m.left,m.tried,rfl,fun _ h=>h,Or.inl (Nat.le_refl _),(fun h=>by cases h),fun _=>rfl,by decide⟩
 ·rename_i v0 r hl;have hr:∀ x∈r,x∈m.left:=fun x hx=>by rw[hl];exact List.mem_cons_of_mem _ hx
  split at h
  ·rename_i hc;cases h;exact ⟨_,r,_,rfl,hr,Or.inr hc.2,(fun h=>by cases h),fun _=>rfl,by decide⟩
  ·split at h
   ·cases h;exact ⟨_,r,0,rfl,hr,Or.inl (Nat.zero_le _),(fun h=>by cases h),fun _=>rfl,by decide⟩
   ·rename_i hv;cases h;exact ⟨_,r,0,rfl,hr,Or.inl (Nat.zero_le _),fun _=>⟨by rw[hl];exact List.mem_cons_self,by omega⟩,fun h=>absurd rfl h,by decide⟩
theorem InvM.ask {P:Pg} {S:List (Option Vst)} {c:Nat} {m:Ms} (h:InvM P S c m) {i:Nat} {arg:Int} {most:Nat} {und:Bool} {e:Nat} {v:Int} {m':Ms} (he:askM P i arg most und m=(e,v,m')) (hm:most≤65536):InvM P S (c+1) m':=by
 obtain ⟨a,l,t,rfl,h1,h2,_⟩:=qhg he
 have:=h.tried
 exact ⟨h.vars,h.rst,h.rvars,fun v hv=>h.rleft v (h1 v hv),h.rund,h.fl,by show t < 65536;omega,h.at_,h.pl,h.fin,Nat.le_succ_of_le h.c1,Nat.le_succ_of_le h.c2,Nat.le_succ_of_le h.c3,by have:=h.c4;simp;omega⟩
theorem InvM.stp {P:Pg} {S:List (Option Vst)} {c:Nat} {m:Ms} (h:InvM P S c m) (hS:qnp P S) {st:List Int} {p:Nat} {t:Option Nat} (hr:∀ v∈st,R64 v) (hl:st.length≤c+1) (hc:zki P S m.begun t) (hs:atV S p=some (st.length,t)) (hp:p≤P.ins.length):InvM P S (c+1) { m with st:=st,place:=p } :=
 ⟨h.vars,hr,h.rvars,h.rleft,h.rund,h.fl,h.tried,⟨t,hc,(qde hS.try_ (LeV.refl _) hs).2,fun _=>hs⟩,hp,h.fin,hl,Nat.le_succ_of_le h.c2,Nat.le_succ_of_le h.c3,Nat.le_succ_of_le h.c4⟩
theorem qjp {P:Pg} {i:Ins} (h:fitV P i=true) (h1:12≤i.k) (h2:i.k≤16):i.a≤P.ins.length:=by
 unfold fitV at h;rw[if_neg (by omega),if_neg (by omega),if_pos ⟨h1,h2⟩] at h
 have:=of_decide_eq_true h
 omega
theorem qye {P:Pg} {i:Ins} (h:fitV P i=true) (h1:i.k=1∨i.k=2):i.a < P.nv:=by
 unfold fitV at h;rw[if_pos h1] at h;exact of_decide_eq_true h
theorem zba {P:Pg} {i:Ins} (h:fitV P i=true) (h1:i.k=18∨i.k=19):i.a < P.words.length:=by
 unfold fitV at h;rw[if_neg (by omega),if_pos h1] at h
 exact of_decide_eq_true h
theorem qwa {l:List Int} (h:0 < l.length):l.headD 0∈l:=by
 cases l with
 | nil=>simp at h
 | cons a l=>simp
structure CanM (P:Pg) (i:Ins) (m:Ms):Prop where
 k:i.k < 20
 a:i.a < 65536
 b:i.b < 65536
 st:qbf i.k≤m.st.length
 fit:fitV P i=true
 keep:i.k=16→m.begun≠[]
theorem InvM.can {P:Pg} {S:List (Option Vst)} {c:Nat} {m:Ms} (h:InvM P S c m) (hS:qnp P S) (ho:∀ i∈P.ins,OkI i) (hu:m.qak=false) {i:Ins} (hi:P.ins[m.place]?=some i):CanM P i m:=by
 obtain ⟨t,h1,h2,h3⟩:=h.at_;obtain ⟨now,e1,e2,e3,e4⟩:=hS.ok _ _ hi;rw[h3 hu] at e1;cases e1;have ok:=ho i (List.mem_of_getElem? hi);refine ⟨ok.k,ok.a,ok.b,by show _≤m.st.length;exact Nat.le_trans (Nat.le_add_right _ _) e3,e2,fun hk hb=>?_⟩
 obtain ⟨q,s,g1,_⟩:=e4.2.2.2.2.1 hk;rw[hb] at h1
 replace h1:t=none:=h1
 rw[h1] at g1;cases g1
theorem zxw {P:Pg} {S:List (Option Vst)} {c:Nat} {m:Ms} (h:InvM P S c m) (hS:qnp P S) (ho:∀ i∈P.ins,OkI i) (hu:m.qak=false) {i:Ins} (hi:P.ins[m.place]?=some i) {e:Nat} {m':Ms} (he:doM P i { m with place:=m.place+1 }=(e,m')) :
  (e=0→InvM P S (c+1) m')∧(e≠0→InvM P S (c+1) { m' with place:=m.place }):=by
 have hcan:=h.can hS ho hu hi;have hpl:m.place < P.ins.length:=(List.getElem?_eq_some_iff.1 hi).1;obtain ⟨t,h1,h2,h3⟩:=h.at_;obtain ⟨now,e1,e2,e3,e4⟩:=hS.ok _ _ hi;have h3:=h3 hu;rw[h3] at e1;cases e1;obtain ⟨l12,l13,l14,l15,l16,lo⟩:=e4;have hk:=hcan.k;have hst:=hcan.st;have hc1:=h.c1;have rt:∀ v∈m.st.tail,R64 v:=fun v hv=>h.rst v (List.mem_of_mem_tail hv)
 have rtt:∀ v∈m.st.tail.tail,R64 v:=fun v hv=>rt v (List.mem_of_mem_tail hv)
 have cons:∀ {v:Int} {l:List Int},R64 v→(∀ x∈l,R64 x)→∀ x∈v::l,R64 x:=fun hv hl x hx=>by
  rw[List.mem_cons] at hx;rcases hx with rfl | hx
  ·exact hv
  ·exact hl x hx
 have none0:∀ {x:Ms},e=0→InvM P S (c+1) x→((0:Nat)=0→InvM P S (c+1) x):=fun _ h _=>h
 unfold doM at he;by_cases k0:i.k=0
 ·rw[if_pos k0] at he;cases he;refine ⟨fun _=>?_,fun h=>absurd rfl h⟩
  have hn:=lo (by omega)
  rw[show qdd i.k=1 by rw[k0]<;>rfl,show qbf i.k=0 by rw[k0]<;>rfl] at hn
  exact h.stp hS (cons ⟨by omega,by have:=hcan.a;omega⟩ h.rst) (by simp;omega) h1 (by simpa using hn) hpl
 rw[if_neg k0] at he;by_cases k1:i.k=1
 ·rw[if_pos k1] at he;cases he;refine ⟨fun _=>?_,fun h=>absurd rfl h⟩
  have hn:=lo (by omega)
  rw[show qdd i.k=1 by rw[k1]<;>rfl,show qbf i.k=0 by rw[k1]<;>rfl] at hn
  have hv:=qye e2 (Or.inl k1);refine h.stp hS (cons ?_ h.rst) (by simp;omega) h1 (by simpa using hn) hpl
  have:i.a < m.vars.length:=by rw[h.vars];exact hv
  show R64 (m.vars.getD i.a 0)
  rw[List.getD_eq_getElem?_getD,List.getElem?_eq_getElem this];exact h.rvars _ (List.getElem_mem this)
 rw[if_neg k1] at he;by_cases k2:i.k=2
 ·rw[if_pos k2] at he;cases he;refine ⟨fun _=>?_,fun h=>absurd rfl h⟩
  have hn:=lo (by omega)
  rw[show qdd i.k=0 by rw[k2]<;>rfl,show qbf i.k=1 by rw[k2]<;>rfl] at hn
  rw[show qbf i.k=1 by rw[k2]<;>rfl] at hst
  have:=h.stp (st:=m.st.tail) (p:=m.place+1) hS rt (by simp;omega) h1 (by rw[List.length_tail];exact hn) hpl
  refine ⟨by simpa using h.vars,this.rst,fun v hv=>?_,this.rleft,this.rund,this.fl,this.tried,this.at_,this.pl,this.fin,this.c1,this.c2,this.c3,this.c4⟩
  rcases List.mem_or_eq_of_mem_set hv with hv | rfl
  ·exact h.rvars v hv
  ·exact h.rst _ (qwa hst)
 rw[if_neg k2] at he;by_cases k3:i.k=3
 ·rw[if_pos k3] at he;cases he;refine ⟨fun _=>?_,fun h=>absurd rfl h⟩
  have hn:=lo (by omega)
  rw[show qdd i.k=0 by rw[k3]<;>rfl,show qbf i.k=1 by rw[k3]<;>rfl] at hn
  exact h.stp hS rt (by simp;omega) h1 (by rw[List.length_tail];exact hn) hpl
 rw[if_neg k3] at he;by_cases k7:i.k=7
 ·rw[if_pos k7] at he;have hn:=lo (by omega)
  rw[show qdd i.k=1 by rw[k7]<;>rfl,show qbf i.k=2 by rw[k7]<;>rfl] at hn
  rw[show qbf i.k=2 by rw[k7]<;>rfl] at hst
  split at he
  ·cases he;exact ⟨(fun h=>by cases h),fun _=>h.up (Nat.le_succ c)⟩
  ·cases he;exact ⟨fun _=>h.stp hS (cons (qus _) rtt) (by simp;omega) h1 (by simp only[List.length_cons,List.length_tail];rw[show m.st.length - 1 - 1+1=m.st.length+1 - 2 by omega];exact hn) hpl,fun h=>absurd rfl h⟩
 rw[if_neg k7] at he;by_cases k10:i.k≤10
 ·rw[if_pos k10] at he;cases he;refine ⟨fun _=>?_,fun h=>absurd rfl h⟩
  have hn:=lo (by omega)
  have g1:qdd i.k=1:=by unfold qdd;rw[if_neg (by omega),if_neg (by omega),if_pos (by omega)]
  have g2:qbf i.k=2:=by unfold qbf;rw[if_neg (by omega),if_neg (by omega),if_pos (by omega)]
  rw[g1,g2] at hn;rw[g2] at hst;refine h.stp hS (cons ?_ rtt) (by simp;omega) h1 (by simp only[List.length_cons,List.length_tail];rw[show m.st.length - 1 - 1+1=m.st.length+1 - 2 by omega];exact hn) hpl
  unfold op2M
  repeat' split
  all_goals first | exact qus _ | exact qw2 _
 rw[if_neg k10] at he;by_cases k11:i.k=11
 ·rw[if_pos k11] at he;cases he;refine ⟨fun _=>?_,fun h=>absurd rfl h⟩
  have hn:=lo (by omega)
  rw[show qdd i.k=1 by rw[k11]<;>rfl,show qbf i.k=1 by rw[k11]<;>rfl] at hn
  rw[show qbf i.k=1 by rw[k11]<;>rfl] at hst
  exact h.stp hS (cons (qw2 _) rt) (by simp;omega) h1 (by simp only[List.length_cons,List.length_tail];rw[show m.st.length - 1+1=m.st.length+1 - 1 by omega];exact hn) hpl
 rw[if_neg k11] at he;by_cases k12:i.k=12
 ·rw[if_pos k12] at he;cases he;exact ⟨fun _=>h.stp hS h.rst (Nat.le_succ_of_le hc1) h1 (l12 k12) (qjp e2 (by omega) (by omega)),fun h=>absurd rfl h⟩
 rw[if_neg k12] at he;by_cases k13:i.k=13
 ·rw[if_pos k13] at he;cases he;refine ⟨fun _=>?_,fun h=>absurd rfl h⟩
  obtain ⟨a1,a2⟩:=l13 k13;refine h.stp hS rt (by simp;omega) h1 ?_ ?_
  ·rw[List.length_tail];split
   ·exact a1
   ·exact a2
  ·have:=qjp e2 (by omega) (by omega)
   split
   ·exact this
   ·exact hpl
 rw[if_neg k13] at he;by_cases k14:i.k=14
 ·rw[if_pos k14] at he;obtain ⟨a1,a2⟩:=l14 k14;rw[show qbf i.k=1 by rw[k14]<;>rfl] at hst
  split at he
  ·cases he;refine ⟨fun _=>h.stp hS (cons (qus _) rt) (by simp;omega) h1 ?_ hpl,fun h=>absurd rfl h⟩
   simp only[List.length_cons,List.length_tail];rw[show m.st.length - 1+1=m.st.length by omega]
   exact a2
  ·cases he;exact ⟨fun _=>h.stp hS rt (by simp;omega) h1 (by rw[List.length_tail];exact a1) (qjp e2 (by omega) (by omega)),fun h=>absurd rfl h⟩
 rw[if_neg k14] at he;by_cases k15:i.k=15
 ·rw[if_pos k15] at he;cases he;obtain ⟨a1,a2⟩:=l15 k15
  have:=h.c3
  exact ⟨fun _=>⟨h.vars,h.rst,h.rvars,h.rleft,h.rund,⟨Nat.le_refl _,h.fl⟩,h.tried,⟨some m.place,⟨m.place,i,_,rfl,hi,k15,h3,rfl,rfl,h1⟩,(qde hS.try_ (LeV.refl _) a2).2,fun _=>a2⟩,hpl,h.fin,Nat.le_succ_of_le h.c1,Nat.le_succ_of_le h.c2,by simpa using this,Nat.le_succ_of_le h.c4⟩,fun h=>absurd rfl h⟩
 rw[if_neg k15] at he;by_cases k16:i.k=16
 ·rw[if_pos k16] at he;cases he;obtain ⟨q,s,b1,b2,b3,b4⟩:=l16 k16
  replace b1:t=some q:=b1
  replace b3:m.st.length=s.1:=b3
  refine ⟨fun _=>?_,fun h=>absurd rfl h⟩
  subst b1;cases hb:m.begun with
  | nil=>rw[hb] at h1;cases h1
  | cons b r =>
   rw[hb] at h1;obtain ⟨q',i',s',x1,x2,x3,x4,x5,x6,x7⟩:=h1;cases x1;rw[b2] at x4;cases x4;have b4':atV S i.a=some (m.st.length,s.2):=by rw[b4,b3]
   have hfl:=h.fl;rw[hb] at hfl;have hc3:=h.c3;rw[hb,List.length_cons] at hc3;exact ⟨h.vars,h.rst,h.rvars,h.rleft,h.rund,hfl.2.le hfl.1,h.tried,⟨s.2,x7,(qde hS.try_ (LeV.refl _) b4').2,fun _=>b4'⟩,qjp e2 (by omega) (by omega),h.fin,Nat.le_succ_of_le h.c1,Nat.le_succ_of_le h.c2,by show r.length≤_;omega,Nat.le_succ_of_le h.c4⟩
 rw[if_neg k16] at he;by_cases k17:i.k=17
 ·rw[if_pos k17] at he;cases he;exact ⟨(fun h=>by cases h),fun _=>h.up (Nat.le_succ c)⟩
 rw[if_neg k17] at he;by_cases k18:i.k=18
 ·rw[if_pos k18] at he;have hn:=lo (by omega)
  rw[show qdd i.k=1 by rw[k18]<;>rfl,show qbf i.k=1 by rw[k18]<;>rfl] at hn
  rw[show qbf i.k=1 by rw[k18]<;>rfl] at hst
  cases ha:askM P i.a (m.st.headD 0) i.b false { m with place:=m.place+1 } with
  | mk ea va =>
   obtain ⟨va,ma⟩:=va;obtain ⟨a,l,t',rfl,g1,g2,g3,g4,g5⟩:=qhg ha;have hbb:=hcan.b;have htr:=h.tried;have hc4:=h.c4
   replace g2:t'≤m.tried∨t' < i.b:=g2
   have key:∀ (st:List Int) (p:Nat),(∀ v∈st,R64 v)→st.length=m.st.length→(p=m.place∨p=m.place+1)→InvM P S (c+1) { m with st:=st,place:=p,asks:=m.asks++[a],left:=l,tried:=t' }:=by
    intro st p hr hl hp;have hs:atV S p=some (st.length,t):=by
     rw[hl];rcases hp with rfl | rfl
     ·exact h3
     ·exact hn
    exact ⟨h.vars,hr,h.rvars,fun v hv=>h.rleft v (g1 v hv),h.rund,h.fl,by show t' < 65536;omega,⟨t,h1,by show qcg S t≤st.length;omega,fun _=>hs⟩,by show p≤_;omega,h.fin,by show st.length≤_;omega,Nat.le_succ_of_le h.c2,Nat.le_succ_of_le h.c3,by simp;omega⟩
   rw[show askM P i.a (({ m with place:=m.place+1 }:Ms).st.headD 0) i.b false { m with place:=m.place+1 }=(ea,va,{ m with place:=m.place+1,asks:=m.asks++[a],left:=l,tried:=t' }) from ha] at he
   by_cases hz:ea=0
   ·subst hz;cases he;refine ⟨fun _=>?_,fun h=>absurd rfl h⟩
    exact key (va::m.st.tail) (m.place+1) (cons (h.rleft _ (g3 rfl).1) rt) (by simp;omega) (Or.inr rfl)
   ·have he':((ea,{ m with place:=m.place+1,asks:=m.asks++[a],left:=l,tried:=t' }):Nat×Ms)=(e,m'):=by
     rw[← he];cases ea with
     | zero=>exact absurd rfl hz
     | succ n=>rfl
    cases he';exact ⟨fun h=>absurd h hz,fun _=>key m.st m.place h.rst rfl (Or.inl rfl)⟩
 rw[if_neg k18] at he;cases he;have hk19:i.k=19:=by omega
 have hn:=lo (by omega)
 rw[show qdd i.k=1 by rw[hk19]<;>rfl,show qbf i.k=1 by rw[hk19]<;>rfl] at hn
 rw[show qbf i.k=1 by rw[hk19]<;>rfl] at hst
 refine ⟨fun _=>?_,fun h=>absurd rfl h⟩
 have hn':atV S (m.place+1)=some (m.st.length,t):=hn
 have:=h.c2
 refine ⟨h.vars,h.rst,h.rvars,h.rleft,fun u hu=>?_,h.fl.le (by simp),h.tried,⟨t,h1,h2,fun _=>hn'⟩,hpl,h.fin,Nat.le_succ_of_le h.c1,by simp;omega,Nat.le_succ_of_le h.c3,Nat.le_succ_of_le h.c4⟩
 rw[List.mem_cons] at hu;rcases hu with rfl | hu
 ·exact ⟨h.rst _ (qwa hst),zba e2 (Or.inr hk19)⟩
 ·exact h.rund u hu
open Go.RowKit
theorem qr0 {P:Pg} {S:List (Option Vst)} {c:Nat} {m:Ms} (h:InvM P S c m) (hS:qnp P S) {b:Nat×Nat×Nat} {r:List (Nat×Nat×Nat)} (hb:m.begun=b::r) :
  b.2.1≤m.st.length∧InvM P S (c+1) { m with qak:=false,begun:=r,st:=m.st.drop (m.st.length - b.2.1),place:=b.2.2 }:=by
 obtain ⟨t,h1,h2,_⟩:=h.at_;have hfl:=h.fl;have hc3:=h.c3;have hc1:=h.c1;rw[hb] at h1 hfl hc3;rw[List.length_cons] at hc3;obtain ⟨q,i,s,rfl,x2,x3,x4,x5,x6,x7⟩:=h1;have hfs:s.1≤m.st.length:=by
  unfold qcg at h2;simp only[x4] at h2;exact h2
 obtain ⟨now,e1,e2,e3,e4⟩:=hS.ok _ _ x2;rw[x4] at e1;cases e1;have hat:=(e4.2.2.2.1 x3).1;have hl:(m.st.drop (m.st.length - b.2.1)).length=s.1:=by rw[List.length_drop,x5];omega
 have hat':atV S b.2.2=some ((m.st.drop (m.st.length - b.2.1)).length,s.2):=by rw[hl,x6];exact hat
 refine ⟨by omega,h.vars,fun v hv=>h.rst v (List.mem_of_mem_drop hv),h.rvars,h.rleft,h.rund,hfl.2.le hfl.1,h.tried,⟨s.2,x7,(qde hS.try_ (LeV.refl _) hat').2,fun _=>hat'⟩,?_,h.fin,by show (m.st.drop (m.st.length - b.2.1)).length≤_;omega,Nat.le_succ_of_le h.c2,by show r.length≤_;omega,Nat.le_succ_of_le h.c4⟩
 show b.2.2≤_
 rw[x6];exact qjp e2 (by omega) (by omega)
theorem za8 {P:Pg} {S:List (Option Vst)} {c:Nat} {m:Ms} (h:InvM P S c m):qbw m≤m.undos.length:=by
 have hfl:=h.fl;unfold qbw;cases hb:m.begun with
 | nil=>exact Nat.zero_le _
 | cons b r=>rw[hb] at hfl;exact hfl.1
theorem zku {P:Pg} {S:List (Option Vst)} {c:Nat} {m:Ms} (h:InvM P S c m) (hS:qnp P S) (_hu:m.qak=true) {e:Nat} {m':Ms} (he:qa2 P m=(e,m')) (hf:m'.fin=0):InvM P S (c+1) m':=by
 have hbe:∀ e m',qa2.behind m=(e,m')→m'.fin=0→InvM P S (c+1) m':=by
  intro e m' hb hf;unfold qa2.behind at hb;split at hb
  ·cases hb;cases hf
  ·rename_i b r hbb;cases hb;exact (qr0 h hS hbb).2
 unfold qa2 at he;split at he
 ·exact hbe _ _ he hf
 ·rename_i u r hur;split at he
  ·exact hbe _ _ he hf
  ·rename_i hne;cases ha:askM P u.1 u.2 3 true m with
   | mk ea va =>
    obtain ⟨va,ma⟩:=va;rw[ha] at he;have hI:=h.ask ha (by decide)
    obtain ⟨a,l,t',rfl,_⟩:=qhg ha;have hfl:=za8 h;match ea,he with
    | 0,he =>
     cases he;refine ⟨hI.vars,hI.rst,hI.rvars,hI.rleft,fun x hx=>h.rund x (by rw[hur];exact List.mem_cons_of_mem _ hx),?_,hI.tried,hI.at_,hI.pl,hI.fin,hI.c1,?_,hI.c3,hI.c4⟩
     ·show FlV m.begun r.length
      have hf2:=h.fl;rw[hur,List.length_cons] at hne hfl;unfold qbw at hne hfl;cases hb:m.begun with
      | nil=>trivial
      | cons b r' =>
       rw[hb] at hne hfl hf2;exact ⟨by simp only at hne hfl;omega,hf2.2⟩
     ·have:=h.c2
      rw[hur,List.length_cons] at this;show r.length≤_
      omega
    | 1,he=>cases he;exact hI
    | 2,he=>cases he;exact hI
    | n+3,he=>cases he;exact hI
theorem qn1 {P:Pg} {S:List (Option Vst)} {c:Nat} {m:Ms} (h:InvM P S c m) (hS:qnp P S) (ho:∀ i∈P.ins,OkI i) {e:Nat} {m':Ms} (he:qa1 P m=(e,m')) (hf:m'.fin=0):InvM P S (c+1) m':=by
 unfold qa1 at he;split at he
 ·rename_i hu;exact zku h hS hu he hf
 ·rename_i hu;have hu:m.qak=false:=by simpa using hu
  split at he
  ·cases he;cases hf
  ·rename_i i hi;cases hd:doM P i { m with place:=m.place+1 } with
   | mk ea ma =>
    rw[hd] at he;obtain ⟨i1,i2⟩:=zxw h hS ho hu hi hd;match ea,he with
    | 0,he=>cases he;exact i1 rfl
    | n+1,he=>cases he;exact i2 (by omega)
theorem zms {P:Pg} {S:List (Option Vst)} {c:Nat} {m:Ms} (h:InvM P S c m) (hS:qnp P S) (ho:∀ i∈P.ins,OkI i) (hf:(qbo P m).2.fin=0):InvM P S (c+1) (qbo P m).2:=by
 unfold qbo at hf ⊢;cases hs:qa1 P m with
 | mk e m' =>
  rw[hs] at hf;match e,hs,hf with
  | 0,hs,hf=>exact qn1 h hS ho hs hf
  | 1,hs,hf =>
   have:=qn1 h hS ho hs hf
   obtain ⟨t,a,b,d⟩:=this.at_;exact ⟨this.vars,this.rst,this.rvars,this.rleft,this.rund,this.fl,this.tried,⟨t,a,b,(fun h=>by cases h)⟩,this.pl,this.fin,this.c1,this.c2,this.c3,this.c4⟩
  | 2,hs,hf=>exact qn1 h hS ho hs hf
  | 3,hs,hf=>exact qn1 h hS ho hs hf
  | n+4,hs,hf=>cases hf
def qi2 (P:Pg) (answers:List Int):Ms:=⟨[],List.replicate P.nv 0,[],[],[],answers,0,0,false,0⟩
theorem zfa {P:Pg} {S:List (Option Vst)} (hS:qnp P S) {answers:List Int} (hr:∀ v∈answers,R64 v):InvM P S 0 (qi2 P answers) :=
 ⟨by simp[qi2],(fun v h=>by cases h),fun v h=>by rw[List.eq_of_mem_replicate h];exact zpm,hr,(fun u h=>by cases h),trivial,by show 0 < 65536;decide,⟨none,rfl,Nat.zero_le _,fun _=>hS.start⟩,Nat.zero_le _,rfl,Nat.le_refl _,Nat.le_refl _,Nat.le_refl _,Nat.le_refl _⟩
theorem zqi {P:Pg} {S:List (Option Vst)} {p a:Nat} {s:Vst} (h0:atV S p=some s) (hf:a < P.ins.length+1) (h1:qcg S s.2≤s.1):qhl P S p ⟨12,a,0⟩=qbs S a s:=by
 unfold qhl;rw[h0];simp only;rw[qdw (i:=⟨12,a,0⟩) (fun h=>by rcases h with h | h<;>cases h) (fun h=>by rcases h with h | h<;>cases h) (fun _=>hf),if_neg (by simp),if_neg (by show ¬ s.1 < 0+_;omega),if_neg (by simp)]
 rfl
theorem zqh {P:Pg} {S:List (Option Vst)} {p a h:Nat} {t:Option Nat} (h0:atV S p=some (h+1,t)) (hf:a < P.ins.length+1) (h1:qcg S t≤h):qhl P S p ⟨13,a,0⟩=(qbs S a (h,t)).bind fun S=>qbs S (p+1) (h,t):=by
 unfold qhl;rw[h0];simp only;rw[qdw (i:=⟨13,a,0⟩) (fun h=>by rcases h with h | h<;>cases h) (fun h=>by rcases h with h | h<;>cases h) (fun _=>hf),if_neg (by simp),if_neg (by show ¬ h+1 < 1+_;omega),if_neg (by simp)]
 rfl
theorem zw5 {P:Pg} {S:List (Option Vst)} {p a h:Nat} {t:Option Nat} (h0:atV S p=some (h+1,t)) (hf:a < P.ins.length+1) (h1:qcg S t≤h):qhl P S p ⟨14,a,0⟩=(qbs S a (h,t)).bind fun S=>qbs S (p+1) (h+1,t):=by
 unfold qhl;rw[h0];simp only;rw[qdw (i:=⟨14,a,0⟩) (fun h=>by rcases h with h | h<;>cases h) (fun h=>by rcases h with h | h<;>cases h) (fun _=>hf),if_neg (by simp),if_neg (by show ¬ h+1 < 1+_;omega),if_neg (by simp)]
 rfl
theorem zw4 {P:Pg} {S:List (Option Vst)} {p a h:Nat} {t:Option Nat} (h0:atV S p=some (h,t)) (hf:a < P.ins.length+1) (h1:qcg S t≤h):qhl P S p ⟨15,a,0⟩=(qbs S a (h,t)).bind fun S=>qbs S (p+1) (h,some p):=by
 unfold qhl;rw[h0];simp only;rw[qdw (i:=⟨15,a,0⟩) (fun h=>by rcases h with h | h<;>cases h) (fun h=>by rcases h with h | h<;>cases h) (fun _=>hf),if_neg (by simp),if_neg (by show ¬ h < 0+_;omega),if_neg (by simp)]
 rfl
theorem zw3 {P:Pg} {S:List (Option Vst)} {p a h q:Nat} {t:Option Nat} (h0:atV S p=some (h,some q)) (hq:atV S q=some (h,t)) (hf:a < P.ins.length+1):qhl P S p ⟨16,a,0⟩=qbs S a (h,t):=by
 have hfl:qcg S (some q)=h:=by unfold qcg;simp only;rw[hq]
 unfold qhl;rw[h0];simp only;rw[qdw (i:=⟨16,a,0⟩) (fun h=>by rcases h with h | h<;>cases h) (fun h=>by rcases h with h | h<;>cases h) (fun _=>hf),if_neg (by simp),if_neg (by rw[hfl];show ¬ h < 0+_;omega),if_neg (by rw[hfl];simp)]
 unfold znm;simp only;rw[if_neg (by decide),if_neg (by decide),if_neg (by decide),if_neg (by decide),if_pos trivial]
 show qbs S a ((atV S q).getD (0,none))=_
 rw[hq]
 all_goals rfl
theorem qj5 (P:Pg) (S:List (Option Vst)) (p:Nat) (i:Ins) (l:List Ins):qdv P S p ([i]++l)=(qhl P S p i).bind fun S=>qdv P S (p+1) l:=rfl
theorem zob {P:Pg} {a:List Ins} {h:Nat} {t:Option Nat} (p:Nat) (ha:GoesV P h a (p+1) (h,t) (h,t)):GoesV P h ([⟨13,p+1+a.length,0⟩]++a) p (h+1,t) (h,t):=by
 intro S hS hp h0 h1 hq h2 h3;have hl:([(⟨13,p+1+a.length,0⟩:Ins)]++a).length=1+a.length:=List.length_append;rw[hl] at hp h2 h3 ⊢;have h3':=h3 (by simp)
 rw[← Nat.add_assoc] at h3';obtain ⟨S1,e1,l1,f1⟩:=qe1 (S:=S) (p:=p+1+a.length) (s:=(h,t)) (by omega) h3'
 obtain ⟨S2,e2,l2,f2⟩:=qe1 (S:=S1) (p:=p+1) (s:=(h,t)) (by omega) (by
  rw[f1];by_cases hz:p+1=p+1+a.length
  ·rw[if_pos hz];exact Or.inr rfl
  ·rw[if_neg hz];exact Or.inl (h2 _ (by omega) (by omega)))
 have k2:atV S2 (p+1)=some (h,t):=by rw[f2,if_pos rfl]
 have g2:∀ q,q≤p→atV S2 q=atV S q:=fun q g=>by rw[f2,if_neg (by omega),f1,if_neg (by omega)]
 obtain ⟨S3,e3,l3,k3,f3⟩:=ha S2 (by omega) (by omega) k2 (by rw[qep hq g2];exact h1) (fun q g=>by have:=hq q g;omega) (fun q g1 g3=>by rw[f2,if_neg (by omega),f1,if_neg (by omega)];exact h2 q (by omega) (by omega)) (fun _=>by
  rw[f2,f1];by_cases hz:p+1+a.length=p+1
  ·rw[if_pos hz];exact Or.inr rfl
  ·rw[if_neg hz,if_pos rfl];exact Or.inr rfl)
 refine ⟨S3,?_,by omega,by rw[← Nat.add_assoc];exact k3,?_⟩
 ·rw[qj5,zqh h0 (by omega) h1,e1]
  show (qbs S1 (p+1) (h,t)).bind (fun S=>qdv P S (p+1) a)=_
  rw[e2];exact e3
 ·intro q hq';rw[f3 q (by omega),f2,if_neg (by omega),f1,if_neg (by omega)]
theorem qza {P:Pg} {a b:List Ins} {i j:Ins} {s u:Vst} {h:Nat} {t:Option Nat} (p:Nat) (hut:u.1=h∧(u.2=t∨(u.2=some p∧s.1=h)))
  (hi:∀ S:List (Option Vst),atV S p=some s→qcg S t≤h→(p+1+a.length+1) < P.ins.length+1→qhl P S p i=(qbs S (p+1+a.length+1) (h,t)).bind fun S=>qbs S (p+1) u)
  (hj:∀ S:List (Option Vst),atV S (p+1+a.length)=some u→atV S p=some s→qcg S t≤h→(p+1+a.length+1+b.length) < P.ins.length+1→qhl P S (p+1+a.length) j=qbs S (p+1+a.length+1+b.length) (h,t))
  (hs:s.2=t)
  (ha:GoesV P h a (p+1) u u) (hb:GoesV P h b (p+1+a.length+1) (h,t) (h,t)):GoesV P h ([i]++(a++([j]++b))) p s (h,t):=by
 intro S hS hp h0 h1 hq h2 h3;rw[hs] at h1 hq;have hl:([i]++(a++([j]++b))).length=1+a.length+1+b.length:=by simp;omega
 rw[hl] at hp h2 h3 ⊢;have h3':=h3 (by simp)
 rw[show p+(1+a.length+1+b.length)=p+1+a.length+1+b.length by omega] at h3' h2 ⊢
 obtain ⟨S1,e1,l1,f1⟩:=qe1 (S:=S) (p:=p+1+a.length+1) (s:=(h,t)) (by omega) (by
  by_cases hz:b.length=0
  ·rw[show p+1+a.length+1=p+1+a.length+1+b.length by omega];exact h3'
  ·exact Or.inl (h2 _ (by omega) (by omega)))
 obtain ⟨S2,e2,l2,f2⟩:=qe1 (S:=S1) (p:=p+1) (s:=u) (by omega) (by rw[f1,if_neg (by omega)];exact Or.inl (h2 _ (by omega) (by omega)))
 have k2:atV S2 (p+1)=some u:=by rw[f2,if_pos rfl]
 have g2:∀ q,q≤p→atV S2 q=atV S q:=fun q g=>by rw[f2,if_neg (by omega),f1,if_neg (by omega)]
 have fl2:qcg S2 t≤h:=by rw[qep hq g2];exact h1
 obtain ⟨S3,e3,l3,k3,f3⟩:=ha S2 (by omega) (by omega) k2 (by
   rcases hut.2 with hu | ⟨hu,hsu⟩
   ·rw[hu];exact fl2
   ·rw[hu];unfold qcg;simp only;rw[g2 p (Nat.le_refl _),h0];show s.1≤h;rw[hsu];exact Nat.le_refl _)
  (fun q g=>by
   rcases hut.2 with hu | ⟨hu,_⟩
   ·have:=hq q (by rw[← hu];exact g);omega
   ·rw[hu] at g;cases g;omega)
  (fun q g1 g3=>by rw[f2,if_neg (by omega),f1,if_neg (by omega)];exact h2 q (by omega) (by omega))
  (fun hne=>by
   have:=List.length_pos_iff.2 hne
   rw[f2,if_neg (by omega),f1,if_neg (by omega)];exact Or.inl (h2 _ (by omega) (by omega)))
 have g3:∀ q,q≤p→atV S3 q=atV S q:=fun q g=>by rw[f3 q (by omega)];exact g2 q g
 have fl3:qcg S3 t≤h:=by rw[qep hq g3];exact h1
 have q3:atV S3 (p+1+a.length+1)=some (h,t):=by rw[f3 _ (by omega),f2,if_neg (by omega),f1,if_pos rfl]
 obtain ⟨S4,e4,l4,f4⟩:=qe1 (S:=S3) (p:=p+1+a.length+1+b.length) (s:=(h,t)) (by omega) (by
  by_cases hz:b.length=0
  ·rw[hz];exact Or.inr q3
  ·rw[f3 _ (by omega),f2,if_neg (by omega),f1,if_neg (by omega)];exact h3')
 have q4:atV S4 (p+1+a.length+1)=some (h,t):=by
  rw[f4];split
  ·rfl
  ·exact q3
 have g4:∀ q,q≤p→atV S4 q=atV S q:=fun q g=>by rw[f4,if_neg (by omega)];exact g3 q g
 obtain ⟨S5,e5,l5,k5,f5⟩:=hb S4 (by omega) (by omega) q4 (by rw[qep hq g4];exact h1) (fun q g=>by have:=hq q g;omega)
  (fun q g1 g2'=>by rw[f4,if_neg (by omega),f3 q (by omega),f2,if_neg (by omega),f1,if_neg (by omega)];exact h2 q (by omega) (by omega))
  (fun _=>by rw[f4,if_pos rfl];exact Or.inr rfl)
 refine ⟨S5,?_,by omega,k5,?_⟩
 ·rw[qj5,hi S h0 h1 (by omega),e1]
  show (qbs S1 (p+1) u).bind (fun S=>qdv P S (p+1) (a++([j]++b)))=_
  rw[e2];show qdv P S2 (p+1) (a++([j]++b))=_
  rw[qmt,e3];show qdv P S3 (p+1+a.length) ([j]++b)=_
  rw[qj5,hj S3 k3 (by rw[g3 p (Nat.le_refl _)];exact h0) fl3 (by omega),e4]
  exact e5
 ·intro q hq';rw[f5 q (by omega),f4,if_neg (by omega),f3 q (by omega),f2,if_neg (by omega),f1,if_neg (by omega)]
theorem zlu {P:Pg} {a:List Ins} {h:Nat} {t:Option Nat} (p:Nat) (ha:GoesV P (h+1) a (p+1) (h+1,t) (h+1,t)):GoesV P h ([⟨14,p+1+a.length+1,0⟩]++(a++[⟨12,p,0⟩])) p (h+1,t) (h,t):=by
 intro S hS hp h0 h1 hq h2 h3;have hl:([(⟨14,p+1+a.length+1,0⟩:Ins)]++(a++[(⟨12,p,0⟩:Ins)])).length=1+a.length+1:=by simp;omega
 rw[hl] at hp h2 h3 ⊢;have h3':=h3 (by simp)
 rw[show p+(1+a.length+1)=p+1+a.length+1 by omega] at h3' h2 ⊢
 obtain ⟨S1,e1,l1,f1⟩:=qe1 (S:=S) (p:=p+1+a.length+1) (s:=(h,t)) (by omega) h3'
 obtain ⟨S2,e2,l2,f2⟩:=qe1 (S:=S1) (p:=p+1) (s:=(h+1,t)) (by omega) (by rw[f1,if_neg (by omega)];exact Or.inl (h2 _ (by omega) (by omega)))
 have k2:atV S2 (p+1)=some (h+1,t):=by rw[f2,if_pos rfl]
 have g2:∀ q,q≤p→atV S2 q=atV S q:=fun q g=>by rw[f2,if_neg (by omega),f1,if_neg (by omega)]
 have fl2:qcg S2 t≤h:=by rw[qep hq g2];exact h1
 obtain ⟨S3,e3,l3,k3,f3⟩:=ha S2 (by omega) (by omega) k2 (by show qcg S2 t≤h+1;omega) (fun q g=>by have:=hq q g;omega)
  (fun q g1 g3=>by rw[f2,if_neg (by omega),f1,if_neg (by omega)];exact h2 q (by omega) (by omega))
  (fun hne=>by
   have:=List.length_pos_iff.2 hne
   rw[f2,if_neg (by omega),f1,if_neg (by omega)];exact Or.inl (h2 _ (by omega) (by omega)))
 have g3:∀ q,q≤p→atV S3 q=atV S q:=fun q g=>by rw[f3 q (by omega)];exact g2 q g
 have fl3:qcg S3 t≤h:=by rw[qep hq g3];exact h1
 obtain ⟨S4,e4,l4,f4⟩:=qe1 (S:=S3) (p:=p) (s:=(h+1,t)) (by omega) (by rw[g3 p (Nat.le_refl _)];exact Or.inr h0)
 refine ⟨S4,?_,by omega,?_,?_⟩
 ·rw[qj5,zw5 h0 (by omega) h1,e1]
  show (qbs S1 (p+1) (h+1,t)).bind (fun S=>qdv P S (p+1) (a++[⟨12,p,0⟩]))=_
  rw[e2];show qdv P S2 (p+1) (a++[⟨12,p,0⟩])=_
  rw[qmt,e3];show (qhl P S3 (p+1+a.length) ⟨12,p,0⟩).bind (fun S=>some S)=_
  rw[zqi k3 (by omega) (by show qcg S3 t≤h+1;omega),e4]
  rfl
 ·rw[f4,if_neg (by omega),f3 _ (by omega),f2,if_neg (by omega),f1,if_pos rfl]
 ·intro q hq';rw[f4];by_cases hz:q=p
  ·rw[if_pos hz,hz,h0]
  ·rw[if_neg hz,f3 q (by omega),f2,if_neg (by omega),f1,if_neg (by omega)]
def InO (V:List ByteArray) (x:Option Ex):Prop:=∀ e,x=some e→InE V e
def InS (W V:List ByteArray):List Sm→Prop
 | []=>True
 | ⟨op,word,_,ex,asw,_,undo,_,_,one,two⟩::rest=>(op=108∨op=99∨op=105→InO V ex)∧(op=108→hasW V word=true)∧(op=99→hasW W word=true∧(undo.size≠0→hasW W undo=true)∧(asw.size≠0→hasW V asw=true))∧(op=105∨op=116∨op=114→InS W V one)∧(op=105∨op=116→InS W V two)∧InS W V rest
def InX (W V:List ByteArray) (x:Sm):Prop:=(x.op=108∨x.op=99∨x.op=105→InO V x.ex)∧(x.op=108→hasW V x.word=true)∧(x.op=99→hasW W x.word=true∧(x.undo.size≠0→hasW W x.undo=true)∧(x.asw.size≠0→hasW V x.asw=true))∧(x.op=105∨x.op=116∨x.op=114→InS W V x.one)∧(x.op=105∨x.op=116→InS W V x.two)
theorem zbr {W V:List ByteArray} {x:Sm} {l:List Sm}:InS W V (x::l)↔InX W V x∧InS W V l:=by
 obtain ⟨op,word,pl,ex,asw,asPl,undo,n,nPl,one,two⟩:=x;rw[InS];unfold InX;simp only[and_assoc]
theorem zax {V:List ByteArray} (x:Ex):∀ vs,vsE x vs <+: V→InE V x:=by
 match x with
 | ⟨op,n,word,pl,own,none,r⟩ =>
  intro vs h;rw[InE];intro ho;rw[vsE,if_pos ho] at h;exact qhd (qd3 _ _) h
 | ⟨op,n,word,pl,own,some l,none⟩=>intro vs h;rw[InE];rw[vsE] at h;exact zax l vs h
 | ⟨op,n,word,pl,own,some l,some r⟩ =>
  intro vs h;rw[InE];rw[vsE] at h;exact ⟨zax l vs ((qme r _).trans h),zax r _ h⟩
theorem zh8 {V:List ByteArray} (x:Option Ex) (vs:List ByteArray) (h:vsO x vs <+: V):InO V x:=by
 intro e he;subst he;exact zax e vs h
theorem zxe {W V:List ByteArray} (x:Sm) (h1:∀ ws vs,wsS x.one ws <+: W→vsS x.one vs <+: V→InS W V x.one) (h2:∀ ws vs,wsS x.two ws <+: W→vsS x.two vs <+: V→InS W V x.two) (ws vs:List ByteArray) (hW:wsX x ws <+: W) (hV:vsX x vs <+: V):InX W V x:=by
 by_cases o1:x.op=108
 ·have ev:vsX x vs=addW (vsO x.ex vs) x.word:=by unfold vsX;rw[if_pos o1]
  rw[ev] at hV;exact ⟨fun _=>zh8 _ _ ((qd6 _ _).trans hV),fun _=>qhd (qd3 _ _) hV,fun h=>absurd h (by omega),fun h=>absurd h (by omega),fun h=>absurd h (by omega)⟩
 ·by_cases o2:x.op=99
  ·have ev:vsX x vs=if x.asw.size=0 then vsO x.ex vs else addW (vsO x.ex vs) x.asw:=by unfold vsX;rw[if_neg o1,if_pos o2]
   have ew:wsX x ws=wsC x.word x.undo ws:=by unfold wsX;rw[if_pos o2]
   rw[ev] at hV;rw[ew] at hW;unfold wsC at hW;refine ⟨fun _=>zh8 _ vs ?_,fun h=>absurd h o1,fun _=>⟨?_,fun hu=>?_,fun ha=>?_⟩,fun h=>absurd h (by omega),fun h=>absurd h (by omega)⟩
   ·refine List.IsPrefix.trans ?_ hV;split
    ·exact List.prefix_refl _
    ·exact qd6 _ _
   ·refine qhd (qd3 ws x.word) (List.IsPrefix.trans ?_ hW);split
    ·exact List.prefix_refl _
    ·exact qd6 _ _
   ·rw[if_neg hu] at hW;exact qhd (qd3 _ _) hW
   ·rw[if_neg ha] at hV;exact qhd (qd3 _ _) hV
  ·by_cases o3:x.op=105
   ·have ev:vsX x vs=vsS x.two (vsS x.one (vsO x.ex vs)):=by unfold vsX;rw[if_neg o1,if_neg o2,if_pos o3]
    have ew:wsX x ws=wsS x.two (wsS x.one ws):=by unfold wsX;rw[if_neg o2,if_pos (Or.inl o3)]
    rw[ev] at hV;rw[ew] at hW;exact ⟨fun _=>zh8 _ vs ((qf7 _ _).trans ((qf7 _ _).trans hV)),fun h=>absurd h o1,fun h=>absurd h o2,fun _=>h1 _ _ ((qgn _ _).trans hW) ((qf7 _ _).trans hV),fun _=>h2 _ _ hW hV⟩
   ·by_cases o4:x.op=116
    ·have ev:vsX x vs=vsS x.two (vsS x.one vs):=by unfold vsX;rw[if_neg o1,if_neg o2,if_neg o3,if_pos o4]
     have ew:wsX x ws=wsS x.two (wsS x.one ws):=by unfold wsX;rw[if_neg o2,if_pos (Or.inr o4)]
     rw[ev] at hV;rw[ew] at hW;exact ⟨fun h=>absurd h (by omega),fun h=>absurd h o1,fun h=>absurd h o2,fun _=>h1 _ _ ((qgn _ _).trans hW) ((qf7 _ _).trans hV),fun _=>h2 _ _ hW hV⟩
    ·by_cases o5:x.op=114
     ·have ev:vsX x vs=vsS x.one vs:=by unfold vsX;rw[if_neg o1,if_neg o2,if_neg o3,if_neg o4,if_pos o5]
      have ew:wsX x ws=wsS x.one ws:=by unfold wsX;rw[if_neg o2,if_neg (by omega),if_pos o5]
      rw[ev] at hV;rw[ew] at hW;exact ⟨fun h=>absurd h (by omega),fun h=>absurd h o1,fun h=>absurd h o2,fun _=>h1 _ _ hW hV,fun h=>absurd h (by omega)⟩
     ·exact ⟨fun h=>absurd h (by omega),fun h=>absurd h o1,fun h=>absurd h o2,fun h=>absurd h (by omega),fun h=>absurd h (by omega)⟩
theorem zaw {W V:List ByteArray} (l:List Sm):∀ ws vs,wsS l ws <+: W→vsS l vs <+: V→InS W V l:=by
 match l with
 | []=>intro ws vs _ _;rw[InS];trivial
 | ⟨op,word,pl,ex,asw,asPl,undo,n,nPl,one,two⟩::rest =>
  intro ws vs hW hV;rw[qhz] at hW;rw[qjx] at hV;exact zbr.2 ⟨zxe _ (zaw one) (zaw two) ws vs ((qgn _ _).trans hW) ((qf7 _ _).trans hV),zaw rest _ _ hW hV⟩
theorem qtf {P:Pg} {V:List ByteArray} (hV:V.length=P.nv) (F h:Nat) (t:Option Nat) (hF:F≤h) (x:Option Ex) (hx:InO V x) (p:Nat):GoesV P F (mkO (idxW V) x) p (h,t) (h+1,t):=by
 cases x with
 | none=>exact GoesV.one (i:=⟨0,0,0⟩) (s:=(h,t)) (Or.inl (by show 0 < 12;decide)) (qdw (fun h=>by rcases h with h | h<;>cases h) (fun h=>by rcases h with h | h<;>cases h) (fun h=>absurd h (by show ¬ (12≤0∧0≤16);decide))) (by show 0+F≤h;omega)
 | some e=>exact qn8 hV F h t hF e (hx e rfl) p
theorem zm1 {P:Pg} {W V:List ByteArray} (hW:W.length=P.words.length) (hV:V.length=P.nv) (x:Sm) (hx:InX W V x)
  (h1:InS W V x.one→∀ h t p,GoesV P h (mkS (idxW W) (idxW V) x.one p) p (h,t) (h,t)) (h2:InS W V x.two→∀ h t p,GoesV P h (mkS (idxW W) (idxW V) x.two p) p (h,t) (h,t)) (h:Nat) (t:Option Nat) (p:Nat):GoesV P h (mkX (idxW W) (idxW V) x p) p (h,t) (h,t):=by
 obtain ⟨i1,i2,i3,i4,i5⟩:=hx;unfold mkX;split
 ·rename_i o;have hv:=qpt (i2 o);exact GoesV.app (t:=(h+1,t)) (qtf hV h h t (Nat.le_refl _) x.ex (i1 (Or.inl o)) p) (GoesV.one (i:=⟨2,idxW V x.word,0⟩) (s:=(h+1,t)) (Or.inl (by show 2 < 12;decide)) (qdw (fun _=>by show idxW V x.word < P.nv;omega) (fun h=>by rcases h with h | h<;>cases h) (fun h=>absurd h (by show ¬ (12≤2∧2≤16);decide))) (by show 1+h≤h+1;omega)) rfl (fun h=>by cases h)
 ·split
  ·rename_i o;obtain ⟨w1,w2,w3⟩:=i3 o;have hw:=qpt w1;unfold mkC;refine GoesV.app (t:=(h+1,t)) (qtf hV h h t (Nat.le_refl _) x.ex (i1 (Or.inr (Or.inl o))) p) ?_ rfl (fun h=>by cases h)
   refine GoesV.app (t:=(h+1,t)) (GoesV.one (i:=⟨18,idxW W x.word,x.n⟩) (s:=(h+1,t)) (Or.inr (by show 16 < 18;decide)) (qdw (fun h=>by rcases h with h | h<;>cases h) (fun _=>by show idxW W x.word < P.words.length;omega) (fun h=>absurd h (by show ¬ (12≤18∧18≤16);decide))) (by show 1+h≤h+1;omega)) ?_ rfl (fun h=>by exfalso;revert h;split<;>simp)
   refine GoesV.app (t:=(h+1,t)) ?_ ?_ rfl (fun h=>by cases h)
   ·split
    ·exact GoesV.nil P h _ _
    ·rename_i hu;have hw2:=qpt (w2 hu);exact GoesV.one (i:=⟨19,idxW W x.undo,0⟩) (s:=(h+1,t)) (Or.inr (by show 16 < 19;decide)) (qdw (fun h=>by rcases h with h | h<;>cases h) (fun _=>by show idxW W x.undo < P.words.length;omega) (fun h=>absurd h (by show ¬ (12≤19∧19≤16);decide))) (by show 1+h≤h+1;omega)
   ·split
    ·exact GoesV.one (i:=⟨3,0,0⟩) (s:=(h+1,t)) (Or.inl (by show 3 < 12;decide)) (qdw (fun h=>by rcases h with h | h<;>cases h) (fun h=>by rcases h with h | h<;>cases h) (fun h=>absurd h (by show ¬ (12≤3∧3≤16);decide))) (by show 1+h≤h+1;omega)
    ·rename_i ha;have hv:=qpt (w3 ha);exact GoesV.one (i:=⟨2,idxW V x.asw,0⟩) (s:=(h+1,t)) (Or.inl (by show 2 < 12;decide)) (qdw (fun _=>by show idxW V x.asw < P.nv;omega) (fun h=>by rcases h with h | h<;>cases h) (fun h=>absurd h (by show ¬ (12≤2∧2≤16);decide))) (by show 1+h≤h+1;omega)
  ·split
   ·rename_i o;have ho:=qtf hV h h t (Nat.le_refl _) x.ex (i1 (Or.inr (Or.inr o))) p;have g1:=h1 (i4 (Or.inl o)) h t (p+(mkO (idxW V) x.ex).length+1);dsimp only;split
    ·exact GoesV.app (t:=(h+1,t)) ho (zob _ g1) rfl (fun h=>by cases h)
    ·have g2:=h2 (i5 (Or.inl o)) h t (p+(mkO (idxW V) x.ex).length+1+(mkS (idxW W) (idxW V) x.one (p+(mkO (idxW V) x.ex).length+1)).length+1);refine GoesV.app (t:=(h+1,t)) ho ?_ rfl (fun h=>by cases h)
     exact qza (s:=(h+1,t)) (u:=(h,t)) _ ⟨rfl,Or.inl rfl⟩ (fun S a b c=>zqh a c b) (fun S a _ b c=>zqi a c b) rfl g1 g2
   ·split
    ·rename_i o;have g1:=h1 (i4 (Or.inr (Or.inl o))) h (some p) (p+1);have g2:=h2 (i5 (Or.inr o)) h t (p+1+(mkS (idxW W) (idxW V) x.one (p+1)).length+1);exact qza (s:=(h,t)) (u:=(h,some p)) _ ⟨rfl,Or.inr ⟨rfl,rfl⟩⟩ (fun S a b c=>zw4 a c b) (fun S a b _ c=>zw3 a b c) rfl g1 g2
    ·split
     ·rename_i o;have g1:=h1 (i4 (Or.inr (Or.inr o))) (h+1) t (p+2);refine GoesV.app (t:=(h+1,t)) (GoesV.one (i:=⟨0,x.n,0⟩) (s:=(h,t)) (Or.inl (by show 0 < 12;decide)) (qdw (fun h=>by rcases h with h | h<;>cases h) (fun h=>by rcases h with h | h<;>cases h) (fun h=>absurd h (by show ¬ (12≤0∧0≤16);decide))) (by show 0+h≤h;omega)) ?_ rfl (fun h=>by cases h)
      have:=zlu (P:=P) (h:=h) (t:=t) (p+1) g1
      rw[show p+1+1=p+2 by omega] at this
      exact this
     ·exact GoesV.one (i:=⟨17,0,0⟩) (s:=(h,t)) (Or.inr (by show 16 < 17;decide)) (qdw (fun h=>by rcases h with h | h<;>cases h) (fun h=>by rcases h with h | h<;>cases h) (fun h=>absurd h (by show ¬ (12≤17∧17≤16);decide))) (by show 0+h≤h;omega)
theorem qn7 {P:Pg} {W V:List ByteArray} (hW:W.length=P.words.length) (hV:V.length=P.nv) (l:List Sm):InS W V l→∀ h t p,GoesV P h (mkS (idxW W) (idxW V) l p) p (h,t) (h,t):=by
 match l with
 | []=>intro _ h t p;rw[qms];exact GoesV.nil P h p _
 | ⟨op,word,pl,ex,asw,asPl,undo,n,nPl,one,two⟩::rest =>
  intro hl h t p;obtain ⟨a1,a2⟩:=zbr.1 hl;rw[qh7];exact GoesV.app (zm1 hW hV _ a1 (qn7 hW hV one) (qn7 hW hV two) h t p) (qn7 hW hV rest a2 h t _) rfl (fun _=>rfl)
theorem qql (n q:Nat):atV (qi1 n) q=if q=0 then some (0,none) else none:=by
 unfold atV qi1;cases q with
 | zero=>rfl
 | succ q =>
  rw[if_neg (by omega),List.getD_cons_succ,List.getD_eq_getElem?_getD,List.getElem?_replicate]
  split<;>rfl
theorem zm5 (l:List Sm):verV (pgOf l)=true:=by
 have hg:=qn7 (P:=pgOf l) (W:=wsS l []) (V:=vsS l []) rfl rfl l (zaw l [] [] (List.prefix_refl _) (List.prefix_refl _)) 0 none 0;obtain ⟨S',e1,e2,e3,e4⟩:=hg (qi1 (pgOf l).ins.length) (by simp[qi1]) (by rw[Nat.zero_add];exact Nat.le_refl _) (by rw[qql]<;>rfl) (Nat.le_refl _) (fun q h=>by cases h) (fun q h _=>by rw[qql,if_neg (by omega)]) (fun hne=>by
  have:=List.length_pos_iff.2 hne
  rw[qql,if_neg (by omega)];exact Or.inl rfl)
 have e1':qdv (pgOf l) (qi1 (pgOf l).ins.length) 0 (pgOf l).ins=some S':=e1;have e3':atV S' (pgOf l).ins.length=some (0,none):=by
  rw[Nat.zero_add] at e3;exact e3
 unfold verV;rw[e1'];simp only;rw[e3']
 all_goals rfl
end Px
end Go.Proofs.YtokkhhekekeokaaGreatDoor
