import Derived.Test.YtokkhhekekeokaaGreatDoorH32
import Derived.Test.YtokkhhekekeokaaGreatDoorH29
import Derived.Test.YtokkhhekekeokaaGreatDoorH26
set_option maxRecDepth 100000
set_option maxHeartbeats 4000000
namespace Go.Proofs.YtokkhhekekeokaaGreatDoor
open Go.RowKit
namespace Rn
theorem zbx {P:Px.Pg} {m:Px.Ms} (h:(Px.qa2 P m).1≠0):(Px.qa2 P m).2.place=m.place:=by
 rcases qpm m with hn | ⟨u,r,hur,hne,hn⟩
 ·rw[qkl hn,qky] at h;exact absurd rfl h
 ·unfold Px.qa2 at h ⊢;simp only[hur] at h ⊢;rw[if_neg (by rw[← hur];exact hne)] at h ⊢
  cases hq:Px.askM P u.1 u.2 3 true m with
  | mk ea q =>
   obtain ⟨va',ma⟩:=q;obtain ⟨a,l,t,hma,_⟩:=Px.qhg hq;rw[hq] at h;match ea with
   | 0=>exact absurd rfl h
   | 1=>show ma.place=_;rw[hma]
   | n+2=>show ma.place=_;rw[hma]
theorem zq6 (P:Px.Pg) (m:Px.Ms):(Px.qa2 P m).1≤4:=by
 rcases qpm m with hn | ⟨u,r,hur,hne,hn⟩
 ·rw[qkl hn,qky];omega
 ·unfold Px.qa2;simp only[hur];rw[if_neg (by rw[← hur];exact hne)]
  cases hq:Px.askM P u.1 u.2 3 true m with
  | mk ea q =>
   obtain ⟨va',ma⟩:=q;obtain ⟨_,_,_,_,_,_,_,_,hle⟩:=Px.qhg hq;match ea,hle with
   | 0,_=>show (0:Nat)≤4;omega
   | 1,_=>show (4:Nat)≤4;omega
   | n+2,hle=>show n+2≤4;omega
theorem zxc {c:Prop} [Decidable c] {a b:Nat×Px.Ms} (ha:a.1≤4) (hb:b.1≤4):(if c then a else b).1≤4:=by
 split
 ·exact ha
 ·exact hb
theorem do_le (P:Px.Pg) (i:Px.Ins) (m:Px.Ms):(Px.doM P i m).1≤4:=by
 have hc:(qqw P i.a i.b m).1≤4:=by
  unfold qqw;cases hq:Px.askM P i.a (m.st.headD 0) i.b false m with
  | mk ea q =>
   obtain ⟨va',ma⟩:=q;obtain ⟨_,_,_,_,_,_,_,_,hle⟩:=Px.qhg hq;match ea,hle with
   | 0,_=>show (0:Nat)≤4;omega
   | n+1,hle=>show n+1≤4;omega
 by_cases h18:i.k=18
 ·have e:Px.doM P i m=qqw P i.a i.b m:=by
   unfold Px.doM;rw[if_neg (by omega),if_neg (by omega),if_neg (by omega),if_neg (by omega),if_neg (by omega),if_neg (by omega),if_neg (by omega),if_neg (by omega),if_neg (by omega),if_neg (by omega),if_neg (by omega),if_neg (by omega),if_neg (by omega),if_pos h18]
   rfl
  rw[e];exact hc
 ·unfold Px.doM;simp only[h18,if_false]
  repeat' apply zxc
  all_goals first | exact Nat.zero_le 4 | (show (1:Nat)≤4;omega)
theorem ze6 (P:Px.Pg) (m:Px.Ms):(Px.qa1 P m).1≤4:=by
 unfold Px.qa1;split
 ·exact zq6 P m
 ·split
  ·show (0:Nat)≤4;omega
  ·rename_i i _
   have:=do_le P i { m with place:=m.place+1 }
   cases hd:Px.doM P i { m with place:=m.place+1 } with
   | mk e m' =>
    rw[hd] at this;cases e with
    | zero=>exact this
    | succ n=>exact this
theorem zs4 (P:Px.Pg) (m:Px.Ms):Px.qbo P m=(decide ((Px.qa1 P m).1=2) || decide ((qiu (Px.qa1 P m).1 (Px.qa1 P m).2).fin≠0),qiu (Px.qa1 P m).1 (Px.qa1 P m).2):=by
 have hl:=ze6 P m;unfold Px.qbo;cases hs:Px.qa1 P m with
 | mk e m' =>
  rw[hs] at hl;match e,hl with
  | 0,_=>rfl
  | 1,_=>rfl
  | 2,_=>rfl
  | 3,_=>rfl
  | 4,_=>rfl
  | n+5,hl=>exact absurd hl (by show ¬ n+5≤4;omega)
theorem Bd.of {P:Px.Pg} {S:List (Option Px.Vst)} {c:Nat} {m:Px.Ms} (h:Px.InvM P S c m) (hc:c≤9000000) (hw:P.words.length≤10000000):Bd P m :=
 ⟨Nat.le_trans h.c1 hc,Nat.le_trans h.c2 hc,Nat.le_trans h.c3 hc,Nat.le_trans h.c4 hc,h.tried,h.rst,h.rleft,h.vars,hw⟩
theorem qn2 {x:Cx} (hj:JOK x) (hask:qnr x) {S:List (Option Px.Vst)} {c:Nat} (hS:Px.qnp x.P S) (ho:∀ i∈x.P.ins,Px.OkI i) (hl:x.P.ins.length≤10000000) (hw:x.P.words.length≤10000000) (hc:c≤9000000) (m:Px.Ms) (hI:Px.InvM x.P S c m) (w:World) (f:Nat→Value) (va:Value) (h:MK x m w f va) :
  Calls Tryz.prog 136 #[.pointer (some ⟨x.g,0,none⟩)] w (qd8 x m w f va):=by
 have hb:=Bd.of hI hc hw;cases hu:m.qak with
 | true =>
  refine qo8 hj m w f va h hu zbx fun W hW=>?_
  have h1:=hb.s;have h2:=hb.b;have h3:=hb.u;have h4:=hb.a;refine qu0 hj hask m W f va hW (by omega) (by omega) (by omega) (Px.za8 hI) (fun b r hbr=>(Px.qr0 hI hS hbr).1) hI.rund hI.rleft hI.tried (by omega) hw
 | false =>
  cases hi:x.P.ins[m.place]? with
  | none =>
   have h1:=List.getElem?_eq_none_iff.1 hi;have h2:=hI.pl;exact ze9 hj m w f va h hu (by omega) hl
  | some i =>
   have hcan:=hI.can hS ho hu hi;cases hp:qit i.k with
   | true=>exact zle hj hask m w f va h hu i hi hl hb hcan hp
   | false=>exact zlf hj hask m w f va h hu i hi hl hb hcan hp
open Go.RowKit
structure zea (x:Cx) (S:List (Option Px.Vst)) (c most:Nat) (m0:Px.Ms) (w:World) (f:Nat→Value) (va:Value) (k:Nat) (wr:World) (mk:Px.Ms) (f1:Nat→Value) (va1:Value):Prop where
 run:Px.runM x.P most m0=Px.runM x.P (most - k) mk
 inv:Px.InvM x.P S (c+k) mk
 mk_:MK x mk wr f1 va1
 fr:Fr x w f va wr f1 va1
theorem qh2 {x:Cx} (hj:JOK x) (hask:qnr x) {S:List (Option Px.Vst)} {c most:Nat} (hS:Px.qnp x.P S) (ho:∀ i∈x.P.ins,Px.OkI i) (hl:x.P.ins.length≤10000000) (hw:x.P.words.length≤10000000) (hc:c+most≤9000000) (m:Px.Ms) (hI:Px.InvM x.P S c m) (w:World) (f:Nat→Value) (va:Value) (h:MK x m w f va) :
  Calls Tryz.prog 93 #[.pointer (some ⟨x.g,0,none⟩),.int .i64 (most:Int)] w fun e w'=>e=.returned (.int .i64 ((Px.runM x.P most m).1:Int))∧PM x (Px.runM x.P most m).2 w f va w':=by
 have H0:Hid (zea x S c most m w f va 0 w m f va):=⟨rfl,hI,h,Fr.refl _ _ _ _⟩;have HS:Hid (∀ k wr mk f1 va1,k < most→zea x S c most m w f va k wr mk f1 va1→Calls Tryz.prog 136 #[.pointer (some ⟨x.g,0,none⟩)] wr fun e w1=>e=.returned (errV x (Px.qa1 x.P mk).1)∧w1.cell? ⟨x.g,89,none⟩=some (.int .i64 ((Px.qa1 x.P mk).2.fin:Int))∧Hid (∃ f2 va2,MK x (Px.qa1 x.P mk).2 w1 f2 va2∧Fr x w f va w1 f2 va2)):=fun k wr mk f1 va1 hk hr=>by
  refine (qn2 hj hask hS ho hl hw (by omega) mk hr.inv wr f1 va1 hr.mk_).mono ?_
  rintro e w1 ⟨rfl,f2,va2,k1,k2⟩;have c:=k1.a.blk.cell 89 (by decide)
  rw[k1.a.f89] at c;exact ⟨rfl,c,f2,va2,k1,hr.fr.trans k2⟩
 have HG:Hid (∀ (mk:Px.Ms) (w1:World) (e:Nat),1≤e→e≤4→(∃ f2 va2,MK x mk w1 f2 va2∧Fr x w f va w1 f2 va2)→Calls Tryz.prog 137 #[.pointer (some ⟨x.g,0,none⟩),.iface 337 (.pointer (some (x.E e)))] w1 fun r w2=>r=.returned (.bool (decide (e≠2)))∧w2.cell? ⟨x.g,89,none⟩=some (.int .i64 ((qiu e mk).fin:Int))∧Hid (∃ f2 va2,MK x (qiu e mk) w2 f2 va2∧Fr x w f va w2 f2 va2)):=fun mk w1 e h1 h2 ⟨f2,va2,q1,q2⟩=>by
  have:=zda hj mk w1 f2 va2 q1 e ⟨h1,h2⟩
  rw[show errV x e=.iface 337 (.pointer (some (x.E e))) from if_neg (by omega)] at this
  refine this.mono ?_;rintro r w2 ⟨rfl,f3,va3,k1,k2⟩;have c:=k1.a.blk.cell 89 (by decide)
  rw[k1.a.f89] at c;exact ⟨rfl,c,f3,va3,k1,q2.trans k2⟩
 have HN:Hid (∀ k wr mk f1 va1 w2,k < most→zea x S c most m w f va k wr mk f1 va1→(∃ f2 va2,MK x (qiu (Px.qa1 x.P mk).1 (Px.qa1 x.P mk).2) w2 f2 va2∧Fr x w f va w2 f2 va2) →
   (((Px.qa1 x.P mk).1≠2∧(qiu (Px.qa1 x.P mk).1 (Px.qa1 x.P mk).2).fin=0→∃ m2 f2 va2,zea x S c most m w f va (k+1) w2 m2 f2 va2)∧(¬ ((Px.qa1 x.P mk).1≠2∧(qiu (Px.qa1 x.P mk).1 (Px.qa1 x.P mk).2).fin=0)→Px.runM x.P most m=((qiu (Px.qa1 x.P mk).1 (Px.qa1 x.P mk).2).fin,qiu (Px.qa1 x.P mk).1 (Px.qa1 x.P mk).2)∧PM x (Px.runM x.P most m).2 w f va w2))):=fun k wr mk f1 va1 w2 hk hr ⟨f2,va2,q1,q2⟩=>by
  have en:=zs4 x.P mk;obtain ⟨n,hn⟩:∃ n,most - k=n+1:=⟨most - k - 1,by omega⟩
  have er:=hr.run;rw[hn,Px.runM] at er;refine ⟨fun hh=>⟨qiu (Px.qa1 x.P mk).1 (Px.qa1 x.P mk).2,f2,va2,?_,?_,q1,q2⟩,fun hh=>?_⟩
  ·have e1:(Px.qbo x.P mk).1=false:=by rw[en];simp[hh.1,hh.2]
   have e2:(Px.qbo x.P mk).2=qiu (Px.qa1 x.P mk).1 (Px.qa1 x.P mk).2:=by rw[en]
   rw[e1,if_neg (by decide),e2] at er
   rw[er,show most - (k+1)=n by omega]
  ·have e2:(Px.qbo x.P mk).2=qiu (Px.qa1 x.P mk).1 (Px.qa1 x.P mk).2:=by rw[en]
   have:=Px.zms hr.inv hS ho (by rw[e2];exact hh.2)
   rw[e2] at this;exact this
  ·have e1:(Px.qbo x.P mk).1=true:=by
    rw[en];by_cases h2:(Px.qa1 x.P mk).1=2
    ·simp[h2]
    ·have:¬ (qiu (Px.qa1 x.P mk).1 (Px.qa1 x.P mk).2).fin=0:=fun h3=>hh ⟨h2,h3⟩
     simp[this]
   have e2:(Px.qbo x.P mk).2=qiu (Px.qa1 x.P mk).1 (Px.qa1 x.P mk).2:=by rw[en]
   rw[e1,if_pos rfl,e2] at er;exact ⟨er,by rw[er];exact PM.mk' q1 q2⟩
 clear hj hask hS ho hl hw hI h;have hmost:most≤9000000:=by omega
 clear hc;go_enter Tryz.func93,Tryz.ntmps93
 go_wp2_with fail;go_loopw [7] (fun i wr=>∃ k:Nat,k≤most∧i=.int .i64 k∧Hid (∃ mk f1 va1,zea x S c most m w f va k wr mk f1 va1)) (fun i _=>most - (intOf i).toNat)
 case atStart=>exact ⟨0,by omega,rfl,m,f,va,H0.out⟩
 case round =>
  obtain ⟨k,hk,rfl,HR⟩:=hrel;by_cases hlt:k < most
  ·obtain ⟨mk,f1,va1,hr⟩:=HR.out;have HR1:Hid (zea x S c most m w f va k _ mk f1 va1):=hr;clear hr HR;have hle:=ze6 x.P mk;have hlt':(k:Int) < (most:Int):=by omega
   obtain ⟨E,hE⟩:∃ E,(Px.qa1 x.P mk).1=E:=⟨_,rfl⟩;obtain ⟨M,hM⟩:∃ M,(Px.qa1 x.P mk).2=M:=⟨_,rfl⟩;have HS1:=HS.out k _ mk f1 va1 hlt HR1.out;have HN1:Hid (_):=fun w2=>HN.out k _ mk f1 va1 w2 hlt HR1.out
   rw[hE,hM] at HS1;rw[hE] at hle;simp only[hE,hM] at HN1;have HS2:Hid (_):=HS1;clear HS1 HS HN HR1 hE hM;by_cases h0:E=0
   ·subst h0;by_cases hf:M.fin=0
    ·go_wp2_with fail;refine Calls.mono HS2.out ?_;rintro e w1 ⟨rfl,c89,H1⟩;rw[hf] at c89;simp only[errV,if_true];go_wp2_with fail;refine ⟨⟨k+1,by omega,by go_num,?_⟩,by simp[intOf];omega⟩
     exact (HN1.out _ H1.out).1 ⟨by decide,hf⟩
    ·have hf':¬ ((M.fin:Int)=0):=by omega
     go_wp2_with fail;refine Calls.mono HS2.out ?_;rintro e w1 ⟨rfl,c89,H1⟩;simp only[errV,if_true];go_wp2_with fail;go_ret;obtain ⟨q1,q2⟩:=(HN1.out _ H1.out).2 (fun h=>hf h.2)
     exact ⟨by rw[q1];rfl,q2⟩
   ·by_cases h2:E=2
    ·subst h2;go_wp2_with fail;refine Calls.mono HS2.out ?_;rintro e w1 ⟨rfl,c89,H1⟩;simp only[errV,if_neg h0];go_wp2_with fail;refine Calls.mono (HG.out M w1 2 (by omega) (by omega) H1.out) ?_
     rintro e w2 ⟨rfl,d89,H2⟩;go_wp2_with fail;go_ret;obtain ⟨q1,q2⟩:=(HN1.out _ H2.out).2 (fun h=>h.1 rfl)
     exact ⟨by rw[q1];rfl,q2⟩
    ·have hd:decide (E≠2)=true:=decide_eq_true h2;by_cases hf:(qiu E M).fin=0
     ·go_wp2_with fail;refine Calls.mono HS2.out ?_;rintro e w1 ⟨rfl,c89,H1⟩;simp only[errV,if_neg h0];go_wp2_with fail;refine Calls.mono (HG.out M w1 E (by omega) hle H1.out) ?_
      rintro e w2 ⟨rfl,d89,H2⟩;rw[hf] at d89;rw[hd];go_wp2_with fail;refine ⟨⟨k+1,by omega,by go_num,?_⟩,by simp[intOf];omega⟩
      exact (HN1.out _ H2.out).1 ⟨h2,hf⟩
     ·have hf':¬ (((qiu E M).fin:Int)=0):=by omega
      go_wp2_with fail;refine Calls.mono HS2.out ?_;rintro e w1 ⟨rfl,c89,H1⟩;simp only[errV,if_neg h0];go_wp2_with fail;refine Calls.mono (HG.out M w1 E (by omega) hle H1.out) ?_
      rintro e w2 ⟨rfl,d89,H2⟩;rw[hd];go_wp2_with fail;go_ret;obtain ⟨q1,q2⟩:=(HN1.out _ H2.out).2 (fun h=>hf h.2)
      exact ⟨by rw[q1];rfl,q2⟩
  ·obtain rfl:k=most:=by omega
   obtain ⟨mk,f1,va1,hr⟩:=HR.out;have er:=hr.run;rw[Nat.sub_self,Px.runM] at er;have HF:Hid (Px.runM x.P k m=(4,mk)∧PM x (Px.runM x.P k m).2 w f va _):=⟨er,by rw[er];exact PM.mk' hr.mk_ hr.fr⟩
   clear hr er HR HS HG HN H0;go_wp2_with fail;go_ret;exact ⟨by rw[HF.out.1];rfl,HF.out.2⟩
open Go.RowKit
theorem zxm {x:Cx} (hj:JOK x) (hask:qnr x) {S:List (Option Px.Vst)} {c:Nat} (hS:Px.qnp x.P S) (ho:∀ i∈x.P.ins,Px.OkI i) (hl:x.P.ins.length≤10000000) (hw:x.P.words.length≤10000000) (hc:c+4000000≤9000000) (m:Px.Ms) (hI:Px.InvM x.P S c m) (w:World) (f:Nat→Value) (va:Value) (h:MK x m w f va) :
  Calls Tryz.prog 38 #[.pointer (some ⟨x.g,0,none⟩)] w fun e w'=>e=.returned (.int .i64 ((Px.runM x.P 4000000 m).1:Int))∧PM x (Px.runM x.P 4000000 m).2 w f va w':=by
 have HR:Hid (_):=qh2 hj hask hS ho hl hw hc m hI w f va h;clear hj hask hS ho hl hw hI h;go_enter Tryz.func38,Tryz.ntmps38
 go_wp2_with fail;refine Calls.mono HR.out ?_;rintro e w1 ⟨rfl,H⟩;have HH:Hid (_):=H;clear H HR;go_wp2_with fail;go_ret;exact ⟨rfl,HH.out⟩
open Go.RowKit
structure Gm (w:World) (E:Nat→Addr):Prop where
 v1:w.cell? ⟨10,0,none⟩=some (.iface 337 (.pointer (some (E 1))))
 v2:w.cell? ⟨11,0,none⟩=some (.iface 337 (.pointer (some (E 2))))
 v3:w.cell? ⟨12,0,none⟩=some (.iface 337 (.pointer (some (E 3))))
 v4:w.cell? ⟨14,0,none⟩=some (.iface 337 (.pointer (some (E 4))))
 b:∀ i,1≤i→i≤4→∃ c t,w.heap[(E i).block]?=some (.cells c t (0,0))
 ne:∀ i j,1≤i→i≤4→1≤j→j≤4→i≠j→E i≠E j
 lo:17≤w.heap.size
theorem Gm.below {w w':World} {E:Nat→Addr} (h:Gm w E) (k:Below w.heap.size w w'):Gm w' E:=by
 have lo:=h.lo;have hv:∀ {g:Nat} {v:Value},w.cell? ⟨g,0,none⟩=some v→w'.cell? ⟨g,0,none⟩=some v:=fun {g v} hc=>by rw[k.cell (p:=⟨g,0,none⟩) (lt_of_cell hc)];exact hc
 refine ⟨hv h.v1,hv h.v2,hv h.v3,hv h.v4,fun i h1 h2=>?_,h.ne,Nat.le_trans lo k.size⟩
 obtain ⟨c,t,hb⟩:=h.b i h1 h2;exact ⟨c,t,by rw[k.block _ (Array.getElem?_eq_some_iff.1 hb).1];exact hb⟩
def GivenAt (w:World) (sv:Value) (l:List Int):Prop:=∃ ad c,sv=.slice ad l.length c∧l.length≤c∧(∀ i (hi:i < l.length),∃ q o,ad=some ⟨q,o,none⟩∧w.cell? ⟨q,o+i,none⟩=some (.int .i64 l[i]))∧∀ q,ad=some q→q.block < w.heap.size
def qkh (P:Px.Pg) (l:List Int):Nat:=(Px.runM P 4000000 (Px.qi2 P l)).1
def qh3 (P:Px.Pg) (l:List Int):List Px.Ask:=(Px.runM P 4000000 (Px.qi2 P l)).2.asks
structure Fit (P:Px.Pg):Prop where
 ver:Px.verV P=true
 ok:∀ i∈P.ins,Px.OkI i
 li:P.ins.length≤10000000
 lw:P.words.length≤10000000
 nv:P.nv≤10000000
theorem zs6 {P:Px.Pg} {N:List ByteArray} {E:Nat→Addr} {pp B:Nat} {sv:Value} {l:List Int} {w:World} (hP:Mk.PgAt w B P N pp) (hG:Gm w E) (ha:GivenAt w sv l) (hlen:l.length≤140737488355328) (hr:∀ v∈l,Px.R64 v) (hf:Fit P) :
  Calls Tryz.prog 37 #[.pointer (some ⟨pp,0,none⟩),.iface 116 (.pointer (some ⟨w.heap.size,0,none⟩))] (w.alloc (.cells #[.slice none 0 0,sv] 118)) fun e w1=>∃ g,e=.returned (.pointer (some ⟨g,0,none⟩)) ∧
   Hid (Calls Tryz.prog 38 #[.pointer (some ⟨g,0,none⟩)] w1 fun e2 w2=>e2=.returned (.int .i64 (qkh P l:Int))∧∃ ad n c,w2.cell? ⟨w.heap.size,0,none⟩=some (.slice ad n c)∧Hid (Below w.heap.size w w2∧w2.ownsRow w.heap.size 122 4 (.slice ad n c) (qh3 P l).length (askC (qh3 P l)))):=by
 obtain ⟨hBp,vl,vw,vn,h1,h2,h3,h4⟩:=hP;obtain ⟨ad,c,rfl,hcap,hcs,hbl⟩:=ha;have hpz:pp < w.heap.size:=(Array.getElem?_eq_some_iff.1 h1).1;have hT0:Tch (fun _=>False) w (w.alloc (.cells #[.slice none 0 0,.slice ad l.length c] 118)):=(Tch.refl _ w).alloc _
 have hz0:(w.alloc (.cells #[.slice none 0 0,.slice ad l.length c] 118)).heap.size=w.heap.size+1:=by
  show (w.heap.push _).size=_
  simp
 have hpc:(w.alloc (.cells #[.slice none 0 0,.slice ad l.length c] 118)).cell? ⟨pp,1,none⟩=some (.int .i64 (P.nv:Int)):=by
  rw[World.cell?_of_block (w:=w) (a:=⟨pp,1,none⟩) (hT0.block pp hpz (fun h=>h))]
  simp[World.cell?,h1]
 have hj0:(w.alloc (.cells #[.slice none 0 0,.slice ad l.length c] 118)).heap[w.heap.size]?=some (.cells #[.slice none 0 0,.slice ad l.length c] 118):=by
  show (w.heap.push _)[w.heap.size]?=_
  rw[Array.getElem?_push,if_pos rfl]
 generalize hW:w.alloc (.cells #[.slice none 0 0,.slice ad l.length c] 118)=W at *;refine (zs8 pp P.nv (.iface 116 (.pointer (some ⟨w.heap.size,0,none⟩))) 116 ⟨w.heap.size,0,none⟩ rfl W hpc hf.nv).mono ?_;rintro e w1 ⟨g,n,gv,rfl,hN⟩;refine ⟨g,rfl,?_⟩;obtain ⟨x,hx⟩:∃ x:Cx,x=⟨w.heap.size+1,g,pp,w.heap.size,.iface 116 (.pointer (some ⟨w.heap.size,0,none⟩)),tabJ n,P,E,Kq (w.heap.size+1) w.heap.size⟩:=⟨_,rfl⟩;have xK:x.K=Kq x.B x.jl:=by rw[hx]
 have xj:x.jl < x.B:=by rw[hx];exact Nat.lt_succ_self _
 have hj:JOK x:=zaq xK xj;have hask:qnr x:=zni (ztx xK xj) (by rw[hx])
 have hp:PgS x W:=by
  refine ⟨vl,vw,vn,B,?_,?_,?_,?_,?_,?_,?_⟩
  ·rw[hx];show W.heap[pp]?=_
   rw[hT0.block pp hpz (fun h=>h)]
   exact h1
  ·rw[hx];show pp < w.heap.size+1;omega
  ·rw[hx];show pp≠w.heap.size;omega
  ·rw[hx];exact qah h2 hT0 (fun _ _ h=>h)
  ·intro k hk
   have:=(h2.lt k hk).2
   rw[hx];exact ⟨by show k < w.heap.size+1;omega,by show k≠w.heap.size;omega⟩
  ·rw[hx];exact qah h3 hT0 (fun _ _ h=>h)
  ·intro k hk
   have:=(h3.lt k hk).2
   rw[hx];exact ⟨by show k < w.heap.size+1;omega,by show k≠w.heap.size;omega⟩
 have he:Ge x W:=by
  have hb0:Below w.heap.size w W:=hT0.qbg (Nat.le_refl _) (fun _ h=>h.elim)
  have hg:=hG.below hb0;rw[hx];refine ⟨hg.v1,hg.v2,hg.v3,hg.v4,fun i h1 h2=>?_,hg.ne,by have:=hG.lo;show 17≤w.heap.size+1;omega,hG.lo⟩
  obtain ⟨c',t',hb⟩:=hG.b i h1 h2;have hlt:=(Array.getElem?_eq_some_iff.1 hb).1;exact ⟨by show (E i).block < w.heap.size+1;omega,by show (E i).block≠w.heap.size;omega,c',t',by rw[hT0.block _ hlt (fun h=>h)];exact hb⟩
 have hk:x.K l [] (.slice none 0 0) w1:=by
  have hb1:w1.heap[w.heap.size]?=some (.cells #[.slice none 0 0,.slice ad l.length c] 118):=by
   rw[hN.t.block _ (by rw[hz0];omega) (fun h=>h)]
   exact hj0
  rw[hx];refine ⟨⟨by simp[World.cell?,hb1],⟨.slice ad l.length c,by simp[World.cell?,hb1],ad,c,rfl,hcap,fun i hi=>?_,fun q hq=>?_⟩,fun o=>by simp[World.frozen?,hb1],World.ownsRow_nil _ _ _ _⟩,hlen⟩
  ·obtain ⟨q,o,e1,e2⟩:=hcs i hi;have hq:=lt_of_cell e2;refine ⟨q,o,e1,?_⟩;rw[World.cell?_of_block (w:=w) (a:=⟨q,o+i,none⟩) ((hT0.trans hN.t).block q hq (fun h=>h))]
   exact e2
  ·have:=hbl q hq
   exact ⟨by omega,by omega⟩
 have hN':NewAt x.pp x.P.nv x.vj W w1 x.g n gv:=by rw[hx];exact hN
 have hm:=zwy (va:=.slice none 0 0) hN' (by rw[hx,hz0]) (by rw[hx]) xj (by rw[hx];exact hf.nv) rfl hk hp he
 obtain ⟨S,hS⟩:=Px.zkm hf.ver;have hPx:x.P=P:=by rw[hx]
 have hgx:x.g=g:=by rw[hx]
 have hI:Px.InvM x.P S 0 (Px.qi2 x.P l):=Px.zfa (by rw[hPx];exact hS) hr
 have hgo:=zxm hj hask (S:=S) (c:=0) (by rw[hPx];exact hS) (by rw[hPx];exact hf.ok) (by rw[hPx];exact hf.li) (by rw[hPx];exact hf.lw) (by omega) _ hI w1 _ _ hm
 rw[hgx,hPx] at hgo;have hm':=hm;rw[hPx] at hm';refine hgo.mono ?_;rintro e2 w2 ⟨rfl,f2,va2,k1,k2⟩;refine ⟨rfl,?_⟩;have hkk:=k1.k;rw[xK] at hkk;have ejl:x.jl=w.heap.size:=by rw[hx]
 have eB:x.B=w.heap.size+1:=by rw[hx]
 rw[ejl,eB] at hkk;obtain ⟨⟨c0,_,_,ow⟩,_⟩:=hkk;obtain ⟨a3,n3,c3,rfl⟩:=Ref.qad ow;refine ⟨a3,n3,c3,c0,?_,?_⟩
 ·have hb1:Below w.heap.size w w1:=(hT0.trans hN.t).qbg (Nat.le_refl _) (fun _ h=>h.elim)
  refine hb1.trans (k2.t.qbg hb1.size fun k hk=>?_)
  rcases hk with hk | hk | ⟨r,hr,hk⟩
  ·rw[hk,hgx];have:=hN.g1;omega
  ·rw[hk,ejl];omega
  ·have:=(hm'.a.sep.own r hr k hk).1;omega
 ·exact qvr ow (by omega)
theorem zmz {P:Px.Pg} {N:List ByteArray} {E:Nat→Addr} {pp B:Nat} {sv:Value} {l:List Int} {w:World} (hP:Mk.PgAt w B P N pp) (hG:Gm w E) (ha:GivenAt w sv l) (hlen:l.length≤140737488355328) (hr:∀ v∈l,Px.R64 v) (hf:Fit P) :
  Calls Tryz.prog 18 #[.pointer (some ⟨pp,0,none⟩),sv] w fun e w'=>Below w.heap.size w w'∧∃ va,e=.returned (.tuple #[va,.int .i64 (qkh P l:Int)])∧(qkh P l=4→va=.slice none 0 0)∧(qkh P l≠4→w'.ownsRow w.heap.size 122 4 va (qh3 P l).length (askC (qh3 P l))):=by
 have HN:Hid (_):=zs6 hP hG ha hlen hr hf;obtain ⟨ad,c,rfl,_⟩:=ha;clear hP hG hlen hr hf;generalize hE:qkh P l=E' at *;go_enter Tryz.func18,Tryz.ntmps18
 go_wp2_with fail;refine Calls.mono HN.out ?_;rintro e w1 ⟨g,rfl,HG⟩;go_wp2_with fail;refine Calls.mono HG.out ?_;rintro e w2 ⟨rfl,a2,n2,c2,d0,H⟩;by_cases h4:E'=4
 ·subst h4;go_wp2_with fail;go_ret2
  first
   | exact ⟨H.out.1,rfl⟩
   | exact ⟨H.out.1,_,rfl,fun _=>rfl,fun h=>absurd rfl h⟩
 ·have h4':¬ (E':Int)=4:=by omega
  go_wp2_with fail;go_ret2;exact ⟨H.out.1,_,rfl,fun h=>absurd h h4,fun _=>H.out.2⟩
end Rn
end Go.Proofs.YtokkhhekekeokaaGreatDoor
