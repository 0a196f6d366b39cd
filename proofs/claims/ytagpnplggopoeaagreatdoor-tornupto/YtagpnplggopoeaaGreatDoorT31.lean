import Derived.Test.YtagpnplggopoeaaGreatDoorT30
import Derived.Test.YtagpnplggopoeaaGreatDoorT26
import Derived.Deep.RegionHeld
set_option maxRecDepth 100000
set_option maxHeartbeats 4000000
namespace Go.Proofs.YtagpnplggopoeaaGreatDoor
open Go.RowKit
namespace Rn
theorem zbx {P:Px.Pg} {m:Px.Ms} (h:(Px.qa2 P m).1≠0):(Px.qa2 P m).2.place=m.place:=by
 rcases qpm m with hn | ⟨u,r,hur,hne,hn⟩
 ·rw[qkl hn,qky] at h;exact absurd rfl h
 ·unfold Px.qa2 at h ⊢;simp only[hur] at h ⊢;rw[if_neg (by rw[← hur];exact hne)] at h ⊢
  cases hq:Px.askM P u.1 u.2 3 true m with
  | mk ea q =>
   obtain ⟨va',ma⟩:=q;obtain ⟨a,l,t,hma,_⟩:=Px.qhg hq;rw[hq] at h;match ea with
   | 0=>exact absurd rfl h
   | 1=>show ma.place=_;rw[hma]
   | n+2=>show ma.place=_;rw[hma]
theorem zq6 (P:Px.Pg) (m:Px.Ms):(Px.qa2 P m).1≤4:=by
 rcases qpm m with hn | ⟨u,r,hur,hne,hn⟩
 ·rw[qkl hn,qky];omega
 ·unfold Px.qa2;simp only[hur];rw[if_neg (by rw[← hur];exact hne)]
  cases hq:Px.askM P u.1 u.2 3 true m with
  | mk ea q =>
   obtain ⟨va',ma⟩:=q;obtain ⟨_,_,_,_,_,_,_,_,hle⟩:=Px.qhg hq;match ea,hle with
   | 0,_=>show (0:Nat)≤4;omega
   | 1,_=>show (4:Nat)≤4;omega
   | n+2,hle=>show n+2≤4;omega
theorem zxc {c:Prop} [Decidable c] {a b:Nat×Px.Ms} (ha:a.1≤4) (hb:b.1≤4):(if c then a else b).1≤4:=by
 split
 ·exact ha
 ·exact hb
theorem do_le (P:Px.Pg) (i:Px.Ins) (m:Px.Ms):(Px.doM P i m).1≤4:=by
 have hc:(qqw P i.a i.b m).1≤4:=by
  unfold qqw;cases hq:Px.askM P i.a (m.st.headD 0) i.b false m with
  | mk ea q =>
   obtain ⟨va',ma⟩:=q;obtain ⟨_,_,_,_,_,_,_,_,hle⟩:=Px.qhg hq;match ea,hle with
   | 0,_=>show (0:Nat)≤4;omega
   | n+1,hle=>show n+1≤4;omega
 by_cases h18:i.k=18
 ·have e:Px.doM P i m=qqw P i.a i.b m:=by
   unfold Px.doM;rw[if_neg (by omega),if_neg (by omega),if_neg (by omega),if_neg (by omega),if_neg (by omega),if_neg (by omega),if_neg (by omega),if_neg (by omega),if_neg (by omega),if_neg (by omega),if_neg (by omega),if_neg (by omega),if_neg (by omega),if_pos h18]
   rfl
  rw[e];exact hc
 ·unfold Px.doM;simp only[h18,if_false]
  repeat' apply zxc
  all_goals first | exact Nat.zero_le 4 | (show (1:Nat)≤4;omega)
theorem ze6 (P:Px.Pg) (m:Px.Ms):(Px.qa1 P m).1≤4:=by
 unfold Px.qa1;split
 ·exact zq6 P m
 ·split
  ·show (0:Nat)≤4;omega
  ·rename_i i _
   have:=do_le P i { m with place:=m.place+1 }
   cases hd:Px.doM P i { m with place:=m.place+1 } with
   | mk e m' =>
    rw[hd] at this;cases e with
    | zero=>exact this
    | succ n=>exact this
theorem zs4 (P:Px.Pg) (m:Px.Ms):Px.qbo P m=(decide ((Px.qa1 P m).1=2) || decide ((qiu (Px.qa1 P m).1 (Px.qa1 P m).2).fin≠0),qiu (Px.qa1 P m).1 (Px.qa1 P m).2):=by
 have hl:=ze6 P m;unfold Px.qbo;cases hs:Px.qa1 P m with
 | mk e m' =>
  rw[hs] at hl;match e,hl with
  | 0,_=>rfl
  | 1,_=>rfl
  | 2,_=>rfl
  | 3,_=>rfl
  | 4,_=>rfl
  | n+5,hl=>exact absurd hl (by show ¬ n+5≤4;omega)
theorem Bd.of {P:Px.Pg} {S:List (Option Px.Vst)} {c:Nat} {m:Px.Ms} (h:Px.InvM P S c m) (hc:c≤9000000) (hw:P.words.length≤10000000):Bd P m :=
 ⟨Nat.le_trans h.c1 hc,Nat.le_trans h.c2 hc,Nat.le_trans h.c3 hc,Nat.le_trans h.c4 hc,h.tried,h.rst,h.rleft,h.vars,hw⟩
theorem qn2 {x:Cx} (hj:JOK x) (hask:qnr x) {S:List (Option Px.Vst)} {c:Nat} (hS:Px.qnp x.P S) (ho:∀ i∈x.P.ins,Px.OkI i) (hl:x.P.ins.length≤10000000) (hw:x.P.words.length≤10000000) (hc:c≤9000000) (m:Px.Ms) (hI:Px.InvM x.P S c m) (w:World) (f:Nat→Value) (va:Value) (h:MK x m w f va) :
  Calls Tryz.prog 122 #[.pointer (some ⟨x.g,0,none⟩)] w (qd8 x m w f va):=by
 have hb:=Bd.of hI hc hw;cases hu:m.qak with
 | true =>
  refine qo8 hj m w f va h hu zbx fun W hW=>?_
  have h1:=hb.s;have h2:=hb.b;have h3:=hb.u;have h4:=hb.a;refine qu0 hj hask m W f va hW (by omega) (by omega) (by omega) (Px.za8 hI) (fun b r hbr=>(Px.qr0 hI hS hbr).1) hI.rund hI.rleft hI.tried (by omega) hw
 | false =>
  cases hi:x.P.ins[m.place]? with
  | none =>
   have h1:=List.getElem?_eq_none_iff.1 hi;have h2:=hI.pl;exact ze9 hj m w f va h hu (by omega) hl
  | some i =>
   have hcan:=hI.can hS ho hu hi;cases hp:qit i.k with
   | true=>exact zle hj hask m w f va h hu i hi hl hb hcan hp
   | false=>exact zlf hj hask m w f va h hu i hi hl hb hcan hp
open Go.RowKit
structure zea (x:Cx) (S:List (Option Px.Vst)) (c most:Nat) (m0:Px.Ms) (w:World) (f:Nat→Value) (va:Value) (k:Nat) (wr:World) (mk:Px.Ms) (f1:Nat→Value) (va1:Value):Prop where
 run:Px.runM x.P most m0=Px.runM x.P (most - k) mk
 inv:Px.InvM x.P S (c+k) mk
 mk_:MK x mk wr f1 va1
 fr:Fr x w f va wr f1 va1
theorem qh2 {x:Cx} (hj:JOK x) (hask:qnr x) {S:List (Option Px.Vst)} {c most:Nat} (hS:Px.qnp x.P S) (ho:∀ i∈x.P.ins,Px.OkI i) (hl:x.P.ins.length≤10000000) (hw:x.P.words.length≤10000000) (hc:c+most≤9000000) (m:Px.Ms) (hI:Px.InvM x.P S c m) (w:World) (f:Nat→Value) (va:Value) (h:MK x m w f va) :
  Calls Tryz.prog 45 #[.pointer (some ⟨x.g,0,none⟩),.int .i64 (most:Int)] w fun e w'=>e=.returned (.int .i64 ((Px.runM x.P most m).1:Int))∧PM x (Px.runM x.P most m).2 w f va w':=by
 have H0:Hid (zea x S c most m w f va 0 w m f va):=⟨rfl,hI,h,Fr.refl _ _ _ _⟩;have HS:Hid (∀ k wr mk f1 va1,k < most→zea x S c most m w f va k wr mk f1 va1→Calls Tryz.prog 122 #[.pointer (some ⟨x.g,0,none⟩)] wr fun e w1=>e=.returned (errV x (Px.qa1 x.P mk).1)∧w1.cell? ⟨x.g,89,none⟩=some (.int .i64 ((Px.qa1 x.P mk).2.fin:Int))∧Hid (∃ f2 va2,MK x (Px.qa1 x.P mk).2 w1 f2 va2∧Fr x w f va w1 f2 va2)):=fun k wr mk f1 va1 hk hr=>by
  refine (qn2 hj hask hS ho hl hw (by omega) mk hr.inv wr f1 va1 hr.mk_).mono ?_
  rintro e w1 ⟨rfl,f2,va2,k1,k2⟩;have c:=k1.a.blk.cell 89 (by decide)
  rw[k1.a.f89] at c;exact ⟨rfl,c,f2,va2,k1,hr.fr.trans k2⟩
 have HG:Hid (∀ (mk:Px.Ms) (w1:World) (e:Nat),1≤e→e≤4→(∃ f2 va2,MK x mk w1 f2 va2∧Fr x w f va w1 f2 va2)→Calls Tryz.prog 123 #[.pointer (some ⟨x.g,0,none⟩),.iface 359 (.pointer (some (x.E e)))] w1 fun r w2=>r=.returned (.bool (decide (e≠2)))∧w2.cell? ⟨x.g,89,none⟩=some (.int .i64 ((qiu e mk).fin:Int))∧Hid (∃ f2 va2,MK x (qiu e mk) w2 f2 va2∧Fr x w f va w2 f2 va2)):=fun mk w1 e h1 h2 ⟨f2,va2,q1,q2⟩=>by
  have:=zda hj mk w1 f2 va2 q1 e ⟨h1,h2⟩
  rw[show errV x e=.iface 359 (.pointer (some (x.E e))) from if_neg (by omega)] at this
  refine this.mono ?_;rintro r w2 ⟨rfl,f3,va3,k1,k2⟩;have c:=k1.a.blk.cell 89 (by decide)
  rw[k1.a.f89] at c;exact ⟨rfl,c,f3,va3,k1,q2.trans k2⟩
 have HN:Hid (∀ k wr mk f1 va1 w2,k < most→zea x S c most m w f va k wr mk f1 va1→(∃ f2 va2,MK x (qiu (Px.qa1 x.P mk).1 (Px.qa1 x.P mk).2) w2 f2 va2∧Fr x w f va w2 f2 va2) →
   (((Px.qa1 x.P mk).1≠2∧(qiu (Px.qa1 x.P mk).1 (Px.qa1 x.P mk).2).fin=0→∃ m2 f2 va2,zea x S c most m w f va (k+1) w2 m2 f2 va2)∧(¬ ((Px.qa1 x.P mk).1≠2∧(qiu (Px.qa1 x.P mk).1 (Px.qa1 x.P mk).2).fin=0)→Px.runM x.P most m=((qiu (Px.qa1 x.P mk).1 (Px.qa1 x.P mk).2).fin,qiu (Px.qa1 x.P mk).1 (Px.qa1 x.P mk).2)∧PM x (Px.runM x.P most m).2 w f va w2))):=fun k wr mk f1 va1 w2 hk hr ⟨f2,va2,q1,q2⟩=>by
  have en:=zs4 x.P mk;obtain ⟨n,hn⟩:∃ n,most - k=n+1:=⟨most - k - 1,by omega⟩
  have er:=hr.run;rw[hn,Px.runM] at er;refine ⟨fun hh=>⟨qiu (Px.qa1 x.P mk).1 (Px.qa1 x.P mk).2,f2,va2,?_,?_,q1,q2⟩,fun hh=>?_⟩
  ·have e1:(Px.qbo x.P mk).1=false:=by rw[en];simp[hh.1,hh.2]
   have e2:(Px.qbo x.P mk).2=qiu (Px.qa1 x.P mk).1 (Px.qa1 x.P mk).2:=by rw[en]
   rw[e1,if_neg (by decide),e2] at er
   rw[er,show most - (k+1)=n by omega]
  ·have e2:(Px.qbo x.P mk).2=qiu (Px.qa1 x.P mk).1 (Px.qa1 x.P mk).2:=by rw[en]
   have:=Px.zms hr.inv hS ho (by rw[e2];exact hh.2)
   rw[e2] at this;exact this
  ·have e1:(Px.qbo x.P mk).1=true:=by
    rw[en];by_cases h2:(Px.qa1 x.P mk).1=2
    ·simp[h2]
    ·have:¬ (qiu (Px.qa1 x.P mk).1 (Px.qa1 x.P mk).2).fin=0:=fun h3=>hh ⟨h2,h3⟩
     simp[this]
   have e2:(Px.qbo x.P mk).2=qiu (Px.qa1 x.P mk).1 (Px.qa1 x.P mk).2:=by rw[en]
   rw[e1,if_pos rfl,e2] at er;exact ⟨er,by rw[er];exact PM.mk' q1 q2⟩
 clear hj hask hS ho hl hw hI h;have hmost:most≤9000000:=by omega
 clear hc;go_enter Tryz.func45,Tryz.ntmps45
 go_wp2_with fail;go_loopw [7] (fun i wr=>∃ k:Nat,k≤most∧i=.int .i64 k∧Hid (∃ mk f1 va1,zea x S c most m w f va k wr mk f1 va1)) (fun i _=>most - (intOf i).toNat)
 case atStart=>exact ⟨0,by omega,rfl,m,f,va,H0.out⟩
 case round =>
  obtain ⟨k,hk,rfl,HR⟩:=hrel;by_cases hlt:k < most
  ·obtain ⟨mk,f1,va1,hr⟩:=HR.out;have HR1:Hid (zea x S c most m w f va k _ mk f1 va1):=hr;clear hr HR;have hle:=ze6 x.P mk;have hlt':(k:Int) < (most:Int):=by omega
   obtain ⟨E,hE⟩:∃ E,(Px.qa1 x.P mk).1=E:=⟨_,rfl⟩;obtain ⟨M,hM⟩:∃ M,(Px.qa1 x.P mk).2=M:=⟨_,rfl⟩;have HS1:=HS.out k _ mk f1 va1 hlt HR1.out;have HN1:Hid (_):=fun w2=>HN.out k _ mk f1 va1 w2 hlt HR1.out
   rw[hE,hM] at HS1;rw[hE] at hle;simp only[hE,hM] at HN1;have HS2:Hid (_):=HS1;clear HS1 HS HN HR1 hE hM;by_cases h0:E=0
   ·subst h0;by_cases hf:M.fin=0
    ·go_wp2_with fail;refine Calls.mono HS2.out ?_;rintro e w1 ⟨rfl,c89,H1⟩;rw[hf] at c89;simp only[errV,if_true];go_wp2_with fail;refine ⟨⟨k+1,by omega,by go_num,?_⟩,by simp[intOf];omega⟩
     exact (HN1.out _ H1.out).1 ⟨by decide,hf⟩
    ·have hf':¬ ((M.fin:Int)=0):=by omega
     go_wp2_with fail;refine Calls.mono HS2.out ?_;rintro e w1 ⟨rfl,c89,H1⟩;simp only[errV,if_true];go_wp2_with fail;go_ret;obtain ⟨q1,q2⟩:=(HN1.out _ H1.out).2 (fun h=>hf h.2)
     exact ⟨by rw[q1];rfl,q2⟩
   ·by_cases h2:E=2
    ·subst h2;go_wp2_with fail;refine Calls.mono HS2.out ?_;rintro e w1 ⟨rfl,c89,H1⟩;simp only[errV,if_neg h0];go_wp2_with fail;refine Calls.mono (HG.out M w1 2 (by omega) (by omega) H1.out) ?_
     rintro e w2 ⟨rfl,d89,H2⟩;go_wp2_with fail;go_ret;obtain ⟨q1,q2⟩:=(HN1.out _ H2.out).2 (fun h=>h.1 rfl)
     exact ⟨by rw[q1];rfl,q2⟩
    ·have hd:decide (E≠2)=true:=decide_eq_true h2;by_cases hf:(qiu E M).fin=0
     ·go_wp2_with fail;refine Calls.mono HS2.out ?_;rintro e w1 ⟨rfl,c89,H1⟩;simp only[errV,if_neg h0];go_wp2_with fail;refine Calls.mono (HG.out M w1 E (by omega) hle H1.out) ?_
      rintro e w2 ⟨rfl,d89,H2⟩;rw[hf] at d89;rw[hd];go_wp2_with fail;refine ⟨⟨k+1,by omega,by go_num,?_⟩,by simp[intOf];omega⟩
      exact (HN1.out _ H2.out).1 ⟨h2,hf⟩
     ·have hf':¬ (((qiu E M).fin:Int)=0):=by omega
      go_wp2_with fail;refine Calls.mono HS2.out ?_;rintro e w1 ⟨rfl,c89,H1⟩;simp only[errV,if_neg h0];go_wp2_with fail;refine Calls.mono (HG.out M w1 E (by omega) hle H1.out) ?_
      rintro e w2 ⟨rfl,d89,H2⟩;rw[hd];go_wp2_with fail;go_ret;obtain ⟨q1,q2⟩:=(HN1.out _ H2.out).2 (fun h=>hf h.2)
      exact ⟨by rw[q1];rfl,q2⟩
  ·obtain rfl:k=most:=by omega
   obtain ⟨mk,f1,va1,hr⟩:=HR.out;have er:=hr.run;rw[Nat.sub_self,Px.runM] at er;have HF:Hid (Px.runM x.P k m=(4,mk)∧PM x (Px.runM x.P k m).2 w f va _):=⟨er,by rw[er];exact PM.mk' hr.mk_ hr.fr⟩
   clear hr er HR HS HG HN H0;go_wp2_with fail;go_ret;exact ⟨by rw[HF.out.1];rfl,HF.out.2⟩
open Go.RowKit
theorem zxm {x:Cx} (hj:JOK x) (hask:qnr x) {S:List (Option Px.Vst)} {c:Nat} (hS:Px.qnp x.P S) (ho:∀ i∈x.P.ins,Px.OkI i) (hl:x.P.ins.length≤10000000) (hw:x.P.words.length≤10000000) (hc:c+4000000≤9000000) (m:Px.Ms) (hI:Px.InvM x.P S c m) (w:World) (f:Nat→Value) (va:Value) (h:MK x m w f va) :
  Calls Tryz.prog 23 #[.pointer (some ⟨x.g,0,none⟩)] w fun e w'=>e=.returned (.int .i64 ((Px.runM x.P 4000000 m).1:Int))∧PM x (Px.runM x.P 4000000 m).2 w f va w':=by
 have HR:Hid (_):=qh2 hj hask hS ho hl hw hc m hI w f va h;clear hj hask hS ho hl hw hI h;go_enter Tryz.func23,Tryz.ntmps23
 go_wp2_with fail;refine Calls.mono HR.out ?_;rintro e w1 ⟨rfl,H⟩;have HH:Hid (_):=H;clear H HR;go_wp2_with fail;go_ret;exact ⟨rfl,HH.out⟩
open Go.RowKit
theorem ye3 (a:Addr) (w:World):(nilAhead 500 60 (.pointer (some a)) "AnswerTo").run Tryz.prog w=.ok (some false) w:=by kernel_rfl
theorem yeg (a:Addr) (w:World):(Go.method 500 60 (.pointer (some a)) "AnswerTo").run Tryz.prog w=.ok (263,.pointer (some a)) w:=by kernel_rfl
theorem ydx {x:Cx} (ja:JA x 263) (hvj:x.vj=.iface 60 (.pointer (some ⟨x.jl,0,none⟩))):qnr x:=by
 intro m w f va h i arg most und hi hr hrl ht hm ha hww;have c3:=h.a.blk.cell 3 (by decide)
 have c4:=h.a.blk.cell 4 (by decide)
 have c87:=h.a.blk.cell 87 (by decide)
 rw[h.a.f3,hvj] at c3;rw[h.a.f4] at c4;rw[h.a.f87] at c87;obtain ⟨vl,vw,vn,lo,p1,p2,p3,p4,p5,p6,p7⟩:=h.p.ex;obtain ⟨aw,nw,cw,rfl⟩:=Ref.qad p6;obtain ⟨rfl,_,hcell⟩:=Mk.qsi p6;obtain ⟨gw,rfl,hcw⟩:=hcell i hi;have pw:w.cell? ⟨x.pp,0,none⟩=some (.slice (some ⟨gw,0,none⟩) x.P.words.length cw):=by simp[World.cell?,p1]
 have hN:=ye3;have hM:=yeg;obtain ⟨hr1,hr2⟩:=hr;have ew:x.P.words.getD i Px.nowt=x.P.words[i]:=by simp[List.getD_eq_getElem?_getD,List.getElem?_eq_getElem hi]
 have HX:Hid (_):=zve ja h ⟨x.P.words[i],arg,m.tried+1,und⟩ ha;have HP:Hid (JOK x):=ja.ok;generalize x.P.words[i]=word at *;unfold askV at HX;simp only[Int.natCast_add,Int.cast_ofNat_Int] at HX;have hwr:IntKind.i64.wrap ((m.tried:Int)+1)=(m.tried:Int)+1:=by rw[IntKind.wrap_i64];omega
 have hgw:=p7 gw rfl;clear p1 p4 p5 p6 p7 hcell h ja;cases hleft:m.left with
 | nil =>
  have HE:Hid (∀ w',PM x { m with left:=m.left.tail,asks:=m.asks++[⟨word,arg,m.tried+1,und⟩] } w f va w'→qed x m i arg most und w f va (.returned (.tuple #[.int .i64 0,.iface 359 (.pointer (some (x.E 2)))])) w'):=by
   intro w' hp;have e:Px.askM x.P i arg most und m=(2,0,{ m with left:=m.left.tail,asks:=m.asks++[⟨word,arg,m.tried+1,und⟩] }):=by
    unfold Px.askM;rw[ew];cases m;simp at hleft;subst hleft;rfl
   unfold qed;rw[e];exact ⟨rfl,hp⟩
  go_enter Tryz.func145,Tryz.ntmps145
  go_wp2_with fail;go_region_held (fun w'=>w'.cell? ⟨x.g,3,none⟩=some (.iface 60 (.pointer (some ⟨x.jl,0,none⟩)))∧w'.cell? ⟨x.g,4,none⟩=some (.pointer (some ⟨x.pp,0,none⟩))∧w'.cell? ⟨x.g,87,none⟩=some (.int .i64 (m.tried:Int))∧w'.cell? ⟨x.pp,0,none⟩=some (.slice (some ⟨gw,0,none⟩) x.P.words.length cw)∧w'.cell? ⟨gw,i,none⟩=some (.string word)) (go_keep)
   (first | (go_at_call 263;refine Calls.mono (HX.out _ (by first | exact Tch.refl _ _ | exact (Tch.refl _ _).drew)) ?_;rintro e w1 ⟨rfl,hcc,f87',g1,g2,g3,hG,HM⟩;have d3:=hcc _ _ _ (Or.inl rfl) c3;have d4:=hcc _ _ _ (Or.inl rfl) c4;have d87:=hcc _ _ _ (Or.inl rfl) c87;have dp:=hcc _ _ _ (Or.inr ⟨p2,p3⟩) pw;have dw:=hcc _ _ _ (Or.inr hgw) hcw;clear hcc;rw[hleft]))
  all_goals
   go_wp2_with fail;go_region
   all_goals
    go_wp2_with fail;go_ret2;refine HE.out _ ?_;obtain ⟨va',k1,k2⟩:=HM.out;exact PM.same HP.out ⟨_,_,k1,k2⟩ (Tch.refl _ _).drew
 | cons v r =>
  obtain ⟨hv1,hv2⟩:=hrl v (by rw[hleft];exact List.mem_cons_self)
  have ec:((m.tried+1:Nat):Int)=(m.tried:Int)+1:=by simp
  by_cases hneg:v < 0
  ·by_cases hmo:m.tried+1 < most
   ·have hmo':(m.tried:Int)+1 < (most:Int):=by omega
    have HE:Hid (∀ w',PM x { m with left:=r,asks:=m.asks++[⟨word,arg,m.tried+1,und⟩],tried:=m.tried+1 } w f va w'→qed x m i arg most und w f va (.returned (.tuple #[.int .i64 0,.iface 359 (.pointer (some (x.E 3)))])) w'):=by
     intro w' hp;have e:Px.askM x.P i arg most und m=(3,0,{ m with left:=r,asks:=m.asks++[⟨word,arg,m.tried+1,und⟩],tried:=m.tried+1 }):=by
      unfold Px.askM;rw[ew,hleft];simp only;rw[if_pos ⟨hneg,hmo⟩]
     unfold qed;rw[e];exact ⟨rfl,hp⟩
    go_enter Tryz.func145,Tryz.ntmps145
    go_wp2_with fail;go_region_held (fun w'=>w'.cell? ⟨x.g,3,none⟩=some (.iface 60 (.pointer (some ⟨x.jl,0,none⟩)))∧w'.cell? ⟨x.g,4,none⟩=some (.pointer (some ⟨x.pp,0,none⟩))∧w'.cell? ⟨x.g,87,none⟩=some (.int .i64 (m.tried:Int))∧w'.cell? ⟨x.pp,0,none⟩=some (.slice (some ⟨gw,0,none⟩) x.P.words.length cw)∧w'.cell? ⟨gw,i,none⟩=some (.string word)) (go_keep)
     (first | (go_at_call 263;refine Calls.mono (HX.out _ (by first | exact Tch.refl _ _ | exact (Tch.refl _ _).drew)) ?_;rintro e w1 ⟨rfl,hcc,f87',g1,g2,g3,hG,HM⟩;have d3:=hcc _ _ _ (Or.inl rfl) c3;have d4:=hcc _ _ _ (Or.inl rfl) c4;have d87:=hcc _ _ _ (Or.inl rfl) c87;have dp:=hcc _ _ _ (Or.inr ⟨p2,p3⟩) pw;have dw:=hcc _ _ _ (Or.inr hgw) hcw;clear hcc;rw[hleft];simp only[List.tail_cons,hleft] at HM))
    all_goals
     go_wp2_with fail;go_region
     all_goals
      go_wp2_with fail;go_ret2;refine HE.out _ ?_;obtain ⟨va',k1,k2⟩:=HM.out
      first | (have:=PM.same HP.out (PM.tried HP.out ⟨_,_,k1,k2⟩ (m.tried+1)) (Tch.refl _ _).drew;rw[ec] at this;exact this) | (have:=PM.tried HP.out (PM.same HP.out ⟨_,_,k1,k2⟩ (Tch.refl _ _).drew) (m.tried+1);rw[ec] at this;exact this)
   ·have hmo':¬ (m.tried:Int)+1 < (most:Int):=by omega
    have HE:Hid (∀ w',PM x { m with left:=r,asks:=m.asks++[⟨word,arg,m.tried+1,und⟩],tried:=0 } w f va w'→qed x m i arg most und w f va (.returned (.tuple #[.int .i64 0,.iface 359 (.pointer (some (x.E 1)))])) w'):=by
     intro w' hp;have e:Px.askM x.P i arg most und m=(1,0,{ m with left:=r,asks:=m.asks++[⟨word,arg,m.tried+1,und⟩],tried:=0 }):=by
      unfold Px.askM;rw[ew,hleft];simp only;rw[if_neg (fun h=>hmo h.2),if_pos hneg]
     unfold qed;rw[e];exact ⟨rfl,hp⟩
    go_enter Tryz.func145,Tryz.ntmps145
    go_wp2_with fail;go_region_held (fun w'=>w'.cell? ⟨x.g,3,none⟩=some (.iface 60 (.pointer (some ⟨x.jl,0,none⟩)))∧w'.cell? ⟨x.g,4,none⟩=some (.pointer (some ⟨x.pp,0,none⟩))∧w'.cell? ⟨x.g,87,none⟩=some (.int .i64 (m.tried:Int))∧w'.cell? ⟨x.pp,0,none⟩=some (.slice (some ⟨gw,0,none⟩) x.P.words.length cw)∧w'.cell? ⟨gw,i,none⟩=some (.string word)) (go_keep)
     (first | (go_at_call 263;refine Calls.mono (HX.out _ (by first | exact Tch.refl _ _ | exact (Tch.refl _ _).drew)) ?_;rintro e w1 ⟨rfl,hcc,f87',g1,g2,g3,hG,HM⟩;have d3:=hcc _ _ _ (Or.inl rfl) c3;have d4:=hcc _ _ _ (Or.inl rfl) c4;have d87:=hcc _ _ _ (Or.inl rfl) c87;have dp:=hcc _ _ _ (Or.inr ⟨p2,p3⟩) pw;have dw:=hcc _ _ _ (Or.inr hgw) hcw;clear hcc;rw[hleft];simp only[List.tail_cons,hleft] at HM))
    all_goals
     go_wp2_with fail;go_region
     all_goals
      go_wp2_with fail;go_ret2;refine HE.out _ ?_;obtain ⟨va',k1,k2⟩:=HM.out
      first | exact PM.same HP.out (PM.tried HP.out ⟨_,_,k1,k2⟩ 0) (Tch.refl _ _).drew | exact PM.tried HP.out (PM.same HP.out ⟨_,_,k1,k2⟩ (Tch.refl _ _).drew) 0 | exact PM.tried HP.out ⟨_,_,k1,k2⟩ 0 | (have:=PM.tried HP.out (PM.tried HP.out ⟨_,_,k1,k2⟩ (m.tried+1)) 0;rw[ec] at this;exact this) | (have:=PM.same HP.out (PM.tried HP.out (PM.tried HP.out ⟨_,_,k1,k2⟩ (m.tried+1)) 0) (Tch.refl _ _).drew;rw[ec] at this;exact this)
  ·have hneg':¬ v < 0:=hneg;have HE:Hid (∀ w',PM x { m with left:=r,asks:=m.asks++[⟨word,arg,m.tried+1,und⟩],tried:=0 } w f va w'→qed x m i arg most und w f va (.returned (.tuple #[.int .i64 v,.nilIface])) w'):=by
    intro w' hp;have e:Px.askM x.P i arg most und m=(0,v,{ m with left:=r,asks:=m.asks++[⟨word,arg,m.tried+1,und⟩],tried:=0 }):=by
     unfold Px.askM;rw[ew,hleft];simp only;rw[if_neg (fun h=>hneg h.1),if_neg hneg]
    unfold qed;rw[e];exact ⟨rfl,hp⟩
   go_enter Tryz.func145,Tryz.ntmps145
   go_wp2_with fail;go_region_held (fun w'=>w'.cell? ⟨x.g,3,none⟩=some (.iface 60 (.pointer (some ⟨x.jl,0,none⟩)))∧w'.cell? ⟨x.g,4,none⟩=some (.pointer (some ⟨x.pp,0,none⟩))∧w'.cell? ⟨x.g,87,none⟩=some (.int .i64 (m.tried:Int))∧w'.cell? ⟨x.pp,0,none⟩=some (.slice (some ⟨gw,0,none⟩) x.P.words.length cw)∧w'.cell? ⟨gw,i,none⟩=some (.string word)) (go_keep)
    (first | (go_at_call 263;refine Calls.mono (HX.out _ (by first | exact Tch.refl _ _ | exact (Tch.refl _ _).drew)) ?_;rintro e w1 ⟨rfl,hcc,f87',g1,g2,g3,hG,HM⟩;have d3:=hcc _ _ _ (Or.inl rfl) c3;have d4:=hcc _ _ _ (Or.inl rfl) c4;have d87:=hcc _ _ _ (Or.inl rfl) c87;have dp:=hcc _ _ _ (Or.inr ⟨p2,p3⟩) pw;have dw:=hcc _ _ _ (Or.inr hgw) hcw;clear hcc;rw[hleft];simp only[List.tail_cons,hleft] at HM))
   all_goals
    go_wp2_with fail;go_ret2;refine HE.out _ ?_;obtain ⟨va',k1,k2⟩:=HM.out
    first | exact PM.same HP.out (PM.tried HP.out ⟨_,_,k1,k2⟩ 0) (Tch.refl _ _).drew | exact PM.tried HP.out (PM.same HP.out ⟨_,_,k1,k2⟩ (Tch.refl _ _).drew) 0 | exact PM.tried HP.out ⟨_,_,k1,k2⟩ 0 | (have:=PM.tried HP.out (PM.tried HP.out ⟨_,_,k1,k2⟩ (m.tried+1)) 0;rw[ec] at this;exact this) | (have:=PM.same HP.out (PM.tried HP.out (PM.tried HP.out ⟨_,_,k1,k2⟩ (m.tried+1)) 0) (Tch.refl _ _).drew;rw[ec] at this;exact this)
end Rn
end Go.Proofs.YtagpnplggopoeaaGreatDoor
