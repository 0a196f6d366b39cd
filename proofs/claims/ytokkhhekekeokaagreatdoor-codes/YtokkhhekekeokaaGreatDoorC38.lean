import Derived.Test.YtokkhhekekeokaaGreatDoorC37
import Derived.Test.YtokkhhekekeokaaGreatDoorC31
set_option maxRecDepth 100000
set_option maxHeartbeats 4000000
namespace Go.Proofs.YtokkhhekekeokaaGreatDoor
open Go.RowKit Tryz
namespace Rn
open Mk Px Ref
variable {P:Pg}{m:Ms}
theorem zbx (h:(kU P m).1≠0):(kU P m).2.fE=m.fE:=by
 rcases Tq m with hn | ⟨u,r,hur,hne,hn⟩
 ·rw[Tn hn,Tp] at h;exact absurd rfl h
 ·unfold kU at h |-;simp only[hur] at h |-;rw[if_neg (by rw[<- hur];exact hne)] at h |-
  cases hq:iU P u.1 u.2 3 true m with
  | mk ea q =>
   obtain ⟨va',ma⟩:=q;obtain ⟨a,l,t,hma,_⟩:=BP hq;rw[hq] at h;match ea with
   | 0=>exact absurd rfl h
   | 1=>show ma.fE=_;rw[hma]
   | n+2=>show ma.fE=_;rw[hma]
theorem zq6 (P:Pg)(m:Ms):(kU P m).1<=4:=by
 rcases Tq m with hn | ⟨u,r,hur,hne,hn⟩
 ·rw[Tn hn,Tp];omega
 ·unfold kU;simp only[hur];rw[if_neg (by rw[<- hur];exact hne)]
  cases hq:iU P u.1 u.2 3 true m with
  | mk ea q =>
   obtain ⟨va',ma⟩:=q;obtain ⟨_,_,_,_,_,_,_,_,hle⟩:=BP hq;match ea,hle with
   | 0,_=>show (0:Nat)<=4;omega
   | 1,_=>show (4:Nat)<=4;omega
   | n+2,hle=>show n+2<=4;omega
theorem zxc {c:Prop}[Decidable c]{a b:Nat×Ms}(ha:a.1<=4)(hb:b.1<=4):(if c then a else b).1<=4:=by
 split
 ·exact ha
 ·exact hb
theorem Kr (P:Pg)(i:Px.Ins)(m:Ms):(jh P i m).1<=4:=by
 have hc:(zG P i.a i.b m).1<=4:=by
  unfold zG;cases hq:iU P i.a (m.st.headD 0) i.b false m with
  | mk ea q =>
   obtain ⟨va',ma⟩:=q;obtain ⟨_,_,_,_,_,_,_,_,hle⟩:=BP hq;match ea,hle with
   | 0,_=>show (0:Nat)<=4;omega
   | n+1,hle=>show n+1<=4;omega
 by_cases h18:i.k=18
 ·have e:jh P i m=zG P i.a i.b m:=by
   unfold jh;rw[if_neg (by omega),if_neg (by omega),if_neg (by omega),if_neg (by omega),if_neg (by omega),if_neg (by omega),if_neg (by omega),if_neg (by omega),if_neg (by omega),if_neg (by omega),if_neg (by omega),if_neg (by omega),if_neg (by omega),if_pos h18]
   rfl
  rw[e];exact hc
 ·unfold jh;simp only[h18,if_false]
  repeat' apply zxc
  all_goals first | exact aK 4 | (show (1:Nat)<=4;omega)
theorem Zm (P:Pg)(m:Ms):(jE P m).1<=4:=by
 unfold jE;split
 ·exact zq6 P m
 ·split
  ·show (0:Nat)<=4;omega
  ·rename_i i _
   have:=Kr P i { m with fE:=m.fE+1 }
   cases hd:jh P i { m with fE:=m.fE+1 } with
   | mk e m' =>
    rw[hd] at this;cases e with
    | zero=>exact this
    | succ n=>exact this
theorem zs4 (P:Pg)(m:Ms):mP P m=(decide ((jE P m).1=2) || decide ((tZ (jE P m).1 (jE P m).2).fin≠0),tZ (jE P m).1 (jE P m).2):=by
 have hl:=Zm P m;unfold mP;cases hs:jE P m with
 | mk e m' =>
  rw[hs] at hl;match e,hl with
  | 0,_=>rfl
  | 1,_=>rfl
  | 2,_=>rfl
  | 3,_=>rfl
  | 4,_=>rfl
  | n+5,hl=>exact absurd hl (by show ¬ n+5<=4;omega)
variable {S:List (Option iB)}{B c pp:Nat}
theorem Bd.of (h:je P S c m)(hc:c<=9000000)(hw:P.fT.length<=10000000):Bd P m :=
 ⟨aP h.c1 hc,aP h.c2 hc,aP h.c3 hc,aP h.c4 hc,h.fJ,h.rD,h.jR,h.vars,hw⟩
variable {x:Cx}
theorem MJ (hj:iT x)(jy:xL x)(hS:xD x.P S)(ho:∀ i∈x.P.ins,ni i)(hl:x.P.ins.length<=10000000)(hw:x.P.fT.length<=10000000)(hc:c<=9000000)(m:Ms)(hI:je x.P S c m)(w:fu)(f:Nat->fC)(va:fC)(h:MK x m w f va) :
  Calls prog 136 #[.pointer (some ⟨x.g,0,none⟩)] w (wM x m w f va):=by
 have hb:=Bd.of hI hc hw;cases hu:m.iZ with
 | true =>
  refine Ot hj m w f va h hu zbx fun W hW=>?_
  have h1:=hb.s;have h2:=hb.b;have h3:=hb.u;have h4:=hb.a;refine qu0 hj jy m W f va hW (by omega) (by omega) (by omega) (Yv hI) (fun b r hbr=>(Yu hI hS hbr).1) hI.qh hI.jR hI.fJ (by omega) hw
 | false =>
  cases hi:x.P.ins[m.fE]? with
  | none =>
   have h1:=List.getElem?_eq_none_iff.1 hi;have h2:=hI.pl;exact ze9 hj m w f va h hu (by omega) hl
  | some i =>
   have hcan:=hI.can hS ho hu hi;cases hp:sS i.k with
   | true=>exact zle hj jy m w f va h hu i hi hl hb hcan hp
   | false=>exact zlf hj jy m w f va h hu i hi hl hb hcan hp
structure Gd (x:Cx)(S:List (Option iB))(c most:Nat)(m0:Ms)(w:fu)(f:Nat->fC)(va:fC)(k:Nat)(wr:fu)(mk:Ms)(f1:Nat->fC)(iI:fC):Prop where
 run:Px.runM x.P most m0=Px.runM x.P (most - k) mk
 inv:je x.P S (c+k) mk
 Zn:MK x mk wr f1 iI
 fr:Fr x w f va wr f1 iI
theorem P8 (hj:iT x)(jy:xL x){most:Nat}(hS:xD x.P S)(ho:∀ i∈x.P.ins,ni i)(hl:x.P.ins.length<=10000000)(hw:x.P.fT.length<=10000000)(hc:c+most<=9000000)(m:Ms)(hI:je x.P S c m)(w:fu)(f:Nat->fC)(va:fC)(h:MK x m w f va) :
  Calls prog 93 #[.pointer (some ⟨x.g,0,none⟩),.int .i64 (most:Int)] w fun e w'=>e=.returned (.int .i64 ((Px.runM x.P most m).1:Int))/\PM x (Px.runM x.P most m).2 w f va w':=by
 have H0:Hid (Gd x S c most m w f va 0 w m f va):=⟨rfl,hI,h,Fr.refl _ _ _ _⟩;have HS:Hid (∀ k wr mk f1 iI,k < most->Gd x S c most m w f va k wr mk f1 iI->Calls prog 136 #[.pointer (some ⟨x.g,0,none⟩)] wr fun e w1=>e=.returned (gU x (jE x.P mk).1)/\w1.cell? ⟨x.g,89,none⟩=some (.int .i64 ((jE x.P mk).2.fin:Int))/\Hid (∃ f2 iR,MK x (jE x.P mk).2 w1 f2 iR/\Fr x w f va w1 f2 iR)):=fun k wr mk f1 iI hk hr=>by
  refine (MJ hj jy hS ho hl hw (by omega) mk hr.inv wr f1 iI hr.Zn).mono ?_
  rintro e w1 ⟨rfl,f2,iR,k1,k2⟩;have c:=k1.a.blk.cell 89 (by decide)
  rw[k1.a.f89] at c;exact ⟨rfl,c,f2,iR,k1,hr.fr.trans k2⟩
 have HG:Hid (∀ (mk:Ms) (w1:fu) (e:Nat),1<=e->e<=4->(∃ f2 iR,MK x mk w1 f2 iR/\Fr x w f va w1 f2 iR)->Calls prog 137 #[.pointer (some ⟨x.g,0,none⟩),.iface 337 (.pointer (some (x.E e)))] w1 fun r w2=>r=.returned (.bool (decide (e≠2)))/\w2.cell? ⟨x.g,89,none⟩=some (.int .i64 ((tZ e mk).fin:Int))/\Hid (∃ f2 iR,MK x (tZ e mk) w2 f2 iR/\Fr x w f va w2 f2 iR)):=fun mk w1 e h1 h2 ⟨f2,iR,q1,q2⟩=>by
  have:=zda hj mk w1 f2 iR q1 e ⟨h1,h2⟩
  rw[show gU x e=.iface 337 (.pointer (some (x.E e))) from if_neg (by omega)] at this
  refine this.mono ?_;rintro r w2 ⟨rfl,f3,xZ,k1,k2⟩;have c:=k1.a.blk.cell 89 (by decide)
  rw[k1.a.f89] at c;exact ⟨rfl,c,f3,xZ,k1,q2.trans k2⟩
 have HN:Hid (∀ k wr mk f1 iI w2,k < most->Gd x S c most m w f va k wr mk f1 iI->(∃ f2 iR,MK x (tZ (jE x.P mk).1 (jE x.P mk).2) w2 f2 iR/\Fr x w f va w2 f2 iR) ->
   (((jE x.P mk).1≠2/\(tZ (jE x.P mk).1 (jE x.P mk).2).fin=0->∃ m2 f2 iR,Gd x S c most m w f va (k+1) w2 m2 f2 iR)/\(¬ ((jE x.P mk).1≠2/\(tZ (jE x.P mk).1 (jE x.P mk).2).fin=0)->Px.runM x.P most m=((tZ (jE x.P mk).1 (jE x.P mk).2).fin,tZ (jE x.P mk).1 (jE x.P mk).2)/\PM x (Px.runM x.P most m).2 w f va w2))):=fun k wr mk f1 iI w2 hk hr ⟨f2,iR,q1,q2⟩=>by
  have en:=zs4 x.P mk;obtain ⟨n,hn⟩:∃ n,most - k=n+1:=⟨most - k - 1,by omega⟩
  have er:=hr.run;rw[hn,Px.runM] at er;refine ⟨fun hh=>⟨tZ (jE x.P mk).1 (jE x.P mk).2,f2,iR,?_,?_,q1,q2⟩,fun hh=>?_⟩
  ·have e1:(mP x.P mk).1=false:=by rw[en];simp[hh.1,hh.2]
   have e2:(mP x.P mk).2=tZ (jE x.P mk).1 (jE x.P mk).2:=by rw[en]
   rw[e1,if_neg (by decide),e2] at er
   rw[er,show most - (k+1)=n by omega]
  ·have e2:(mP x.P mk).2=tZ (jE x.P mk).1 (jE x.P mk).2:=by rw[en]
   have:=zms hr.inv hS ho (by rw[e2];exact hh.2)
   rw[e2] at this;exact this
  ·have e1:(mP x.P mk).1=true:=by
    rw[en];by_cases h2:(jE x.P mk).1=2
    ·simp[h2]
    ·have:¬ (tZ (jE x.P mk).1 (jE x.P mk).2).fin=0:=fun h3=>hh ⟨h2,h3⟩
     simp[this]
   have e2:(mP x.P mk).2=tZ (jE x.P mk).1 (jE x.P mk).2:=by rw[en]
   rw[e1,if_pos rfl,e2] at er;exact ⟨er,by rw[er];exact PM.mk' q1 q2⟩
 clear hj jy hS ho hl hw hI h;have Zo:most<=9000000:=by omega
 clear hc;go_enter func93,ntmps93
 go_wp2_with fail;go_loopw [7] (fun i wr=>∃ k:Nat,k<=most/\i=.int .i64 k/\Hid (∃ mk f1 iI,Gd x S c most m w f va k wr mk f1 iI)) (fun i _=>most - (intOf i).toNat)
 case atStart=>exact ⟨0,by omega,rfl,m,f,va,H0.o⟩
 case round =>
  obtain ⟨k,hk,rfl,HR⟩:=hrel;by_cases hlt:k < most
  ·obtain ⟨mk,f1,iI,hr⟩:=HR.o;have HR1:Hid (Gd x S c most m w f va k _ mk f1 iI):=hr;clear hr HR;have hle:=Zm x.P mk;have hlt':(k:Int) < (most:Int):=by omega
   obtain ⟨E,hE⟩:∃ E,(jE x.P mk).1=E:=⟨_,rfl⟩;obtain ⟨M,hM⟩:∃ M,(jE x.P mk).2=M:=⟨_,rfl⟩;have TF:=HS.o k _ mk f1 iI hlt HR1.o;have Gf:Hid (_):=fun w2=>HN.o k _ mk f1 iI w2 hlt HR1.o
   rw[hE,hM] at TF;rw[hE] at hle;simp only[hE,hM] at Gf;have HS2:Hid (_):=TF;clear TF HS HN HR1 hE hM;by_cases h0:E=0
   ·subst h0;by_cases hf:M.fin=0
    ·go_wp2_with fail;refine aA HS2.o ?_;rintro e w1 ⟨rfl,Em,H1⟩;rw[hf] at Em;simp only[gU,if_true];go_wp2_with fail;refine ⟨⟨k+1,by omega,by go_num,?_⟩,by simp[intOf];omega⟩
     exact (Gf.o _ H1.o).1 ⟨by decide,hf⟩
    ·have hf':¬ ((M.fin:Int)=0):=by omega
     go_wp2_with fail;refine aA HS2.o ?_;rintro e w1 ⟨rfl,Em,H1⟩;simp only[gU,if_true];go_wp2_with fail;go_ret;obtain ⟨q1,q2⟩:=(Gf.o _ H1.o).2 (fun h=>hf h.2)
     exact ⟨by rw[q1];rfl,q2⟩
   ·by_cases h2:E=2
    ·subst h2;go_wp2_with fail;refine aA HS2.o ?_;rintro e w1 ⟨rfl,Em,H1⟩;simp only[gU,if_neg h0];go_wp2_with fail;refine aA (HG.o M w1 2 (by omega) (by omega) H1.o) ?_
     rintro e w2 ⟨rfl,TG,H2⟩;go_wp2_with fail;go_ret;obtain ⟨q1,q2⟩:=(Gf.o _ H2.o).2 (fun h=>h.1 rfl)
     exact ⟨by rw[q1];rfl,q2⟩
    ·have hd:decide (E≠2)=true:=decide_eq_true h2;by_cases hf:(tZ E M).fin=0
     ·go_wp2_with fail;refine aA HS2.o ?_;rintro e w1 ⟨rfl,Em,H1⟩;simp only[gU,if_neg h0];go_wp2_with fail;refine aA (HG.o M w1 E (by omega) hle H1.o) ?_
      rintro e w2 ⟨rfl,TG,H2⟩;rw[hf] at TG;rw[hd];go_wp2_with fail;refine ⟨⟨k+1,by omega,by go_num,?_⟩,by simp[intOf];omega⟩
      exact (Gf.o _ H2.o).1 ⟨h2,hf⟩
     ·have hf':¬ (((tZ E M).fin:Int)=0):=by omega
      go_wp2_with fail;refine aA HS2.o ?_;rintro e w1 ⟨rfl,Em,H1⟩;simp only[gU,if_neg h0];go_wp2_with fail;refine aA (HG.o M w1 E (by omega) hle H1.o) ?_
      rintro e w2 ⟨rfl,TG,H2⟩;rw[hd];go_wp2_with fail;go_ret;obtain ⟨q1,q2⟩:=(Gf.o _ H2.o).2 (fun h=>hf h.2)
      exact ⟨by rw[q1];rfl,q2⟩
  ·obtain rfl:k=most:=by omega
   obtain ⟨mk,f1,iI,hr⟩:=HR.o;have er:=hr.run;rw[eP,Px.runM] at er;have HF:Hid (Px.runM x.P k m=(4,mk)/\PM x (Px.runM x.P k m).2 w f va _):=⟨er,by rw[er];exact PM.mk' hr.Zn hr.fr⟩
   clear hr er HR HS HG HN H0;go_wp2_with fail;go_ret;exact ⟨by rw[HF.o.1];rfl,HF.o.2⟩
theorem zxm (hj:iT x)(jy:xL x)(hS:xD x.P S)(ho:∀ i∈x.P.ins,ni i)(hl:x.P.ins.length<=10000000)(hw:x.P.fT.length<=10000000)(hc:c+4000000<=9000000)(m:Ms)(hI:je x.P S c m)(w:fu)(f:Nat->fC)(va:fC)(h:MK x m w f va) :
  Calls prog 38 #[.pointer (some ⟨x.g,0,none⟩)] w fun e w'=>e=.returned (.int .i64 ((Px.runM x.P 4000000 m).1:Int))/\PM x (Px.runM x.P 4000000 m).2 w f va w':=by
 have HR:Hid (_):=P8 hj jy hS ho hl hw hc m hI w f va h;clear hj jy hS ho hl hw hI h;go_enter func38,ntmps38
 go_wp2_with fail;refine aA HR.o ?_;rintro e w1 ⟨rfl,H⟩;have HH:Hid (_):=H;clear H HR;go_wp2_with fail;go_ret;exact ⟨rfl,HH.o⟩
structure Gm (w:fu)(E:Nat->Addr):Prop where
 v1:w.cell? ⟨10,0,none⟩=some (.iface 337 (.pointer (some (E 1))))
 v2:w.cell? ⟨11,0,none⟩=some (.iface 337 (.pointer (some (E 2))))
 v3:w.cell? ⟨12,0,none⟩=some (.iface 337 (.pointer (some (E 3))))
 v4:w.cell? ⟨14,0,none⟩=some (.iface 337 (.pointer (some (E 4))))
 b:∀ i,1<=i->i<=4->∃ c t,w.heap[(E i).block]?=some (.cells c t (0,0))
 ne:∀ i j,1<=i->i<=4->1<=j->j<=4->i≠j->E i≠E j
 lo:17<=w.heap.size
variable {w:fu}{E:Nat->Addr}
theorem Gm.below {w':fu}(h:Gm w E)(k:Below w.heap.size w w'):Gm w' E:=by
 have lo:=h.lo;have hv:∀ {g:Nat} {v:fC},w.cell? ⟨g,0,none⟩=some v->w'.cell? ⟨g,0,none⟩=some v:=fun {g v} hc=>by rw[k.cell (p:=⟨g,0,none⟩) (lt_of_cell hc)];exact hc
 refine ⟨hv h.v1,hv h.v2,hv h.v3,hv h.v4,fun i h1 h2=>?_,h.ne,aP lo k.size⟩
 obtain ⟨c,t,hb⟩:=h.b i h1 h2;exact ⟨c,t,by rw[k.block _ (aG.1 hb).1];exact hb⟩
def jg (w:fu)(sv:fC)(l:List Int):Prop:=∃ ad c,sv=.slice ad l.length c/\l.length<=c/\(∀ i (hi:i < l.length),∃ q o,ad=some ⟨q,o,none⟩/\w.cell? ⟨q,o+i,none⟩=some (.int .i64 l[i]))/\∀ q,ad=some q->q.block < w.heap.size
def uZ (P:Pg)(l:List Int):Nat:=(Px.runM P 4000000 (yC P l)).1
def yQ (P:Pg)(l:List Int):List Px.Ask:=(Px.runM P 4000000 (yC P l)).2.fI
structure Fit (P:Pg):Prop where
 ver:lF P=true
 ok:∀ i∈P.ins,ni i
 li:P.ins.length<=10000000
 lw:P.fT.length<=10000000
 nv:P.nv<=10000000
variable {N:List fq}{sv:fC}{l:List Int}
theorem zs6 (hP:sJ w B P N pp)(hG:Gm w E)(ha:jg w sv l)(hlen:l.length<=140737488355328)(hr:∀ v∈l,nA v)(hf:Fit P) :
  Calls prog 37 #[.pointer (some ⟨pp,0,none⟩),.iface 116 (.pointer (some ⟨w.heap.size,0,none⟩))] (w.alloc (.cells #[.slice none 0 0,sv] 118)) fun e w1=>∃ g,e=.returned (.pointer (some ⟨g,0,none⟩)) /\
   Hid (Calls prog 38 #[.pointer (some ⟨g,0,none⟩)] w1 fun e2 w2=>e2=.returned (.int .i64 (uZ P l:Int))/\∃ ad n c,w2.cell? ⟨w.heap.size,0,none⟩=some (.slice ad n c)/\Hid (Below w.heap.size w w2/\w2.ownsRow w.heap.size 122 4 (.slice ad n c) (yQ P l).length (jw (yQ P l)))):=by
 obtain ⟨hBp,vl,vw,vn,h1,h2,h3,h4⟩:=hP;obtain ⟨ad,c,rfl,hcap,hcs,hbl⟩:=ha;have hpz:pp < w.heap.size:=(aG.1 h1).1;have hT0:fO (fun _=>False) w (w.alloc (.cells #[.slice none 0 0,.slice ad l.length c] 118)):=(fO.refl _ w).alloc _
 have hz0:(w.alloc (.cells #[.slice none 0 0,.slice ad l.length c] 118)).heap.size=w.heap.size+1:=by
  show (w.heap.push _).size=_
  simp
 have hpc:(w.alloc (.cells #[.slice none 0 0,.slice ad l.length c] 118)).cell? ⟨pp,1,none⟩=some (.int .i64 (P.nv:Int)):=by
  rw[aF (w:=w) (a:=⟨pp,1,none⟩) (hT0.block pp hpz (fun h=>h))]
  simp[World.cell?,h1]
 have hj0:(w.alloc (.cells #[.slice none 0 0,.slice ad l.length c] 118)).heap[w.heap.size]?=some (.cells #[.slice none 0 0,.slice ad l.length c] 118):=by
  show (w.heap.push _)[w.heap.size]?=_
  rw[aB,if_pos rfl]
 generalize hW:w.alloc (.cells #[.slice none 0 0,.slice ad l.length c] 118)=W at *;refine (zs8 pp P.nv (.iface 116 (.pointer (some ⟨w.heap.size,0,none⟩))) 116 ⟨w.heap.size,0,none⟩ rfl W hpc hf.nv).mono ?_;rintro e w1 ⟨g,n,gv,rfl,hN⟩;refine ⟨g,rfl,?_⟩;obtain ⟨x,hx⟩:∃ x:Cx,x=⟨w.heap.size+1,g,pp,w.heap.size,.iface 116 (.pointer (some ⟨w.heap.size,0,none⟩)),nL n,P,E,Kq (w.heap.size+1) w.heap.size⟩:=⟨_,rfl⟩;have xK:x.K=Kq x.B x.jl:=by rw[hx]
 have xj:x.jl < x.B:=by rw[hx];exact Nat.lt_succ_self _
 have hj:iT x:=Zi xK xj;have jy:xL x:=zni (ztx xK xj) (by rw[hx])
 have hp:AY x W:=by
  refine ⟨vl,vw,vn,B,?_,?_,?_,?_,?_,?_,?_⟩
  ·rw[hx];show W.heap[pp]?=_
   rw[hT0.block pp hpz (fun h=>h)]
   exact h1
  ·rw[hx];show pp < w.heap.size+1;omega
  ·rw[hx];show pp≠w.heap.size;omega
  ·rw[hx];exact gZ h2 hT0 (fun _ _ h=>h)
  ·intro k hk
   have:=(h2.lt k hk).2
   rw[hx];exact ⟨by show k < w.heap.size+1;omega,by show k≠w.heap.size;omega⟩
  ·rw[hx];exact gZ h3 hT0 (fun _ _ h=>h)
  ·intro k hk
   have:=(h3.lt k hk).2
   rw[hx];exact ⟨by show k < w.heap.size+1;omega,by show k≠w.heap.size;omega⟩
 have he:Ge x W:=by
  have hb0:Below w.heap.size w W:=hT0.mY (aj _) (fun _ h=>h.elim)
  have hg:=hG.below hb0;rw[hx];refine ⟨hg.v1,hg.v2,hg.v3,hg.v4,fun i h1 h2=>?_,hg.ne,by have:=hG.lo;show 17<=w.heap.size+1;omega,hG.lo⟩
  obtain ⟨c',t',hb⟩:=hG.b i h1 h2;have hlt:=(aG.1 hb).1;exact ⟨by show (E i).block < w.heap.size+1;omega,by show (E i).block≠w.heap.size;omega,c',t',by rw[hT0.block _ hlt (fun h=>h)];exact hb⟩
 have hk:x.K l [] (.slice none 0 0) w1:=by
  have hb1:w1.heap[w.heap.size]?=some (.cells #[.slice none 0 0,.slice ad l.length c] 118):=by
   rw[hN.t.block _ (by rw[hz0];omega) (fun h=>h)]
   exact hj0
  rw[hx];refine ⟨⟨by simp[World.cell?,hb1],⟨.slice ad l.length c,by simp[World.cell?,hb1],ad,c,rfl,hcap,fun i hi=>?_,fun q hq=>?_⟩,fun o=>by simp[World.frozen?,hb1],aT _ _ _ _⟩,hlen⟩
  ·obtain ⟨q,o,e1,e2⟩:=hcs i hi;have hq:=lt_of_cell e2;refine ⟨q,o,e1,?_⟩;rw[aF (w:=w) (a:=⟨q,o+i,none⟩) ((hT0.trans hN.t).block q hq (fun h=>h))]
   exact e2
  ·have:=hbl q hq
   exact ⟨by omega,by omega⟩
 have hN':NewAt x.pp x.P.nv x.vj W w1 x.g n gv:=by rw[hx];exact hN
 have hm:=zwy (va:=.slice none 0 0) hN' (by rw[hx,hz0]) (by rw[hx]) xj (by rw[hx];exact hf.nv) rfl hk hp he
 obtain ⟨S,hS⟩:=zkm hf.ver;have hPx:x.P=P:=by rw[hx]
 have hgx:x.g=g:=by rw[hx]
 have hI:je x.P S 0 (yC x.P l):=zfa (by rw[hPx];exact hS) hr
 have hgo:=zxm hj jy (S:=S) (c:=0) (by rw[hPx];exact hS) (by rw[hPx];exact hf.ok) (by rw[hPx];exact hf.li) (by rw[hPx];exact hf.lw) (by omega) _ hI w1 _ _ hm
 rw[hgx,hPx] at hgo;have hm':=hm;rw[hPx] at hm';refine hgo.mono ?_;rintro e2 w2 ⟨rfl,f2,iR,k1,k2⟩;refine ⟨rfl,?_⟩;have hkk:=k1.k;rw[xK] at hkk;have Zp:x.jl=w.heap.size:=by rw[hx]
 have eB:x.B=w.heap.size+1:=by rw[hx]
 rw[Zp,eB] at hkk;obtain ⟨⟨c0,_,_,ow⟩,_⟩:=hkk;obtain ⟨a3,n3,c3,rfl⟩:=jm ow;refine ⟨a3,n3,c3,c0,?_,?_⟩
 ·have hb1:Below w.heap.size w w1:=(hT0.trans hN.t).mY (aj _) (fun _ h=>h.elim)
  refine hb1.trans (k2.t.mY hb1.size fun k hk=>?_)
  rcases hk with hk | hk | ⟨r,hr,hk⟩
  ·rw[hk,hgx];have:=hN.g1;omega
  ·rw[hk,Zp];omega
  ·have:=(hm'.a.sep.own r hr k hk).1;omega
 ·exact Zj ow (by omega)
theorem zmz (hP:sJ w B P N pp)(hG:Gm w E)(ha:jg w sv l)(hlen:l.length<=140737488355328)(hr:∀ v∈l,nA v)(hf:Fit P) :
  Calls prog 18 #[.pointer (some ⟨pp,0,none⟩),sv] w fun e w'=>Below w.heap.size w w'/\∃ va,e=.returned (.tuple #[va,.int .i64 (uZ P l:Int)])/\(uZ P l=4->va=.slice none 0 0)/\(uZ P l≠4->w'.ownsRow w.heap.size 122 4 va (yQ P l).length (jw (yQ P l))):=by
 have HN:Hid (_):=zs6 hP hG ha hlen hr hf;obtain ⟨ad,c,rfl,_⟩:=ha;clear hP hG hlen hr hf;generalize hE:uZ P l=E' at *;go_enter func18,ntmps18
 go_wp2_with fail;refine aA HN.o ?_;rintro e w1 ⟨g,rfl,HG⟩;go_wp2_with fail;refine aA HG.o ?_;rintro e w2 ⟨rfl,a2,n2,c2,d0,H⟩;by_cases h4:E'=4
 ·subst h4;go_wp2_with fail;go_ret2
  first
   | exact ⟨H.o.1,rfl⟩
   | exact ⟨H.o.1,_,rfl,fun _=>rfl,fun h=>absurd rfl h⟩
 ·have h4':¬ (E':Int)=4:=by omega
  go_wp2_with fail;go_ret2;exact ⟨H.o.1,_,rfl,fun h=>absurd h h4,fun _=>H.o.2⟩
