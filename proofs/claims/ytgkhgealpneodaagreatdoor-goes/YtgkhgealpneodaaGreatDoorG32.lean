import Derived.Test.YtgkhgealpneodaaGreatDoorG31
set_option maxRecDepth 100000
set_option maxHeartbeats 4000000
namespace Go.Proofs.YtgkhgealpneodaaGreatDoor
open Go.RowKit
namespace Rn
open Mk Px Ref
variable{P:Pg}{m:Ms}
theorem zbx(h:(jC P m).1≠0):(jC P m).2.eD=m.eD:=by
 obtain hn|⟨u,r,hur,hne,hn⟩:=Uo m;·rw[Um hn,Un]at h;exact absurd rfl h
 unfold jC at h |-;simp only[hur]at h |-;rw[ah (by rw[<- hur];exact hne)]at h |-;cases hq:iI P u.1 u.2 3 true m with| mk ea q=>
 obtain⟨va',ma⟩:=q;obtain⟨a,l,t,hma,_⟩:=Dy hq;rw[hq]at h;match ea with| 0=>exact absurd rfl h| 1=>show ma.eD=_;rw[hma]| n+2=>show ma.eD=_;rw[hma]
theorem zq6(P:Pg)(m:Ms):(jC P m).1<=4:=by
 obtain hn|⟨u,r,hur,hne,hn⟩:=Uo m;·rw[Um hn,Un];omega
 unfold jC;simp only[hur];rw[ah (by rw[<- hur];exact hne)];cases hq:iI P u.1 u.2 3 true m with| mk ea q=>
 obtain⟨va',ma⟩:=q;obtain⟨_,_,_,_,_,_,_,_,hle⟩:=Dy hq;match ea,hle with| 0,_=>show(0:Nat)<=4;omega| 1,_=>show(4:Nat)<=4;omega| n+2,hle=>show n+2<=4;omega
theorem zxc{c:Prop}[Decidable c]{a b:Nat×Ms}(ha:a.1<=4)(hb:b.1<=4):(if c then a else b).1<=4:=by
 split;·exact ha
 exact hb
theorem K9(P:Pg)(i:fC)(m:Ms):(jF P i m).1<=4:=by
 have hc:(AL P i.a i.b m).1<=4:=by
  unfold AL;cases hq:iI P i.a (m.st.headD 0) i.b false m with| mk ea q=>
  obtain⟨va',ma⟩:=q;obtain⟨_,_,_,_,_,_,_,_,hle⟩:=Dy hq;match ea,hle with| 0,_=>show(0:Nat)<=4;omega| n+1,hle=>show n+1<=4;omega
 by_cases h18:i.k=18
 ·have e:jF P i m=AL P i.a i.b m:=by unfold jF;rw[ah (by omega),ah (by omega),ah (by omega),ah (by omega),ah (by omega),ah (by omega),ah (by omega),ah (by omega),ah (by omega),ah (by omega),ah (by omega),ah (by omega),ah (by omega),aA h18];rfl
  rw[e];exact hc
 unfold jF;simp only[h18,if_false]
 repeat' apply zxc
 all_goals first|exact aQ 4|(show(1:Nat)<=4;omega)
theorem cH(P:Pg)(m:Ms):(jB P m).1<=4:=by
 unfold jB;split;·exact zq6 P m
 split;·show(0:Nat)<=4;omega
 rename_i i _;have:=K9 P i {m with eD:=m.eD+1};cases hd:jF P i {m with eD:=m.eD+1}with| mk e m'=>
 rw[hd]at this;cases e with| zero=>exact this| succ n=>exact this
theorem zs4(P:Pg)(m:Ms):kg P m=(decide ((jB P m).1=2)||decide ((vK (jB P m).1 (jB P m).2).fin≠0),vK (jB P m).1 (jB P m).2):=by
 have hl:=cH P m;unfold kg;cases hs:jB P m with| mk e m'=>
 rw[hs]at hl;match e,hl with| 0,_=>rfl| 1,_=>rfl| 2,_=>rfl| 3,_=>rfl| 4,_=>rfl| n+5,hl=>exact absurd hl (by show ¬n+5<=4;omega)
variable{S:List (Option kZ)}{c:Nat}
theorem Bd.of(h:jR P S c m)(hc:c<=9000000)(hw:P.gT.length<=10000000):Bd P m:=⟨aK h.c1 hc,aK h.c2 hc,aK h.c3 hc,aK h.c4 hc,h.fD,h.sw,h.kY,h.vars,hw⟩
variable{x:Cx}
theorem NM(hj:jV x)(lN:zX x)(hS:wU x.P S)(ho:∀i∈x.P.ins,qX i)(hl:x.P.ins.length<=10000000)(hw:x.P.gT.length<=10000000)(hc:c<=9000000)(m:Ms)(hI:jR x.P S c m)(w:dY)(f:Nat->dZ)(va:dZ)(h:MK x m w f va):fI 131 #[fq x.g] w (x9 x m w f va):=by
 have hb:=Bd.of hI hc hw;cases hu:m.jK with
 |true=>refine Qa hj m w f va h hu zbx fun W hW=>?_;have h1:=hb.s;have h2:=hb.b;have h3:=hb.u;have h4:=hb.a;refine qu0 hj lN m W f va hW (by omega) (by omega) (by omega) (Ze hI) (fun b r hbr=>(Zd hI hS hbr).1) hI.qy hI.kY hI.fD (by omega) hw
 |false=>
 cases hi:x.P.ins[m.eD]? with| none=>have h1:=List.getElem?_eq_none_iff.1 hi;have h2:=hI.pl;exact ze9 hj m w f va h hu (by omega) hl| some i=>
 have hcan:=hI.can hS ho hu hi;cases hp:ru i.k with| true=>exact zle hj lN m w f va h hu i hi hl hb hcan hp| false=>exact zlf hj lN m w f va h hu i hi hl hb hcan hp
structure Ip(x:Cx)(S:List (Option kZ))(c most:Nat)(m0:Ms)(w:dY)(f:Nat->dZ)(va:dZ)(k:Nat)(wr:dY)(mk:Ms)(f1:Nat->dZ)(jD:dZ):Prop where
 run:gJ x.P most m0=gJ x.P (most-k) mk
 inv:jR x.P S (c+k) mk
 cJ:MK x mk wr f1 jD
 fr:Fr x w f va wr f1 jD
theorem qh2(hj:jV x)(lN:zX x){most:Nat}(hS:wU x.P S)(ho:∀i∈x.P.ins,qX i)(hl:x.P.ins.length<=10000000)(hw:x.P.gT.length<=10000000)(hc:c+most<=9000000)(m:Ms)(hI:jR x.P S c m)(w:dY)(f:Nat->dZ)(va:dZ)(h:MK x m w f va):fI 52 #[fq x.g,eF (most:Int)] w fun e w'=>e=fM (eF ((gJ x.P most m).1:Int))/\gu x (gJ x.P most m).2 w f va w':=by
 have H0:Hid (Ip x S c most m w f va 0 w m f va):=⟨rfl,hI,h,Fr.refl _ _ _ _⟩;have HS:Hid (∀k wr mk f1 jD,k<most->Ip x S c most m w f va k wr mk f1 jD->fI 131 #[fq x.g] wr fun e w1=>e=fM (iW x (jB x.P mk).1)/\w1.cell? ⟨x.g,89,none⟩=some (eF ((jB x.P mk).2.fin:Int))/\Hid (∃f2 jO,MK x (jB x.P mk).2 w1 f2 jO/\Fr x w f va w1 f2 jO)):=fun k wr mk f1 jD hk hr=>by refine(NM hj lN hS ho hl hw (by omega) mk hr.inv wr f1 jD hr.cJ).mono ?_;rintro e w1 ⟨rfl,f2,jO,k1,k2⟩;have c:=k1.a.blk.cell 89 (by decide);rw[k1.a.f89]at c;exact⟨rfl,c,f2,jO,k1,hr.fr.trans k2⟩
 have HG:Hid (∀(mk:Ms)(w1:dY)(e:Nat),1<=e->e<=4->(∃f2 jO,MK x mk w1 f2 jO/\Fr x w f va w1 f2 jO)->fI 132 #[fq x.g,.iface 393 (.pointer (some (x.E e)))] w1 fun r w2=>r=fM (.bool (decide (e≠2)))/\w2.cell? ⟨x.g,89,none⟩=some (eF ((vK e mk).fin:Int))/\Hid (∃f2 jO,MK x (vK e mk) w2 f2 jO/\Fr x w f va w2 f2 jO)):=fun mk w1 e h1 h2⟨f2,jO,q1,q2⟩=>by have:=zda hj mk w1 f2 jO q1 e ⟨h1,h2⟩;rw[show iW x e=.iface 393 (.pointer (some (x.E e)))from ah (by omega)]at this;refine this.mono ?_;rintro r w2 ⟨rfl,f3,zw,k1,k2⟩;have c:=k1.a.blk.cell 89 (by decide);rw[k1.a.f89]at c;exact⟨rfl,c,f3,zw,k1,q2.trans k2⟩
 have HN:Hid (∀k wr mk f1 jD w2,k<most->Ip x S c most m w f va k wr mk f1 jD->(∃f2 jO,MK x (vK (jB x.P mk).1 (jB x.P mk).2) w2 f2 jO/\Fr x w f va w2 f2 jO) ->
   (((jB x.P mk).1≠2/\(vK (jB x.P mk).1 (jB x.P mk).2).fin=0->∃m2 f2 jO,Ip x S c most m w f va (k+1) w2 m2 f2 jO)/\(¬((jB x.P mk).1≠2/\(vK (jB x.P mk).1 (jB x.P mk).2).fin=0)->gJ x.P most m=((vK (jB x.P mk).1 (jB x.P mk).2).fin,vK (jB x.P mk).1 (jB x.P mk).2)/\gu x (gJ x.P most m).2 w f va w2))):=fun k wr mk f1 jD w2 hk hr⟨f2,jO,q1,q2⟩=>by
  have en:=zs4 x.P mk;obtain⟨n,hn⟩:∃n,most-k=n+1:=⟨most-k-1,by omega⟩;have er:=hr.run;rw[hn,gJ]at er;refine⟨fun hh=>⟨vK (jB x.P mk).1 (jB x.P mk).2,f2,jO,?_,?_,q1,q2⟩,fun hh=>?_⟩
  ·have e1:(kg x.P mk).1=false:=by rw[en];simp[hh.1,hh.2]
   have e2:(kg x.P mk).2=vK (jB x.P mk).1 (jB x.P mk).2:=by rw[en]
   rw[e1,ah (by decide),e2]at er;rw[er,show most-(k+1)=n by omega]
  ·have e2:(kg x.P mk).2=vK (jB x.P mk).1 (jB x.P mk).2:=by rw[en]
   have:=Zf hr.inv hS ho (by rw[e2];exact hh.2);rw[e2]at this;exact this
  have e1:(kg x.P mk).1=true:=by
   rw[en];by_cases h2:(jB x.P mk).1=2;·simp[h2]
   have:¬(vK (jB x.P mk).1 (jB x.P mk).2).fin=0:=fun h3=>hh ⟨h2,h3⟩;simp[this]
  have e2:(kg x.P mk).2=vK (jB x.P mk).1 (jB x.P mk).2:=by rw[en]
  rw[e1,aA rfl,e2]at er;exact⟨er,by rw[er];exact gu.mk' q1 q2⟩
 have cM:most<=9000000:=by omega
 go_enter Tryz.func52,Tryz.ntmps52;go_wp2_with fail;go_loopw [7] (fun i wr=>∃k:Nat,k<=most/\i=eF k/\Hid (∃mk f1 jD,Ip x S c most m w f va k wr mk f1 jD)) (fun i _=>most-(intOf i).toNat)
 case atStart=>exact⟨0,by omega,rfl,m,f,va,H0.o⟩
 case round=>
  obtain⟨k,hk,rfl,HR⟩:=hrel;by_cases hlt:k<most
  ·obtain⟨mk,f1,jD,hr⟩:=HR.o;have HR1:Hid (Ip x S c most m w f va k _ mk f1 jD):=hr;have hle:=cH x.P mk;have hlt':(k:Int)<(most:Int):=by omega
   obtain⟨E,hE⟩:∃E,(jB x.P mk).1=E:=⟨_,rfl⟩;obtain⟨M,hM⟩:∃M,(jB x.P mk).2=M:=⟨_,rfl⟩;have cN:=HS.o k _ mk f1 jD hlt HR1.o;have Iq:Hid _:=fun w2=>HN.o k _ mk f1 jD w2 hlt HR1.o;rw[hE,hM]at cN;rw[hE]at hle;simp only[hE,hM]at Iq;have HS2:Hid _:=cN;by_cases h0:E=0
   ·subst h0;by_cases hf:M.fin=0;·go_wp2_with fail;refine aB HS2.o ?_;rintro e w1 ⟨rfl,AO,H1⟩;rw[hf]at AO;simp only[iW,if_true];go_wp2_with fail;refine⟨⟨k+1,by omega,by go_num,?_⟩,by simp[intOf];omega⟩;exact(Iq.o _ H1.o).1 ⟨by decide,hf⟩
    have hf':¬((M.fin:Int)=0):=by omega
    go_wp2_with fail;refine aB HS2.o ?_;rintro e w1 ⟨rfl,AO,H1⟩;simp only[iW,if_true];go_wp2_with fail;go_ret;obtain⟨q1,q2⟩:=(Iq.o _ H1.o).2 (fun h=>hf h.2);exact⟨by rw[q1];rfl,q2⟩
   by_cases h2:E=2;·subst h2;go_wp2_with fail;refine aB HS2.o ?_;rintro e w1 ⟨rfl,AO,H1⟩;simp only[iW,ah h0];go_wp2_with fail;refine aB (HG.o M w1 2 (by omega) (by omega) H1.o) ?_;rintro e w2 ⟨rfl,Uy,H2⟩;go_wp2_with fail;go_ret;obtain⟨q1,q2⟩:=(Iq.o _ H2.o).2 (fun h=>h.1 rfl);exact⟨by rw[q1];rfl,q2⟩
   have hd:decide (E≠2)=true:=decide_eq_true h2;by_cases hf:(vK E M).fin=0;·go_wp2_with fail;refine aB HS2.o ?_;rintro e w1 ⟨rfl,AO,H1⟩;simp only[iW,ah h0];go_wp2_with fail;refine aB (HG.o M w1 E (by omega) hle H1.o) ?_;rintro e w2 ⟨rfl,Uy,H2⟩;rw[hf]at Uy;rw[hd];go_wp2_with fail;refine⟨⟨k+1,by omega,by go_num,?_⟩,by simp[intOf];omega⟩;exact(Iq.o _ H2.o).1 ⟨h2,hf⟩
   have hf':¬(((vK E M).fin:Int)=0):=by omega
   go_wp2_with fail;refine aB HS2.o ?_;rintro e w1 ⟨rfl,AO,H1⟩;simp only[iW,ah h0];go_wp2_with fail;refine aB (HG.o M w1 E (by omega) hle H1.o) ?_;rintro e w2 ⟨rfl,Uy,H2⟩;rw[hd];go_wp2_with fail;go_ret;obtain⟨q1,q2⟩:=(Iq.o _ H2.o).2 (fun h=>hf h.2);exact⟨by rw[q1];rfl,q2⟩
  obtain rfl:k=most:=by omega
  obtain⟨mk,f1,jD,hr⟩:=HR.o;have er:=hr.run;rw[Nat.sub_self,gJ]at er;have HF:Hid (gJ x.P k m=(4,mk)/\gu x (gJ x.P k m).2 w f va _):=⟨er,by rw[er];exact gu.mk' hr.cJ hr.fr⟩;go_wp2_with fail;go_ret;exact⟨by rw[HF.o.1];rfl,HF.o.2⟩
theorem cP(hj:jV x)(lN:zX x)(hS:wU x.P S)(ho:∀i∈x.P.ins,qX i)(hl:x.P.ins.length<=10000000)(hw:x.P.gT.length<=10000000)(hc:c+4000000<=9000000)(m:Ms)(hI:jR x.P S c m)(w:dY)(f:Nat->dZ)(va:dZ)(h:MK x m w f va):fI 25 #[fq x.g] w fun e w'=>e=fM (eF ((gJ x.P 4000000 m).1:Int))/\gu x (gJ x.P 4000000 m).2 w f va w':=by have HR:Hid _:=qh2 hj lN hS ho hl hw hc m hI w f va h;go_enter Tryz.func25,Tryz.ntmps25;go_wp2_with fail;refine aB HR.o ?_;rintro e w1 ⟨rfl,H⟩;have HH:Hid _:=H;go_wp2_with fail;go_ret;exact⟨rfl,HH.o⟩
theorem ye3(a:Addr)(w:dY):(nilAhead 534 68 (.pointer (some a)) "AnswerTo").run Tryz.prog w=.ok (some false) w:=by kernel_rfl
theorem yeg(a:Addr)(w:dY):(Go.method 534 68 (.pointer (some a)) "AnswerTo").run Tryz.prog w=.ok (292,.pointer (some a)) w:=by kernel_rfl
theorem cQ(ja:JA x 292)(sP:x.vj=.iface 68 (fq x.jl)):zX x:=by
 intro m w f va h i arg most und hi hr hrl ht hm ha Il;have c3:=h.a.blk.cell 3 (by decide);have c4:=h.a.blk.cell 4 (by decide);have c87:=h.a.blk.cell 87 (by decide);rw[h.a.f3,sP]at c3;rw[h.a.f4]at c4;rw[h.a.f87]at c87;obtain⟨vl,vw,vn,lo,p1,p2,p3,p4,p5,p6,p7⟩:=h.p.ex;obtain⟨aw,nw,cw,rfl⟩:=lu p6;obtain⟨rfl,_,hcell⟩:=Zx p6;obtain⟨gw,rfl,hcw⟩:=hcell i hi;have pw:w.cell? ⟨x.pp,0,none⟩=some (.slice (some ⟨gw,0,none⟩) x.P.gT.length cw):=by simp[World.cell?,p1]
 have hN:=ye3;have hM:=yeg;obtain⟨hr1,hr2⟩:=hr;have ew:x.P.gT.getD i iF=x.P.gT[i]:=by simp[List.getD_eq_getElem?_getD,List.getElem?_eq_getElem hi]
 have HX:Hid _:=zve ja h ⟨x.P.gT[i],arg,m.fD+1,und⟩ ha;have HP:Hid (jV x):=ja.ok;generalize x.P.gT[i]=eH at *;unfold zV at HX;simp only[Int.natCast_add,Int.cast_ofNat_Int]at HX;have hwr:IntKind.i64.wrap ((m.fD:Int)+1)=(m.fD:Int)+1:=by rw[IntKind.wrap_i64];omega
 have hgw:=p7 gw rfl;clear p1 p4 p5 p6 p7 hcell h ja;cases hleft:m.left with
 |nil=>
  have HE:Hid (∀w',gu x {m with left:=m.left.tail,eY:=m.eY++[⟨eH,arg,m.fD+1,und⟩]} w f va w'->vM x m i arg most und w f va (fM (.tuple #[eF 0,.iface 393 (.pointer (some (x.E 2)))])) w'):=by
   intro w' hp;have e:iI x.P i arg most und m=(2,0,{m with left:=m.left.tail,eY:=m.eY++[⟨eH,arg,m.fD+1,und⟩]}):=by unfold iI;rw[ew];cases m;simp at hleft;subst hleft;rfl
   unfold vM;rw[e];exact⟨rfl,hp⟩
  go_enter Tryz.func163,Tryz.ntmps163;go_wp2_with fail;go_region_held (fun w'=>w'.cell? ⟨x.g,3,none⟩=some (.iface 68 (fq x.jl))/\w'.cell? ⟨x.g,4,none⟩=some (fq x.pp)/\w'.cell? ⟨x.g,87,none⟩=some (eF (m.fD:Int))/\w'.cell? ⟨x.pp,0,none⟩=some (.slice (some ⟨gw,0,none⟩) x.P.gT.length cw)/\w'.cell? ⟨gw,i,none⟩=some (.string eH)) (go_keep)
   (first|(go_at_call 292;refine aB (HX.o _ (by first|exact fE.refl _ _|exact(fE.refl _ _).drew)) ?_;rintro e w1 ⟨rfl,hcc,f87',g1,g2,g3,hG,HM⟩;have d3:=hcc _ _ _ (ak rfl) c3;have d4:=hcc _ _ _ (ak rfl) c4;have Uz:=hcc _ _ _ (ak rfl) c87;have dp:=hcc _ _ _ (aj ⟨p2,p3⟩) pw;have dw:=hcc _ _ _ (aj hgw) hcw;clear hcc;rw[hleft]))
  all_goals
   go_wp2_with fail;go_region
   all_goals
    go_wp2_with fail;go_ret2;refine HE.o _ ?_;obtain⟨va',k1,k2⟩:=HM.o;exact gu.same HP.o ⟨_,_,k1,k2⟩ (fE.refl _ _).drew
 |cons v r=>
 obtain⟨hv1,hv2⟩:=hrl v (by rw[hleft];exact dA);have ec:((m.fD+1:Nat):Int)=(m.fD:Int)+1:=by simp
 by_cases hneg:v<0
 ·by_cases hmo:m.fD+1<most
  ·have hmo':(m.fD:Int)+1<(most:Int):=by omega
   have HE:Hid (∀w',gu x {m with left:=r,eY:=m.eY++[⟨eH,arg,m.fD+1,und⟩],fD:=m.fD+1} w f va w'->vM x m i arg most und w f va (fM (.tuple #[eF 0,.iface 393 (.pointer (some (x.E 3)))])) w'):=by
    intro w' hp;have e:iI x.P i arg most und m=(3,0,{m with left:=r,eY:=m.eY++[⟨eH,arg,m.fD+1,und⟩],fD:=m.fD+1}):=by unfold iI;rw[ew,hleft];simp only;rw[aA ⟨hneg,hmo⟩]
    unfold vM;rw[e];exact⟨rfl,hp⟩
   go_enter Tryz.func163,Tryz.ntmps163;go_wp2_with fail;go_region_held (fun w'=>w'.cell? ⟨x.g,3,none⟩=some (.iface 68 (fq x.jl))/\w'.cell? ⟨x.g,4,none⟩=some (fq x.pp)/\w'.cell? ⟨x.g,87,none⟩=some (eF (m.fD:Int))/\w'.cell? ⟨x.pp,0,none⟩=some (.slice (some ⟨gw,0,none⟩) x.P.gT.length cw)/\w'.cell? ⟨gw,i,none⟩=some (.string eH)) (go_keep)
    (first|(go_at_call 292;refine aB (HX.o _ (by first|exact fE.refl _ _|exact(fE.refl _ _).drew)) ?_;rintro e w1 ⟨rfl,hcc,f87',g1,g2,g3,hG,HM⟩;have d3:=hcc _ _ _ (ak rfl) c3;have d4:=hcc _ _ _ (ak rfl) c4;have Uz:=hcc _ _ _ (ak rfl) c87;have dp:=hcc _ _ _ (aj ⟨p2,p3⟩) pw;have dw:=hcc _ _ _ (aj hgw) hcw;clear hcc;rw[hleft];simp only[dM,hleft]at HM))
   all_goals
    go_wp2_with fail;go_region
    all_goals
     go_wp2_with fail;go_ret2;refine HE.o _ ?_;obtain⟨va',k1,k2⟩:=HM.o;first|(have:=gu.same HP.o (gu.fD HP.o ⟨_,_,k1,k2⟩ (m.fD+1)) (fE.refl _ _).drew;rw[ec]at this;exact this)|(have:=gu.fD HP.o (gu.same HP.o ⟨_,_,k1,k2⟩ (fE.refl _ _).drew) (m.fD+1);rw[ec]at this;exact this)
  have hmo':¬(m.fD:Int)+1<(most:Int):=by omega
  have HE:Hid (∀w',gu x {m with left:=r,eY:=m.eY++[⟨eH,arg,m.fD+1,und⟩],fD:=0} w f va w'->vM x m i arg most und w f va (fM (.tuple #[eF 0,.iface 393 (.pointer (some (x.E 1)))])) w'):=by
   intro w' hp;have e:iI x.P i arg most und m=(1,0,{m with left:=r,eY:=m.eY++[⟨eH,arg,m.fD+1,und⟩],fD:=0}):=by unfold iI;rw[ew,hleft];simp only;rw[ah (fun h=>hmo h.2),aA hneg]
   unfold vM;rw[e];exact⟨rfl,hp⟩
  go_enter Tryz.func163,Tryz.ntmps163;go_wp2_with fail;go_region_held (fun w'=>w'.cell? ⟨x.g,3,none⟩=some (.iface 68 (fq x.jl))/\w'.cell? ⟨x.g,4,none⟩=some (fq x.pp)/\w'.cell? ⟨x.g,87,none⟩=some (eF (m.fD:Int))/\w'.cell? ⟨x.pp,0,none⟩=some (.slice (some ⟨gw,0,none⟩) x.P.gT.length cw)/\w'.cell? ⟨gw,i,none⟩=some (.string eH)) (go_keep)
   (first|(go_at_call 292;refine aB (HX.o _ (by first|exact fE.refl _ _|exact(fE.refl _ _).drew)) ?_;rintro e w1 ⟨rfl,hcc,f87',g1,g2,g3,hG,HM⟩;have d3:=hcc _ _ _ (ak rfl) c3;have d4:=hcc _ _ _ (ak rfl) c4;have Uz:=hcc _ _ _ (ak rfl) c87;have dp:=hcc _ _ _ (aj ⟨p2,p3⟩) pw;have dw:=hcc _ _ _ (aj hgw) hcw;clear hcc;rw[hleft];simp only[dM,hleft]at HM))
  all_goals
   go_wp2_with fail;go_region
   all_goals
    go_wp2_with fail;go_ret2;refine HE.o _ ?_;obtain⟨va',k1,k2⟩:=HM.o;first|exact gu.same HP.o (gu.fD HP.o ⟨_,_,k1,k2⟩ 0) (fE.refl _ _).drew|exact gu.fD HP.o (gu.same HP.o ⟨_,_,k1,k2⟩ (fE.refl _ _).drew) 0|exact gu.fD HP.o ⟨_,_,k1,k2⟩ 0|(have:=gu.fD HP.o (gu.fD HP.o ⟨_,_,k1,k2⟩ (m.fD+1)) 0;rw[ec]at this;exact this)|(have:=gu.same HP.o (gu.fD HP.o (gu.fD HP.o ⟨_,_,k1,k2⟩ (m.fD+1)) 0) (fE.refl _ _).drew;rw[ec]at this;exact this)
 have hneg':¬v<0:=hneg;have HE:Hid (∀w',gu x {m with left:=r,eY:=m.eY++[⟨eH,arg,m.fD+1,und⟩],fD:=0} w f va w'->vM x m i arg most und w f va (fM (.tuple #[eF v,.nilIface])) w'):=by
  intro w' hp;have e:iI x.P i arg most und m=(0,v,{m with left:=r,eY:=m.eY++[⟨eH,arg,m.fD+1,und⟩],fD:=0}):=by unfold iI;rw[ew,hleft];simp only;rw[ah (fun h=>hneg h.1),ah hneg]
  unfold vM;rw[e];exact⟨rfl,hp⟩
 go_enter Tryz.func163,Tryz.ntmps163;go_wp2_with fail;go_region_held (fun w'=>w'.cell? ⟨x.g,3,none⟩=some (.iface 68 (fq x.jl))/\w'.cell? ⟨x.g,4,none⟩=some (fq x.pp)/\w'.cell? ⟨x.g,87,none⟩=some (eF (m.fD:Int))/\w'.cell? ⟨x.pp,0,none⟩=some (.slice (some ⟨gw,0,none⟩) x.P.gT.length cw)/\w'.cell? ⟨gw,i,none⟩=some (.string eH)) (go_keep)
  (first|(go_at_call 292;refine aB (HX.o _ (by first|exact fE.refl _ _|exact(fE.refl _ _).drew)) ?_;rintro e w1 ⟨rfl,hcc,f87',g1,g2,g3,hG,HM⟩;have d3:=hcc _ _ _ (ak rfl) c3;have d4:=hcc _ _ _ (ak rfl) c4;have Uz:=hcc _ _ _ (ak rfl) c87;have dp:=hcc _ _ _ (aj ⟨p2,p3⟩) pw;have dw:=hcc _ _ _ (aj hgw) hcw;clear hcc;rw[hleft];simp only[dM,hleft]at HM))
 all_goals
  go_wp2_with fail;go_ret2;refine HE.o _ ?_;obtain⟨va',k1,k2⟩:=HM.o;first|exact gu.same HP.o (gu.fD HP.o ⟨_,_,k1,k2⟩ 0) (fE.refl _ _).drew|exact gu.fD HP.o (gu.same HP.o ⟨_,_,k1,k2⟩ (fE.refl _ _).drew) 0|exact gu.fD HP.o ⟨_,_,k1,k2⟩ 0|(have:=gu.fD HP.o (gu.fD HP.o ⟨_,_,k1,k2⟩ (m.fD+1)) 0;rw[ec]at this;exact this)|(have:=gu.same HP.o (gu.fD HP.o (gu.fD HP.o ⟨_,_,k1,k2⟩ (m.fD+1)) 0) (fE.refl _ _).drew;rw[ec]at this;exact this)
