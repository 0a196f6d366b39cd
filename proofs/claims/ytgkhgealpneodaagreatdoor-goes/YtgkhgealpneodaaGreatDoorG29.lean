import Derived.Test.YtgkhgealpneodaaGreatDoorG28
set_option maxRecDepth 100000
set_option maxHeartbeats 8000000
namespace Go.Proofs.YtgkhgealpneodaaGreatDoor
open Go.RowKit
namespace Rn
open Lg Mk Px Ref
variable{x:Cx}
theorem do2(hj:jV x)(m:Ms)(w:dY)(f:Nat->dZ)(va:dZ)(h:MK x m w f va)(i:fC)(hb:Bd x.P m)(hc:mW x.P i m)(hk:i.k=2):fI 100 #[fq x.g,jS i] w (iB x i m w f va):=by
 have HB:=h.boxed hj (iX i);have hst:=hc.st;rw[show mH i.k=1 by rw[hk];rfl]at hst;obtain⟨v,r,hst⟩:=FW hst;have hs:=hb.s;rw[hst,aG]at hs;have hv:i.a<m.vars.length:=by rw[hb.vars];exact SQ hc.fit (aj hk)
 have HD:Hid (jF x.P i m=(0,{m with vars:=m.vars.set i.a v,st:=r})):=by unfold Hid jF;rw[ah (by omega),ah (by omega),aA hk];simp only[hst];rfl
 obtain⟨q,c,KM,cv,_,hqg,_⟩:=h.OM hj hv;have c85:=h.a.blk.cell 85 (by decide);rw[KM]at c85;have hgz:=h.a.lt;have hqz:=lt_of_cell cv;have Nq:(i.a:Int)<(m.vars.length:Int):=by omega
 have HP:Hid (∀W,(W=w.alloc (iX i)\/W=(w.alloc (iX i)).drew)->fI 101 #[fq x.g] W fun e w1=>e=fM (eF v)/\w1.cell? ⟨x.g,85,none⟩=some (.slice (some ⟨q,0,none⟩) m.vars.length c)/\(∃u,w1.cell? ⟨q,i.a,none⟩=some u)/\w1.frozen? ⟨q,i.a,none⟩=false/\w1.cell? ⟨w.heap.size,1,none⟩=some (eF (i.a:Int))/\Hid (gu x {m with vars:=m.vars.set i.a v,st:=r} w f va (w1.setCell ⟨q,i.a,none⟩ (eF v)))):=fun W hW=>by
  obtain⟨j1,j2⟩:=HB.o W hW;refine(yP hj m W f va j1 v r hst (by omega)).mono ?_;rintro e w1 ⟨rfl,v1,k1,k2⟩;obtain⟨q',c',e1,e2,e3,_,e4⟩:=k1.OM hj hv;have e1':f 85=.slice (some ⟨q',0,none⟩) m.vars.length c':=e1;rw[KM]at e1';cases e1';have c1:=k1.a.blk.cell 85 (by decide);rw[e1]at c1;refine⟨rfl,c1,⟨_,e2⟩,e3,Fr.loc h.a (ay _) k2 ?_,gu.mk' (e4 v).1 (j2.trans (k2.trans (e4 v).2))⟩;obtain rfl|rfl:=hW;·exact yR w _ _ 1 _ rfl
  exact yR w _ _ 1 _ rfl
 unfold jS;unfold iX at HB HP;have hs1:∀(w1:dY)(u:dZ),(w1.setCell ⟨q,i.a,none⟩ u).cell? ⟨x.g,85,none⟩=w1.cell? ⟨x.g,85,none⟩:=fun w1 u=>Co (fun e=>hqg (congrArg Addr.block e));have hs2:∀(w1:dY)(u:dZ),(w1.setCell ⟨q,i.a,none⟩ u).cell? ⟨w.heap.size,1,none⟩=w1.cell? ⟨w.heap.size,1,none⟩:=fun w1 u=>Co (fun e=>by have:=congrArg Addr.block e;simp only at this;omega);clear h hb hc hk hst hs hv;generalize m.vars.length=L at *;go_enter Tryz.func100,Tryz.ntmps100;go_wp2_with fail;go_region_held (fun w'=>w'.cell? ⟨x.g,85,none⟩=some (.slice (some ⟨q,0,none⟩) L c)/\w'.cell? ⟨w.heap.size,1,none⟩=some (eF (i.a:Int))) (go_keep)
  (first|(go_at_call 101;refine aB (HP.o _ (by first|exact ak rfl|exact aj rfl)) ?_;rintro e w1 ⟨rfl,d1,⟨u,d2⟩,d3,d4,H1⟩))
 all_goals
  go_wp2_with fail;go_ret;exact iB.ok HD.o (by first|exact H1.o|exact gu.same hj H1.o (fE.refl _ _).drew)
theorem Db(b:Bool)(w:dY):fI 110 #[.bool b] w fun e w'=>e=fM (eF (iY b))/\w'=w:=by
 cases b;·go_enter Tryz.func110,Tryz.ntmps110;go_wp2_with fail;go_ret;exact⟨rfl,rfl⟩
 go_enter Tryz.func110,Tryz.ntmps110;go_wp2_with fail;go_ret;exact⟨rfl,rfl⟩
theorem Uk(hj:jV x)(m:Ms)(w:dY)(f:Nat->dZ)(va:dZ)(h:MK x m w f va)(i:fC)(hb:Bd x.P m)(hc:mW x.P i m)(hk:i.k=11):fI 113 #[fq x.g,jS i] w (iB x i m w f va):=by
 have HB:=h.boxed hj (iX i);have hst:=hc.st;rw[show mH i.k=1 by rw[hk];rfl]at hst;obtain⟨v,r,hst⟩:=FW hst;have hs:=hb.s;rw[hst,aG]at hs;have HD:Hid (jF x.P i m=(0,{m with st:=iY (decide (v=0))::r})):=by unfold Hid jF;rw[ah (by omega),ah (by omega),ah (by omega),ah (by omega),ah (by omega),ah (by omega),aA hk];simp only[hst];rfl
 have HP:Hid (∀W,(W=w.alloc (iX i)\/W=(w.alloc (iX i)).drew)->fI 101 #[fq x.g] W fun e w1=>e=fM (eF v)/\Hid (∃v1,MK x {m with st:=r} w1 (upd f 0 v1) va/\Fr x w f va w1 (upd f 0 v1) va)):=fun W hW=>by obtain⟨j1,j2⟩:=HB.o W hW;refine(yP hj m W f va j1 v r hst (by omega)).mono ?_;rintro e w1 ⟨rfl,v1,k1,k2⟩;exact⟨rfl,v1,k1,j2.trans k2⟩
 have HU:Hid (∀w1,(∃v1,MK x {m with st:=r} w1 (upd f 0 v1) va/\Fr x w f va w1 (upd f 0 v1) va)->∀t:Int,fI 98 #[fq x.g,eF t] w1 fun e w2=>e=fM (.tuple #[])/\Hid (gu x {m with st:=t::r} w f va w2)):=fun w1⟨v1,h1,h2⟩t=>by refine(FV hj {m with st:=r} w1 _ va h1 t (by show r.length<=_;omega)).mono ?_;rintro e w2 ⟨rfl,v2,k1,k2⟩;exact⟨rfl,gu.mk' k1 (h2.trans k2)⟩
 have hbq:decide (v=0)=(v==0):=by rw[bI];simp
 rw[hbq]at HD;unfold jS;unfold iX at HB HP;clear h hb hc hk hst hs hbq;go_enter Tryz.func113,Tryz.ntmps113;go_wp2_with fail;go_region_with (first|(go_at_call 101;refine aB (HP.o _ (by first|exact ak rfl|exact aj rfl)) ?_;rintro e w1 ⟨rfl,H1⟩)|(go_at_call 110;refine(Db (v==0) _).mono ?_;rintro e w2 ⟨rfl,rfl⟩)|(go_at_call 98;refine aB (HU.o _ H1.o _) ?_;rintro e w3 ⟨rfl,H3⟩))
 all_goals
  go_wp2_with fail;go_ret;exact iB.ok HD.o H3.o
theorem zdn(hj:jV x)(m:Ms)(w:dY)(f:Nat->dZ)(va:dZ)(h:MK x m w f va)(b a:Int)(r:List Int)(hst:m.st=b::a::r)(hl:r.length<=9000000):fI 108 #[fq x.g] w fun e w'=>e=fM (iW x (if b=0 then 1 else 0))/\gu x (if b=0 then m else{m with st:=wrap64 (a.tdiv b)::r}) w f va w':=by
 have HT:Hid (fI 129 #[fq x.g] w fun e w1=>e=fM (eF b)/\w1.cell? ⟨11,0,none⟩=some (.iface 393 (.pointer (some (x.E 1))))/\Hid (MK x m w1 f va/\Fr x w f va w1 f va)):=by refine(KI hj m w f va h b (a::r) hst (by simp;omega)).mono ?_;rintro e w1 ⟨rfl,hT⟩;obtain⟨k1,k2⟩:=h.same hj hT;exact⟨rfl,k1.e.v1,k1,k2⟩
 have HP:Hid (∀w1,(MK x m w1 f va/\Fr x w f va w1 f va)->fI 101 #[fq x.g] w1 fun e w2=>e=fM (eF b)/\Hid (∃f1,MK x {m with st:=a::r} w2 f1 va/\Fr x w f va w2 f1 va)):=fun w1⟨h1,h2⟩=>by refine(yP hj m w1 f va h1 b (a::r) hst (by simp;omega)).mono ?_;rintro e w2 ⟨rfl,v1,k1,k2⟩;exact⟨rfl,_,k1,h2.trans k2⟩
 have OQ:Hid (∀w1 W,(∃f1,MK x {m with st:=a::r} w1 f1 va/\Fr x w f va w1 f1 va)->fE (fun _=>False) w1 W->fI 101 #[fq x.g] W fun e w2=>e=fM (eF a)/\Hid (∃f1,MK x {m with st:=r} w2 f1 va/\Fr x w f va w2 f1 va)):=fun w1 W⟨f1,h1,h2⟩hT=>by obtain⟨j1,j2⟩:=h1.same hj hT;refine(yP hj {m with st:=a::r} W f1 va j1 a r rfl (by omega)).mono ?_;rintro e w2 ⟨rfl,v1,k1,k2⟩;exact⟨rfl,_,k1,h2.trans (j2.trans k2)⟩
 have HU:Hid (∀w1,(∃f1,MK x {m with st:=r} w1 f1 va/\Fr x w f va w1 f1 va)->∀t:Int,fI 98 #[fq x.g,eF t] w1 fun e w2=>e=fM (.tuple #[])/\Hid (gu x {m with st:=t::r} w f va w2)):=fun w1⟨f1,h1,h2⟩t=>by refine(FV hj {m with st:=r} w1 f1 va h1 t (by show r.length<=_;omega)).mono ?_;rintro e w2 ⟨rfl,v2,k1,k2⟩;exact⟨rfl,gu.mk' k1 (h2.trans k2)⟩
 clear h hst;by_cases hb:b=0
 ·rw[aA hb,aA hb];have hb':(b==0)=true:=by rw[hb];rfl
  go_enter Tryz.func108,Tryz.ntmps108;go_wp2_with fail;refine aB HT.o ?_;rintro e w1 ⟨rfl,g1,H1⟩;go_wp2_with fail;go_ret;exact⟨rfl,gu.mk' H1.o.1 H1.o.2⟩
 rw[ah hb,ah hb];have hb':(b==0)=false:=by simpa using hb
 have hwr:IntKind.i64.wrap (a.tdiv b)=wrap64 (a.tdiv b):=by rw[IntKind.wrap_i64];unfold wrap64;rfl
 go_enter Tryz.func108,Tryz.ntmps108;go_wp2_with fail;refine aB HT.o ?_;rintro e w1 ⟨rfl,g1,H1⟩;go_wp2_with fail;refine aB (HP.o _ H1.o) ?_;rintro e w2 ⟨rfl,H2⟩;go_wp2_with fail;go_region_with (first|(go_at_call 101;refine aB (OQ.o _ _ H2.o (by first|exact fE.refl _ _|exact(fE.refl _ _).drew)) ?_;rintro e w3 ⟨rfl,H3⟩)|(go_at_call 98;refine aB (HU.o _ H3.o _) ?_;rintro e w4 ⟨rfl,H4⟩))
 all_goals
  go_wp2_with fail;go_ret;exact⟨rfl,H4.o⟩
theorem do7(hj:jV x)(m:Ms)(w:dY)(f:Nat->dZ)(va:dZ)(h:MK x m w f va)(i:fC)(hb:Bd x.P m)(hc:mW x.P i m)(hk:i.k=7):fI 107 #[fq x.g,jS i] w (iB x i m w f va):=by
 have HB:=h.boxed hj (iX i);have hst:=hc.st;rw[show mH i.k=2 by rw[hk];rfl]at hst;obtain⟨b,a,r,hst⟩:=cA hst;have hs:=hb.s;rw[hst,aG,aG]at hs;have HD:Hid (jF x.P i m=(if b=0 then 1 else 0,if b=0 then m else{m with st:=wrap64 (a.tdiv b)::r})):=by unfold Hid jF;rw[ah (by omega),ah (by omega),ah (by omega),ah (by omega),aA hk];simp only[hst,List.headD_cons,dM];split<;>rfl
 have HP:Hid (∀W,(W=w.alloc (iX i)\/W=(w.alloc (iX i)).drew)->fI 108 #[fq x.g] W fun e w1=>e=fM (iW x (if b=0 then 1 else 0))/\Hid (gu x (if b=0 then m else{m with st:=wrap64 (a.tdiv b)::r}) w f va w1)):=fun W hW=>by obtain⟨j1,j2⟩:=HB.o W hW;refine(zdn hj m W f va j1 b a r hst (by omega)).mono ?_;rintro e w1 ⟨rfl,f1,jD,k1,k2⟩;exact⟨rfl,gu.mk' k1 (j2.trans k2)⟩
 unfold jS;unfold iX at HB HP;clear h hb hc hk hst hs;generalize (if b=0 then 1 else 0)=E at *;generalize (if b=0 then m else{m with st:=wrap64 (a.tdiv b)::r})=M at *;go_enter Tryz.func107,Tryz.ntmps107;go_wp2_with fail;refine aB (HP.o _ (by first|exact ak rfl|exact aj rfl)) ?_;rintro e w1 ⟨rfl,H1⟩;go_wp2_with fail;go_ret;unfold iB;rw[HD.o];exact⟨rfl,H1.o⟩
theorem KN(a b:Int)(w:dY):fI 104 #[eF a,eF b] w fun e w'=>e=fM (eF (wrap64 (a+b)))/\w'=w:=by
 have hwr:IntKind.i64.wrap (a+b)=wrap64 (a+b):=by rw[IntKind.wrap_i64];unfold wrap64;rfl
 go_enter Tryz.func104,Tryz.ntmps104;go_wp2_with fail;go_ret;exact⟨by first|rfl|(congr 2),rfl⟩
theorem KO(a b:Int)(w:dY):fI 105 #[eF a,eF b] w fun e w'=>e=fM (eF (wrap64 (a-b)))/\w'=w:=by
 have hwr:IntKind.i64.wrap (a-b)=wrap64 (a-b):=by rw[IntKind.wrap_i64];unfold wrap64;rfl
 go_enter Tryz.func105,Tryz.ntmps105;go_wp2_with fail;go_ret;exact⟨by first|rfl|(congr 2),rfl⟩
theorem KP(a b:Int)(w:dY):fI 106 #[eF a,eF b] w fun e w'=>e=fM (eF (wrap64 (a*b)))/\w'=w:=by
 have hwr:IntKind.i64.wrap (a*b)=wrap64 (a*b):=by rw[IntKind.wrap_i64];unfold wrap64;rfl
 go_enter Tryz.func106,Tryz.ntmps106;go_wp2_with fail;go_ret;exact⟨by first|rfl|(congr 2),rfl⟩
theorem KQ(a b:Int)(w:dY):fI 109 #[eF a,eF b] w fun e w'=>e=fM (eF (iY (decide (a<b))))/\w'=w:=by have hd:(decide (a<b))=(decide (a<b)):=rfl;rw[hd];go_enter Tryz.func109,Tryz.ntmps109;go_wp2_with fail;refine(Db _ _).mono ?_;rintro e w1 ⟨rfl,rfl⟩;go_wp2_with fail;go_ret;exact⟨rfl,rfl⟩
theorem KS(a b:Int)(w:dY):fI 111 #[eF a,eF b] w fun e w'=>e=fM (eF (iY (decide (a=b))))/\w'=w:=by
 have hd:(decide (a=b))=(a==b):=by rw[bI];simp
 rw[hd];go_enter Tryz.func111,Tryz.ntmps111;go_wp2_with fail;refine(Db _ _).mono ?_;rintro e w1 ⟨rfl,rfl⟩;go_wp2_with fail;go_ret;exact⟨rfl,rfl⟩
theorem zw9(a b:Int)(w:dY):fI 112 #[eF a,eF b] w fun e w'=>e=fM (eF (iY (decide (a≠b))))/\w'=w:=by
 have hd:(decide (a≠b))=(a != b):=by rw[bI];simp
 rw[hd];go_enter Tryz.func112,Tryz.ntmps112;go_wp2_with fail;refine(Db _ _).mono ?_;rintro e w1 ⟨rfl,rfl⟩;go_wp2_with fail;go_ret;exact⟨rfl,rfl⟩
def Im(k:Nat)(a b:Int):Int:=match k with
 |4=>wrap64 (a+b)
 |5=>wrap64 (a-b)
 |6=>wrap64 (a*b)
 |8=>iY (decide (a<b))
 |9=>iY (decide (a=b))
 |_=>iY (decide (a≠b))
abbrev cC{w:dY}{a:Addr}{v:dZ}(_:w.cell? a=some v)(w':dY):Prop:=w'.cell? a=some v
theorem Io(hj:jV x)(m:Ms)(w:dY)(f:Nat->dZ)(va:dZ)(h:MK x m w f va)(i:fC)(hb:Bd x.P m)(hc:mW x.P i m)(k:Nat)(hp:ru k=true)(hk:i.k=k):fI 162 #[fq x.g,jS i,.pointer (some ⟨x.J k,0,none⟩)] w (iB x i m w f va):=by
 have HB:=h.boxed hj (iX i);have hst:=hc.st;have h6:k=4\/k=5\/k=6\/k=8\/k=9\/k=10:=by simpa[ru,or_assoc]using hp
 rw[show mH i.k=2 by rw[hk];obtain rfl|rfl|rfl|rfl|rfl|rfl:=h6<;>rfl]at hst;obtain⟨b,a,r,hst⟩:=cA hst;have hs:=hb.s;rw[hst,aG,aG]at hs;have HD:Hid (jF x.P i m=(0,{m with st:=Im k a b::r})):=by unfold Hid jF;rw[ah (by omega),ah (by omega),ah (by omega),ah (by omega),ah (by omega),aA (by omega)];obtain rfl|rfl|rfl|rfl|rfl|rfl:=h6<;>(simp only[hst,hk];rfl)
 have HP:Hid (∀W,(W=w.alloc (iX i)\/W=(w.alloc (iX i)).drew)->fI 101 #[fq x.g] W fun e w1=>e=fM (eF b)/\w1.cell? ⟨x.J k,0,none⟩=some (.func (.func (xZ k)) #[] #[])/\Hid (∃f1,MK x {m with st:=a::r} w1 f1 va/\Fr x w f va w1 f1 va)):=fun W hW=>by obtain⟨j1,j2⟩:=HB.o W hW;refine(yP hj m W f va j1 b (a::r) hst (by simp;omega)).mono ?_;rintro e w1 ⟨rfl,v1,k1,k2⟩;exact⟨rfl,(k1.a.jn k hp).1,_,k1,j2.trans k2⟩
 have OQ:Hid (∀w1 W,(∃f1,MK x {m with st:=a::r} w1 f1 va/\Fr x w f va w1 f1 va)->fE (fun _=>False) w1 W->fI 101 #[fq x.g] W fun e w2=>e=fM (eF a)/\w2.cell? ⟨x.J k,0,none⟩=some (.func (.func (xZ k)) #[] #[])/\Hid (∃f1,MK x {m with st:=r} w2 f1 va/\Fr x w f va w2 f1 va)):=fun w1 W⟨f1,h1,h2⟩hT=>by obtain⟨j1,j2⟩:=h1.same hj hT;refine(yP hj {m with st:=a::r} W f1 va j1 a r rfl (by omega)).mono ?_;rintro e w2 ⟨rfl,v1,k1,k2⟩;exact⟨rfl,(k1.a.jn k hp).1,_,k1,h2.trans (j2.trans k2)⟩
 have HU:Hid (∀w1,(∃f1,MK x {m with st:=r} w1 f1 va/\Fr x w f va w1 f1 va)->fI 98 #[fq x.g,eF (Im k a b)] w1 fun e w2=>e=fM (.tuple #[])/\w2.cell? ⟨x.J k,0,none⟩=some (.func (.func (xZ k)) #[] #[])/\Hid (gu x {m with st:=Im k a b::r} w f va w2)):=fun w1⟨f1,h1,h2⟩=>by refine(FV hj {m with st:=r} w1 f1 va h1 (Im k a b) (by show r.length<=_;omega)).mono ?_;rintro e w2 ⟨rfl,v2,k1,k2⟩;exact⟨rfl,(k1.a.jn k hp).1,gu.mk' k1 (h2.trans k2)⟩
 have HJ:Hid (∀W:dY,Calls Tryz.prog (xZ k) #[eF a,eF b] W fun e w'=>e=fM (eF (Im k a b))/\w'=W):=fun W=>by
  obtain rfl|rfl|rfl|rfl|rfl|rfl:=h6;·exact KN a b W
  ·exact KO a b W
  ·exact KP a b W
  ·exact KQ a b W
  ·exact KS a b W
  exact zw9 a b W
 unfold jS;unfold iX at HB HP;clear h hb hc hk hst hs hp;generalize Im k a b=EE at *;generalize x.J k=J at *;obtain rfl|rfl|rfl|rfl|rfl|rfl:=h6;all_goals
  simp only[xZ]at HP OQ HU HJ;go_enter Tryz.func162,Tryz.ntmps162;go_wp2_with fail;refine aB (HP.o _ (by first|exact ak rfl|exact aj rfl)) ?_;rintro e w1 ⟨rfl,d1,H1⟩;go_wp2_with fail;go_region_held (cC d1) ((unfold cC;go_keep)) (first|(go_at_call 101;refine aB (OQ.o _ _ H1.o (by first|exact fE.refl _ _|exact(fE.refl _ _).drew)) ?_;rintro e w2 ⟨rfl,d2,H2⟩)|(go_at_call 98;refine aB (HU.o _ H2.o) ?_;rintro e w4 ⟨rfl,d4,H4⟩)|((first|go_at_call 104|go_at_call 105|go_at_call 106|go_at_call 109|go_at_call 111|go_at_call 112);refine aB (HJ.o _) ?_;rintro e w3 ⟨rfl,rfl⟩))
  all_goals
   go_wp2_with fail;go_ret;exact iB.ok HD.o H4.o
theorem zwv(b:Addr)(w:dY):(binOp BinOp.eql 63 .nilIface (.iface 393 (.pointer (some b)))).run Tryz.prog w=.ok (.bool false) w:=by kernel_rfl
theorem zt1(b:Addr)(w:dY):fI 47 #[.nilIface,.iface 393 (.pointer (some b))] w fun e w'=>e=fM (.bool false)/\w'=w:=by have hn:=zwv b;go_enter Tryz.func47,Tryz.ntmps47;go_wp2;go_ret;exact⟨rfl,rfl⟩
variable{w:dY}
theorem qJ(h:Ge x w)(e i:Nat)(he:e<=4)(hi:1<=i/\i<=4):fI 47 #[iW x e,.iface 393 (.pointer (some (x.E i)))] w fun r w'=>r=fM (.bool (decide (e=i)))/\w'=w:=by
 unfold iW;by_cases hz:e=0;·rw[aA hz,show decide (e=i)=false from decide_eq_false (by omega)];exact zt1 _ w
 rw[ah hz];by_cases Ul:e=i;·subst Ul;rw[show decide (e=e)=true from decide_eq_true rfl];exact YF _ w
 rw[show decide (e=i)=false from decide_eq_false Ul];obtain⟨_,_,c1,t1,b1⟩:=h.b e (by omega) he;obtain⟨_,_,c2,t2,b2⟩:=h.b i hi.1 hi.2;exact zn1 _ _ c1 c2 t1 t2 w (h.ne e i (by omega) he hi.1 hi.2 Ul) b1 b2
def vK(e:Nat)(m:Ms):Ms:=if e=4 then{m with fin:=3}else if e=1 then{m with jK:=true}else m
theorem zda(hj:jV x)(m:Ms)(w:dY)(f:Nat->dZ)(va:dZ)(h:MK x m w f va)(e:Nat)(he:1<=e/\e<=4):fI 132 #[fq x.g,iW x e] w fun r w'=>r=fM (.bool (decide (e≠2)))/\gu x (vK e m) w f va w':=by
 have v1:=h.e.v1;have v2:=h.e.v2;have v4:=h.e.v4;have H:Hid (MK x m w f va):=h;have hG:21<=x.g:=aK h.e.lo h.a.hB;have hc:e=1\/e=2\/e=3\/e=4:=by omega
 obtain rfl|rfl|rfl|rfl:=hc;·have OL:=H.o.a.blk.cell 88 (by decide);have cf:=H.o.a.blk.fr 88;have HK:Hid (MK x {m with jK:=true} (w.setCell ⟨x.g,88,none⟩ (.bool true)) (upd f 88 (.bool true)) va/\Fr x w f va (w.setCell ⟨x.g,88,none⟩ (.bool true)) (upd f 88 (.bool true)) va):=H.o.ZU hj true;have w2:=HK.o.1.e.v2;go_enter Tryz.func132,Tryz.ntmps132;go_wp2_with fail;refine(qJ H.o.e 1 4 (by omega) (by omega)).mono ?_;rintro r w' ⟨rfl,rfl⟩;go_wp2_with fail;refine(qJ H.o.e 1 1 (by omega) (by omega)).mono ?_;rintro r w' ⟨rfl,rfl⟩;go_wp2_with fail;refine(qJ HK.o.1.e 1 2 (by omega) (by omega)).mono ?_;rintro r w' ⟨rfl,rfl⟩;go_wp2_with fail;go_ret;exact⟨rfl,gu.mk' HK.o.1 HK.o.2⟩
 ·go_enter Tryz.func132,Tryz.ntmps132;go_wp2_with fail;refine(qJ H.o.e 2 4 (by omega) (by omega)).mono ?_;rintro r w' ⟨rfl,rfl⟩;go_wp2_with fail;refine(qJ H.o.e 2 1 (by omega) (by omega)).mono ?_;rintro r w' ⟨rfl,rfl⟩;go_wp2_with fail;refine(qJ H.o.e 2 2 (by omega) (by omega)).mono ?_;rintro r w' ⟨rfl,rfl⟩;go_wp2_with fail;go_ret;exact⟨rfl,gu.mk' H.o (Fr.refl _ _ _ _)⟩
 ·go_enter Tryz.func132,Tryz.ntmps132;go_wp2_with fail;refine(qJ H.o.e 3 4 (by omega) (by omega)).mono ?_;rintro r w' ⟨rfl,rfl⟩;go_wp2_with fail;refine(qJ H.o.e 3 1 (by omega) (by omega)).mono ?_;rintro r w' ⟨rfl,rfl⟩;go_wp2_with fail;refine(qJ H.o.e 3 2 (by omega) (by omega)).mono ?_;rintro r w' ⟨rfl,rfl⟩;go_wp2_with fail;go_ret;exact⟨rfl,gu.mk' H.o (Fr.refl _ _ _ _)⟩
 have AO:=H.o.a.blk.cell 89 (by decide);have cf:=H.o.a.blk.fr 89;have HK:Hid (MK x {m with fin:=3} (w.setCell ⟨x.g,89,none⟩ (eF 3)) (upd f 89 (eF 3)) va/\Fr x w f va (w.setCell ⟨x.g,89,none⟩ (eF 3)) (upd f 89 (eF 3)) va):=H.o.TR hj 3;have w2:=HK.o.1.e.v2;go_enter Tryz.func132,Tryz.ntmps132;go_wp2_with fail;refine(qJ H.o.e 4 4 (by omega) (by omega)).mono ?_;rintro r w' ⟨rfl,rfl⟩;go_wp2_with fail;refine(qJ HK.o.1.e 4 2 (by omega) (by omega)).mono ?_;rintro r w' ⟨rfl,rfl⟩;go_wp2_with fail;go_ret;exact⟨rfl,gu.mk' HK.o.1 HK.o.2⟩
variable{m:Ms}
theorem Um{P:Pg}(h:uI m=(.agg #[eF 0,eF 0],false)):jC P m=jC.behind m:=by
 unfold jC;unfold uI at h;cases hu:m.fV with| nil=>rfl| cons u r=>
 rw[hu]at h;simp only at h |-;split at h;·rename_i he;rw[aA he]
 exact absurd (congrArg Prod.snd h) (by show ¬true=false;decide)
theorem Un(m:Ms):(jC.behind m).1=0:=by unfold jC.behind;split<;>rfl
theorem Uo(m:Ms):uI m=(.agg #[eF 0,eF 0],false)\/∃u r,m.fV=u::r/\¬m.fV.length=nQ m/\uI m=(.agg #[eF (u.1:Int),eF u.2],true):=by
 unfold uI;cases hu:m.fV with| nil=>exact ak rfl| cons u r=>
 simp only;by_cases he:(u::r).length=nQ m;·rw[aA he];exact ak rfl
 rw[ah he];exact aj ⟨u,r,rfl,he,rfl⟩
theorem qu0(hj:jV x)(lN:zX x)(m:Ms)(w:dY)(f:Nat->dZ)(va:dZ)(h:MK x m w f va)(hl:m.st.length<=10000000)(hb:m.fK.length<=10000000)(hu:m.fV.length<=10000000)(hfl:nQ m<=m.fV.length)(hh:∀b r,m.fK=b::r->b.2.1<=m.st.length)(rF:∀u∈m.fV,mZ u.2/\u.1<x.P.gT.length)(hrl:∀v∈m.left,mZ v)(ht:m.fD<65536)(ha:m.eY.length<=10000000)(Il:x.P.gT.length<=10000000):fI 172 #[fq x.g] w fun e w'=>e=fM (iW x (jC x.P m).1)/\gu x (jC x.P m).2 w f va w':=by
 have HN:Hid (fI 206 #[.pointer (some ⟨x.g,1,none⟩)] w fun e w'=>e=fM (.tuple #[(uI m).1,.bool (uI m).2])/\fE (fun _=>False) w w'):=zmt hj m w f va h hb hu hfl;have HH:Hid (MK x m w f va):=h;obtain hn|⟨u,r,hur,hne,hn⟩:=Uo m
 ·rw[hn]at HN;rw[Um hn,Un];have HG:Hid (∀w1,fE (fun _=>False) w w1->fI 207 #[fq x.g] w1 fun e w'=>e=fM (.tuple #[])/\Hid (gu x (jC.behind m).2 w f va w')):=fun w1 hT=>by obtain⟨j1,j2⟩:=HH.o.same hj hT;refine(qwc hj m w1 f va j1 hl hb hh).mono ?_;rintro e w2 ⟨rfl,f2,jO,k1,k2⟩;exact⟨rfl,gu.mk' k1 (j2.trans k2)⟩
  go_enter Tryz.func172,Tryz.ntmps172;go_wp2_with fail;refine aB HN.o ?_;rintro e w1 ⟨rfl,hT⟩;have HT:Hid (fE (fun _=>False) w w1):=hT;go_wp2_with fail;refine aB (HG.o _ (HT.o.alloc _)) ?_;rintro e w2 ⟨rfl,H2⟩;go_wp2_with fail;go_ret;exact⟨rfl,H2.o⟩
 rw[hn]at HN;obtain⟨hr2,hw2⟩:=rF u (by rw[hur];exact dA);cases hq:iI x.P u.1 u.2 3 true m with| mk ea q=>
 obtain⟨va',ma⟩:=q;obtain⟨a,l,t,hma,_,_,_,hz0,hea⟩:=Dy hq;have hmu:ma.fV=u::r:=by rw[hma];exact hur
 have HU:Hid (jC x.P m=if ea=0 then(0,{ma with fV:=r})else if ea=1 then(4,ma)else(ea,ma)):=by unfold Hid jC;simp only[hur];rw[ah (by rw[<- hur];exact hne),hq];match ea with| 0=>rfl| 1=>rfl| n+2=>rw[ah (by omega),ah (by omega)];rfl
 have HA:Hid (∀w1,fE (fun _=>False) w w1->fI 163 #[fq x.g,eF (u.1:Int),eF u.2,eF 3,.bool true] w1 fun e w2=>e=fM (.tuple #[eF va',iW x ea])/\w2.cell? ⟨11,0,none⟩=some (.iface 393 (.pointer (some (x.E 1))))/\w2.cell? ⟨12,0,none⟩=some (.iface 393 (.pointer (some (x.E 4))))/\Hid (∃f2 jO,MK x ma w2 f2 jO/\Fr x w f va w2 f2 jO)):=fun w1 hT=>by obtain⟨j1,j2⟩:=HH.o.same hj hT;refine aB (lN m w1 f va j1 u.1 u.2 3 true hw2 hr2 hrl ht (by decide) ha Il) ?_;rintro e w2 ⟨rfl,f2,jO,k1,k2⟩;rw[hq]at k1 |-;exact⟨rfl,k1.e.v1,k1.e.v4,f2,jO,k1,j2.trans k2⟩
 have hrl':r.length<=10000000:=by rw[hur,aG]at hu;omega
 by_cases h0:ea=0;·rw[HU.o,aA h0];subst h0;go_enter Tryz.func172,Tryz.ntmps172;go_wp2_with fail;refine aB HN.o ?_;rintro e w1 ⟨rfl,hT⟩;have HT:Hid (fE (fun _=>False) w w1):=hT;go_wp2_with fail;refine aB (HA.o _ (HT.o.alloc _)) ?_;rintro e w2 ⟨rfl,g1,g4,H2⟩;go_wp2_with fail;refine(qJ H2.o.choose_spec.choose_spec.1.e 0 1 (by omega) (by omega)).mono ?_;rintro e w3 ⟨rfl,rfl⟩;simp only[iW,if_true];obtain⟨f2,jO,H3⟩:∃f2 jO,Hid (MK x ma w3 f2 jO/\Fr x w f va w3 f2 jO):=H2.o;go_wp2_with fail;refine(qxa hj ma w3 f2 jO H3.o.1 u r hmu hrl').mono ?_;rintro e w4 ⟨rfl,f4,va4,k1,k2⟩;have H4:Hid (gu x {ma with fV:=r} w f va w4):=gu.mk' k1 (H3.o.2.trans k2);go_wp2_with fail;go_ret;exact⟨rfl,H4.o⟩
 by_cases h1:ea=1;·rw[HU.o,ah h0,aA h1];subst h1;go_enter Tryz.func172,Tryz.ntmps172;go_wp2_with fail;refine aB HN.o ?_;rintro e w1 ⟨rfl,hT⟩;have HT:Hid (fE (fun _=>False) w w1):=hT;go_wp2_with fail;refine aB (HA.o _ (HT.o.alloc _)) ?_;rintro e w2 ⟨rfl,g1,g4,H2⟩;go_wp2_with fail;refine(qJ H2.o.choose_spec.choose_spec.1.e 1 1 (by omega) (by omega)).mono ?_;rintro e w3 ⟨rfl,rfl⟩;go_wp2_with fail;go_ret;obtain⟨f2,jO,k1,k2⟩:=H2.o;exact⟨rfl,gu.mk' k1 k2⟩
 rw[HU.o,ah h0,ah h1];go_enter Tryz.func172,Tryz.ntmps172;go_wp2_with fail;refine aB HN.o ?_;rintro e w1 ⟨rfl,hT⟩;have HT:Hid (fE (fun _=>False) w w1):=hT;go_wp2_with fail;refine aB (HA.o _ (HT.o.alloc _)) ?_;rintro e w2 ⟨rfl,g1,g4,H2⟩;go_wp2_with fail;refine(qJ H2.o.choose_spec.choose_spec.1.e ea 1 (by omega) (by omega)).mono ?_;rintro e w3 ⟨rfl,rfl⟩;simp only[iW,ah h0,decide_eq_false h1];go_wp2_with fail;go_ret;obtain⟨f2,jO,k1,k2⟩:=H2.o;exact⟨by simp only[iW,ah h0];rfl,gu.mk' k1 k2⟩
def wF(x:Cx)(i:fC):Array dZ:=if ru i.k then #[fq x.g,jS i,.pointer (some ⟨x.J i.k,0,none⟩)]else #[fq x.g,jS i]
theorem Ri(hj:jV x)(lN:zX x)(m:Ms)(w:dY)(f:Nat->dZ)(va:dZ)(h:MK x m w f va)(i:fC)(hb:Bd x.P m)(hc:mW x.P i m):Calls Tryz.prog (pq i.k) (wF x i) w (iB x i m w f va):=by have hk:=hc.k;unfold wF;match hik:i.k,hk with| 0,_=>exact do0 hj m w f va h i hb hik| 1,_=>exact do1 hj m w f va h i hb hc hik| 2,_=>exact do2 hj m w f va h i hb hc hik| 3,_=>exact do3 hj m w f va h i hb hc hik| 4,_=>exact Io hj m w f va h i hb hc 4 rfl hik| 5,_=>exact Io hj m w f va h i hb hc 5 rfl hik| 6,_=>exact Io hj m w f va h i hb hc 6 rfl hik| 7,_=>exact do7 hj m w f va h i hb hc hik| 8,_=>exact Io hj m w f va h i hb hc 8 rfl hik| 9,_=>exact Io hj m w f va h i hb hc 9 rfl hik| 10,_=>exact Io hj m w f va h i hb hc 10 rfl hik| 11,_=>exact Uk hj m w f va h i hb hc hik| 12,_=>exact Uc hj m w f va h i hb hc hik| 13,_=>exact Ud hj m w f va h i hb hc hik| 14,_=>exact Ue hj m w f va h i hb hc hik| 15,_=>exact Uf hj m w f va h i hb hc hik| 16,_=>exact Ug hj m w f va h i hb hc hik| 17,_=>exact Uh hj m w f va h i hb hc hik| 18,_=>exact Ui hj lN m w f va h i hb hc hik| 19,_=>exact Uj hj m w f va h i hb hc hik| n+20,hk=>exact absurd hk (by omega)
theorem Ur(args:Array dZ)(w:dY):(callFunc 97 args).run Tryz.prog w=.ok (.enter 97 args) w:=by kernel_rfl
theorem Us(args:Array dZ)(w:dY):(callFunc 99 args).run Tryz.prog w=.ok (.enter 99 args) w:=by kernel_rfl
theorem Ut(args:Array dZ)(w:dY):(callFunc 100 args).run Tryz.prog w=.ok (.enter 100 args) w:=by kernel_rfl
theorem Uu(args:Array dZ)(w:dY):(callFunc 102 args).run Tryz.prog w=.ok (.enter 102 args) w:=by kernel_rfl
theorem Uv(args:Array dZ)(w:dY):(callFunc 107 args).run Tryz.prog w=.ok (.enter 107 args) w:=by kernel_rfl
theorem KT(args:Array dZ)(w:dY):(callFunc 113 args).run Tryz.prog w=.ok (.enter 113 args) w:=by kernel_rfl
theorem KU(args:Array dZ)(w:dY):(callFunc 114 args).run Tryz.prog w=.ok (.enter 114 args) w:=by kernel_rfl
theorem KV(args:Array dZ)(w:dY):(callFunc 115 args).run Tryz.prog w=.ok (.enter 115 args) w:=by kernel_rfl
theorem KX(args:Array dZ)(w:dY):(callFunc 117 args).run Tryz.prog w=.ok (.enter 117 args) w:=by kernel_rfl
theorem KY(args:Array dZ)(w:dY):(callFunc 119 args).run Tryz.prog w=.ok (.enter 119 args) w:=by kernel_rfl
theorem KZ(args:Array dZ)(w:dY):(callFunc 122 args).run Tryz.prog w=.ok (.enter 122 args) w:=by kernel_rfl
theorem K4(args:Array dZ)(w:dY):(callFunc 124 args).run Tryz.prog w=.ok (.enter 124 args) w:=by kernel_rfl
theorem K5(args:Array dZ)(w:dY):(callFunc 125 args).run Tryz.prog w=.ok (.enter 125 args) w:=by kernel_rfl
theorem K6(args:Array dZ)(w:dY):(callFunc 127 args).run Tryz.prog w=.ok (.enter 127 args) w:=by kernel_rfl
theorem zdj(k:Nat)(hk:k<20)(hp:ru k=false)(args:Array dZ)(w:dY):(callFunc (pq k) args).run Tryz.prog w=.ok (.enter (pq k) args) w:=by
 match k,hk,hp with
 |0,_,_=>exact Ur args w
 |1,_,_=>exact Us args w
 |2,_,_=>exact Ut args w
 |3,_,_=>exact Uu args w
 |4,_,hp=>cases hp
 |5,_,hp=>cases hp
 |6,_,hp=>cases hp
 |7,_,_=>exact Uv args w
 |8,_,hp=>cases hp
 |9,_,hp=>cases hp
 |10,_,hp=>cases hp
 |11,_,_=>exact KT args w
 |12,_,_=>exact KU args w
 |13,_,_=>exact KV args w
 |14,_,_=>exact KX args w
 |15,_,_=>exact KY args w
 |16,_,_=>exact KZ args w
 |17,_,_=>exact K4 args w
 |18,_,_=>exact K5 args w
 |19,_,_=>exact K6 args w
 |n+20,hk,_=>exact absurd hk (by omega)
theorem zo8(n0 n1 n2:Nat)(w:dY)(h1:w.cell? ⟨n1,0,none⟩=some .nilIface):CallsD Tryz.prog 171 #[fq n1,fq n2,fq n0] .returning w fun e u' w'=>u'=.returning/\(e=fM (.tuple #[])/\w'=w):=by
 go_enter_d Tryz.func171,Tryz.ntmps171
 go_wp2;go_end0
 exact⟨rfl,rfl⟩
theorem zo9(n0 n1 n2 g p:Nat)(t:TypeId)(v u:dZ)(w:dY)(h1:w.cell? ⟨n1,0,none⟩=some (.iface t v))(h0:w.cell? ⟨n0,0,none⟩=some (fq g))(h2:w.cell? ⟨n2,0,none⟩=some (eF (p:Int)))(h3:w.cell? ⟨g,86,none⟩=some u)(h4:w.frozen? ⟨g,86,none⟩=false):CallsD Tryz.prog 171 #[fq n1,fq n2,fq n0] .returning w fun e u' w'=>u'=.returning/\(e=fM (.tuple #[])/\w'=w.setCell ⟨g,86,none⟩ (eF (p:Int))):=by
 go_enter_d Tryz.func171,Tryz.ntmps171
 go_wp2;go_end0
 exact⟨rfl,rfl⟩
def stepW(x:Cx)(p:Nat)(w:dY):dY:=((w.alloc (.cells #[fq x.g] 71)).alloc (.cells #[.nilIface] 63)).alloc (.cells #[eF (p:Int)] 3)
structure lX(x:Cx)(p n:Nat)(w:dY)(er:dZ):Prop where
 c0:w.cell? ⟨n,0,none⟩=some (fq x.g)
 c1:w.cell? ⟨n+1,0,none⟩=some er
 c2:w.cell? ⟨n+2,0,none⟩=some (eF (p:Int))
 fr:w.frozen? ⟨n+1,0,none⟩=false
theorem K7(x:Cx)(p:Nat)(w:dY):fE (fun _=>False) w (stepW x p w)/\(stepW x p w).heap.size=w.heap.size+3/\lX x p w.heap.size (stepW x p w) .nilIface:=by
 refine⟨(((fE.refl _ _).alloc _).alloc _).alloc _,by show(((w.heap.push _).push _).push _).size=_;simp,?_⟩;have h0:(stepW x p w).heap[w.heap.size]?=some (.cells #[fq x.g] 71):=by show(((w.heap.push _).push _).push _)[w.heap.size]?=_;rw[aD,ah (by simp;omega),aD,ah (by simp),aD,aA rfl]
 have h1:(stepW x p w).heap[w.heap.size+1]?=some (.cells #[.nilIface] 63):=by show(((w.heap.push _).push _).push _)[w.heap.size+1]?=_;rw[aD,ah (by simp),aD,aA (by simp)]
 have h2:(stepW x p w).heap[w.heap.size+2]?=some (.cells #[eF (p:Int)] 3):=by show(((w.heap.push _).push _).push _)[w.heap.size+2]?=_;rw[aD,aA (by simp)]
 exact⟨by simp[World.cell?,h0],by simp[World.cell?,h1],by simp[World.cell?,h2],by simp[World.frozen?,h1]⟩
variable{p:Nat}{f:Nat->dZ}{va:dZ}
theorem lX.fr'{W w2:dY}{f2:Nat->dZ}{jO er:dZ}(h0:Cq x m w f va)(hs:lX x p w.heap.size W er)(hF:Fr x W f va w2 f2 jO):lX x p w.heap.size w2 er:=by have hb:w2.heap[w.heap.size+1]?=W.heap[w.heap.size+1]?:=hF.t.block _ (lt_of_cell hs.c1) (fun hk=>by have:=kG.lt h0 hk;omega);exact⟨Fr.loc h0 (by omega) hF hs.c0,Fr.loc h0 (by omega) hF hs.c1,Fr.loc h0 (by omega) hF hs.c2,(cO (w:=W) (a:=⟨w.heap.size+1,0,none⟩) hb).trans hs.fr⟩
theorem step_end(hj:jV x){m1:Ms}{w0 w1:dY}{f1:Nat->dZ}{jD:dZ}{e:Nat}(h:MK x m w f va)(hT0:fE (fun _=>False) w w0)(hn:w0.heap.size=w.heap.size+3)(h1:MK x m1 w1 f1 jD)(hF:Fr x w0 f va w1 f1 jD)(hs:lX x p w.heap.size w1 .nilIface):CallsD Tryz.prog 171 #[.pointer (some ⟨w.heap.size+1,0,none⟩),.pointer (some ⟨w.heap.size+2,0,none⟩),fq w.heap.size] .returning (w1.setCell ⟨w.heap.size+1,0,none⟩ (iW x e)) fun e' u' w'=>u'=.returning/\e'=fM (.tuple #[])/\w'.cell? ⟨w.heap.size+1,0,none⟩=some (iW x e)/\gu x (if e=0 then m1 else{m1 with eD:=p}) w f va w':=by
 obtain⟨k1,k2⟩:=h.local hj hT0 h1 hF (T:=fun k=>k=w.heap.size+1) (fE.setCell (T:=fun k=>k=w.heap.size+1) (fE.refl _ _) (p:=⟨w.heap.size+1,0,none⟩) (ak rfl) (iW x e)) (fun k hk=>by omega);have hlt:=h.a.lt;have c0:(w1.setCell ⟨w.heap.size+1,0,none⟩ (iW x e)).cell? ⟨w.heap.size,0,none⟩=some (fq x.g):=by rw[Co (fun e=>by have:=congrArg Addr.block e;simp at this)];exact hs.c0
 have c1:(w1.setCell ⟨w.heap.size+1,0,none⟩ (iW x e)).cell? ⟨w.heap.size+1,0,none⟩=some (iW x e):=ZQ hs.c1;have c2:(w1.setCell ⟨w.heap.size+1,0,none⟩ (iW x e)).cell? ⟨w.heap.size+2,0,none⟩=some (eF (p:Int)):=by rw[Co (fun e=>by have:=congrArg Addr.block e;simp at this)];exact hs.c2
 by_cases he:e=0;·subst he;refine(zo8 w.heap.size _ (w.heap.size+2) _ c1).mono ?_;rintro e' u' w' ⟨rfl,rfl,rfl⟩;exact⟨rfl,rfl,c1,gu.mk' k1 k2⟩
 rw[ah he];have hev:iW x e=.iface 393 (.pointer (some (x.E e))):=ah he;refine(zo9 w.heap.size _ (w.heap.size+2) x.g p _ _ _ _ (by rw[<- hev];exact c1) c0 c2 (k1.a.blk.cell 86 (by decide)) (k1.a.blk.fr 86)).mono ?_;rintro e' u' w' ⟨rfl,rfl,rfl⟩;refine⟨rfl,rfl,?_,gu.eD hj (gu.mk' k1 k2) p⟩;rw[Co (fun e=>by have:=congrArg Addr.block e;simp only at this;omega)];exact c1
def x9(x:Cx)(m:Ms)(w:dY)(f:Nat->dZ)(va:dZ)(e:Ending)(w':dY):Prop:=e=fM (iW x (jB x.P m).1)/\gu x (jB x.P m).2 w f va w'
theorem Qa(hj:jV x)(m:Ms)(w:dY)(f:Nat->dZ)(va:dZ)(h:MK x m w f va)(hu:m.jK=true)(hP:(jC x.P m).1≠0->(jC x.P m).2.eD=m.eD)(HU:∀W,MK x m W f va->fI 172 #[fq x.g] W fun e w'=>e=fM (iW x (jC x.P m).1)/\gu x (jC x.P m).2 W f va w'):fI 131 #[fq x.g] w (x9 x m w f va):=by
 have Dl:∀(fn:Fn)(first cap:Array dZ)(w:dY),(Instr.makeFunc fn first cap).run Tryz.prog w=.ok (.func fn first cap) w:=fun _ _ _ _=>rfl;have wE:=h.a.blk.cell 86 (by decide);have OL:=h.a.blk.cell 88 (by decide);rw[h.a.f86]at wE;rw[h.a.f88,hu]at OL;have hgz:=h.a.lt;have es:jB x.P m=jC x.P m:=by unfold jB;rw[aA hu]
 obtain⟨hT,hn,hs⟩:=K7 x m.eD w;have HX:Hid (fI 172 #[fq x.g] (stepW x m.eD w) fun e w1=>e=fM (iW x (jC x.P m).1)/\w1.cell? ⟨w.heap.size+1,0,none⟩=some .nilIface/\w1.frozen? ⟨w.heap.size+1,0,none⟩=false/\Hid (∃f1 jD,MK x (jC x.P m).2 w1 f1 jD/\Fr x (stepW x m.eD w) f va w1 f1 jD/\lX x m.eD w.heap.size w1 .nilIface)):=by obtain⟨j1,j2⟩:=h.same hj hT;refine(HU _ j1).mono ?_;rintro e w1 ⟨rfl,f1,jD,k1,k2⟩;have:=hs.fr' h.a k2;exact⟨rfl,this.c1,this.fr,f1,jD,k1,k2,this⟩
 have HH:Hid (MK x m w f va/\fE (fun _=>False) w (stepW x m.eD w)/\(stepW x m.eD w).heap.size=w.heap.size+3):=⟨h,hT,hn⟩;have wY:=(h.same hj hT).1.a.blk.cell 88 (by decide);rw[h.a.f88,hu]at wY;unfold stepW at HX wY;obtain⟨E,hE⟩:∃E,(jC x.P m).1=E:=⟨_,rfl⟩;obtain⟨M,hM⟩:∃M,(jC x.P m).2=M:=⟨_,rfl⟩;rw[hE,hM]at HX;rw[hE,hM]at hP;go_enter_defers Tryz.func131,Tryz.ntmps131
 go_wp2_with fail;refine aB HX.o ?_;rintro e w1 ⟨rfl,d1,df,H1⟩;have HE:Hid (∀w',gu x (if E=0 then M else{M with eD:=m.eD}) w f va w'->x9 x m w f va (fM (iW x E)) w'):=by
  intro w' hp;unfold x9;rw[es];refine⟨by rw[hE],?_⟩;rw[hM];by_cases h0:E=0;·rw[aA h0]at hp;exact hp
  rw[ah h0,<- hP h0]at hp;exact hp
 by_cases h0:E=0;·have hev:iW x E=.nilIface:=aA h0;rw[hev]at HE |-;go_wp2_with fail;refine leaves_cons (f:=171) (args:=#[.pointer (some ⟨w.heap.size+1,0,none⟩),.pointer (some ⟨w.heap.size+1+1,0,none⟩),fq w.heap.size]) (by simp) (by simp[go_sem]) ?_;obtain⟨f1,jD,k1,k2,k3⟩:=H1.o;have Q:=step_end (e:=E) hj HH.o.1 HH.o.2.1 HH.o.2.2 k1 k2 k3;rw[hev]at Q;refine Q.mono ?_;rintro e' u' w' ⟨rfl,rfl,hc,hp⟩;simp[Leaves,settle,results,Tryz.results131,go_sem,hc];exact HE.o _ hp
 have hev:iW x E=.iface 393 (.pointer (some (x.E E))):=ah h0;rw[hev]at HE |-;go_wp2_with fail;refine leaves_cons (f:=171) (args:=#[.pointer (some ⟨w.heap.size+1,0,none⟩),.pointer (some ⟨w.heap.size+1+1,0,none⟩),fq w.heap.size]) (by simp) (by simp[go_sem]) ?_;obtain⟨f1,jD,k1,k2,k3⟩:=H1.o;have Q:=step_end (e:=E) hj HH.o.1 HH.o.2.1 HH.o.2.2 k1 k2 k3;rw[hev]at Q;refine Q.mono ?_;rintro e' u' w' ⟨rfl,rfl,hc,hp⟩;simp[Leaves,settle,results,Tryz.results131,go_sem,hc];exact HE.o _ hp
theorem yO.read(h:yO x w):∃a c,w.cell? ⟨x.pp,3,none⟩=some (.slice a x.P.ins.length c)/\∀p i,x.P.ins[p]?=some i->∃q,a=some ⟨q,0,none⟩/\w.cell? ⟨q,p*3,none⟩=some (eF (i.k:Int))/\w.cell? ⟨q,p*3+1,none⟩=some (eF (i.a:Int))/\w.cell? ⟨q,p*3+2,none⟩=some (eF (i.b:Int)):=by
 obtain⟨vl,vw,vn,lo,p1,p2,p3,p4,p5,p6,p7⟩:=h.ex;obtain⟨a,n,c,rfl⟩:=lu p4;obtain rfl:=DT p4;refine⟨a,c,by simp[World.cell?,p1],fun p i hi=>?_⟩;obtain⟨hp,hpi⟩:=aT.1 hi;obtain⟨q,c',e⟩:=KH p4 (by omega);cases e;refine⟨q,rfl,?_⟩;have key:∀(l:List fC)(p:Nat)(hp:p<l.length)(o:Nat),o<3->(vQ l)[p*3+o]?=([eF (l[p].k:Int),eF (l[p].a:Int),eF (l[p].b:Int)]:List dZ)[o]?:=by
  intro l;induction l with| nil=>intro p hp;simp at hp| cons v l ih=>
  intro p hp o ho;have e1:vQ (v::l)=[eF (v.k:Int),eF (v.a:Int),eF (v.b:Int)]++vQ l:=rfl;cases p with| zero=>rw[e1,Nat.zero_mul,cZ,bg (by simpa using ho)];rfl| succ p=>
  rw[e1,aY (by simp;omega)];have:=ih p (by simpa using hp) o ho;simp only[aG,aV,List.getElem_cons_succ];rw[<- this];congr 1;omega
 have k0:=key x.P.ins p hp 0 (by decide);have k1:=key x.P.ins p hp 1 (by decide);have k2:=key x.P.ins p hp 2 (by decide);rw[hpi]at k0 k1 k2;exact⟨by rw[p4.cellAt _ (by omega)];exact k0,by rw[p4.cellAt _ (by omega)];exact k1,by rw[p4.cellAt _ (by omega)];exact k2⟩
theorem ze9(hj:jV x)(m:Ms)(w:dY)(f:Nat->dZ)(va:dZ)(h:MK x m w f va)(hu:m.jK=false)(hp:m.eD=x.P.ins.length)(_hl:x.P.ins.length<=10000000):fI 131 #[fq x.g] w (x9 x m w f va):=by
 have Dl:∀(fn:Fn)(first cap:Array dZ)(w:dY),(Instr.makeFunc fn first cap).run Tryz.prog w=.ok (.func fn first cap) w:=fun _ _ _ _=>rfl;have wE:=h.a.blk.cell 86 (by decide);rw[h.a.f86]at wE;have hgz:=h.a.lt;have es:jB x.P m=(0,{m with fin:=1}):=by unfold jB;rw[hu];simp only[hp];simp
 obtain⟨hT,hn,hs⟩:=K7 x m.eD w;obtain⟨j1,j2⟩:=h.same hj hT;have wY:=j1.a.blk.cell 88 (by decide);rw[h.a.f88,hu]at wY;have FX:=j1.a.blk.cell 86 (by decide);rw[h.a.f86]at FX;have hq:((m.eD:Int)==(x.P.ins.length:Int))=true:=by rw[hp];simp
 have e4:=j1.a.blk.cell 4 (by decide);rw[h.a.f4]at e4;obtain⟨a,c,ep,_⟩:=j1.p.read;have e89:=j1.a.blk.cell 89 (by decide);have f89:=j1.a.blk.fr 89;have e0:=hs.c0;have e1:=hs.c1;have OT:=hs.fr;have HX:Hid (∀W,(W=stepW x m.eD w\/W=(stepW x m.eD w).drew)->∃f1,MK x {m with fin:=1} (W.setCell ⟨x.g,89,none⟩ (eF 1)) f1 va/\Fr x (stepW x m.eD w) f va (W.setCell ⟨x.g,89,none⟩ (eF 1)) f1 va/\lX x m.eD w.heap.size (W.setCell ⟨x.g,89,none⟩ (eF 1)) .nilIface):=by
  intro W hW;have hTW:fE (fun _=>False) (stepW x m.eD w) W:=by
   obtain rfl|rfl:=hW;·exact fE.refl _ _
   exact(fE.refl _ _).drew
  obtain⟨i1,i2⟩:=j1.same hj hTW;obtain⟨k1,k2⟩:=i1.TR hj 1;exact⟨_,k1,i2.trans k2,hs.fr' h.a (i2.trans k2)⟩
 have HH:Hid (MK x m w f va/\fE (fun _=>False) w (stepW x m.eD w)/\(stepW x m.eD w).heap.size=w.heap.size+3):=⟨h,hT,hn⟩;have hW:stepW x m.eD w=((w.alloc (.cells #[fq x.g] 71)).alloc (.cells #[.nilIface] 63)).alloc (.cells #[eF (m.eD:Int)] 3):=rfl;rw[hW]at wY;have HE:Hid (∀w',gu x {m with fin:=1} w f va w'->x9 x m w f va (fM .nilIface) w'):=by intro w' hp;unfold x9;rw[es];exact⟨rfl,hp⟩
 clear h hT hn hs j1 j2 hW hp es hu;go_enter_defers Tryz.func131,Tryz.ntmps131
 go_wp2_with fail;change Code.wp _ _ _ _ (stepW x m.eD w);generalize stepW x m.eD w=W at *;clear wY wE;go_region
 all_goals
  go_wp2_with fail;refine leaves_cons (f:=171) (args:=#[.pointer (some ⟨w.heap.size+1,0,none⟩),.pointer (some ⟨w.heap.size+1+1,0,none⟩),fq w.heap.size]) (by simp) (by simp[go_sem]) ?_;obtain⟨f1,k1,k2,k3⟩:=HX.o W.drew (aj rfl);have Q:=step_end (e:=0) hj HH.o.1 HH.o.2.1 HH.o.2.2 k1 k2 k3;rw[show iW x 0=.nilIface from rfl]at Q;refine CallsD.mono Q ?_;clear Q;rintro e' u' w' ⟨rfl,rfl,hc,hp⟩;simp[Leaves,settle,results,Tryz.results131,go_sem,hc];exact HE.o _ hp
