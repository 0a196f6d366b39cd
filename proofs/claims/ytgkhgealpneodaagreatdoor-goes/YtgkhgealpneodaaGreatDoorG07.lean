import Derived.Test.YtgkhgealpneodaaGreatDoorG06
set_option maxRecDepth 100000
set_option maxHeartbeats 4000000
namespace Go.Proofs.YtgkhgealpneodaaGreatDoor
open Go.RowKit Tryz
namespace Ref
open Px
def Q9(V:Vs)(x:Sm)(R:Option (Option Int)×Rs):Rs:=
 match R with
 |(none,s1)=>s1
 |(some none,s1)=>{s1 with failed:=true}
 |(some (some v),s1)=>{s1 with held:=if x.gH.size=0 then s1.held else oz V s1.held x.gH v,eU:=if x.undo.size=0 then s1.eU else jq s1.eU [(x.undo,v)]}
theorem zu3{V:Vs}{x:Sm}{s:Rs}{arg:Int}(h:uK V s.held x.ex=some arg):uU V x.eH x.ex x.gH x.undo x.n s=Q9 V x (fT x.eH arg false x.n 1 s):=by rw[uU,h];rfl
theorem zdz(V:Vs)(x:Sm)(R:Option (Option Int)×Rs):(Q9 V x R).eY=R.2.eY:=by obtain⟨o,s1⟩:=R;match o with| none=>rfl| some none=>rfl| some (some v)=>rfl
theorem zuo(B c:Nat)(V:Vs)(x:Sm)(hop:x.op=99)(hw:Aj x.ex)(hk:Bb V x.op x.eH x.ex x.gH x.n):pU B c V 179 x:=by
 intro s w ok q vv vh vl va vp pv hx hok hs hlen hgo hpl hfl hpn hb;obtain⟨hq,ve,v1,v2,q1,q2,hv,e3,_,_,_,_⟩:=hx;obtain⟨d0,d1,d2,d3,d4,d5,d6,d7,d8,d9,kJ,df⟩:=jy hv;have qc:=hok q hq;obtain⟨ho1,ho2,ho3⟩:=Ny hgo;obtain⟨hke,hka,hn1,Qd⟩:Px.okO V x.ex 105/\(x.gH.size=0\/qC V x.gH 105)/\1<=x.n/\x.n<=5:=by
  obtain h|h|h|h|h|h:=hk;·omega
  ·exact h.2
  all_goals omega
 have hrun:iQ V x s=uU V x.eH x.ex x.gH x.undo x.n s:=by unfold iQ;rw[ah (by omega),aA hop]
 have hB:=hs.hB;have hcz:=hs.lt;obtain⟨c0,c1,c2,c3,c4,c5,c6,c7,cf⟩:=oh hs.at_;have HX:Hid ((∀i,ok i->i<B)/\yx w x.ex ok ve/\w.heap[q]?=some (.cells (p9 x ve v1 v2) 172)/\Aj x.ex/\Px.okO V x.ex 105/\(x.gH.size=0\/qC V x.gH 105)):=⟨hok,e3,hv,hw,hke,hka⟩;have HS:Hid (St w B c V s vv vh vl va vp pv []/\s.held.length=V.length/\(s.over=0/\s.stop=false/\s.failed=false)/\s.eU≠[]/\s.eU.flatten.length<=s.eY.length/\iQ V x s=uU V x.eH x.ex x.gH x.undo x.n s/\(iQ V x s).eY.length<=1000000000):=⟨hs,hlen,⟨ho1,ho2,ho3⟩,hpl,hfl,hrun,hb⟩;clear hok e3 hv hw hke hka hs hlen ho1 ho2 ho3 hpl hfl hrun hb hgo hk;obtain⟨pe,rfl⟩:∃pe,ve=.pointer pe:=by have:=HX.o.2.1;cases hx:x.ex with| none=>rw[hx]at this;exact⟨_,this⟩| some e=>rw[hx]at this;obtain⟨qe,h,_⟩:=this;exact⟨_,h⟩
 go_enter func179,ntmps179;go_upto_if 13 with fail
 go_cut [4] (fun a wc=>∃arg,a=eF arg/\Hid (uK V s.held x.ex=some arg/\St wc B c V s vv vh vl va vp pv []/\fE (·=c) w wc))
 case first=>
  cases hex:x.ex with
  |none=>
   have hpe:(Value.pointer pe)=.pointer none:=by have:=HX.o.2.1;rw[hex]at this;exact this
   cases hpe;have HE:Hid _:=hex;clear hex;go_wp2_with fail;go_meet
   case rel=>exact⟨0,rfl,by rw[HE.o];rfl,HS.o.1,fE.refl _ _⟩
  |some ex=>
  obtain⟨qe,hpe,hxe⟩:∃qe,Value.pointer pe=ptr qe/\ji w ex ok qe:=by have:=HX.o.2.1;rw[hex]at this;exact this
  unfold ptr at hpe;cases hpe;have HE:Hid (x.ex=some ex/\ji w ex ok qe):=⟨hex,hxe⟩;clear hex hxe;go_wp2_with fail;refine(GR B c V ex (HX.o.2.2.2.1 ex HE.o.1) s _ ok qe vv vh vl va vp pv [] HE.o.2 HX.o.1 HS.o.1 HS.o.2.1 HS.o.2.2.1.2.2 ⟨105,HX.o.2.2.2.2.1 ex HE.o.1⟩).mono ?_;rintro e w1 ⟨n,rfl,h1,h2,h3⟩;cases hev:ni V s.held ex with
  |none=>
   obtain⟨g0,g1,g2,g3,g4,g5,g6,g7,gf⟩:=oh (h3 hev).at_;have H1:Hid (_/\_/\_):=⟨h1,h3 hev,hev⟩;clear h1 h2 h3 hev;go_wp2_with fail;refine bodyPost_ret (results_none rfl _ _ _) rfl ?_;have hfin:iQ V x s={s with failed:=true}:=by
    have he:uK V s.held x.ex=none:=by rw[HE.o.1];exact H1.o.2.2
    rw[HS.o.2.2.2.2.2.1,uU,he]
   rw[hfin];exact⟨rfl,HS.o.1.xM H1.o.1,_,_,_,_,_,H1.o.2.1⟩
  |some v=>
  obtain⟨rfl,h4⟩:=h2 v hev;obtain⟨g0,g1,g2,g3,g4,g5,g6,g7,gf⟩:=oh h4.at_;rw[HS.o.2.2.1.2.2]at g7;have H1:Hid (_/\_/\_):=⟨h1,h4,hev⟩;clear h1 h2 h3 hev h4;go_wp2_with fail;go_meet
  case rel=>exact⟨_,rfl,by rw[HE.o.1];exact H1.o.2.2,H1.o.2.1,H1.o.1⟩
 case rest=>
 obtain⟨arg,rfl,hC⟩:=hcut;have wT:iQ V x s=Q9 V x (fT x.eH arg false x.n 1 s):=by rw[HS.o.2.2.2.2.2.1,zu3 hC.o.1]
 generalize hR:fT x.eH arg false x.n 1 s=R at wT;have HR:Hid _:=hR;have hRb:R.2.eY.length<=1000000000:=by have h1:=HS.o.2.2.2.2.2.2;rw[wT,zdz]at h1;exact h1
 have HR2:Hid (_/\_):=⟨wT,hRb⟩;clear hR wT hRb c0 c1 c2 c3 c4 c5 c6 c7 cf d0 d1 d2 d3 d4 d5 d6 d7 d8 d9 kJ df;go_wp2_with fail;go_loopw [5] (fun t wr=>∃tt:Nat,1<=tt/\tt<=x.n+1/\t=eF tt/\Hid (Below B w wr/\∃s2 om jO,St wr B c V s2 vv vh om jO vp pv []/\fT x.eH arg false (x.n+1-tt) tt s2=R/\s2.held=s.held/\s2.eU=s.eU/\s.eY.length<=s2.eY.length)) (fun t _=>x.n+1-(intOf t).toNat)
 case atStart=>exact⟨1,by omega,by omega,rfl,HS.o.1.xM hC.o.2.2,s,vl,va,hC.o.2.1,HR.o,rfl,rfl,ay _⟩
 case round=>
  obtain⟨tt,ht1,ht2,rfl,hr⟩:=hrel;obtain⟨hbr,s2,om,jO,hs2,htr,EH,hp2,ha2⟩:=hr.o;have uy:wr.heap[q]?=_:=(hbr.block q qc).trans HX.o.2.2.1;obtain⟨j0,j1,j2,j3,j4,j5,j6,j7,j8,j9,j10,jf⟩:=jy uy;by_cases hlt:tt<=x.n
  ·obtain⟨k,hk⟩:∃k,x.n+1-tt=k+1:=⟨x.n-tt,by omega⟩;have hk2:x.n+1-(tt+1)=k:=by omega
   rw[hk]at htr;have oM:s2.eY.length<=1000000000:=by have h1:s2.eY.length<=(fT x.eH arg false (k+1) tt s2).2.eY.length:=(Me x.eH arg false (k+1) tt s2).length_le;rw[htr]at h1;have h2:=HR2.o.2;omega
   have H2:Hid (Below B w wr/\St wr B c V s2 vv vh om jO vp pv []/\fT x.eH arg false (k+1) tt s2=R/\s2.held=s.held/\s2.eU=s.eU/\s.eY.length<=s2.eY.length):=⟨hbr,hs2,htr,EH,hp2,ha2⟩;clear hr hbr hs2 htr EH hp2 ha2 uy;cases hsl:s2.left with
   |nil=>
    have HE:Hid _:=hsl;have hfin:Hid (iQ V x s={s2 with eY:=s2.eY++[⟨x.eH,arg,tt,false⟩],stop:=true}):=by unfold Hid;rw[HR2.o.1,<- H2.o.2.2.1,fT,Np _ HE.o];rfl
    clear hsl;go_wp2_with fail;refine(Xf B c V ⟨x.eH,arg,tt,false⟩ s2 vv vh om jO _ pv _ _ H2.o.2.1 oM HE.o).mono ?_;rintro e w3 ⟨rfl,oW,zw,h3,t3⟩;have H3:Hid (_/\_):=⟨h3,t3⟩;clear h3 t3;go_wp2_with fail;refine bodyPost_ret (results_none rfl _ _ _) rfl ?_;rw[hfin.o];exact⟨rfl,H2.o.1.trans (H2.o.2.1.GU H3.o.2),_,_,_,_,_,H3.o.1⟩
   |cons y r=>
   have HE:Hid _:=hsl;clear hsl;by_cases hy:0<=y
   ·have ER:Hid (R=(some (some y),{s2 with eY:=s2.eY++[⟨x.eH,arg,tt,false⟩],left:=r})):=by unfold Hid;rw[<- H2.o.2.2.1,fT,GQ _ HE.o];simp only;rw[aA hy]
    go_wp2_with fail;refine(Ns B c V ⟨x.eH,arg,tt,false⟩ s2 vv vh om jO _ pv _ _ H2.o.2.1 oM HE.o).mono ?_;rintro e w3 ⟨rfl,oW,zw,h3,t3⟩;have b3:Below B w w3:=H2.o.1.trans (H2.o.2.1.GU t3);have JE:w3.heap[q]?=_:=(b3.block q qc).trans HX.o.2.2.1;obtain⟨m0,m1,m2,m3,m4,m5,m6,m7,m8,m9,m10,mf⟩:=jy JE;obtain⟨g0,g1,g2,g3,g4,g5,g6,g7,gf⟩:=oh h3.at_;have H3:Hid (_/\_):=⟨h3,b3⟩;clear h3 t3 b3 JE;generalize hs3:({s2 with eY:=s2.eY++[⟨x.eH,arg,tt,false⟩],left:=r}:Rs)=s3 at *;have hh3:s3.held=s.held:=by rw[<- hs3];exact H2.o.2.2.2.1
    have hp3:s3.eU=s.eU:=by rw[<- hs3];exact H2.o.2.2.2.2.1
    have Xo:s.eY.length+1<=s3.eY.length:=by rw[<- hs3];have:=H2.o.2.2.2.2.2;simp only[aC,aS];omega
    have hq3:s3.eY.length<=1000000000:=by have:=HR2.o.2;rw[ER.o]at this;exact this
    have hfin:Hid (iQ V x s={s3 with held:=if x.gH.size=0 then s3.held else oz V s3.held x.gH y,eU:=if x.undo.size=0 then s3.eU else jq s3.eU [(x.undo,y)]}):=by unfold Hid;rw[HR2.o.1,ER.o];rfl
    have HP:Hid (s3.held=s.held/\s3.eU=s.eU/\s.eY.length+1<=s3.eY.length/\s3.eY.length<=1000000000):=⟨hh3,hp3,Xo,hq3⟩;clear hs3 hh3 hp3 Xo hq3;go_upto_if 52 with fail
    go_cut [] (fun wd=>Hid (St wd B c V {s3 with held:=if x.gH.size=0 then s3.held else oz V s3.held x.gH y} vv vh oW zw vp pv []/\Below B w wd))
    case first=>
     cases ha:x.gH.toList.isEmpty
     ·have hz:¬x.gH.size=0:=fun hz=>by
       have:x.gH.toList.isEmpty=true:=by rw[dB,aP];exact bA.1 hz
       rw[this]at ha;cases ha
      obtain⟨i,hi,_⟩:=HX.o.2.2.2.2.2.resolve_left hz;have hil:=wK hi;have Ra:i<s3.held.length:=by rw[HP.o.1,HS.o.2.1];exact hil
      obtain⟨gh,hcap,rfl,Rb,hch,hfh⟩:=H3.o.1.QW Ra;obtain⟨fa,fn,fc,rfl⟩:=lu H3.o.1.vars;have HI:Hid (jG V x.gH=some i/\¬x.gH.size=0):=⟨hi,hz⟩;unfold maxLen at Rb;clear hi hz;go_wp2_with fail;go_region_with (go_at_call 152;refine(QX HI.o.1 _ 0 _ _ _ (World.ownsRow.drew H3.o.1.vars)).mono ?_;rintro e w4 ⟨rfl,rfl⟩)
      all_goals
       go_wp2_with fail;go_meet
       case rel=>
        have hst:=H3.o.1.drew.Xi rfl i y;have e1:(if x.gH.size=0 then s3.held else oz V s3.held x.gH y)=s3.held.set i y:=by rw[ah HI.o.2];unfold oz;rw[HI.o.1]
        rw[Hid,e1];exact⟨hst.1,H3.o.2.trans hst.2.pQ⟩
     have hz:x.gH.size=0:=by rw[dB,aP]at ha;exact bA.2 ha
     go_wp2_with fail;go_meet
     case rel=>
      rw[Hid,aA hz];exact H3.o
    case rest=>
    have JF:wc.heap[q]?=_:=(hcut.o.2.block q qc).trans HX.o.2.2.1;clear m0 m1 m2 m3 m4 m5 m6 m7 m8 m9 m10 mf g0 g1 g2 g3 g4 g5 g6 g7 gf;obtain⟨m0,m1,m2,m3,m4,m5,m6,m7,m8,m9,m10,mf⟩:=jy JF;obtain⟨g0,g1,g2,g3,g4,g5,g6,g7,gf⟩:=oh hcut.o.1.at_;clear JF;cases ha:x.undo.toList.isEmpty
    ·have hz:¬x.undo.size=0:=fun hz=>by
      have:x.undo.toList.isEmpty=true:=by rw[dB,aP];exact bA.1 hz
      rw[this]at ha;cases ha
     have JG:({s3 with held:=if x.gH.size=0 then s3.held else oz V s3.held x.gH y}:Rs).eU≠[]:=by dsimp only;rw[HP.o.2.1];exact HS.o.2.2.2.1
     obtain⟨gp,JH,pn,qv,tv,rfl,hpc,hpm,hpq,rfl,wR,hpe,uz,hpf⟩:=hcut.o.1.Nr JG;dsimp only at hpq hpe;generalize htop:s3.eU.getLastD []=top at hpe;have hlq:qv.length=s3.eU.dropLast.length:=by rw[wR,hpq]
     have hrow:wc.ownsRow B 244 2 tv top.length (rZ top):=hcut.o.1.each pn top tv (by dsimp only;rw[hpe,hpq];simp) (by rw[<- wR];simp);obtain⟨ta,tn,tc,rfl⟩:=lu hrow;have htl:top.length<=1000000000:=by
      have h1:top.length<=s3.eU.flatten.length:=by rw[hpe];simp
      have h2:s3.eU.flatten.length<=s.eY.length:=by rw[HP.o.2.1];exact HS.o.2.2.2.2.1
      have h3:=HP.o.2.2;omega
     obtain⟨i0,hi,hz0,hz1,hz2⟩:=info_parts Xn;generalize hA:(Obj.cells #[.string x.undo,eF y] 244)=A;have hW:fE (fun _=>False) wc ((wc.alloc A).drew):=((fE.refl _ _).alloc _).drew;have O1:Hid (((wc.alloc A).drew).ownsRow B 244 2 (.slice ta tn tc) top.length (rZ top)):=iM hrow hW (fun _ _ h=>h);have O2:Hid (∀j u,[.string x.undo,eF y][j]?=some u->((wc.alloc A).drew).cell? ((⟨wc.heap.size,0,none⟩:Addr).add j)=some u):=Nz (t:=244) (by show(wc.heap.push A)[wc.heap.size]?=_;rw[aD,aA rfl,<- hA]);have O3:Hid (∀u∈[Value.string x.undo,eF y],u.oneCell'=true):=by intro u hu;simp at hu;obtain rfl|rfl:=hu<;>rfl
     have O4:Hid (top.length+1<=maxLen):=by unfold Hid maxLen;omega
     have O5:Hid ((top.length+1)*24<=140737488355328):=by unfold Hid;omega
     have O6:Hid (B<=((wc.alloc A).drew).heap.size):=by have:=hcut.o.1.lt;show B<=(wc.heap.push A).size;simp;omega
     have AQ:Hid _:=hcut.o.1.Nt hpe hpq x.undo y hW;have zy:Hid (wc.heap[c]?=_/\∀w3:dY,w3.heap[gp]?=wc.heap[gp]?->w3.cell? ⟨gp,pn,none⟩=some (.slice ta tn tc)/\∀o,w3.frozen? ⟨gp,o,none⟩=false):=⟨hcut.o.1.at_,fun w3 h3=>⟨(aH (w:=wc) (a:=⟨gp,pn,none⟩) h3).trans uz,fun o=>(cO (w:=wc) (a:=⟨gp,o,none⟩) h3).trans (hpf o)⟩⟩;have HZ:Hid _:=hz;subst hA;unfold maxLen at hpm;have hgpz:gp<wc.heap.size:=lt_of_cell uz;have hczc:c<wc.heap.size:=hcut.o.1.lt;have hqzc:q<wc.heap.size:=lt_of_cell m0;have Xp:((pn:Int)<(pn:Int)+1):=by omega
     clear hW hrow hpe hpq wR hlq htop hz JG;go_wp2_with fail;go_region_law (refine zk rfl _ _ 241 rfl B 244 i0 (.agg #[.string ⟨#[]⟩,eF 0]) 2 24 underlying241 hi hz0 hz1 hz2 rfl (bX 1) _ _ _ rfl O1.o _ 1 1 _ rfl rfl O2.o O3.o O4.o O5.o O6.o ?_;intro v' w3 hown' hgrow hloc;obtain⟨va',vn',vc',rfl,hc3,hg3,HL⟩:=AQ.o v' w3 hown' hgrow hloc;obtain⟨k0,k1,k2,k3,k4,k5,k6,k7,kf⟩:=oh (hc3.trans zy.o.1);obtain⟨kp,Xq⟩:=zy.o.2 w3 hg3;clear hown' hgrow hloc hc3 hg3)
     all_goals
      go_wp2_with fail;refine bodyPost_ret (results_none rfl _ _ _) rfl ?_;rw[hfin.o,ah HZ.o];exact⟨rfl,hcut.o.2.trans HL.o.2,_,_,_,_,_,HL.o.1⟩
    have hz:x.undo.size=0:=by rw[dB,aP]at ha;exact bA.2 ha
    have HZ:Hid _:=hz;clear hz;go_wp2_with fail;refine bodyPost_ret (results_none rfl _ _ _) rfl ?_;rw[hfin.o,aA HZ.o];exact⟨rfl,hcut.o.2,_,_,_,_,_,hcut.o.1⟩
   have ER:Hid (fT x.eH arg false k (tt+1) {s2 with eY:=s2.eY++[⟨x.eH,arg,tt,false⟩],left:=r}=R):=by unfold Hid;rw[<- H2.o.2.2.1,fT,GQ _ HE.o];simp only;rw[ah hy]
   go_wp2_with fail;refine(Ns B c V ⟨x.eH,arg,tt,false⟩ s2 vv vh om jO _ pv _ _ H2.o.2.1 oM HE.o).mono ?_;rintro e w3 ⟨rfl,oW,zw,h3,t3⟩;have H3:Hid (_/\_):=⟨h3,t3⟩;clear h3 t3;go_wp2_with fail;refine⟨⟨tt+1,by omega,by omega,by go_num,H2.o.1.trans (H2.o.2.1.GU H3.o.2),_,oW,zw,H3.o.1,by rw[hk2];exact ER.o,H2.o.2.2.2.1,H2.o.2.2.2.2.1,?_⟩,by simp[intOf];omega⟩;have:=H2.o.2.2.2.2.2;simp only[aC,aS];omega
  obtain rfl:tt=x.n+1:=by omega
  obtain⟨m0,m1,m2,m3,m4,m5,m6,m7,mf⟩:=oh hs2.at_;have H2:Hid (_/\_/\_):=⟨hbr,hs2,htr⟩;clear hr hbr hs2 htr EH hp2 ha2 uy;go_wp2_with fail;go_end0
  have hfin:iQ V x s={s2 with failed:=true}:=by rw[HR2.o.1,<- H2.o.2.2,Nat.sub_self];rfl
  rw[hfin];exact⟨rfl,H2.o.1.trans (H2.o.2.1.xM (r9 (fE.refl _ _) rfl)),_,_,_,_,_,H2.o.2.1.fails⟩
