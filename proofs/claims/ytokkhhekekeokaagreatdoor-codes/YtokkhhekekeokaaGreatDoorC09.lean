import Derived.Test.YtokkhhekekeokaaGreatDoorC08
set_option maxRecDepth 100000
set_option maxHeartbeats 4000000
namespace Go.Proofs.YtokkhhekekeokaaGreatDoor
open Go.RowKit Tryz
namespace Ref
open Px
def PW (V:Vs)(x:Sm)(R:Option (Option Int)×Rs):Rs :=
 match R with
 | (none,s1)=>s1
 | (some none,s1)=>{ s1 with failed:=true }
 | (some (some v),s1)=>{ s1 with held:=if x.gu.size=0 then s1.held else nG V s1.held x.gu v,fG:=if x.undo.size=0 then s1.fG else iA s1.fG [(x.undo,v)] }
theorem It {V:Vs}{x:Sm}{s:Rs}{arg:Int}(h:sN V s.held x.ex=some arg):uG V x.fD x.ex x.gu x.undo x.n s=PW V x (Px.tries x.fD arg false x.n 1 s):=by
 rw[uG,h];rfl
theorem Iv (V:Vs)(x:Sm)(R:Option (Option Int)×Rs):(PW V x R).fI=R.2.fI:=by
 obtain ⟨o,s1⟩:=R;match o with
 | none=>rfl
 | some none=>rfl
 | some (some v)=>rfl
theorem Ix (B c:Nat)(V:Vs)(x:Sm)(hop:x.op=99)(hw:zh x.ex)(hk:zP V x.op x.fD x.ex x.gu x.n):oz B c V 127 x:=by
 intro s w ok q vv vh vl va vp pv hx hok hs hlen hgo hpl hfl hpn hb;obtain ⟨hq,ve,v1,v2,q1,q2,hv,e3,_,_,_,_⟩:=hx;obtain ⟨d0,d1,d2,d3,d4,d5,d6,d7,d8,d9,jT,df⟩:=kG hv;have oJ:=hok q hq;obtain ⟨ho1,ho2,ho3⟩:=Mt hgo;obtain ⟨hke,hka,hn1,lP⟩:Px.okO V x.ex 105/\(x.gu.size=0\/Px.okV V x.gu 105)/\1<=x.n/\x.n<=5:=by
  rcases hk with h | h | h | h | h | h
  ·omega
  ·exact h.2
  all_goals omega
 have hrun:gT V x s=uG V x.fD x.ex x.gu x.undo x.n s:=by unfold gT;rw[if_neg (by omega),if_pos hop]
 have hB:=hs.hB;have hcz:=hs.lt;obtain ⟨c0,c1,c2,c3,c4,c5,c6,c7,cf⟩:=nk hs.at_;have HX:Hid ((∀ i,ok i->i < B)/\wW w x.ex ok ve/\w.heap[q]?=some (.cells (oI x ve v1 v2) 250)/\zh x.ex/\Px.okO V x.ex 105/\(x.gu.size=0\/Px.okV V x.gu 105)):=⟨hok,e3,hv,hw,hke,hka⟩;have HS:Hid (St w B c V s vv vh vl va vp pv []/\s.held.length=V.length/\(s.over=0/\s.stop=false/\s.failed=false)/\s.fG≠[]/\s.fG.flatten.length<=s.fI.length/\gT V x s=uG V x.fD x.ex x.gu x.undo x.n s/\(gT V x s).fI.length<=1000000000):=⟨hs,hlen,⟨ho1,ho2,ho3⟩,hpl,hfl,hrun,hb⟩;clear hok e3 hv hw hke hka hs hlen ho1 ho2 ho3 hpl hfl hrun hb hgo hk
 obtain ⟨pe,rfl⟩:∃ pe,ve=.pointer pe:=by
  have:=HX.o.2.1
  cases hx:x.ex with
  | none=>rw[hx] at this;exact ⟨_,this⟩
  | some e=>rw[hx] at this;obtain ⟨qe,h,_⟩:=this;exact ⟨_,h⟩
 go_enter func127,ntmps127
 go_upto_if 13 with fail
 go_cut [4] (fun a wc=>∃ arg,a=.int .i64 arg/\Hid (sN V s.held x.ex=some arg/\St wc B c V s vv vh vl va vp pv []/\fO (·=c) w wc))
 case first =>
  cases hex:x.ex with
  | none =>
   have hpe:(Value.pointer pe)=.pointer none:=by have:=HX.o.2.1;rw[hex] at this;exact this
   cases hpe;have HE:Hid (_):=hex;clear hex;go_wp2_with fail;go_meet
   case rel=>exact ⟨0,rfl,by rw[HE.o];rfl,HS.o.1,fO.refl _ _⟩
  | some ex =>
   obtain ⟨qe,hpe,hxe⟩:∃ qe,Value.pointer pe=ptr qe/\ig w ex ok qe:=by have:=HX.o.2.1;rw[hex] at this;exact this
   unfold ptr at hpe;cases hpe;have HE:Hid (x.ex=some ex/\ig w ex ok qe):=⟨hex,hxe⟩;clear hex hxe;go_wp2_with fail;refine (Fj B c V ex (HX.o.2.2.2.1 ex HE.o.1) s _ ok qe vv vh vl va vp pv [] HE.o.2 HX.o.1 HS.o.1 HS.o.2.1 HS.o.2.2.1.2.2 ⟨105,HX.o.2.2.2.2.1 ex HE.o.1⟩).mono ?_;rintro e w1 ⟨n,rfl,h1,h2,h3⟩;cases hev:lK V s.held ex with
   | none =>
    obtain ⟨g0,g1,g2,g3,g4,g5,g6,g7,gf⟩:=nk (h3 hev).at_;have H1:Hid (_/\_/\_):=⟨h1,h3 hev,hev⟩;clear h1 h2 h3 hev;go_wp2_with fail;refine bodyPost_ret (results_none rfl _ _ _) rfl ?_;have hfin:gT V x s={ s with failed:=true }:=by
     have he:sN V s.held x.ex=none:=by rw[HE.o.1];exact H1.o.2.2
     rw[HS.o.2.2.2.2.2.1,uG,he]
    rw[hfin];exact ⟨rfl,HS.o.1.wB H1.o.1,_,_,_,_,_,H1.o.2.1⟩
   | some v =>
    obtain ⟨rfl,h4⟩:=h2 v hev;obtain ⟨g0,g1,g2,g3,g4,g5,g6,g7,gf⟩:=nk h4.at_;rw[HS.o.2.2.1.2.2] at g7;have H1:Hid (_/\_/\_):=⟨h1,h4,hev⟩;clear h1 h2 h3 hev h4;go_wp2_with fail;go_meet
    case rel=>exact ⟨_,rfl,by rw[HE.o.1];exact H1.o.2.2,H1.o.2.1,H1.o.1⟩
 case rest =>
 obtain ⟨arg,rfl,hC⟩:=hcut;have vL:gT V x s=PW V x (Px.tries x.fD arg false x.n 1 s):=by rw[HS.o.2.2.2.2.2.1,It hC.o.1]
 generalize hR:Px.tries x.fD arg false x.n 1 s=R at vL;have HR:Hid (_):=hR;have hRb:R.2.fI.length<=1000000000:=by
  have h1:=HS.o.2.2.2.2.2.2;rw[vL,Iv] at h1;exact h1
 have HR2:Hid (_/\_):=⟨vL,hRb⟩;clear hR vL hRb c0 c1 c2 c3 c4 c5 c6 c7 cf d0 d1 d2 d3 d4 d5 d6 d7 d8 d9 jT df;go_wp2_with fail;go_loopw [5] (fun t wr=>∃ tt:Nat,1<=tt/\tt<=x.n+1/\t=.int .i64 tt/\Hid (Below B w wr/\∃ s2 ny iR,St wr B c V s2 vv vh ny iR vp pv []/\Px.tries x.fD arg false (x.n+1 - tt) tt s2=R/\s2.held=s.held/\s2.fG=s.fG/\s.fI.length<=s2.fI.length)) (fun t _=>x.n+1 - (intOf t).toNat)
 case atStart=>exact ⟨1,by omega,by omega,rfl,HS.o.1.wB hC.o.2.2,s,vl,va,hC.o.2.1,HR.o,rfl,rfl,aj _⟩
 case round =>
  obtain ⟨tt,ht1,ht2,rfl,hr⟩:=hrel;obtain ⟨hbr,s2,ny,iR,hs2,htr,Aa,hp2,ha2⟩:=hr.o;have su:wr.heap[q]?=_:=(hbr.block q oJ).trans HX.o.2.2.1;obtain ⟨j0,j1,j2,j3,j4,j5,j6,j7,j8,j9,j10,jf⟩:=kG su;by_cases hlt:tt<=x.n
  ·obtain ⟨k,hk⟩:∃ k,x.n+1 - tt=k+1:=⟨x.n - tt,by omega⟩
   have hk2:x.n+1 - (tt+1)=k:=by omega
   rw[hk] at htr;have nN:s2.fI.length<=1000000000:=by
    have h1:s2.fI.length<=(Px.tries x.fD arg false (k+1) tt s2).2.fI.length:=(K9 x.fD arg false (k+1) tt s2).length_le;rw[htr] at h1;have h2:=HR2.o.2;omega
   have H2:Hid (Below B w wr/\St wr B c V s2 vv vh ny iR vp pv []/\Px.tries x.fD arg false (k+1) tt s2=R/\s2.held=s.held/\s2.fG=s.fG/\s.fI.length<=s2.fI.length):=⟨hbr,hs2,htr,Aa,hp2,ha2⟩;clear hr hbr hs2 htr Aa hp2 ha2 su;cases hsl:s2.left with
   | nil =>
    have HE:Hid (_):=hsl;have hfin:Hid (gT V x s={ s2 with fI:=s2.fI++[⟨x.fD,arg,tt,false⟩],stop:=true }):=by
     unfold Hid;rw[HR2.o.1,<- H2.o.2.2.1,Px.tries,Mf _ HE.o];rfl
    clear hsl;go_wp2_with fail;refine (Wi B c V ⟨x.fD,arg,tt,false⟩ s2 vv vh ny iR _ pv _ _ H2.o.2.1 nN HE.o).mono ?_;rintro e w3 ⟨rfl,nR,xZ,h3,t3⟩;have H3:Hid (_/\_):=⟨h3,t3⟩;clear h3 t3;go_wp2_with fail;refine bodyPost_ret (results_none rfl _ _ _) rfl ?_;rw[hfin.o];exact ⟨rfl,H2.o.1.trans (H2.o.2.1.Fp H3.o.2),_,_,_,_,_,H3.o.1⟩
   | cons y r =>
    have HE:Hid (_):=hsl;clear hsl;by_cases hy:0<=y
    ·have ER:Hid (R=(some (some y),{ s2 with fI:=s2.fI++[⟨x.fD,arg,tt,false⟩],left:=r })):=by
      unfold Hid;rw[<- H2.o.2.2.1,Px.tries,Fh _ HE.o];simp only;rw[if_pos hy]
     go_wp2_with fail;refine (Mj B c V ⟨x.fD,arg,tt,false⟩ s2 vv vh ny iR _ pv _ _ H2.o.2.1 nN HE.o).mono ?_;rintro e w3 ⟨rfl,nR,xZ,h3,t3⟩;have b3:Below B w w3:=H2.o.1.trans (H2.o.2.1.Fp t3);have Ip:w3.heap[q]?=_:=(b3.block q oJ).trans HX.o.2.2.1;obtain ⟨m0,m1,m2,m3,m4,m5,m6,m7,m8,m9,m10,mf⟩:=kG Ip;obtain ⟨g0,g1,g2,g3,g4,g5,g6,g7,gf⟩:=nk h3.at_;have H3:Hid (_/\_):=⟨h3,b3⟩;clear h3 t3 b3 Ip;generalize hs3:({ s2 with fI:=s2.fI++[⟨x.fD,arg,tt,false⟩],left:=r }:Rs)=s3 at *
     have hh3:s3.held=s.held:=by rw[<- hs3];exact H2.o.2.2.2.1
     have hp3:s3.fG=s.fG:=by rw[<- hs3];exact H2.o.2.2.2.2.1
     have Ws:s.fI.length+1<=s3.fI.length:=by
      rw[<- hs3]
      have:=H2.o.2.2.2.2.2
      simp only[ay,aS];omega
     have hq3:s3.fI.length<=1000000000:=by
      have:=HR2.o.2
      rw[ER.o] at this;exact this
     have hfin:Hid (gT V x s={ s3 with held:=if x.gu.size=0 then s3.held else nG V s3.held x.gu y,fG:=if x.undo.size=0 then s3.fG else iA s3.fG [(x.undo,y)] }):=by
      unfold Hid;rw[HR2.o.1,ER.o];rfl
     have HP:Hid (s3.held=s.held/\s3.fG=s.fG/\s.fI.length+1<=s3.fI.length/\s3.fI.length<=1000000000):=⟨hh3,hp3,Ws,hq3⟩;clear hs3 hh3 hp3 Ws hq3;go_upto_if 52 with fail
     go_cut [] (fun wd=>Hid (St wd B c V { s3 with held:=if x.gu.size=0 then s3.held else nG V s3.held x.gu y } vv vh nR xZ vp pv []/\Below B w wd))
     case first =>
      cases ha:x.gu.toList.isEmpty
      ·have hz:¬ x.gu.size=0:=fun hz=>by
        have:x.gu.toList.isEmpty=true:=by rw[dA,aN];exact aY.1 hz
        rw[this] at ha;cases ha
       obtain ⟨i,hi,_⟩:=HX.o.2.2.2.2.2.resolve_left hz;have hil:=vo hi;have PX:i < s3.held.length:=by rw[HP.o.1,HS.o.2.1];exact hil
       obtain ⟨gh,hcap,rfl,PY,hch,I0⟩:=H3.o.1.PD PX;obtain ⟨fa,fn,fc,rfl⟩:=jm H3.o.1.vars;have HI:Hid (iK V x.gu=some i/\¬ x.gu.size=0):=⟨hi,hz⟩;unfold maxLen at PY;clear hi hz;go_wp2_with fail;go_region_with (go_at_call 126;refine (PE HI.o.1 _ 0 _ _ _ (World.ownsRow.drew H3.o.1.vars)).mono ?_;rintro e w4 ⟨rfl,rfl⟩)
       all_goals
        go_wp2_with fail;go_meet
        case rel =>
         have hst:=H3.o.1.drew.Wn rfl i y;have e1:(if x.gu.size=0 then s3.held else nG V s3.held x.gu y)=s3.held.set i y:=by rw[if_neg HI.o.2];unfold nG;rw[HI.o.1]
         rw[Hid,e1];exact ⟨hst.1,H3.o.2.trans hst.2.oq⟩
      ·have hz:x.gu.size=0:=by
        rw[dA,aN] at ha;exact aY.2 ha
       go_wp2_with fail;go_meet
       case rel =>
        rw[Hid,if_pos hz];exact H3.o
     case rest =>
     have Iq:wc.heap[q]?=_:=(hcut.o.2.block q oJ).trans HX.o.2.2.1;clear m0 m1 m2 m3 m4 m5 m6 m7 m8 m9 m10 mf g0 g1 g2 g3 g4 g5 g6 g7 gf;obtain ⟨m0,m1,m2,m3,m4,m5,m6,m7,m8,m9,m10,mf⟩:=kG Iq;obtain ⟨g0,g1,g2,g3,g4,g5,g6,g7,gf⟩:=nk hcut.o.1.at_;clear Iq;cases ha:x.undo.toList.isEmpty
     ·have hz:¬ x.undo.size=0:=fun hz=>by
       have:x.undo.toList.isEmpty=true:=by rw[dA,aN];exact aY.1 hz
       rw[this] at ha;cases ha
      have Ir:({ s3 with held:=if x.gu.size=0 then s3.held else nG V s3.held x.gu y }:Rs).fG≠[]:=by
       dsimp only;rw[HP.o.2.1];exact HS.o.2.2.2.1
      obtain ⟨gp,Iu,pn,qv,tv,rfl,hpc,hpm,hpq,rfl,vI,hpe,sw,hpf⟩:=hcut.o.1.Mi Ir;dsimp only at hpq hpe;generalize htop:s3.fG.getLastD []=top at hpe;have hlq:qv.length=s3.fG.dropLast.length:=by rw[vI,hpq]
      have hrow:wc.ownsRow B 190 2 tv top.length (qK top):=hcut.o.1.each pn top tv (by dsimp only;rw[hpe,hpq];simp) (by rw[<- vI];simp)
      obtain ⟨ta,tn,tc,rfl⟩:=jm hrow;have htl:top.length<=1000000000:=by
       have h1:top.length<=s3.fG.flatten.length:=by rw[hpe];simp
       have h2:s3.fG.flatten.length<=s.fI.length:=by rw[HP.o.2.1];exact HS.o.2.2.2.2.1
       have h3:=HP.o.2.2;omega
      obtain ⟨i0,hi,hz0,hz1,hz2⟩:=info_parts Wq;generalize hA:(Obj.cells #[.string x.undo,.int .i64 y] 190)=A;have hW:fO (fun _=>False) wc ((wc.alloc A).drew):=((fO.refl _ _).alloc _).drew
      have O1:Hid (((wc.alloc A).drew).ownsRow B 190 2 (.slice ta tn tc) top.length (qK top)):=gZ hrow hW (fun _ _ h=>h)
      have O2:Hid (∀ j u,[.string x.undo,.int .i64 y][j]?=some u->((wc.alloc A).drew).cell? ((⟨wc.heap.size,0,none⟩:Addr).add j)=some u):=Mv (t:=190) (by
       show (wc.heap.push A)[wc.heap.size]?=_
       rw[aB,if_pos rfl,<- hA])
      have O3:Hid (∀ u∈[Value.string x.undo,.int .i64 y],u.oneCell'=true):=by intro u hu;simp at hu;rcases hu with rfl | rfl<;>rfl
      have O4:Hid (top.length+1<=maxLen):=by unfold Hid maxLen;omega
      have O5:Hid ((top.length+1) * 24<=140737488355328):=by unfold Hid;omega
      have O6:Hid (B<=((wc.alloc A).drew).heap.size):=by
       have:=hcut.o.1.lt
       show B<=(wc.heap.push A).size
       simp;omega
      have AQ:Hid (_):=hcut.o.1.Ml hpe hpq x.undo y hW;have yg:Hid (wc.heap[c]?=_/\∀ w3:fu,w3.heap[gp]?=wc.heap[gp]?->w3.cell? ⟨gp,pn,none⟩=some (.slice ta tn tc)/\∀ o,w3.frozen? ⟨gp,o,none⟩=false):=⟨hcut.o.1.at_,fun w3 h3=>⟨(aF (w:=wc) (a:=⟨gp,pn,none⟩) h3).trans sw,fun o=>(bQ (w:=wc) (a:=⟨gp,o,none⟩) h3).trans (hpf o)⟩⟩
      have HZ:Hid (_):=hz;subst hA;unfold maxLen at hpm;have I1:gp < wc.heap.size:=lt_of_cell sw;have I2:c < wc.heap.size:=hcut.o.1.lt;have Jn:q < wc.heap.size:=lt_of_cell m0;have Wt:((pn:Int) < (pn:Int)+1):=by omega
      clear hW hrow hpe hpq vI hlq htop hz Ir;go_wp2_with fail;go_region_law (refine wR rfl _ _ 187 rfl B 190 i0 (.agg #[.string ⟨#[]⟩,.int .i64 0]) 2 24 underlying187 hi hz0 hz1 hz2 rfl (bZ 1) _ _ _ rfl O1.o _ 1 1 _ rfl rfl O2.o O3.o O4.o O5.o O6.o ?_;intro v' w3 hown' hgrow hloc;obtain ⟨va',vn',vc',rfl,hc3,hg3,HL⟩:=AQ.o v' w3 hown' hgrow hloc;obtain ⟨k0,k1,k2,k3,k4,k5,k6,k7,kf⟩:=nk (hc3.trans yg.o.1);obtain ⟨kp,Wu⟩:=yg.o.2 w3 hg3;clear hown' hgrow hloc hc3 hg3)
      all_goals
       go_wp2_with fail;refine bodyPost_ret (results_none rfl _ _ _) rfl ?_;rw[hfin.o,if_neg HZ.o];exact ⟨rfl,hcut.o.2.trans HL.o.2,_,_,_,_,_,HL.o.1⟩
     ·have hz:x.undo.size=0:=by
       rw[dA,aN] at ha;exact aY.2 ha
      have HZ:Hid (_):=hz;clear hz;go_wp2_with fail;refine bodyPost_ret (results_none rfl _ _ _) rfl ?_;rw[hfin.o,if_pos HZ.o];exact ⟨rfl,hcut.o.2,_,_,_,_,_,hcut.o.1⟩
    ·have ER:Hid (Px.tries x.fD arg false k (tt+1) { s2 with fI:=s2.fI++[⟨x.fD,arg,tt,false⟩],left:=r }=R):=by
      unfold Hid;rw[<- H2.o.2.2.1,Px.tries,Fh _ HE.o];simp only;rw[if_neg hy]
     go_wp2_with fail;refine (Mj B c V ⟨x.fD,arg,tt,false⟩ s2 vv vh ny iR _ pv _ _ H2.o.2.1 nN HE.o).mono ?_;rintro e w3 ⟨rfl,nR,xZ,h3,t3⟩;have H3:Hid (_/\_):=⟨h3,t3⟩;clear h3 t3;go_wp2_with fail;refine ⟨⟨tt+1,by omega,by omega,by go_num,H2.o.1.trans (H2.o.2.1.Fp H3.o.2),_,nR,xZ,H3.o.1,by rw[hk2];exact ER.o,H2.o.2.2.2.1,H2.o.2.2.2.2.1,?_⟩,by simp[intOf];omega⟩
     have:=H2.o.2.2.2.2.2
     simp only[ay,aS];omega
  ·obtain rfl:tt=x.n+1:=by omega
   obtain ⟨m0,m1,m2,m3,m4,m5,m6,m7,mf⟩:=nk hs2.at_;have H2:Hid (_/\_/\_):=⟨hbr,hs2,htr⟩;clear hr hbr hs2 htr Aa hp2 ha2 su;go_wp2_with fail;go_end0
   have hfin:gT V x s={ s2 with failed:=true }:=by
    rw[HR2.o.1,<- H2.o.2.2,eP];rfl
   rw[hfin];exact ⟨rfl,H2.o.1.trans (H2.o.2.1.wB (qL (fO.refl _ _) rfl)),_,_,_,_,_,H2.o.2.1.fails⟩
