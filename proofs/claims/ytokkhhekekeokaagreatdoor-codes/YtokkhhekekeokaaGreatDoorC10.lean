import Derived.Test.YtokkhhekekeokaaGreatDoorC09
set_option maxRecDepth 100000
set_option maxHeartbeats 4000000
namespace Go.Proofs.YtokkhhekekeokaaGreatDoor
open Go.RowKit Tryz
namespace Ref
open Px
variable {B:Nat}{w:fu}
theorem St.Mw {w':fu}{ok:Nat->Prop}{v:fC}{qs:List Nat}{l:List Sm}(hb:Below B w w')(hok:∀ i,ok i->i < B)(h1:iq w v qs ok)(h2:fV w l ok qs):iq w' v qs ok/\fV w' l ok qs :=
 ⟨h1.keep fun i hi=>hb.block i (hok i hi),h2.keep fun i hi=>hb.block i (hok i hi)⟩
theorem Jx (B c:Nat)(V:Vs)(x:Sm)(hop:x.op=108)(hw:zh x.ex)(hk:zP V x.op x.fD x.ex x.gu x.n):oz B c V 87 x:=by
 intro s w ok q vv vh vl va vp pv hx hok hs hlen hgo hpl hfl hpn hb;obtain ⟨hq,ve,v1,v2,q1,q2,hv,e3,_,_,_,_⟩:=hx;obtain ⟨d0,d1,d2,d3,d4,d5,d6,d7,d8,d9,jT,df⟩:=kG hv;rw[hop] at d0;have oJ:=hok q hq;obtain ⟨ho1,ho2,ho3⟩:=Mt hgo;obtain ⟨ex,k,hex,hke,⟨i,hi,_⟩,_⟩:∃ e k,x.ex=some e/\mG V e k/\Px.okV V x.fD k/\(k=105\/k=98):=by
  rcases hk with h | h | h | h | h | h
  ·exact h.2
  all_goals omega
 have hrun:gT V x s=match lK V s.held ex with
  | none=>{ s with failed:=true }
  | some v=>{ s with held:=nG V s.held x.fD v }:=by unfold gT;rw[if_pos hop,hex];rfl
 rw[hex] at e3;obtain ⟨qe,rfl,hxe⟩:=e3;unfold ptr at d3;have hB:=hs.hB;have hil:i < s.held.length:=by rw[hlen];exact vo hi
 have vT:mO ex:=hw ex hex;have HX:Hid ((∀ i,ok i->i < B)/\ig w ex ok qe/\w.heap[q]?=some (.cells (oI x (ptr qe) v1 v2) 250)/\mO ex/\(∃ k,mG V ex k)/\iK V x.fD=some i):=⟨hok,hxe,hv,vT,⟨k,hke⟩,hi⟩;have HS:Hid (St w B c V s vv vh vl va vp pv []/\s.held.length=V.length/\s.failed=false/\_):=⟨hs,hlen,ho3,hrun⟩;clear hok hxe hv vT hke hi hs hlen ho1 ho2 ho3 hrun hb hgo hk hex hw hfl hpl;go_enter func87,ntmps87
 go_wp2_with fail;refine (Fj B c V ex HX.o.2.2.2.1 s _ ok qe vv vh vl va vp pv [] HX.o.2.1 HX.o.1 HS.o.1 HS.o.2.1 HS.o.2.2.1 HX.o.2.2.2.2.1).mono ?_;rintro e w1 ⟨n,rfl,h1,h2,h3⟩;have b1:Below B w w1:=HS.o.1.wB h1;have su:w1.heap[q]?=_:=(b1.block q oJ).trans HX.o.2.2.1;clear d0 d1 d2 d3 d4 d5 d6 d7 d8 d9 jT df;obtain ⟨m0,m1,m2,m3,m4,m5,m6,m7,m8,m9,m10,mf⟩:=kG su;cases hev:lK V s.held ex with
 | none =>
  obtain ⟨g0,g1,g2,g3,g4,g5,g6,g7,gf⟩:=nk (h3 hev).at_;have hfin:gT V x s={ s with failed:=true }:=by rw[HS.o.2.2.2,hev]
  have H1:Hid (_/\_/\_):=⟨b1,h3 hev,hfin⟩;clear h1 h2 h3 hev b1 su hfin;go_wp2_with fail;go_end0
  rw[H1.o.2.2];exact ⟨rfl,H1.o.1,_,_,_,_,_,H1.o.2.1⟩
 | some v =>
  obtain ⟨rfl,h4⟩:=h2 v hev;obtain ⟨g0,g1,g2,g3,g4,g5,g6,g7,gf⟩:=nk h4.at_;rw[HS.o.2.2.1] at g7;obtain ⟨gh,hcap,rfl,PY,hch,I0⟩:=h4.PD hil;obtain ⟨fa,fn,fc,rfl⟩:=jm h4.vars;have hfin:gT V x s={ s with held:=s.held.set i n }:=by rw[HS.o.2.2.2,hev];unfold nG;rw[HX.o.2.2.2.2.2]
  have H1:Hid (_/\_/\_):=⟨b1,h4,hfin⟩;unfold maxLen at PY;clear h1 h2 h3 hev b1 su hfin h4;go_wp2_with fail;go_region_with (go_at_call 126;refine (PE HX.o.2.2.2.2.2 _ 0 _ _ _ (World.ownsRow.drew H1.o.2.1.vars)).mono ?_;rintro e w4 ⟨rfl,rfl⟩)
  all_goals
   go_wp2_with fail;go_end0
   have hst:=H1.o.2.1.drew.Wn rfl i n;rw[H1.o.2.2];exact ⟨rfl,H1.o.1.trans hst.2.oq,_,_,_,_,_,hst.1⟩
theorem J0 (B c:Nat)(V:Vs)(x:Sm)(hop:x.op=102):oz B c V 87 x:=by
 intro s w ok q vv vh vl va vp pv hx hok hs hlen hgo hpl hfl hpn hb;obtain ⟨hq,ve,v1,v2,q1,q2,hv,e3,_,_,_,_⟩:=hx;obtain ⟨d0,d1,d2,d3,d4,d5,d6,d7,d8,d9,jT,df⟩:=kG hv;obtain ⟨g0,g1,g2,g3,g4,g5,g6,g7,gf⟩:=nk hs.at_;rw[hop] at d0;have HS:Hid (_):=hs;clear hs hok hb hgo hfl hpl hlen;go_enter func87,ntmps87
 go_wp2_with fail;go_end0
 have hfin:gT V x s={ s with failed:=true }:=by unfold gT;rw[if_neg (by omega),if_neg (by omega),if_neg (by omega),if_neg (by omega),if_neg (by omega)]
 rw[hfin];exact ⟨rfl,HS.o.wB (qL (fO.refl _ _) rfl),_,_,_,_,_,HS.o.fails⟩
theorem J1 (B c:Nat)(V:Vs)(x:Sm)(hop:x.op=99)(h:oz B c V 127 x):oz B c V 87 x:=by
 intro s w ok q vv vh vl va vp pv hx hok hs hlen hgo hpl hfl hpn hb;have HH:Hid (Calls prog 127 #[.pointer (some ⟨c,0,none⟩),.pointer (some ⟨q,0,none⟩)] w (gB B c V (gT V x s) vv w)):=h s w ok q vv vh vl va vp pv hx hok hs hlen hgo hpl hfl hpn hb;obtain ⟨hq,ve,v1,v2,q1,q2,hv,e3,_,_,_,_⟩:=hx;obtain ⟨d0,d1,d2,d3,d4,d5,d6,d7,d8,d9,jT,df⟩:=kG hv;rw[hop] at d0;clear hs hok hb hgo hfl hpl hlen h;go_enter func87,ntmps87
 go_wp2_with fail;refine aA HH.o ?_;rintro e w1 ⟨rfl,h1⟩;have H1:Hid (_):=h1;clear h1;go_wp2_with fail;go_end0
 exact ⟨rfl,H1.o⟩
theorem Kb (B c:Nat)(V:Vs)(x:Sm)(hop:x.op=116)(h:oz B c V 128 x):oz B c V 87 x:=by
 intro s w ok q vv vh vl va vp pv hx hok hs hlen hgo hpl hfl hpn hb;have HH:Hid (Calls prog 128 #[.pointer (some ⟨c,0,none⟩),.pointer (some ⟨q,0,none⟩)] w (gB B c V (gT V x s) vv w)):=h s w ok q vv vh vl va vp pv hx hok hs hlen hgo hpl hfl hpn hb;obtain ⟨hq,ve,v1,v2,q1,q2,hv,e3,_,_,_,_⟩:=hx;obtain ⟨d0,d1,d2,d3,d4,d5,d6,d7,d8,d9,jT,df⟩:=kG hv;rw[hop] at d0;clear hs hok hb hgo hfl hpl hlen h;go_enter func87,ntmps87
 go_wp2_with fail;refine aA HH.o ?_;rintro e w1 ⟨rfl,h1⟩;have H1:Hid (_):=h1;clear h1;go_wp2_with fail;go_end0
 exact ⟨rfl,H1.o⟩
theorem Iw (B c:Nat)(V:Vs)(x:Sm)(hop:x.op=105)(hw:zh x.ex)(hk:zP V x.op x.fD x.ex x.gu x.n)(i1:Io B c V x.one)(i2:Io B c V x.two):oz B c V 87 x:=by
 intro s w ok q vv vh vl va vp pv hx hok hs hlen hgo hpl hfl hpn hb;obtain ⟨hq,ve,v1,v2,q1,q2,hv,e3,e4,e5,e6,e7⟩:=hx;obtain ⟨d0,d1,d2,d3,d4,d5,d6,d7,d8,d9,jT,df⟩:=kG hv;rw[hop] at d0;have oJ:=hok q hq;obtain ⟨ho1,ho2,ho3⟩:=Mt hgo;obtain ⟨ex,hex,hke⟩:∃ e,x.ex=some e/\mG V e 98:=by
  rcases hk with h | h | h | h | h | h
  ·omega
  ·omega
  ·exact h.2
  all_goals omega
 have hrun:gT V x s=match lK V s.held ex with
  | none=>{ s with failed:=true }
  | some v=>if v=1 then gJ V x.one s else gJ V x.two s:=by unfold gT;rw[if_neg (by omega),if_neg (by omega),if_pos hop,hex];rfl
 rw[hex] at e3;obtain ⟨qe,rfl,hxe⟩:=e3;unfold ptr at d3;obtain ⟨a1,n1,k1,rfl⟩:∃ a n c,v1=.slice a n c:=by obtain ⟨a,c',h,_⟩:=e4.len;exact ⟨_,_,_,h⟩
 obtain ⟨a2,n2,k2,rfl⟩:∃ a n c,v2=.slice a n c:=by obtain ⟨a,c',h,_⟩:=e6.len;exact ⟨_,_,_,h⟩
 have vT:mO ex:=hw ex hex;have HX:Hid ((∀ i,ok i->i < B)/\ig w ex ok qe/\w.heap[q]?=some (.cells (oI x (ptr qe) (.slice a1 n1 k1) (.slice a2 n2 k2)) 250)/\mO ex/\(∃ k,mG V ex k)/\(iq w (.slice a1 n1 k1) q1 ok/\fV w x.one ok q1)/\(iq w (.slice a2 n2 k2) q2 ok/\fV w x.two ok q2)):=⟨hok,hxe,hv,vT,⟨98,hke⟩,⟨e4,e5⟩,e6,e7⟩;have HS:Hid (St w B c V s vv vh vl va vp pv []/\s.held.length=V.length/\s.failed=false/\gT V x s=_/\s.fG≠[]/\s.fG.flatten.length<=s.fI.length/\(gT V x s).fI.length<=1000000000):=⟨hs,hlen,ho3,hrun,hpl,hfl,hb⟩;clear hok hxe hv vT hke hs hlen ho1 ho2 ho3 hrun hb hgo hk hex hw hfl hpl e4 e5 e6 e7
 go_enter func87,ntmps87
 go_wp2_with fail;refine (Fj B c V ex HX.o.2.2.2.1 s _ ok qe vv vh vl va vp pv [] HX.o.2.1 HX.o.1 HS.o.1 HS.o.2.1 HS.o.2.2.1 HX.o.2.2.2.2.1).mono ?_;rintro e w1 ⟨n,rfl,h1,h2,h3⟩;have b1:Below B w w1:=HS.o.1.wB h1;have su:w1.heap[q]?=_:=(b1.block q oJ).trans HX.o.2.2.1;clear d0 d1 d2 d3 d4 d5 d6 d7 d8 d9 jT df;obtain ⟨m0,m1,m2,m3,m4,m5,m6,m7,m8,m9,m10,mf⟩:=kG su;cases hev:lK V s.held ex with
 | none =>
  obtain ⟨g0,g1,g2,g3,g4,g5,g6,g7,gf⟩:=nk (h3 hev).at_;have hfin:gT V x s={ s with failed:=true }:=by rw[HS.o.2.2.2.1,hev]
  have H1:Hid (_/\_/\_):=⟨b1,h3 hev,hfin⟩;clear h1 h2 h3 hev b1 su hfin;go_wp2_with fail;refine bodyPost_ret (results_none rfl _ _ _) rfl ?_;rw[H1.o.2.2];exact ⟨rfl,H1.o.1,_,_,_,_,_,H1.o.2.1⟩
 | some v =>
  obtain ⟨rfl,h4⟩:=h2 v hev;obtain ⟨g0,g1,g2,g3,g4,g5,g6,g7,gf⟩:=nk h4.at_;rw[HS.o.2.2.1] at g7;have hk1:=St.Mw b1 HX.o.1 HX.o.2.2.2.2.2.1.1 HX.o.2.2.2.2.2.1.2;have hk2:=St.Mw b1 HX.o.1 HX.o.2.2.2.2.2.2.1 HX.o.2.2.2.2.2.2.2;by_cases hn:n=1
  ·subst hn;have hfin:gT V x s=gJ V x.one s:=by rw[HS.o.2.2.2.1,hev];rfl
   have H1:Hid (_/\_/\_/\_):=⟨b1,h4,hfin,hk1⟩;clear h1 h2 h3 hev b1 su hfin h4 hk1 hk2;go_wp2_with fail;refine (i1 s _ ok _ q1 vv vh vl va vp pv H1.o.2.2.2.1 H1.o.2.2.2.2 HX.o.1 H1.o.2.1 HS.o.2.1 HS.o.2.2.2.2.1 HS.o.2.2.2.2.2.1 (by omega) (by rw[<- H1.o.2.2.1];exact HS.o.2.2.2.2.2.2)).mono ?_
   rintro e w2 ⟨rfl,b2,h2⟩;have H2:Hid (_/\_):=⟨b2,h2⟩;clear b2 h2;go_wp2_with fail;go_end0
   rw[H1.o.2.2.1];exact ⟨rfl,H1.o.1.trans H2.o.1,H2.o.2⟩
  ·have hfin:gT V x s=gJ V x.two s:=by rw[HS.o.2.2.2.1,hev];simp only;rw[if_neg hn]
   have H1:Hid (_/\_/\_/\_):=⟨b1,h4,hfin,hk2⟩;clear h1 h2 h3 hev b1 su hfin h4 hk1 hk2;go_wp2_with fail;refine (i2 s _ ok _ q2 vv vh vl va vp pv H1.o.2.2.2.1 H1.o.2.2.2.2 HX.o.1 H1.o.2.1 HS.o.2.1 HS.o.2.2.2.2.1 HS.o.2.2.2.2.2.1 (by omega) (by rw[<- H1.o.2.2.1];exact HS.o.2.2.2.2.2.2)).mono ?_
   rintro e w2 ⟨rfl,b2,h2⟩;have H2:Hid (_/\_):=⟨b2,h2⟩;clear b2 h2;go_wp2_with fail;go_end0
   rw[H1.o.2.2.1];exact ⟨rfl,H1.o.1.trans H2.o.1,H2.o.2⟩
def yh (B c:Nat)(V:Vs)(l:List Sm):Prop:=∀ (s:Rs) (w:fu) (ok:Nat->Prop) (v:fC) (qs:List Nat) (vv vh vl va vp:fC) (pv:List fC),iq w v qs ok->fV w l ok qs->(∀ i,ok i->i < B)->St w B c V s vv vh vl va vp pv []->s.held.length=V.length->s.fG.flatten.length<=s.fI.length->(s.going=true->s.fG≠[]/\s.fG.length+Px.cnt l<=1000000)->(gJ V l s).fI.length<=1000000000 ->
 Calls prog 30 #[.pointer (some ⟨c,0,none⟩),v] w (gB B c V (gJ V l s) vv w)
theorem yh.ok {B c:Nat}{V:Vs}{l:List Sm}(h:yh B c V l):Io B c V l:=fun s w ok v qs vv vh vl va vp pv h1 h2 h3 h4 h5 h6 h7 h8 h9=>h s w ok v qs vv vh vl va vp pv h1 h2 h3 h4 h5 h7 (fun _=>⟨h6,h8⟩) h9
structure Keeps (V:Vs)(N:Nat)(s:Rs):Prop where
 held:s.held.length=V.length
 flat:s.fG.flatten.length<=s.fI.length
 go:s.going=true->s.fG≠[]/\s.fG.length<=N
variable {V:Vs}{s:Rs}
theorem Keeps.step {N:Nat}{f:Rs->Rs}(h:Keeps V N s)(hg:s.going=true)(hf:Px.I3 f):Keeps V N (f s):=by
 obtain ⟨h1,h2⟩:=h.go hg;obtain ⟨a,b,c⟩:=hf s h1 h.flat;refine ⟨by rw[a];exact h.held,b,fun hg'=>?_⟩
 obtain ⟨g1,g2,_⟩:=Mt hg'
 have:=c g1 g2
 refine ⟨hf.ne h1 h.flat g1 g2,by omega⟩
theorem Fw (B c:Nat)(V:Vs)(l:List Sm)(hx:∀ i (hi:i < l.length),oz B c V 87 l[i]):yh B c V l:=by
 intro s w ok v qs vv vh vl va vp pv hs hm hok hst hlen hfl hgo hb;obtain ⟨sa,sc,rfl,hml⟩:=hs.len;unfold maxLen at hml;have nN:=hm.len;generalize hN:1000000 - Px.cnt l=N;have hk0:Keeps V N s/\(s.going=true->N+Px.cnt l<=1000000):=by
  refine ⟨⟨hlen,hfl,fun h=>?_⟩,fun h=>?_⟩
  ·have:=hgo h;exact ⟨this.1,by omega⟩
  ·have:=hgo h;omega
 have H:Hid (iq w (.slice sa qs.length sc) qs ok/\fV w l ok qs/\(∀ i,ok i->i < B)/\St w B c V s vv vh vl va vp pv []/\(gJ V l s).fI.length<=1000000000):=⟨hs,hm,hok,hst,hb⟩;have HX:Hid (∀ i (hi:i < l.length),oz B c V 87 l[i]):=hx;have HLen:Hid (qs.length=l.length):=nN;have HK:Hid (Keeps V N s/\(s.going=true->N+Px.cnt l<=1000000)):=hk0;clear hs hm hok hst hlen hfl hgo hb hx nN hk0 hN;go_enter func30,ntmps30
 go_wp2_with fail;go_loopw [4] (fun i wr=>∃ n:Nat,n<=qs.length/\i=.int .i64 n/\Hid (Below B w wr/\∃ s' vh' vl' va' vp' pv',St wr B c V s' vv vh' vl' va' vp' pv' []/\gJ V (l.drop n) s'=gJ V l s/\Keeps V N s'/\(s'.going=true->N+Px.cnt (l.drop n)<=1000000))) (fun i _=>qs.length - (intOf i).toNat)
 case atStart=>exact ⟨0,by omega,rfl,aH _ _,s,_,_,_,_,_,H.o.2.2.2.1,rfl,HK.o.1,HK.o.2⟩
 case round =>
  obtain ⟨n,hn,rfl,hr⟩:=hrel;obtain ⟨hbr,s',vh',vl',va',vp',pv',hs',he,hk',hc'⟩:=hr.o;clear hr;by_cases hlt:n < qs.length
  ·have hnl:n < l.length:=by have:=HLen.o;omega
   obtain ⟨q,hq1,hq2⟩:=H.o.2.1.get n hnl;obtain ⟨g,cap,hgv,hg,hcell⟩:=H.o.1.cell hq1;cases hgv;have hcr:wr.cell? ⟨g,n,none⟩=some (.pointer (some ⟨q,0,none⟩)):=by rw[hbr.cell (p:=⟨g,n,none⟩) (H.o.2.2.1 g hg)];exact hcell
   have hq3:mh wr l[n] ok q:=hq2.keep fun i hi=>hbr.block i (H.o.2.2.1 i hi)
   have hdrop:l.drop n=l[n]::l.drop (n+1):=cB hnl;rw[hdrop,EF] at he;rw[hdrop,Cq] at hc';have HH:Hid (Below B w wr/\St wr B c V s' vv vh' vl' va' vp' pv' []/\gJ V (l.drop (n+1)) (if s'.going then gT V l[n] s' else s')=gJ V l s/\mh wr l[n] ok q/\Keeps V N s'/\(s'.going=true->N+(1+Px.cnt l[n].one+Px.cnt l[n].two+Px.cnt (l.drop (n+1)))<=1000000)):=⟨hbr,hs',he,hq3,hk',hc'⟩
   clear hbr hs' he hq3 hcell hq2 hdrop hk' hc';cases hgg:s'.going
   ·go_wp2_with fail;refine (Md B c V s' vv vh' vl' va' vp' pv' [] _ HH.o.2.1).mono ?_;rintro e w' ⟨rfl,rfl⟩;rw[hgg];go_wp2_with fail;refine ⟨⟨n+1,by omega,by go_num,HH.o.1,s',_,_,_,_,_,HH.o.2.1,?_,HH.o.2.2.2.2.1,fun h=>by rw[hgg] at h;cases h⟩,by simp[intOf];omega⟩
    have:=HH.o.2.2.1
    rw[hgg] at this;exact this
   ·have HG:Hid (s'.going=true):=hgg;have hb':(gT V l[n] s').fI.length<=1000000000:=by
     have h1:=HH.o.2.2.1;rw[hgg] at h1;have h2:=(CF V (l.drop (n+1)) (gT V l[n] s')).length_le;have h3:=H.o.2.2.2.2;rw[<- h1] at h3;exact aP h2 h3
    have HB:Hid (_):=hb';clear hb';go_wp2_with fail;refine (Md B c V s' vv vh' vl' va' vp' pv' [] _ HH.o.2.1).mono ?_;rintro e w' ⟨rfl,rfl⟩;rw[HG.o];go_wp2_with fail;refine (HX.o n hnl s' _ ok q vv vh' vl' va' vp' pv' HH.o.2.2.2.1 H.o.2.2.1 HH.o.2.1 HH.o.2.2.2.2.1.held HG.o (HH.o.2.2.2.2.1.go HG.o).1 HH.o.2.2.2.2.1.flat ?hcnt HB.o).mono ?_
    case hcnt =>
     have h1:=HH.o.2.2.2.2.2 HG.o;have h2:=(HH.o.2.2.2.2.1.go HG.o).2;omega
    rintro e w1 ⟨rfl,b1,uw,lD,iI,Ab,Ac,h1⟩;have L1:Hid (_/\_):=⟨b1,h1⟩;clear b1 h1;go_wp2_with fail;refine ⟨⟨n+1,by omega,by go_num,HH.o.1.trans L1.o.1,gT V l[n] s',_,_,_,_,_,L1.o.2,?_,HH.o.2.2.2.2.1.step HG.o (VD V l[n] (Bl V _) (Bl V _)),fun _=>?_⟩,by simp[intOf];omega⟩
    ·have:=HH.o.2.2.1
     rw[HG.o] at this;exact this
    ·have:=HH.o.2.2.2.2.2 HG.o
     omega
  ·have hnl:l.drop n=[]:=cZ (by have:=HLen.o;omega)
   rw[hnl,Cy] at he;have HH:Hid (_/\_/\_):=⟨hbr,hs',he⟩;clear hbr hs' he hnl hk' hc';go_wp2_with fail;go_end0
   rw[<- HH.o.2.2];exact ⟨rfl,HH.o.1,_,_,_,_,_,HH.o.2.1⟩
theorem Kd (B c:Nat)(V:Vs)(x:Sm)(hop:x.op=114)(Vp:x.n<=9)(i1:yh B c V x.one):oz B c V 87 x:=by
 intro s w ok q vv vh vl va vp pv hx hok hs hlen hgo hpl hfl hpn hb;obtain ⟨hq,ve,v1,v2,q1,q2,hv,_,e4,e5,_,_⟩:=hx;obtain ⟨d0,d1,d2,d3,d4,d5,d6,d7,d8,d9,jT,df⟩:=kG hv;rw[hop] at d0;have oJ:=hok q hq;have hrun:gT V x s=Px.iter (gJ V x.one) x.n s:=by unfold gT;rw[if_neg (by omega),if_neg (by omega),if_neg (by omega),if_neg (by omega),if_pos hop]
 obtain ⟨a1,n1,k1,rfl⟩:∃ a n c,v1=.slice a n c:=by obtain ⟨a,c',h,_⟩:=e4.len;exact ⟨_,_,_,h⟩
 have hk0:Keeps V s.fG.length s:=⟨hlen,hfl,fun _=>⟨hpl,aj _⟩⟩
 have HX:Hid ((∀ i,ok i->i < B)/\(iq w (.slice a1 n1 k1) q1 ok/\fV w x.one ok q1)/\w.heap[q]?=some (.cells (oI x ve (.slice a1 n1 k1) v2) 250)):=⟨hok,⟨e4,e5⟩,hv⟩;have HS:Hid (St w B c V s vv vh vl va vp pv []/\gT V x s=Px.iter (gJ V x.one) x.n s/\(gT V x s).fI.length<=1000000000/\Keeps V s.fG.length s):=⟨hs,hrun,hb,hk0⟩;clear hok e4 e5 hv hs hrun hb hk0 hlen hgo hpl hfl;go_enter func87,ntmps87
 go_wp2_with fail;go_loopw [6] (fun i wr=>∃ j:Nat,j<=x.n/\i=.int .i64 j/\Hid (Below B w wr/\∃ s' vh' vl' va' vp' pv',St wr B c V s' vv vh' vl' va' vp' pv' []/\Px.iter (gJ V x.one) (x.n - j) s'=gT V x s/\Keeps V s.fG.length s')) (fun i _=>x.n - (intOf i).toNat)
 case atStart=>exact ⟨0,by omega,rfl,aH _ _,s,_,_,_,_,_,HS.o.1,HS.o.2.1.symm,HS.o.2.2.2⟩
 case round =>
  obtain ⟨j,hj,rfl,hr⟩:=hrel;obtain ⟨hbr,s',vh',vl',va',vp',pv',hs',he,hk'⟩:=hr.o;have su:wr.heap[q]?=_:=(hbr.block q oJ).trans HX.o.2.2;clear hr d0 d1 d2 d3 d4 d5 d6 d7 d8 d9 jT df;obtain ⟨d0,d1,d2,d3,d4,d5,d6,d7,d8,d9,jT,df⟩:=kG su;by_cases hlt:j < x.n
  ·obtain ⟨k,hk⟩:∃ k,x.n - j=k+1:=⟨x.n - j - 1,by omega⟩
   have hk2:x.n - (j+1)=k:=by omega
   rw[hk,Px.iter] at he;have hb':(gJ V x.one s').fI.length<=1000000000:=by
    have h2:=(UR (CF V x.one) k (gJ V x.one s')).length_le;rw[he] at h2;have h3:=HS.o.2.2.1;omega
   have hkk:=St.Mw hbr HX.o.1 HX.o.2.1.1 HX.o.2.1.2;have HH:Hid (Below B w wr/\St wr B c V s' vv vh' vl' va' vp' pv' []/\Px.iter (gJ V x.one) k (gJ V x.one s')=gT V x s/\Keeps V s.fG.length s'/\(gJ V x.one s').fI.length<=1000000000/\(iq wr (.slice a1 n1 k1) q1 ok/\fV wr x.one ok q1)):=⟨hbr,hs',he,hk',hb',hkk⟩;clear hbr hs' he hk' hb' hkk su;go_wp2_with fail;refine (i1 s' _ ok _ q1 vv vh' vl' va' vp' pv' HH.o.2.2.2.2.2.1 HH.o.2.2.2.2.2.2 HX.o.1 HH.o.2.1 HH.o.2.2.2.1.held HH.o.2.2.2.1.flat (fun h=>⟨(HH.o.2.2.2.1.go h).1,by have:=(HH.o.2.2.2.1.go h).2;omega⟩) HH.o.2.2.2.2.1).mono ?_
   rintro e w1 ⟨rfl,b1,uw,lD,iI,Ab,Ac,h1⟩;have L1:Hid (_/\_):=⟨b1,h1⟩;clear b1 h1;go_wp2_with fail;refine ⟨⟨j+1,by omega,by go_num,HH.o.1.trans L1.o.1,gJ V x.one s',_,_,_,_,_,L1.o.2,by rw[hk2];exact HH.o.2.2.1,?_⟩,by simp[intOf];omega⟩
   cases hg:s'.going with
   | true=>exact HH.o.2.2.2.1.step hg (Bl V x.one)
   | false=>rw[EH V x.one hg];exact HH.o.2.2.2.1
  ·obtain rfl:j=x.n:=by omega
   rw[eP,Px.iter] at he;have HH:Hid (_/\_/\_):=⟨hbr,hs',he⟩;clear hbr hs' he hk' su;go_wp2_with fail;go_end0
   rw[<- HH.o.2.2];exact ⟨rfl,HH.o.1,_,_,_,_,_,HH.o.2.1⟩
theorem Kf (s:Rs):s.fI <+: (Px.ended s).fI:=gA s
theorem St.Mx {c:Nat}{vv vh vl va vp:fC}{pv ex:List fC}(h:St w B c V s vv vh vl va vp pv ex)(n:Nat):St (w.setCell ⟨c,5,none⟩ (.int .i64 (n:Int))) B c V { s with over:=n } vv vh vl va vp pv ex :=
 h.own (qL (fO.refl _ _) rfl) (by rw[heap_set _ h.at_];simp) rfl rfl rfl rfl
theorem Ks (l:List Sm)(V:Vs)(fK:List Int)(w:fu)(ok:Nat->Prop)(v:fC)(qs:List Nat)(vv av:fC)(h1:iq w v qs ok)(h2:fV w l ok qs)(hok:∀ i,ok i->i < w.heap.size)(hv:w.ownsRow 0 315 2 vv V.length (rP V))(ha:jZ w av fK)(hD:∀ B c,yh B c V l)(hc:Px.cnt l<=999999)(hV:V.length<=1000000)(hb:(Px.play V l fK).fI.length<=1000000000) :
  Calls prog 16 #[v,vv,av] w fun e w'=>∃ c vh vl va vp pv,e=.returned (.pointer (some ⟨c,0,none⟩))/\Below w.heap.size w w'/\St w' w.heap.size c V (Px.play V l fK) vv vh vl va vp pv []:=by
 obtain ⟨sa,sc,rfl,hml⟩:=h1.len;obtain ⟨fa,fn,fc,rfl⟩:=jm hv;obtain ⟨rfl,_⟩:=Ma hv;obtain ⟨ad,PZ,rfl,Kx,hab,hac⟩:=ha;have hmk:=run_make_row' (P:=prog) 22 3 (.int .i64 0) 8 underlying22 PN rfl .i64 .i64 V.length (by omega) (by omega)
 have P6:∀ w:fu,(Instr.makeSlice 57 (.int .i64 1) (.int .i64 1)).run prog w=.ok (.slice (some ⟨w.heap.size,0,none⟩) 1 1) (w.alloc (.cells (madeCells #[.slice none 0 0] 1) 187)):=run_make_row' (P:=prog) 57 187 (.slice none 0 0) 24 underlying57 Mq rfl .i64 .i64 1 (by omega) (by omega)
 have HV:Hid (w.ownsRow 0 315 2 (.slice fa V.length fc) V.length (rP V)/\V.length<=maxLen):=⟨hv,by unfold maxLen;omega⟩
 have HX:Hid ((iq w (.slice sa qs.length sc) qs ok/\fV w l ok qs)/\(∀ i,ok i->i < w.heap.size)/\(∀ B c,yh B c V l)/\(Px.play V l fK).fI.length<=1000000000):=⟨⟨h1,h2⟩,hok,hD,hb⟩;have HA:Hid (∀ i (hi:i < fK.length),∃ a:Addr,ad=some a/\a.block < w.heap.size/\w.cell? (a.add i)=some (.int .i64 fK[i])):=hac;unfold maxLen at Kx hml;clear h1 h2 hok hD hb hac hv;go_enter func16,ntmps16
 go_wp2_with fail;go_cut [7] (fun p wc=>∃ c:Nat,p=.pointer (some ⟨c,0,none⟩)/\Hid (Below w.heap.size w wc/\∃ vh vp,St wc w.heap.size c V ⟨List.replicate V.length 0,[],[],[[]],0,false,false⟩ (.slice fa V.length fc) vh (.slice none 0 0) (.slice none 0 0) vp [.slice none 0 0] []))
 case first =>
  go_region
  all_goals
   go_wp2_with fail;go_meet
   case rel =>
    first
     | exact ⟨w.heap.size+2,rfl,((((aH _ w).alloc (aj _) _).alloc (by simp) _).alloc (by simp;omega) _).drew,_,_,St.start (a:=w.heap.size) (b:=w.heap.size+1) HV.o.1 HV.o.2 ((((fO.refl _ _).alloc _).alloc _).alloc _).drew (by omega) (by omega) (by omega) (by omega) (by omega) (by omega) Fv.1 Fv.2.1 Fv.2.2⟩
     | exact ⟨w.heap.size+2,rfl,((((aH _ w).alloc (aj _) _).alloc (by simp) _).alloc (by simp;omega) _).drew,_,_,St.start (a:=w.heap.size+1) (b:=w.heap.size) HV.o.1 HV.o.2 ((((fO.refl _ _).alloc _).alloc _).alloc _).drew (by omega) (by omega) (by omega) (by omega) (by omega) (by omega) Fv.2.1 Fv.1 Fv.2.2⟩
 case rest =>
 obtain ⟨c,rfl,hcut⟩:=hcut;obtain ⟨hbc,Wv,Ww,hs0⟩:=hcut.o;have H0:Hid (Below w.heap.size w wc/\St wc w.heap.size c V ⟨List.replicate V.length 0,[],[],[[]],0,false,false⟩ (.slice fa V.length fc) Wv (.slice none 0 0) (.slice none 0 0) Ww [.slice none 0 0] []):=⟨hbc,hs0⟩;obtain ⟨i0,hi,hz0,hz1,hz2⟩:=info_parts PN;clear hcut hbc hs0 hmk P6;go_wp2_with fail;go_loopw [8] (fun i wr=>∃ j:Nat,j<=fK.length/\i=.int .i64 j/\Hid (Below w.heap.size w wr/\∃ vl,St wr w.heap.size c V ⟨List.replicate V.length 0,fK.take j,[],[[]],0,false,false⟩ (.slice fa V.length fc) Wv vl (.slice none 0 0) Ww [.slice none 0 0] []/\wr.ownsRow w.heap.size 3 1 vl (fK.take j).length (intCells (fK.take j)))) (fun i _=>fK.length - (intOf i).toNat)
 case atStart=>exact ⟨0,by omega,rfl,H0.o.1,_,H0.o.2,aT _ _ _ _⟩
 case round =>
  obtain ⟨j,hj,rfl,hr⟩:=hrel;obtain ⟨hbr,vl,hs,hrow⟩:=hr.o;obtain ⟨g0,g1,g2,g3,g4,g5,g6,g7,gf⟩:=nk hs.at_;by_cases hlt:j < fK.length
  ·obtain ⟨a,rfl,P7,hac⟩:=HA.o j hlt;have Dk:wr.cell? (a.add j)=some (.int .i64 fK[j]):=by
    have hbl:(a.add j).block < w.heap.size:=by unfold Addr.add;split<;>exact P7
    rw[hbr.cell hbl];exact hac
   have htk:fK.take (j+1)=fK.take j++[fK[j]]:=bg hlt;generalize fK[j]=y at Dk htk hac;obtain ⟨la,ln,lc,rfl⟩:=jm hrow;have hlj:(fK.take j).length=j:=by rw[bU];omega
   have hgc:c < wr.heap.size:=hs.lt;have hga:a.block < wr.heap.size:=by have:=hbr.size;omega
   generalize hA:(Obj.cells #[.int .i64 y] 3)=A;have hW:fO (fun _=>False) wr ((wr.alloc A).drew):=((fO.refl _ _).alloc _).drew
   have O1:Hid (((wr.alloc A).drew).ownsRow w.heap.size 3 1 (.slice la ln lc) (fK.take j).length (intCells (fK.take j))):=gZ hrow hW (fun _ _ h=>h)
   have O2:Hid (∀ j' u,[Value.int .i64 y][j']?=some u->((wr.alloc A).drew).cell? ((⟨wr.heap.size,0,none⟩:Addr).add j')=some u):=Ik (t:=3) (by
    show (wr.heap.push A)[wr.heap.size]?=_
    rw[aB,if_pos rfl,<- hA])
   have O3:Hid (∀ u∈[Value.int .i64 y],u.oneCell'=true):=by intro u hu;simp at hu;subst hu;rfl
   have O4:Hid ((fK.take j).length+1<=maxLen):=by unfold Hid maxLen;omega
   have O5:Hid (((fK.take j).length+1) * 8<=140737488355328):=by unfold Hid;omega
   have O6:Hid (w.heap.size<=((wr.alloc A).drew).heap.size):=by
    have:=hbr.size
    show w.heap.size<=(wr.heap.push A).size
    simp;omega
   have AQ:Hid (_):=hs.G4 y hW;have yg:Hid (wr.heap[c]?=_):=hs.at_;have H3:Hid (Below w.heap.size w wr/\fK.take (j+1)=fK.take j++[y]):=⟨hbr,htk⟩;subst hA;clear hr hbr hs hrow hW htk hac hlj;go_wp2_with fail;go_region_law (refine wR rfl _ _ 22 rfl w.heap.size 3 i0 (.int .i64 0) 1 8 underlying22 hi hz0 hz1 hz2 rfl (bZ 0) _ _ _ rfl O1.o _ 1 1 _ rfl rfl O2.o O3.o O4.o O5.o O6.o ?_;intro v' w3 hown' hgrow hloc;obtain ⟨va',vn',vc',rfl,hc3,HL⟩:=AQ.o v' w3 hown' hgrow hloc;obtain ⟨k0,k1,k2,k3,k4,k5,k6,k7,kf⟩:=nk (hc3.trans yg.o);clear hown' hgrow hloc hc3)
   all_goals
    go_wp2_with fail;refine ⟨⟨j+1,by omega,by go_num,H3.o.1.trans HL.o.2.1,.slice va' vn' vc',by rw[H3.o.2];exact HL.o.1,by rw[H3.o.2];exact HL.o.2.2⟩,by simp[intOf];omega⟩
  ·obtain rfl:j=fK.length:=by omega
   rw[cK] at hs;have hkk:=St.Mw hbr HX.o.2.1 HX.o.1.1 HX.o.1.2;have hbs:(gJ V l ⟨List.replicate V.length 0,fK,[],[[]],0,false,false⟩).fI.length<=1000000000:=by
    have h1:=(Kf (gJ V l ⟨List.replicate V.length 0,fK,[],[[]],0,false,false⟩)).length_le;have h2:=HX.o.2.2.2;unfold Px.play at h2;omega
   have hI:=Bl V l ⟨List.replicate V.length 0,fK,[],[[]],0,false,false⟩ (by simp) (by simp)
   have H1:Hid (_/\_/\_/\_/\_):=⟨hbr,hs,hkk,hbs,hI⟩;clear hr hbr hs hrow hkk hbs hI;go_wp2_with fail;refine (HX.o.2.2.1 w.heap.size c ⟨List.replicate V.length 0,fK,[],[[]],0,false,false⟩ _ ok _ qs _ _ _ _ _ _ H1.o.2.2.1.1 H1.o.2.2.1.2 HX.o.2.1 H1.o.2.1 (by simp) (by simp) (fun _=>⟨by simp,by simp;omega⟩) H1.o.2.2.2.1).mono ?_
   rintro e w1 ⟨rfl,b1,uw,lD,iI,Ab,Ac,h1⟩;have hI:=H1.o.2.2.2.2;have hP:Px.play V l fK=Px.ended (gJ V l ⟨List.replicate V.length 0,fK,[],[[]],0,false,false⟩):=rfl;have hbb:=HX.o.2.2.2;rw[hP] at hbb;generalize gJ V l ⟨List.replicate V.length 0,fK,[],[[]],0,false,false⟩=s1 at h1 hI hP hbb;obtain ⟨y0,y1,y2,y3,y4,y5,y6,y7,yf⟩:=nk h1.at_;have H2:Hid (Below w.heap.size w w1/\St w1 w.heap.size c V s1 (.slice fa V.length fc) uw lD iI Ab Ac []/\Px.play V l fK=Px.ended s1/\(Px.ended s1).fI.length<=1000000000/\(s1.over=0->s1.stop=false->s1.fG.length=1)):=⟨H1.o.1.trans b1,h1,hP,hbb,by simpa using hI.2.2⟩
   clear h1 hI hP hbb b1 g0 g1 g2 g3 g4 g5 g6 g7 gf;by_cases hov:s1.over=0
   ·have t0:((s1.over:Int) != 0)=false:=by rw[hov];rfl
    have HO:Hid (s1.over=0):=hov;clear hov;cases hst:s1.stop
    ·rw[hst] at y6;have zu:Hid (s1.stop=false):=hst;clear hst;cases vM:s1.failed
     ·rw[vM] at y7;have Bw:Hid (s1.failed=false):=vM;clear vM;have hfin:Px.play V l fK={ s1 with over:=1 }:=by
       rw[H2.o.2.2.1];unfold Px.ended;rw[if_neg (by rw[HO.o,zu.o];simp),if_neg (by rw[Bw.o];simp)]
      have H3:Hid (_):=hfin;clear hfin;go_wp2_with fail;go_ret;rw[H3.o];exact ⟨c,_,_,_,_,_,rfl,H2.o.1.trans (H2.o.2.1.wB (qL (fO.refl _ _) rfl)),H2.o.2.1.Mx 1⟩
     ·rw[vM] at y7;have Bw:Hid (s1.failed=true):=vM;clear vM;have hfin:Px.play V l fK=(if (lS s1).over=0/\(lS s1).stop=false then { lS s1 with over:=2 } else lS s1):=by
       rw[H2.o.2.2.1];unfold Px.ended;rw[if_neg (by rw[HO.o,zu.o];simp),if_pos Bw.o]
      have hub:(lS s1).fI.length<=1000000000:=by
       have h3:=H2.o.2.2.2.1;rw[<- H2.o.2.2.1,hfin] at h3;split at h3
       ·exact h3
       ·exact h3
      have hne:s1.fG≠[]:=fun e=>by have h4:=H2.o.2.2.2.2 HO.o zu.o;rw[e] at h4;simp at h4
      have hS2:St ((w1.setCell ⟨c,5,none⟩ (.int .i64 1)).setCell ⟨c,5,none⟩ (.int .i64 0)) w.heap.size c V s1 (.slice fa V.length fc) uw lD iI Ab Ac []:=by
       have h5:=(H2.o.2.1.Mx 1).Mx 0;have e5:({ s1 with over:=0 }:Rs)=s1:=by rw[<- HO.o]
       rw[<- e5];exact h5
      have Wx:Below w.heap.size w ((w1.setCell ⟨c,5,none⟩ (.int .i64 1)).setCell ⟨c,5,none⟩ (.int .i64 0)):=H2.o.1.trans (H2.o.2.1.wB (qL (qL (fO.refl _ _) rfl) rfl));have H3:Hid (_/\_/\_/\_/\_):=⟨hfin,hub,hne,hS2,Wx⟩;clear hfin hub hne hS2 Wx;go_wp2_with fail;refine (Wj w.heap.size c V s1 _ uw lD iI Ab Ac [] _ H3.o.2.2.2.1 H3.o.2.2.1 H3.o.2.1 HO.o).mono ?_;rintro e w2 ⟨rfl,b2,ny,iR,MB,MC,h2⟩;have hfin:=H3.o.1;generalize lS s1=s2 at h2 hfin;obtain ⟨z0,z1,z2,z3,z4,z5,z6,z7,zf⟩:=nk h2.at_;have H4:Hid (_/\_/\_):=⟨H3.o.2.2.2.2.trans b2,h2,hfin⟩
      clear b2 h2 hfin H3 y0 y1 y2 y3 y4 y5 y6 y7 yf;by_cases pX:s2.over=0
      ·have t1:((s2.over:Int) == 0)=true:=by rw[pX];rfl
       have HQ:Hid (s2.over=0):=pX;clear pX;cases tF:s2.stop
       ·rw[tF] at z6;go_wp2_with fail;go_ret;rw[H4.o.2.2,if_pos ⟨HQ.o,tF⟩];exact ⟨c,_,_,_,_,_,rfl,H4.o.1.trans (H4.o.2.1.wB (qL (fO.refl _ _) rfl)),H4.o.2.1.Mx 2⟩
       ·rw[tF] at z6;go_wp2_with fail;go_ret;rw[H4.o.2.2,if_neg (by rw[tF];simp)]
        exact ⟨c,_,_,_,_,_,rfl,H4.o.1,H4.o.2.1⟩
      ·have t1:((s2.over:Int) == 0)=false:=by rw[beq_eq_false_iff_ne];omega
       have HQ:Hid (¬ s2.over=0):=pX;clear pX;go_wp2_with fail;go_ret;rw[H4.o.2.2,if_neg (fun h=>HQ.o h.1)]
       exact ⟨c,_,_,_,_,_,rfl,H4.o.1,H4.o.2.1⟩
    ·rw[hst] at y6;have hfin:Px.play V l fK=s1:=by rw[H2.o.2.2.1];unfold Px.ended;rw[if_pos (ah hst)]
     have H3:Hid (_):=hfin;clear hfin hst;go_wp2_with fail;go_ret;rw[H3.o];exact ⟨c,_,_,_,_,_,rfl,H2.o.1,H2.o.2.1⟩
   ·have t0:((s1.over:Int) != 0)=true:=by rw[bne_iff_ne];omega
    have hfin:Px.play V l fK=s1:=by rw[H2.o.2.2.1];unfold Px.ended;rw[if_pos (ak hov)]
    have H3:Hid (_):=hfin;clear hfin hov;go_wp2_with fail;go_ret;rw[H3.o];exact ⟨c,_,_,_,_,_,rfl,H2.o.1,H2.o.2.1⟩
