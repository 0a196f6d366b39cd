import Derived.Test.YtgkhgealpneodaaGreatDoorG07
set_option maxRecDepth 100000
set_option maxHeartbeats 4000000
namespace Go.Proofs.YtgkhgealpneodaaGreatDoor
open Go.RowKit Tryz
namespace Ref
open Px
variable{B:Nat}{w:dY}{v:dZ}{l:List Sm}
theorem St.NA{w':dY}{ok:Nat->Prop}{qs:List Nat}(hb:Below B w w')(hok:∀i,ok i->i<B)(h1:jc w v qs ok)(h2:gF w l ok qs):jc w' v qs ok/\gF w' l ok qs:=⟨h1.keep fun i hi=>hb.block i (hok i hi),h2.keep fun i hi=>hb.block i (hok i hi)⟩
theorem zxv(B c:Nat)(V:Vs)(x:Sm)(hop:x.op=108)(hw:Aj x.ex)(hk:Bb V x.op x.eH x.ex x.gH x.n):pU B c V 141 x:=by
 intro s w ok q vv vh vl va vp pv hx hok hs hlen hgo hpl hfl hpn hb;obtain⟨hq,ve,v1,v2,q1,q2,hv,e3,_,_,_,_⟩:=hx;obtain⟨d0,d1,d2,d3,d4,d5,d6,d7,d8,d9,kJ,df⟩:=jy hv;rw[hop]at d0;have qc:=hok q hq;obtain⟨ho1,ho2,ho3⟩:=Ny hgo;obtain⟨ex,k,hex,hke,⟨i,hi,_⟩,_⟩:∃e k,x.ex=some e/\nP V e k/\qC V x.eH k/\(k=105\/k=98):=by
  obtain h|h|h|h|h|h:=hk;·exact h.2
  all_goals omega
 have hrun:iQ V x s=match ni V s.held ex with
  |none=>{s with failed:=true}
  |some v=>{s with held:=oz V s.held x.eH v}:=by unfold iQ;rw[aA hop,hex];rfl
 rw[hex]at e3;obtain⟨qe,rfl,hxe⟩:=e3;unfold ptr at d3;have hB:=hs.hB;have hil:i<s.held.length:=by rw[hlen];exact wK hi
 have xk:nU ex:=hw ex hex;have HX:Hid ((∀i,ok i->i<B)/\ji w ex ok qe/\w.heap[q]?=some (.cells (p9 x (ptr qe) v1 v2) 172)/\nU ex/\(∃k,nP V ex k)/\jG V x.eH=some i):=⟨hok,hxe,hv,xk,⟨k,hke⟩,hi⟩;have HS:Hid (St w B c V s vv vh vl va vp pv []/\s.held.length=V.length/\s.failed=false/\_):=⟨hs,hlen,ho3,hrun⟩;clear hok hxe hv xk hke hi hs hlen ho1 ho2 ho3 hrun hb hgo hk hex hw hfl hpl;go_enter func141,ntmps141;go_wp2_with fail;refine(GR B c V ex HX.o.2.2.2.1 s _ ok qe vv vh vl va vp pv [] HX.o.2.1 HX.o.1 HS.o.1 HS.o.2.1 HS.o.2.2.1 HX.o.2.2.2.2.1).mono ?_;rintro e w1 ⟨n,rfl,h1,h2,h3⟩;have b1:Below B w w1:=HS.o.1.xM h1;have uy:w1.heap[q]?=_:=(b1.block q qc).trans HX.o.2.2.1;clear d0 d1 d2 d3 d4 d5 d6 d7 d8 d9 kJ df;obtain⟨m0,m1,m2,m3,m4,m5,m6,m7,m8,m9,m10,mf⟩:=jy uy;cases hev:ni V s.held ex with
 |none=>
  obtain⟨g0,g1,g2,g3,g4,g5,g6,g7,gf⟩:=oh (h3 hev).at_;have hfin:iQ V x s={s with failed:=true}:=by rw[HS.o.2.2.2,hev]
  have H1:Hid (_/\_/\_):=⟨b1,h3 hev,hfin⟩;clear h1 h2 h3 hev b1 uy hfin;go_wp2_with fail;go_end0
  rw[H1.o.2.2];exact⟨rfl,H1.o.1,_,_,_,_,_,H1.o.2.1⟩
 |some v=>
 obtain⟨rfl,h4⟩:=h2 v hev;obtain⟨g0,g1,g2,g3,g4,g5,g6,g7,gf⟩:=oh h4.at_;rw[HS.o.2.2.1]at g7;obtain⟨gh,hcap,rfl,Rb,hch,hfh⟩:=h4.QW hil;obtain⟨fa,fn,fc,rfl⟩:=lu h4.vars;have hfin:iQ V x s={s with held:=s.held.set i n}:=by rw[HS.o.2.2.2,hev];unfold oz;rw[HX.o.2.2.2.2.2]
 have H1:Hid (_/\_/\_):=⟨b1,h4,hfin⟩;unfold maxLen at Rb;clear h1 h2 h3 hev b1 uy hfin h4;go_wp2_with fail;go_region_with (go_at_call 152;refine(QX HX.o.2.2.2.2.2 _ 0 _ _ _ (World.ownsRow.drew H1.o.2.1.vars)).mono ?_;rintro e w4 ⟨rfl,rfl⟩)
 all_goals
  go_wp2_with fail;go_end0
  have hst:=H1.o.2.1.drew.Xi rfl i n;rw[H1.o.2.2];exact⟨rfl,H1.o.1.trans hst.2.pQ,_,_,_,_,_,hst.1⟩
theorem zun(B c:Nat)(V:Vs)(x:Sm)(hop:x.op=102):pU B c V 141 x:=by
 intro s w ok q vv vh vl va vp pv hx hok hs hlen hgo hpl hfl hpn hb;obtain⟨hq,ve,v1,v2,q1,q2,hv,e3,_,_,_,_⟩:=hx;obtain⟨d0,d1,d2,d3,d4,d5,d6,d7,d8,d9,kJ,df⟩:=jy hv;obtain⟨g0,g1,g2,g3,g4,g5,g6,g7,gf⟩:=oh hs.at_;rw[hop]at d0;have HS:Hid _:=hs;clear hs hok hb hgo hfl hpl hlen;go_enter func141,ntmps141;go_wp2_with fail;go_end0
 have hfin:iQ V x s={s with failed:=true}:=by unfold iQ;rw[ah (by omega),ah (by omega),ah (by omega),ah (by omega),ah (by omega)]
 rw[hfin];exact⟨rfl,HS.o.xM (r9 (fE.refl _ _) rfl),_,_,_,_,_,HS.o.fails⟩
theorem zxs(B c:Nat)(V:Vs)(x:Sm)(hop:x.op=99)(h:pU B c V 179 x):pU B c V 141 x:=by
 intro s w ok q vv vh vl va vp pv hx hok hs hlen hgo hpl hfl hpn hb;have HH:Hid (fI 179 #[fq c,fq q] w (iB B c V (iQ V x s) vv w)):=h s w ok q vv vh vl va vp pv hx hok hs hlen hgo hpl hfl hpn hb;obtain⟨hq,ve,v1,v2,q1,q2,hv,e3,_,_,_,_⟩:=hx;obtain⟨d0,d1,d2,d3,d4,d5,d6,d7,d8,d9,kJ,df⟩:=jy hv;rw[hop]at d0;clear hs hok hb hgo hfl hpl hlen h;go_enter func141,ntmps141;go_wp2_with fail;refine aB HH.o ?_;rintro e w1 ⟨rfl,h1⟩;have H1:Hid _:=h1;clear h1;go_wp2_with fail;go_end0
 exact⟨rfl,H1.o⟩
theorem zuj(B c:Nat)(V:Vs)(x:Sm)(hop:x.op=116)(h:pU B c V 180 x):pU B c V 141 x:=by
 intro s w ok q vv vh vl va vp pv hx hok hs hlen hgo hpl hfl hpn hb;have HH:Hid (fI 180 #[fq c,fq q] w (iB B c V (iQ V x s) vv w)):=h s w ok q vv vh vl va vp pv hx hok hs hlen hgo hpl hfl hpn hb;obtain⟨hq,ve,v1,v2,q1,q2,hv,e3,_,_,_,_⟩:=hx;obtain⟨d0,d1,d2,d3,d4,d5,d6,d7,d8,d9,kJ,df⟩:=jy hv;rw[hop]at d0;clear hs hok hb hgo hfl hpl hlen h;go_enter func141,ntmps141;go_wp2_with fail;refine aB HH.o ?_;rintro e w1 ⟨rfl,h1⟩;have H1:Hid _:=h1;clear h1;go_wp2_with fail;go_end0
 exact⟨rfl,H1.o⟩
theorem JI(B c:Nat)(V:Vs)(x:Sm)(hop:x.op=105)(hw:Aj x.ex)(hk:Bb V x.op x.eH x.ex x.gH x.n)(i1:JD B c V x.one)(i2:JD B c V x.two):pU B c V 141 x:=by
 intro s w ok q vv vh vl va vp pv hx hok hs hlen hgo hpl hfl hpn hb;obtain⟨hq,ve,v1,v2,q1,q2,hv,e3,e4,e5,e6,e7⟩:=hx;obtain⟨d0,d1,d2,d3,d4,d5,d6,d7,d8,d9,kJ,df⟩:=jy hv;rw[hop]at d0;have qc:=hok q hq;obtain⟨ho1,ho2,ho3⟩:=Ny hgo;obtain⟨ex,hex,hke⟩:∃e,x.ex=some e/\nP V e 98:=by
  obtain h|h|h|h|h|h:=hk;·omega
  ·omega
  ·exact h.2
  all_goals omega
 have hrun:iQ V x s=match ni V s.held ex with
  |none=>{s with failed:=true}
  |some v=>if v=1 then ig V x.one s else ig V x.two s:=by unfold iQ;rw[ah (by omega),ah (by omega),aA hop,hex];rfl
 rw[hex]at e3;obtain⟨qe,rfl,hxe⟩:=e3;unfold ptr at d3;obtain⟨a1,n1,k1,rfl⟩:∃a n c,v1=.slice a n c:=by obtain⟨a,c',h,_⟩:=e4.len;exact⟨_,_,_,h⟩
 obtain⟨a2,n2,k2,rfl⟩:∃a n c,v2=.slice a n c:=by obtain⟨a,c',h,_⟩:=e6.len;exact⟨_,_,_,h⟩
 have xk:nU ex:=hw ex hex;have HX:Hid ((∀i,ok i->i<B)/\ji w ex ok qe/\w.heap[q]?=some (.cells (p9 x (ptr qe) (.slice a1 n1 k1) (.slice a2 n2 k2)) 172)/\nU ex/\(∃k,nP V ex k)/\(jc w (.slice a1 n1 k1) q1 ok/\gF w x.one ok q1)/\(jc w (.slice a2 n2 k2) q2 ok/\gF w x.two ok q2)):=⟨hok,hxe,hv,xk,⟨98,hke⟩,⟨e4,e5⟩,e6,e7⟩;have HS:Hid (St w B c V s vv vh vl va vp pv []/\s.held.length=V.length/\s.failed=false/\iQ V x s=_/\s.eU≠[]/\s.eU.flatten.length<=s.eY.length/\(iQ V x s).eY.length<=1000000000):=⟨hs,hlen,ho3,hrun,hpl,hfl,hb⟩;clear hok hxe hv xk hke hs hlen ho1 ho2 ho3 hrun hb hgo hk hex hw hfl hpl e4 e5 e6 e7;go_enter func141,ntmps141;go_wp2_with fail;refine(GR B c V ex HX.o.2.2.2.1 s _ ok qe vv vh vl va vp pv [] HX.o.2.1 HX.o.1 HS.o.1 HS.o.2.1 HS.o.2.2.1 HX.o.2.2.2.2.1).mono ?_;rintro e w1 ⟨n,rfl,h1,h2,h3⟩;have b1:Below B w w1:=HS.o.1.xM h1;have uy:w1.heap[q]?=_:=(b1.block q qc).trans HX.o.2.2.1;clear d0 d1 d2 d3 d4 d5 d6 d7 d8 d9 kJ df;obtain⟨m0,m1,m2,m3,m4,m5,m6,m7,m8,m9,m10,mf⟩:=jy uy;cases hev:ni V s.held ex with
 |none=>
  obtain⟨g0,g1,g2,g3,g4,g5,g6,g7,gf⟩:=oh (h3 hev).at_;have hfin:iQ V x s={s with failed:=true}:=by rw[HS.o.2.2.2.1,hev]
  have H1:Hid (_/\_/\_):=⟨b1,h3 hev,hfin⟩;clear h1 h2 h3 hev b1 uy hfin;go_wp2_with fail;refine bodyPost_ret (results_none rfl _ _ _) rfl ?_;rw[H1.o.2.2];exact⟨rfl,H1.o.1,_,_,_,_,_,H1.o.2.1⟩
 |some v=>
 obtain⟨rfl,h4⟩:=h2 v hev;obtain⟨g0,g1,g2,g3,g4,g5,g6,g7,gf⟩:=oh h4.at_;rw[HS.o.2.2.1]at g7;have hk1:=St.NA b1 HX.o.1 HX.o.2.2.2.2.2.1.1 HX.o.2.2.2.2.2.1.2;have hk2:=St.NA b1 HX.o.1 HX.o.2.2.2.2.2.2.1 HX.o.2.2.2.2.2.2.2;by_cases hn:n=1
 ·subst hn;have hfin:iQ V x s=ig V x.one s:=by rw[HS.o.2.2.2.1,hev];rfl
  have H1:Hid (_/\_/\_/\_):=⟨b1,h4,hfin,hk1⟩;clear h1 h2 h3 hev b1 uy hfin h4 hk1 hk2;go_wp2_with fail;refine(i1 s _ ok _ q1 vv vh vl va vp pv H1.o.2.2.2.1 H1.o.2.2.2.2 HX.o.1 H1.o.2.1 HS.o.2.1 HS.o.2.2.2.2.1 HS.o.2.2.2.2.2.1 (by omega) (by rw[<- H1.o.2.2.1];exact HS.o.2.2.2.2.2.2)).mono ?_;rintro e w2 ⟨rfl,b2,h2⟩;have H2:Hid (_/\_):=⟨b2,h2⟩;clear b2 h2;go_wp2_with fail;go_end0
  rw[H1.o.2.2.1];exact⟨rfl,H1.o.1.trans H2.o.1,H2.o.2⟩
 have hfin:iQ V x s=ig V x.two s:=by rw[HS.o.2.2.2.1,hev];simp only;rw[ah hn]
 have H1:Hid (_/\_/\_/\_):=⟨b1,h4,hfin,hk2⟩;clear h1 h2 h3 hev b1 uy hfin h4 hk1 hk2;go_wp2_with fail;refine(i2 s _ ok _ q2 vv vh vl va vp pv H1.o.2.2.2.1 H1.o.2.2.2.2 HX.o.1 H1.o.2.1 HS.o.2.1 HS.o.2.2.2.2.1 HS.o.2.2.2.2.2.1 (by omega) (by rw[<- H1.o.2.2.1];exact HS.o.2.2.2.2.2.2)).mono ?_;rintro e w2 ⟨rfl,b2,h2⟩;have H2:Hid (_/\_):=⟨b2,h2⟩;clear b2 h2;go_wp2_with fail;go_end0
 rw[H1.o.2.2.1];exact⟨rfl,H1.o.1.trans H2.o.1,H2.o.2⟩
def EK(B c:Nat)(V:Vs)(l:List Sm):Prop:=∀(s:Rs)(w:dY)(ok:Nat->Prop)(v:dZ)(qs:List Nat)(vv vh vl va vp:dZ)(pv:List dZ),jc w v qs ok->gF w l ok qs->(∀i,ok i->i<B)->St w B c V s vv vh vl va vp pv []->s.held.length=V.length->s.eU.flatten.length<=s.eY.length->(s.going=true->s.eU≠[]/\s.eU.length+iJ l<=1000000)->(ig V l s).eY.length<=1000000000 ->
 fI 60 #[fq c,v] w (iB B c V (ig V l s) vv w)
theorem EK.ok{B c:Nat}{V:Vs}{l:List Sm}(h:EK B c V l):JD B c V l:=fun s w ok v qs vv vh vl va vp pv h1 h2 h3 h4 h5 h6 h7 h8 h9=>h s w ok v qs vv vh vl va vp pv h1 h2 h3 h4 h5 h7 (fun _=>⟨h6,h8⟩) h9
structure Keeps(V:Vs)(N:Nat)(s:Rs):Prop where
 held:s.held.length=V.length
 flat:s.eU.flatten.length<=s.eY.length
 go:s.going=true->s.eU≠[]/\s.eU.length<=N
variable{V:Vs}
theorem Keeps.step{N:Nat}{s:Rs}{f:Rs->Rs}(h:Keeps V N s)(hg:s.going=true)(hf:Px.I3 f):Keeps V N (f s):=by obtain⟨h1,h2⟩:=h.go hg;obtain⟨a,b,c⟩:=hf s h1 h.flat;refine⟨by rw[a];exact h.held,b,fun hg'=>?_⟩;obtain⟨g1,g2,_⟩:=Ny hg';have:=c g1 g2;refine⟨hf.ne h1 h.flat g1 g2,by omega⟩
theorem GY(B c:Nat)(V:Vs)(l:List Sm)(hx:∀i(hi:i<l.length),pU B c V 141 l[i]):EK B c V l:=by
 intro s w ok v qs vv vh vl va vp pv hs hm hok hst hlen hfl hgo hb;obtain⟨sa,sc,rfl,hml⟩:=hs.len;unfold maxLen at hml;have oM:=hm.len;generalize hN:1000000-iJ l=N;have hk0:Keeps V N s/\(s.going=true->N+iJ l<=1000000):=by
  refine⟨⟨hlen,hfl,fun h=>?_⟩,fun h=>?_⟩;·have:=hgo h;exact⟨this.1,by omega⟩
  have:=hgo h;omega
 have H:Hid (jc w (.slice sa qs.length sc) qs ok/\gF w l ok qs/\(∀i,ok i->i<B)/\St w B c V s vv vh vl va vp pv []/\(ig V l s).eY.length<=1000000000):=⟨hs,hm,hok,hst,hb⟩;have HX:Hid (∀i(hi:i<l.length),pU B c V 141 l[i]):=hx;have HLen:Hid (qs.length=l.length):=oM;have HK:Hid (Keeps V N s/\(s.going=true->N+iJ l<=1000000)):=hk0;clear hs hm hok hst hlen hfl hgo hb hx oM hk0 hN;go_enter func60,ntmps60;go_wp2_with fail;go_loopw [4] (fun i wr=>∃n:Nat,n<=qs.length/\i=eF n/\Hid (Below B w wr/\∃s' vh' vl' va' vp' pv',St wr B c V s' vv vh' vl' va' vp' pv' []/\ig V (l.drop n) s'=ig V l s/\Keeps V N s'/\(s'.going=true->N+iJ (l.drop n)<=1000000))) (fun i _=>qs.length-(intOf i).toNat)
 case atStart=>exact⟨0,by omega,rfl,aF _ _,s,_,_,_,_,_,H.o.2.2.2.1,rfl,HK.o.1,HK.o.2⟩
 case round=>
  obtain⟨n,hn,rfl,hr⟩:=hrel;obtain⟨hbr,s',vh',vl',va',vp',pv',hs',he,hk',hc'⟩:=hr.o;clear hr;by_cases hlt:n<qs.length
  ·have hnl:n<l.length:=by have:=HLen.o;omega
   obtain⟨q,hq1,hq2⟩:=H.o.2.1.get n hnl;obtain⟨g,cap,hgv,hg,hcell⟩:=H.o.1.cell hq1;cases hgv;have hcr:wr.cell? ⟨g,n,none⟩=some (fq q):=by rw[hbr.cell (p:=⟨g,n,none⟩) (H.o.2.2.1 g hg)];exact hcell
   have hq3:nM wr l[n] ok q:=hq2.keep fun i hi=>hbr.block i (H.o.2.2.1 i hi);have hdrop:l.drop n=l[n]::l.drop (n+1):=bV hnl;rw[hdrop,Ed]at he;rw[hdrop,D8]at hc';have HH:Hid (Below B w wr/\St wr B c V s' vv vh' vl' va' vp' pv' []/\ig V (l.drop (n+1)) (if s'.going then iQ V l[n] s' else s')=ig V l s/\nM wr l[n] ok q/\Keeps V N s'/\(s'.going=true->N+(1+iJ l[n].one+iJ l[n].two+iJ (l.drop (n+1)))<=1000000)):=⟨hbr,hs',he,hq3,hk',hc'⟩;clear hbr hs' he hq3 hcell hq2 hdrop hk' hc';cases hgg:s'.going;·go_wp2_with fail;refine(Nn B c V s' vv vh' vl' va' vp' pv' [] _ HH.o.2.1).mono ?_;rintro e w' ⟨rfl,rfl⟩;rw[hgg];go_wp2_with fail;refine⟨⟨n+1,by omega,by go_num,HH.o.1,s',_,_,_,_,_,HH.o.2.1,?_,HH.o.2.2.2.2.1,fun h=>by rw[hgg]at h;cases h⟩,by simp[intOf];omega⟩;have:=HH.o.2.2.1;rw[hgg]at this;exact this
   have HG:Hid (s'.going=true):=hgg;have hb':(iQ V l[n] s').eY.length<=1000000000:=by have h1:=HH.o.2.2.1;rw[hgg]at h1;have h2:=(Ee V (l.drop (n+1)) (iQ V l[n] s')).length_le;have h3:=H.o.2.2.2.2;rw[<- h1]at h3;exact aK h2 h3
   have HB:Hid _:=hb';clear hb';go_wp2_with fail;refine(Nn B c V s' vv vh' vl' va' vp' pv' [] _ HH.o.2.1).mono ?_;rintro e w' ⟨rfl,rfl⟩;rw[HG.o];go_wp2_with fail;refine(HX.o n hnl s' _ ok q vv vh' vl' va' vp' pv' HH.o.2.2.2.1 H.o.2.2.1 HH.o.2.1 HH.o.2.2.2.2.1.held HG.o (HH.o.2.2.2.2.1.go HG.o).1 HH.o.2.2.2.2.1.flat ?hcnt HB.o).mono ?_;case hcnt=>
    have h1:=HH.o.2.2.2.2.2 HG.o;have h2:=(HH.o.2.2.2.2.1.go HG.o).2;omega
   rintro e w1 ⟨rfl,b1,vP,mQ,jD,Bu,Bv,h1⟩;have L1:Hid (_/\_):=⟨b1,h1⟩;clear b1 h1;go_wp2_with fail;refine⟨⟨n+1,by omega,by go_num,HH.o.1.trans L1.o.1,iQ V l[n] s',_,_,_,_,_,L1.o.2,?_,HH.o.2.2.2.2.1.step HG.o (Wx V l[n] (Bj V _) (Bj V _)),fun _=>?_⟩,by simp[intOf];omega⟩;·have:=HH.o.2.2.1;rw[HG.o]at this;exact this
   have:=HH.o.2.2.2.2.2 HG.o;omega
  have hnl:l.drop n=[]:=dh (by have:=HLen.o;omega);rw[hnl,CP]at he;have HH:Hid (_/\_/\_):=⟨hbr,hs',he⟩;clear hbr hs' he hnl hk' hc';go_wp2_with fail;go_end0
  rw[<- HH.o.2.2];exact⟨rfl,HH.o.1,_,_,_,_,_,HH.o.2.1⟩
theorem zxu(B c:Nat)(V:Vs)(x:Sm)(hop:x.op=114)(Wi:x.n<=9)(i1:EK B c V x.one):pU B c V 141 x:=by
 intro s w ok q vv vh vl va vp pv hx hok hs hlen hgo hpl hfl hpn hb;obtain⟨hq,ve,v1,v2,q1,q2,hv,_,e4,e5,_,_⟩:=hx;obtain⟨d0,d1,d2,d3,d4,d5,d6,d7,d8,d9,kJ,df⟩:=jy hv;rw[hop]at d0;have qc:=hok q hq;have hrun:iQ V x s=jE (ig V x.one) x.n s:=by unfold iQ;rw[ah (by omega),ah (by omega),ah (by omega),ah (by omega),aA hop]
 obtain⟨a1,n1,k1,rfl⟩:∃a n c,v1=.slice a n c:=by obtain⟨a,c',h,_⟩:=e4.len;exact⟨_,_,_,h⟩
 have hk0:Keeps V s.eU.length s:=⟨hlen,hfl,fun _=>⟨hpl,ay _⟩⟩;have HX:Hid ((∀i,ok i->i<B)/\(jc w (.slice a1 n1 k1) q1 ok/\gF w x.one ok q1)/\w.heap[q]?=some (.cells (p9 x ve (.slice a1 n1 k1) v2) 172)):=⟨hok,⟨e4,e5⟩,hv⟩;have HS:Hid (St w B c V s vv vh vl va vp pv []/\iQ V x s=jE (ig V x.one) x.n s/\(iQ V x s).eY.length<=1000000000/\Keeps V s.eU.length s):=⟨hs,hrun,hb,hk0⟩;clear hok e4 e5 hv hs hrun hb hk0 hlen hgo hpl hfl;go_enter func141,ntmps141;go_wp2_with fail;go_loopw [6] (fun i wr=>∃j:Nat,j<=x.n/\i=eF j/\Hid (Below B w wr/\∃s' vh' vl' va' vp' pv',St wr B c V s' vv vh' vl' va' vp' pv' []/\jE (ig V x.one) (x.n-j) s'=iQ V x s/\Keeps V s.eU.length s')) (fun i _=>x.n-(intOf i).toNat)
 case atStart=>exact⟨0,by omega,rfl,aF _ _,s,_,_,_,_,_,HS.o.1,HS.o.2.1.symm,HS.o.2.2.2⟩
 case round=>
  obtain⟨j,hj,rfl,hr⟩:=hrel;obtain⟨hbr,s',vh',vl',va',vp',pv',hs',he,hk'⟩:=hr.o;have uy:wr.heap[q]?=_:=(hbr.block q qc).trans HX.o.2.2;clear hr d0 d1 d2 d3 d4 d5 d6 d7 d8 d9 kJ df;obtain⟨d0,d1,d2,d3,d4,d5,d6,d7,d8,d9,kJ,df⟩:=jy uy;by_cases hlt:j<x.n
  ·obtain⟨k,hk⟩:∃k,x.n-j=k+1:=⟨x.n-j-1,by omega⟩;have hk2:x.n-(j+1)=k:=by omega
   rw[hk,jE]at he;have hb':(ig V x.one s').eY.length<=1000000000:=by have h2:=(VE (Ee V x.one) k (ig V x.one s')).length_le;rw[he]at h2;have h3:=HS.o.2.2.1;omega
   have hkk:=St.NA hbr HX.o.1 HX.o.2.1.1 HX.o.2.1.2;have HH:Hid (Below B w wr/\St wr B c V s' vv vh' vl' va' vp' pv' []/\jE (ig V x.one) k (ig V x.one s')=iQ V x s/\Keeps V s.eU.length s'/\(ig V x.one s').eY.length<=1000000000/\(jc wr (.slice a1 n1 k1) q1 ok/\gF wr x.one ok q1)):=⟨hbr,hs',he,hk',hb',hkk⟩;clear hbr hs' he hk' hb' hkk uy;go_wp2_with fail;refine(i1 s' _ ok _ q1 vv vh' vl' va' vp' pv' HH.o.2.2.2.2.2.1 HH.o.2.2.2.2.2.2 HX.o.1 HH.o.2.1 HH.o.2.2.2.1.held HH.o.2.2.2.1.flat (fun h=>⟨(HH.o.2.2.2.1.go h).1,by have:=(HH.o.2.2.2.1.go h).2;omega⟩) HH.o.2.2.2.2.1).mono ?_;rintro e w1 ⟨rfl,b1,vP,mQ,jD,Bu,Bv,h1⟩;have L1:Hid (_/\_):=⟨b1,h1⟩;clear b1 h1;go_wp2_with fail;refine⟨⟨j+1,by omega,by go_num,HH.o.1.trans L1.o.1,ig V x.one s',_,_,_,_,_,L1.o.2,by rw[hk2];exact HH.o.2.2.1,?_⟩,by simp[intOf];omega⟩;cases hg:s'.going with| true=>exact HH.o.2.2.2.1.step hg (Bj V x.one)| false=>rw[Gm V x.one hg];exact HH.o.2.2.2.1
  obtain rfl:j=x.n:=by omega
  rw[Nat.sub_self,jE]at he;have HH:Hid (_/\_/\_):=⟨hbr,hs',he⟩;clear hbr hs' he hk' uy;go_wp2_with fail;go_end0
  rw[<- HH.o.2.2];exact⟨rfl,HH.o.1,_,_,_,_,_,HH.o.2.1⟩
theorem zdl(s:Rs):s.eY <+: (jH s).eY:=B9 s
theorem St.NC{c:Nat}{s:Rs}{vv vh vl va vp:dZ}{pv ex:List dZ}(h:St w B c V s vv vh vl va vp pv ex)(n:Nat):St (w.setCell ⟨c,5,none⟩ (eF (n:Int))) B c V {s with over:=n} vv vh vl va vp pv ex:=h.own (r9 (fE.refl _ _) rfl) (by rw[heap_set _ h.at_];simp) rfl rfl rfl rfl
theorem zl5(l:List Sm)(V:Vs)(fU:List Int)(w:dY)(ok:Nat->Prop)(v:dZ)(qs:List Nat)(vv av:dZ)(h1:jc w v qs ok)(h2:gF w l ok qs)(hok:∀i,ok i->i<w.heap.size)(hv:w.ownsRow 0 101 2 vv V.length (rY V))(ha:zx w av fU)(hD:∀B c,EK B c V l)(hc:iJ l<=999999)(hV:V.length<=1000000)(hb:(Px.play V l fU).eY.length<=1000000000):fI 32 #[v,vv,av] w fun e w'=>∃c vh vl va vp pv,e=fM (fq c)/\gU w w'/\St w' w.heap.size c V (Px.play V l fU) vv vh vl va vp pv []:=by
 obtain⟨sa,sc,rfl,hml⟩:=h1.len;obtain⟨fa,fn,fc,rfl⟩:=lu hv;obtain⟨rfl,_⟩:=Nk hv;obtain⟨ad,acap,rfl,ham,hab,hac⟩:=ha;have hmk:=run_make_row' (P:=prog) 32 3 (eF 0) 8 underlying32 Nv rfl .i64 .i64 V.length (by omega) (by omega);have hmk2:∀w:dY,(Instr.makeSlice 91 (eF 1) (eF 1)).run prog w=.ok (.slice (some ⟨w.heap.size,0,none⟩) 1 1) (w.alloc (.cells (madeCells #[iE] 1) 241)):=run_make_row' (P:=prog) 91 241 (iE) 24 underlying91 Nu rfl .i64 .i64 1 (by omega) (by omega);have HV:Hid (w.ownsRow 0 101 2 (.slice fa V.length fc) V.length (rY V)/\V.length<=maxLen):=⟨hv,by unfold maxLen;omega⟩;have HX:Hid ((jc w (.slice sa qs.length sc) qs ok/\gF w l ok qs)/\(∀i,ok i->i<w.heap.size)/\(∀B c,EK B c V l)/\(Px.play V l fU).eY.length<=1000000000):=⟨⟨h1,h2⟩,hok,hD,hb⟩;have HA:Hid (∀i(hi:i<fU.length),∃a:Addr,ad=some a/\a.block<w.heap.size/\w.cell? (a.add i)=some (eF fU[i])):=hac;unfold maxLen at ham hml;go_enter func32,ntmps32;go_wp2_with fail;go_cut [7] (fun p wc=>∃c:Nat,p=fq c/\Hid (gU w wc/\∃vh vp,St wc w.heap.size c V ⟨List.replicate V.length 0,[],[],[[]],0,false,false⟩ (.slice fa V.length fc) vh (iE) (iE) vp [iE] []))
 case first=>
  go_region
  all_goals
   go_wp2_with fail;go_meet
   case rel=>
    first
     |exact⟨w.heap.size+2,rfl,((((aF _ w).alloc (ay _) _).alloc (by simp) _).alloc (by simp;omega) _).drew,_,_,St.start (a:=w.heap.size) (b:=w.heap.size+1) HV.o.1 HV.o.2 ((((fE.refl _ _).alloc _).alloc _).alloc _).drew (by omega) (by omega) (by omega) (by omega) (by omega) (by omega) GX.1 GX.2.1 GX.2.2⟩
     |exact⟨w.heap.size+2,rfl,((((aF _ w).alloc (ay _) _).alloc (by simp) _).alloc (by simp;omega) _).drew,_,_,St.start (a:=w.heap.size+1) (b:=w.heap.size) HV.o.1 HV.o.2 ((((fE.refl _ _).alloc _).alloc _).alloc _).drew (by omega) (by omega) (by omega) (by omega) (by omega) (by omega) GX.2.1 GX.1 GX.2.2⟩
 case rest=>
 obtain⟨c,rfl,hcut⟩:=hcut;obtain⟨hbc,Xr,Xt,hs0⟩:=hcut.o;have H0:Hid (gU w wc/\St wc w.heap.size c V ⟨List.replicate V.length 0,[],[],[[]],0,false,false⟩ (.slice fa V.length fc) Xr (iE) (iE) Xt [iE] []):=⟨hbc,hs0⟩;obtain⟨i0,hi,hz0,hz1,hz2⟩:=info_parts Nv;go_wp2_with fail;go_loopw [8] (fun i wr=>∃j:Nat,j<=fU.length/\i=eF j/\Hid (gU w wr/\∃vl,St wr w.heap.size c V ⟨List.replicate V.length 0,fU.take j,[],[[]],0,false,false⟩ (.slice fa V.length fc) Xr vl (iE) Xt [iE] []/\wr.ownsRow w.heap.size 3 1 vl (fU.take j).length (gB (fU.take j)))) (fun i _=>fU.length-(intOf i).toNat)
 case atStart=>exact⟨0,by omega,rfl,H0.o.1,_,H0.o.2,aX _ _ _ _⟩
 case round=>
  obtain⟨j,hj,rfl,hr⟩:=hrel;obtain⟨hbr,vl,hs,hrow⟩:=hr.o;obtain⟨g0,g1,g2,g3,g4,g5,g6,g7,gf⟩:=oh hs.at_;by_cases hlt:j<fU.length
  ·obtain⟨a,rfl,Rf,hac⟩:=HA.o j hlt;have EL:wr.cell? (a.add j)=some (eF fU[j]):=by
    have hbl:(a.add j).block<w.heap.size:=by unfold Addr.add;split<;>exact Rf
    rw[hbr.cell hbl];exact hac
   have htk:fU.take (j+1)=fU.take j++[fU[j]]:=aZ hlt;generalize fU[j]=y at EL htk hac;obtain⟨la,ln,lc,rfl⟩:=lu hrow;have hlj:(fU.take j).length=j:=by rw[bZ];omega
   have hgc:c<wr.heap.size:=hs.lt;have hga:a.block<wr.heap.size:=by have:=hbr.size;omega
   generalize hA:(Obj.cells #[eF y] 3)=A;have hW:fE (fun _=>False) wr ((wr.alloc A).drew):=((fE.refl _ _).alloc _).drew;have O1:Hid (((wr.alloc A).drew).ownsRow w.heap.size 3 1 (.slice la ln lc) (fU.take j).length (gB (fU.take j))):=iM hrow hW (fun _ _ h=>h);have O2:Hid (∀j' u,[Value.int .i64 y][j']?=some u->((wr.alloc A).drew).cell? ((⟨wr.heap.size,0,none⟩:Addr).add j')=some u):=JB (t:=3) (by show(wr.heap.push A)[wr.heap.size]?=_;rw[aD,aA rfl,<- hA]);have O3:Hid (∀u∈[Value.int .i64 y],u.oneCell'=true):=by intro u hu;simp at hu;subst hu;rfl
   have O4:Hid ((fU.take j).length+1<=maxLen):=by unfold Hid maxLen;omega
   have O5:Hid (((fU.take j).length+1)*8<=140737488355328):=by unfold Hid;omega
   have O6:Hid (w.heap.size<=((wr.alloc A).drew).heap.size):=by have:=hbr.size;show w.heap.size<=(wr.heap.push A).size;simp;omega
   have AQ:Hid _:=hs.znk y hW;have zy:Hid (wr.heap[c]?=_):=hs.at_;have H3:Hid (gU w wr/\fU.take (j+1)=fU.take j++[y]):=⟨hbr,htk⟩;subst hA;go_wp2_with fail;go_region_law (refine zk rfl _ _ 32 rfl w.heap.size 3 i0 (eF 0) 1 8 underlying32 hi hz0 hz1 hz2 rfl (bX 0) _ _ _ rfl O1.o _ 1 1 _ rfl rfl O2.o O3.o O4.o O5.o O6.o ?_;intro v' w3 hown' hgrow hloc;obtain⟨va',vn',vc',rfl,hc3,HL⟩:=AQ.o v' w3 hown' hgrow hloc;obtain⟨k0,k1,k2,k3,k4,k5,k6,k7,kf⟩:=oh (hc3.trans zy.o);clear hown' hgrow hloc hc3)
   all_goals
    go_wp2_with fail;refine⟨⟨j+1,by omega,by go_num,H3.o.1.trans HL.o.2.1,.slice va' vn' vc',by rw[H3.o.2];exact HL.o.1,by rw[H3.o.2];exact HL.o.2.2⟩,by simp[intOf];omega⟩
  obtain rfl:j=fU.length:=by omega
  rw[dH]at hs;have hkk:=St.NA hbr HX.o.2.1 HX.o.1.1 HX.o.1.2;have hbs:(ig V l ⟨List.replicate V.length 0,fU,[],[[]],0,false,false⟩).eY.length<=1000000000:=by have h1:=(zdl (ig V l ⟨List.replicate V.length 0,fU,[],[[]],0,false,false⟩)).length_le;have h2:=HX.o.2.2.2;unfold Px.play at h2;omega
  have hI:=Bj V l ⟨List.replicate V.length 0,fU,[],[[]],0,false,false⟩ (by simp) (by simp);have H1:Hid (_/\_/\_/\_/\_):=⟨hbr,hs,hkk,hbs,hI⟩;go_wp2_with fail;refine(HX.o.2.2.1 w.heap.size c ⟨List.replicate V.length 0,fU,[],[[]],0,false,false⟩ _ ok _ qs _ _ _ _ _ _ H1.o.2.2.1.1 H1.o.2.2.1.2 HX.o.2.1 H1.o.2.1 (by simp) (by simp) (fun _=>⟨by simp,by simp;omega⟩) H1.o.2.2.2.1).mono ?_;rintro e w1 ⟨rfl,b1,vP,mQ,jD,Bu,Bv,h1⟩;have hI:=H1.o.2.2.2.2;have hP:Px.play V l fU=jH (ig V l ⟨List.replicate V.length 0,fU,[],[[]],0,false,false⟩):=rfl;have hbb:=HX.o.2.2.2;rw[hP]at hbb;generalize ig V l ⟨List.replicate V.length 0,fU,[],[[]],0,false,false⟩=s1 at h1 hI hP hbb;obtain⟨y0,y1,y2,y3,y4,y5,y6,y7,yf⟩:=oh h1.at_;have H2:Hid (gU w w1/\St w1 w.heap.size c V s1 (.slice fa V.length fc) vP mQ jD Bu Bv []/\Px.play V l fU=jH s1/\(jH s1).eY.length<=1000000000/\(s1.over=0->s1.stop=false->s1.eU.length=1)):=⟨H1.o.1.trans b1,h1,hP,hbb,by simpa using hI.2.2⟩;by_cases hov:s1.over=0
  ·have t0:((s1.over:Int) != 0)=false:=by rw[hov];rfl
   have HO:Hid (s1.over=0):=hov;cases hst:s1.stop
   ·rw[hst]at y6;have yA:Hid (s1.stop=false):=hst;cases yB:s1.failed
    ·rw[yB]at y7;have Dc:Hid (s1.failed=false):=yB;have hfin:Px.play V l fU={s1 with over:=1}:=by rw[H2.o.2.2.1];unfold jH;rw[ah (by rw[HO.o,yA.o];simp),ah (by rw[Dc.o];simp)]
     have H3:Hid _:=hfin;go_wp2_with fail;go_ret;rw[H3.o];exact⟨c,_,_,_,_,_,rfl,H2.o.1.trans (H2.o.2.1.xM (r9 (fE.refl _ _) rfl)),H2.o.2.1.NC 1⟩
    rw[yB]at y7;have Dc:Hid (s1.failed=true):=yB;have hfin:Px.play V l fU=(if(mM s1).over=0/\(mM s1).stop=false then{mM s1 with over:=2}else mM s1):=by rw[H2.o.2.2.1];unfold jH;rw[ah (by rw[HO.o,yA.o];simp),aA Dc.o]
    have hub:(mM s1).eY.length<=1000000000:=by
     have h3:=H2.o.2.2.2.1;rw[<- H2.o.2.2.1,hfin]at h3;split at h3;·exact h3
     exact h3
    have hne:s1.eU≠[]:=fun e=>by have h4:=H2.o.2.2.2.2 HO.o yA.o;rw[e]at h4;simp at h4
    have hS2:St ((w1.setCell ⟨c,5,none⟩ (eF 1)).setCell ⟨c,5,none⟩ (eF 0)) w.heap.size c V s1 (.slice fa V.length fc) vP mQ jD Bu Bv []:=by
     have h5:=(H2.o.2.1.NC 1).NC 0;have e5:({s1 with over:=0}:Rs)=s1:=by rw[<- HO.o]
     rw[<- e5];exact h5
    have bS2:gU w ((w1.setCell ⟨c,5,none⟩ (eF 1)).setCell ⟨c,5,none⟩ (eF 0)):=H2.o.1.trans (H2.o.2.1.xM (r9 (r9 (fE.refl _ _) rfl) rfl));have H3:Hid (_/\_/\_/\_/\_):=⟨hfin,hub,hne,hS2,bS2⟩;go_wp2_with fail;refine(Xg w.heap.size c V s1 _ vP mQ jD Bu Bv [] _ H3.o.2.2.2.1 H3.o.2.2.1 H3.o.2.1 HO.o).mono ?_;rintro e w2 ⟨rfl,b2,om,jO,ND,NG,h2⟩;have hfin:=H3.o.1;generalize mM s1=s2 at h2 hfin;obtain⟨z0,z1,z2,z3,z4,z5,z6,z7,zf⟩:=oh h2.at_;have H4:Hid (_/\_/\_):=⟨H3.o.2.2.2.2.trans b2,h2,hfin⟩;by_cases sO:s2.over=0
    ·have t1:((s2.over:Int)==0)=true:=by rw[sO];rfl
     have HQ:Hid (s2.over=0):=sO;cases xP:s2.stop;·rw[xP]at z6;go_wp2_with fail;go_ret;rw[H4.o.2.2,aA ⟨HQ.o,xP⟩];exact⟨c,_,_,_,_,_,rfl,H4.o.1.trans (H4.o.2.1.xM (r9 (fE.refl _ _) rfl)),H4.o.2.1.NC 2⟩
     rw[xP]at z6;go_wp2_with fail;go_ret;rw[H4.o.2.2,ah (by rw[xP];simp)];exact⟨c,_,_,_,_,_,rfl,H4.o.1,H4.o.2.1⟩
    have t1:((s2.over:Int)==0)=false:=by rw[beq_eq_false_iff_ne];omega
    have HQ:Hid (¬s2.over=0):=sO;go_wp2_with fail;go_ret;rw[H4.o.2.2,ah (fun h=>HQ.o h.1)];exact⟨c,_,_,_,_,_,rfl,H4.o.1,H4.o.2.1⟩
   rw[hst]at y6;have hfin:Px.play V l fU=s1:=by rw[H2.o.2.2.1];unfold jH;rw[aA (aj hst)]
   have H3:Hid _:=hfin;go_wp2_with fail;go_ret;rw[H3.o];exact⟨c,_,_,_,_,_,rfl,H2.o.1,H2.o.2.1⟩
  have t0:((s1.over:Int) != 0)=true:=by rw[bne_iff_ne];omega
  have hfin:Px.play V l fU=s1:=by rw[H2.o.2.2.1];unfold jH;rw[aA (ak hov)]
  have H3:Hid _:=hfin;go_wp2_with fail;go_ret;rw[H3.o];exact⟨c,_,_,_,_,_,rfl,H2.o.1,H2.o.2.1⟩
def zvo(s:dX)(w:dY)(e:Ending)(w':dY):Prop:=
 gU w w'/\∃a n c a' n' c',e=fM (.tuple #[.slice a n c,.slice a' n' c',eF ((gI s).1:Int),eF ((gI s).2:Int)]) /\
  ((gI s).1=0->∃l qs,Px.read s=.ok l/\jc w' (.slice a n c) qs (gD w w')/\gF w' l (gD w w') qs/\w'.ownsRow w.heap.size 101 2 (.slice a' n' c') (jv l ⟨[],0,0⟩).vars.length (rY (jv l ⟨[],0,0⟩).vars))
theorem JK{base b:Nat}{e:TypeId}{size:Nat}{n:Nat}{xs:List dZ}(h:w.ownsRow base e size v n xs)(hb:b<=base):w.ownsRow b e size v n xs:=by
 obtain⟨h1,h2⟩:=h;refine⟨h1,?_⟩;obtain h2|⟨g,cap,cur,hv,hg,r⟩:=h2;·exact ak h2
 exact aj ⟨g,cap,cur,hv,aK hb hg,r⟩
theorem qx6(s:dX)(w:dY)(hs:s.size<=maxLen):fI 7 #[.string s] w (zvo s w):=by
 go_enter func7,ntmps7;go_wp2_with fail;refine(Xm s _ hs).mono ?_;rintro e w1 ⟨hb,a,n,c,x,p,rfl,hr⟩;cases hrd:Px.read s with
 |error r=>
  obtain⟨c',p'⟩:=r;rw[hrd]at hr;obtain⟨rfl,rfl,rfl,rfl,rfl⟩:=hr;have hx0:x≠0:=by
   unfold Px.read at hrd;split at hrd;·cases hrd;omega
   split at hrd;·cases hrd;omega
   split at hrd;·cases hrd;omega
   cases hrd
  have t1:((x:Int) != 0)=true:=by rw[bne_iff_ne];omega
  have ck:Hid (gI s=(x,p)):=by unfold Hid gI;rw[hrd]
  have B:Hid _:=hb;go_wp2_with fail;refine bodyPost_ret (v:=.tuple #[iE,iE,eF (x:Int),eF (p:Int)]) (by simp[results,results7,go_sem]) rfl ?_;refine⟨B.o,none,0,0,none,0,0,by rw[ck.o],fun h=>?_⟩;rw[ck.o]at h;exact absurd h hx0
 |ok l=>
 rw[hrd]at hr;obtain⟨rfl,rfl,qs,h1,h2⟩:=hr;obtain⟨wf,hcnt⟩:=Ao hrd;generalize hK:jv l ⟨[],0,0⟩=K;have ck:Hid (gI s=if K.e=0 then(0,0)else(K.e,K.pl)):=by unfold Hid gI;rw[hrd];simp only[hK]
 have HH:Hid (gU w w1/\jc w1 (.slice a n c) qs (gD w w1)/\gF w1 l (gD w w1) qs/\jZ l/\Px.read s=.ok l/\jv l ⟨[],0,0⟩=K):=⟨hb,h1,h2,wf,hrd,hK⟩;have HL:Hid (jk (w1.alloc (.cells #[iE,eF 0,eF 0] 58)) w1.heap.size ⟨[],0,0⟩):=by refine⟨none,0,0,?_,aX _ _ _ _⟩;show(w1.heap.push _)[w1.heap.size]?=_;rw[aD,aA rfl];rfl
 go_wp2_with fail;refine(Xl w1.heap.size l ⟨[],0,0⟩ _ (gD w w1) _ qs (HH.o.2.1.keep fun i hi=>aI _ _ _ hi.2) (HH.o.2.2.1.keep fun i hi=>aI _ _ _ hi.2) (fun i hi=>hi.2) HL.o HH.o.2.2.2.1 (by simp;omega)).mono ?_;rw[HH.o.2.2.2.2.2];rintro e w2 ⟨rfl,l2,b2⟩;obtain⟨va,vn,vc,g1,g2⟩:=l2.ex;obtain⟨c0,c1,c2,cf⟩:=cells3 g1;have bW:gU w w2:=(HH.o.1.alloc HH.o.1.size _).trans (b2.mono HH.o.1.size);have hkeep:∀i,gD w w1 i->w2.heap[i]?=w1.heap[i]?:=fun i hi=>by rw[b2.block i hi.2,aI _ _ _ hi.2]
 have hz2:w1.heap.size<w2.heap.size:=lt_of_cell c0;have H2:Hid (gU w w2/\jc w2 (.slice a n c) qs (gD w w2)/\gF w2 l (gD w w2) qs/\w2.ownsRow (w1.heap.size+1) 101 2 (.slice va vn vc) K.vars.length (rY K.vars)):=⟨bW,(HH.o.2.1.keep hkeep).mono fun i hi=>⟨hi.1,by have:=hi.2;omega⟩,(HH.o.2.2.1.keep hkeep).mono fun i hi=>⟨hi.1,by have:=hi.2;omega⟩,g2⟩;by_cases hE:K.e=0
 ·have t1:((K.e:Int) != 0)=false:=by rw[hE];rfl
  have HE:Hid (K.e=0):=hE;go_wp2_with fail;go_region
  go_wp2_with fail;refine bodyPost_ret (v:=.tuple #[.slice a n c,.slice va vn vc,eF 0,eF 0]) (by simp[results,results7,go_sem]) rfl ?_;refine⟨H2.o.1.drew,a,n,c,va,vn,vc,by rw[ck.o,aA HE.o];rfl,fun h=>⟨l,qs,HH.o.2.2.2.2.1,H2.o.2.1,H2.o.2.2.1.keep fun _ _=>rfl,?_⟩⟩;rw[HH.o.2.2.2.2.2];exact World.ownsRow.drew (JK H2.o.2.2.2 (bq HH.o.1.size))
 have t1:((K.e:Int) != 0)=true:=by rw[bne_iff_ne];omega
 have HE:Hid (¬K.e=0):=hE;go_wp2_with fail;go_region
 go_wp2_with fail;refine bodyPost_ret (v:=.tuple #[iE,iE,eF (K.e:Int),eF (K.pl:Int)]) (by simp[results,results7,go_sem]) rfl ?_;refine⟨H2.o.1.drew,none,0,0,none,0,0,by rw[ck.o,ah HE.o],fun h=>?_⟩;rw[ck.o,ah HE.o]at h;exact absurd h HE.o
variable{s:dX}
theorem zt7(hr:Px.read s=.ok l)(hc:(gI s).1=0):(jv l ⟨[],0,0⟩).e=0/\gI s=(0,0):=by
 unfold gI at hc |-;rw[hr]at hc |-;dsimp only at hc |-;split at hc;·rename_i h;exact⟨h,by rw[aA h]⟩
 rename_i h;exact absurd hc h
theorem Xu(hr:Px.read s=.ok l)(hc:gI s=(0,0))(fU:List Int):(Px.play (jv l ⟨[],0,0⟩).vars l fU).eY.length<=4000000:=by obtain⟨m,h1,h2,_⟩:=MG hr hc fU 4000000 (by omega);have h3:=Px.Mo (iU l) 4000000 ⟨[],List.replicate (iU l).nv 0,[],[],[],fU,0,0,false,0⟩;rw[h1]at h3;rw[<- h2];simpa using h3
