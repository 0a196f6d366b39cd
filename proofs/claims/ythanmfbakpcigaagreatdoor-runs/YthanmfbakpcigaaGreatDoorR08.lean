import Derived.Test.YthanmfbakpcigaaGreatDoorR06
import Derived.Test.YthanmfbakpcigaaGreatDoorR07
import Derived.Test.YthanmfbakpcigaaGreatDoorR05
import Derived.Test.YthanmfbakpcigaaGreatDoorR02
set_option maxRecDepth 100000
set_option maxHeartbeats 4000000
namespace Go.Proofs.YthanmfbakpcigaaGreatDoor
open Go.RowKit
namespace Ref
theorem St.zam {B:Nat} {w w':World} {ok:Nat→Prop} {v:Value} {qs:List Nat} {l:List Px.Sm} (hb:Below B w w') (hok:∀ i,ok i→i < B) (h1:SlAt w v qs ok) (h2:SmsAt w l ok qs):SlAt w' v qs ok∧SmsAt w' l ok qs :=
 ⟨h1.keep fun i hi=>hb.block i (hok i hi),h2.keep fun i hi=>hb.block i (hok i hi)⟩
theorem zxv (B c:Nat) (V:Px.Vs) (x:Px.Sm) (hop:x.op=108) (hw:Px.WfO x.ex) (hk:Px.okH V x.op x.word x.ex x.asw x.n):DoOk B c V 50 x:=by
 intro s w ok q vv vh vl va vp pv hx hok hs hlen hgo hpl hfl hpn hb;obtain ⟨hq,ve,v1,v2,q1,q2,hv,e3,_,_,_,_⟩:=hx;obtain ⟨d0,d1,d2,d3,d4,d5,d6,d7,d8,d9,d10,df⟩:=qaa hv;rw[hop] at d0;have hqB:=hok q hq;obtain ⟨ho1,ho2,ho3⟩:=qob hgo;obtain ⟨ex,k,hex,hke,⟨i,hi,_⟩,_⟩:∃ e k,x.ex=some e∧Px.okE V e k∧Px.okV V x.word k∧(k=105∨k=98):=by
  rcases hk with h | h | h | h | h | h
  ·exact h.2
  all_goals omega
 have hrun:Px.runX V x s=match Px.evE V s.held ex with
  | none=>{ s with failed:=true }
  | some v=>{ s with held:=Px.setV V s.held x.word v }:=by unfold Px.runX;rw[if_pos hop,hex];rfl
 rw[hex] at e3;obtain ⟨qe,rfl,hxe⟩:=e3;unfold ptr at d3;have hB:=hs.hB;have hil:i < s.held.length:=by rw[hlen];exact qds hi
 have hwe:Px.WfE ex:=hw ex hex;have HX:Hid ((∀ i,ok i→i < B)∧ExAt w ex ok qe∧w.heap[q]?=some (.cells (qay x (ptr qe) v1 v2) 218)∧Px.WfE ex∧(∃ k,Px.okE V ex k)∧Px.qa3 V x.word=some i):=⟨hok,hxe,hv,hwe,⟨k,hke⟩,hi⟩;have HS:Hid (St w B c V s vv vh vl va vp pv []∧s.held.length=V.length∧s.failed=false∧_):=⟨hs,hlen,ho3,hrun⟩;clear hok hxe hv hwe hke hi hs hlen ho1 ho2 ho3 hrun hb hgo hk hex hw hfl hpl;go_enter Tryz.func50,Tryz.ntmps50
 go_wp2_with fail;refine (zdi B c V ex HX.out.2.2.2.1 s _ ok qe vv vh vl va vp pv [] HX.out.2.1 HX.out.1 HS.out.1 HS.out.2.1 HS.out.2.2.1 HX.out.2.2.2.2.1).mono ?_;rintro e w1 ⟨n,rfl,h1,h2,h3⟩;have b1:Below B w w1:=HS.out.1.qd1 h1;have hhq:w1.heap[q]?=_:=(b1.block q hqB).trans HX.out.2.2.1;clear d0 d1 d2 d3 d4 d5 d6 d7 d8 d9 d10 df;obtain ⟨m0,m1,m2,m3,m4,m5,m6,m7,m8,m9,m10,mf⟩:=qaa hhq;cases hev:Px.evE V s.held ex with
 | none =>
  obtain ⟨g0,g1,g2,g3,g4,g5,g6,g7,gf⟩:=qb1 (h3 hev).at_;have hfin:Px.runX V x s={ s with failed:=true }:=by rw[HS.out.2.2.2,hev]
  have H1:Hid (_∧_∧_):=⟨b1,h3 hev,hfin⟩;clear h1 h2 h3 hev b1 hhq hfin;go_wp2_with fail;go_end0
  rw[H1.out.2.2];exact ⟨rfl,H1.out.1,_,_,_,_,_,H1.out.2.1⟩
 | some v =>
  obtain ⟨rfl,h4⟩:=h2 v hev;obtain ⟨g0,g1,g2,g3,g4,g5,g6,g7,gf⟩:=qb1 h4.at_;rw[HS.out.2.2.1] at g7;obtain ⟨gh,hcap,rfl,hmh,hch,hfh⟩:=h4.zid hil;obtain ⟨fa,fn,fc,rfl⟩:=qad h4.vars;have hfin:Px.runX V x s={ s with held:=s.held.set i n }:=by rw[HS.out.2.2.2,hev];unfold Px.setV;rw[HX.out.2.2.2.2.2]
  have H1:Hid (_∧_∧_):=⟨b1,h4,hfin⟩;unfold maxLen at hmh;clear h1 h2 h3 hev b1 hhq hfin h4;go_wp2_with fail;go_region_with (go_at_call 116;refine (qyf HX.out.2.2.2.2.2 _ 0 _ _ _ (World.ownsRow.drew H1.out.2.1.vars)).mono ?_;rintro e w4 ⟨rfl,rfl⟩)
  all_goals
   go_wp2_with fail;go_end0
   have hst:=H1.out.2.1.drew.zic rfl i n;rw[H1.out.2.2];exact ⟨rfl,H1.out.1.trans hst.2.of_drew,_,_,_,_,_,hst.1⟩
theorem zun (B c:Nat) (V:Px.Vs) (x:Px.Sm) (hop:x.op=102):DoOk B c V 50 x:=by
 intro s w ok q vv vh vl va vp pv hx hok hs hlen hgo hpl hfl hpn hb;obtain ⟨hq,ve,v1,v2,q1,q2,hv,e3,_,_,_,_⟩:=hx;obtain ⟨d0,d1,d2,d3,d4,d5,d6,d7,d8,d9,d10,df⟩:=qaa hv;obtain ⟨g0,g1,g2,g3,g4,g5,g6,g7,gf⟩:=qb1 hs.at_;rw[hop] at d0;have HS:Hid (_):=hs;clear hs hok hb hgo hfl hpl hlen;go_enter Tryz.func50,Tryz.ntmps50
 go_wp2_with fail;go_end0
 have hfin:Px.runX V x s={ s with failed:=true }:=by unfold Px.runX;rw[if_neg (by omega),if_neg (by omega),if_neg (by omega),if_neg (by omega),if_neg (by omega)]
 rw[hfin];exact ⟨rfl,HS.out.qd1 (qcp (Tch.refl _ _) rfl),_,_,_,_,_,HS.out.fails⟩
theorem zxs (B c:Nat) (V:Px.Vs) (x:Px.Sm) (hop:x.op=99) (h:DoOk B c V 117 x):DoOk B c V 50 x:=by
 intro s w ok q vv vh vl va vp pv hx hok hs hlen hgo hpl hfl hpn hb;have HH:Hid (Calls Tryz.prog 117 #[.pointer (some ⟨c,0,none⟩),.pointer (some ⟨q,0,none⟩)] w (DoPost B c V (Px.runX V x s) vv w)):=h s w ok q vv vh vl va vp pv hx hok hs hlen hgo hpl hfl hpn hb;obtain ⟨hq,ve,v1,v2,q1,q2,hv,e3,_,_,_,_⟩:=hx;obtain ⟨d0,d1,d2,d3,d4,d5,d6,d7,d8,d9,d10,df⟩:=qaa hv;rw[hop] at d0;clear hs hok hb hgo hfl hpl hlen h;go_enter Tryz.func50,Tryz.ntmps50
 go_wp2_with fail;refine Calls.mono HH.out ?_;rintro e w1 ⟨rfl,h1⟩;have H1:Hid (_):=h1;clear h1;go_wp2_with fail;go_end0
 exact ⟨rfl,H1.out⟩
theorem zuj (B c:Nat) (V:Px.Vs) (x:Px.Sm) (hop:x.op=116) (h:DoOk B c V 118 x):DoOk B c V 50 x:=by
 intro s w ok q vv vh vl va vp pv hx hok hs hlen hgo hpl hfl hpn hb;have HH:Hid (Calls Tryz.prog 118 #[.pointer (some ⟨c,0,none⟩),.pointer (some ⟨q,0,none⟩)] w (DoPost B c V (Px.runX V x s) vv w)):=h s w ok q vv vh vl va vp pv hx hok hs hlen hgo hpl hfl hpn hb;obtain ⟨hq,ve,v1,v2,q1,q2,hv,e3,_,_,_,_⟩:=hx;obtain ⟨d0,d1,d2,d3,d4,d5,d6,d7,d8,d9,d10,df⟩:=qaa hv;rw[hop] at d0;clear hs hok hb hgo hfl hpl hlen h;go_enter Tryz.func50,Tryz.ntmps50
 go_wp2_with fail;refine Calls.mono HH.out ?_;rintro e w1 ⟨rfl,h1⟩;have H1:Hid (_):=h1;clear h1;go_wp2_with fail;go_end0
 exact ⟨rfl,H1.out⟩
theorem do_if (B c:Nat) (V:Px.Vs) (x:Px.Sm) (hop:x.op=105) (hw:Px.WfO x.ex) (hk:Px.okH V x.op x.word x.ex x.asw x.n) (i1:zkh B c V x.one) (i2:zkh B c V x.two):DoOk B c V 50 x:=by
 intro s w ok q vv vh vl va vp pv hx hok hs hlen hgo hpl hfl hpn hb;obtain ⟨hq,ve,v1,v2,q1,q2,hv,e3,e4,e5,e6,e7⟩:=hx;obtain ⟨d0,d1,d2,d3,d4,d5,d6,d7,d8,d9,d10,df⟩:=qaa hv;rw[hop] at d0;have hqB:=hok q hq;obtain ⟨ho1,ho2,ho3⟩:=qob hgo;obtain ⟨ex,hex,hke⟩:∃ e,x.ex=some e∧Px.okE V e 98:=by
  rcases hk with h | h | h | h | h | h
  ·omega
  ·omega
  ·exact h.2
  all_goals omega
 have hrun:Px.runX V x s=match Px.evE V s.held ex with
  | none=>{ s with failed:=true }
  | some v=>if v=1 then Px.runS V x.one s else Px.runS V x.two s:=by unfold Px.runX;rw[if_neg (by omega),if_neg (by omega),if_pos hop,hex];rfl
 rw[hex] at e3;obtain ⟨qe,rfl,hxe⟩:=e3;unfold ptr at d3;obtain ⟨a1,n1,k1,rfl⟩:∃ a n c,v1=.slice a n c:=by obtain ⟨a,c',h,_⟩:=e4.len;exact ⟨_,_,_,h⟩
 obtain ⟨a2,n2,k2,rfl⟩:∃ a n c,v2=.slice a n c:=by obtain ⟨a,c',h,_⟩:=e6.len;exact ⟨_,_,_,h⟩
 have hwe:Px.WfE ex:=hw ex hex;have HX:Hid ((∀ i,ok i→i < B)∧ExAt w ex ok qe∧w.heap[q]?=some (.cells (qay x (ptr qe) (.slice a1 n1 k1) (.slice a2 n2 k2)) 218)∧Px.WfE ex∧(∃ k,Px.okE V ex k)∧(SlAt w (.slice a1 n1 k1) q1 ok∧SmsAt w x.one ok q1)∧(SlAt w (.slice a2 n2 k2) q2 ok∧SmsAt w x.two ok q2)):=⟨hok,hxe,hv,hwe,⟨98,hke⟩,⟨e4,e5⟩,e6,e7⟩;have HS:Hid (St w B c V s vv vh vl va vp pv []∧s.held.length=V.length∧s.failed=false∧Px.runX V x s=_∧s.piles≠[]∧s.piles.flatten.length≤s.asks.length∧(Px.runX V x s).asks.length≤1000000000):=⟨hs,hlen,ho3,hrun,hpl,hfl,hb⟩;clear hok hxe hv hwe hke hs hlen ho1 ho2 ho3 hrun hb hgo hk hex hw hfl hpl e4 e5 e6 e7
 go_enter Tryz.func50,Tryz.ntmps50
 go_wp2_with fail;refine (zdi B c V ex HX.out.2.2.2.1 s _ ok qe vv vh vl va vp pv [] HX.out.2.1 HX.out.1 HS.out.1 HS.out.2.1 HS.out.2.2.1 HX.out.2.2.2.2.1).mono ?_;rintro e w1 ⟨n,rfl,h1,h2,h3⟩;have b1:Below B w w1:=HS.out.1.qd1 h1;have hhq:w1.heap[q]?=_:=(b1.block q hqB).trans HX.out.2.2.1;clear d0 d1 d2 d3 d4 d5 d6 d7 d8 d9 d10 df;obtain ⟨m0,m1,m2,m3,m4,m5,m6,m7,m8,m9,m10,mf⟩:=qaa hhq;cases hev:Px.evE V s.held ex with
 | none =>
  obtain ⟨g0,g1,g2,g3,g4,g5,g6,g7,gf⟩:=qb1 (h3 hev).at_;have hfin:Px.runX V x s={ s with failed:=true }:=by rw[HS.out.2.2.2.1,hev]
  have H1:Hid (_∧_∧_):=⟨b1,h3 hev,hfin⟩;clear h1 h2 h3 hev b1 hhq hfin;go_wp2_with fail;refine bodyPost_ret (results_none rfl _ _ _) rfl ?_;rw[H1.out.2.2];exact ⟨rfl,H1.out.1,_,_,_,_,_,H1.out.2.1⟩
 | some v =>
  obtain ⟨rfl,h4⟩:=h2 v hev;obtain ⟨g0,g1,g2,g3,g4,g5,g6,g7,gf⟩:=qb1 h4.at_;rw[HS.out.2.2.1] at g7;have hk1:=St.zam b1 HX.out.1 HX.out.2.2.2.2.2.1.1 HX.out.2.2.2.2.2.1.2;have hk2:=St.zam b1 HX.out.1 HX.out.2.2.2.2.2.2.1 HX.out.2.2.2.2.2.2.2;by_cases hn:n=1
  ·subst hn;have hfin:Px.runX V x s=Px.runS V x.one s:=by rw[HS.out.2.2.2.1,hev];rfl
   have H1:Hid (_∧_∧_∧_):=⟨b1,h4,hfin,hk1⟩;clear h1 h2 h3 hev b1 hhq hfin h4 hk1 hk2;go_wp2_with fail;refine (i1 s _ ok _ q1 vv vh vl va vp pv H1.out.2.2.2.1 H1.out.2.2.2.2 HX.out.1 H1.out.2.1 HS.out.2.1 HS.out.2.2.2.2.1 HS.out.2.2.2.2.2.1 (by omega) (by rw[← H1.out.2.2.1];exact HS.out.2.2.2.2.2.2)).mono ?_
   rintro e w2 ⟨rfl,b2,h2⟩;have H2:Hid (_∧_):=⟨b2,h2⟩;clear b2 h2;go_wp2_with fail;go_end0
   rw[H1.out.2.2.1];exact ⟨rfl,H1.out.1.trans H2.out.1,H2.out.2⟩
  ·have hfin:Px.runX V x s=Px.runS V x.two s:=by rw[HS.out.2.2.2.1,hev];simp only;rw[if_neg hn]
   have H1:Hid (_∧_∧_∧_):=⟨b1,h4,hfin,hk2⟩;clear h1 h2 h3 hev b1 hhq hfin h4 hk1 hk2;go_wp2_with fail;refine (i2 s _ ok _ q2 vv vh vl va vp pv H1.out.2.2.2.1 H1.out.2.2.2.2 HX.out.1 H1.out.2.1 HS.out.2.1 HS.out.2.2.2.2.1 HS.out.2.2.2.2.2.1 (by omega) (by rw[← H1.out.2.2.1];exact HS.out.2.2.2.2.2.2)).mono ?_
   rintro e w2 ⟨rfl,b2,h2⟩;have H2:Hid (_∧_):=⟨b2,h2⟩;clear b2 h2;go_wp2_with fail;go_end0
   rw[H1.out.2.2.1];exact ⟨rfl,H1.out.1.trans H2.out.1,H2.out.2⟩
open Go.RowKit
def Dos (B c:Nat) (V:Px.Vs) (l:List Px.Sm):Prop:=∀ (s:Px.Rs) (w:World) (ok:Nat→Prop) (v:Value) (qs:List Nat) (vv vh vl va vp:Value) (pv:List Value),SlAt w v qs ok→SmsAt w l ok qs→(∀ i,ok i→i < B)→St w B c V s vv vh vl va vp pv []→s.held.length=V.length→s.piles.flatten.length≤s.asks.length→(s.going=true→s.piles≠[]∧s.piles.length+Px.cnt l≤1000000)→(Px.runS V l s).asks.length≤1000000000 →
 Calls Tryz.prog 31 #[.pointer (some ⟨c,0,none⟩),v] w (DoPost B c V (Px.runS V l s) vv w)
theorem Dos.ok {B c:Nat} {V:Px.Vs} {l:List Px.Sm} (h:Dos B c V l):zkh B c V l:=fun s w ok v qs vv vh vl va vp pv h1 h2 h3 h4 h5 h6 h7 h8 h9=>h s w ok v qs vv vh vl va vp pv h1 h2 h3 h4 h5 h7 (fun _=>⟨h6,h8⟩) h9
structure Keeps (V:Px.Vs) (N:Nat) (s:Px.Rs):Prop where
 held:s.held.length=V.length
 flat:s.piles.flatten.length≤s.asks.length
 go:s.going=true→s.piles≠[]∧s.piles.length≤N
theorem Keeps.step {V:Px.Vs} {N:Nat} {s:Px.Rs} {f:Px.Rs→Px.Rs} (h:Keeps V N s) (hg:s.going=true) (hf:Px.I3 f):Keeps V N (f s):=by
 obtain ⟨h1,h2⟩:=h.go hg;obtain ⟨a,b,c⟩:=hf s h1 h.flat;refine ⟨by rw[a];exact h.held,b,fun hg'=>?_⟩
 obtain ⟨g1,g2,_⟩:=qob hg'
 have:=c g1 g2
 refine ⟨hf.ne h1 h.flat g1 g2,by omega⟩
theorem qru (B c:Nat) (V:Px.Vs) (l:List Px.Sm) (hx:∀ i (hi:i < l.length),DoOk B c V 50 l[i]):Dos B c V l:=by
 intro s w ok v qs vv vh vl va vp pv hs hm hok hst hlen hfl hgo hb;obtain ⟨sa,sc,rfl,hml⟩:=hs.len;unfold maxLen at hml;have hlen2:=hm.len;generalize hN:1000000 - Px.cnt l=N;have hk0:Keeps V N s∧(s.going=true→N+Px.cnt l≤1000000):=by
  refine ⟨⟨hlen,hfl,fun h=>?_⟩,fun h=>?_⟩
  ·have:=hgo h;exact ⟨this.1,by omega⟩
  ·have:=hgo h;omega
 have H:Hid (SlAt w (.slice sa qs.length sc) qs ok∧SmsAt w l ok qs∧(∀ i,ok i→i < B)∧St w B c V s vv vh vl va vp pv []∧(Px.runS V l s).asks.length≤1000000000):=⟨hs,hm,hok,hst,hb⟩;have HX:Hid (∀ i (hi:i < l.length),DoOk B c V 50 l[i]):=hx;have HLen:Hid (qs.length=l.length):=hlen2;have HK:Hid (Keeps V N s∧(s.going=true→N+Px.cnt l≤1000000)):=hk0;clear hs hm hok hst hlen hfl hgo hb hx hlen2 hk0 hN;go_enter Tryz.func31,Tryz.ntmps31
 go_wp2_with fail;go_loopw [4] (fun i wr=>∃ n:Nat,n≤qs.length∧i=.int .i64 n∧Hid (Below B w wr∧∃ s' vh' vl' va' vp' pv',St wr B c V s' vv vh' vl' va' vp' pv' []∧Px.runS V (l.drop n) s'=Px.runS V l s∧Keeps V N s'∧(s'.going=true→N+Px.cnt (l.drop n)≤1000000))) (fun i _=>qs.length - (intOf i).toNat)
 case atStart=>exact ⟨0,by omega,rfl,Below.refl _ _,s,_,_,_,_,_,H.out.2.2.2.1,rfl,HK.out.1,HK.out.2⟩
 case round =>
  obtain ⟨n,hn,rfl,hr⟩:=hrel;obtain ⟨hbr,s',vh',vl',va',vp',pv',hs',he,hk',hc'⟩:=hr.out;clear hr;by_cases hlt:n < qs.length
  ·have hnl:n < l.length:=by have:=HLen.out;omega
   obtain ⟨q,hq1,hq2⟩:=H.out.2.1.get n hnl;obtain ⟨g,cap,hgv,hg,hcell⟩:=H.out.1.cell hq1;cases hgv;have hcr:wr.cell? ⟨g,n,none⟩=some (.pointer (some ⟨q,0,none⟩)):=by rw[hbr.cell (p:=⟨g,n,none⟩) (H.out.2.2.1 g hg)];exact hcell
   have hq3:SmAt wr l[n] ok q:=hq2.keep fun i hi=>hbr.block i (H.out.2.2.1 i hi)
   have hdrop:l.drop n=l[n]::l.drop (n+1):=List.drop_eq_getElem_cons hnl;rw[hdrop,Px.qci] at he;rw[hdrop,Px.qik] at hc';have HH:Hid (Below B w wr∧St wr B c V s' vv vh' vl' va' vp' pv' []∧Px.runS V (l.drop (n+1)) (if s'.going then Px.runX V l[n] s' else s')=Px.runS V l s∧SmAt wr l[n] ok q∧Keeps V N s'∧(s'.going=true→N+(1+Px.cnt l[n].one+Px.cnt l[n].two+Px.cnt (l.drop (n+1)))≤1000000)):=⟨hbr,hs',he,hq3,hk',hc'⟩
   clear hbr hs' he hq3 hcell hq2 hdrop hk' hc';cases hgg:s'.going
   ·go_wp2_with fail;refine (qlw B c V s' vv vh' vl' va' vp' pv' [] _ HH.out.2.1).mono ?_;rintro e w' ⟨rfl,rfl⟩;rw[hgg];go_wp2_with fail;refine ⟨⟨n+1,by omega,by go_num,HH.out.1,s',_,_,_,_,_,HH.out.2.1,?_,HH.out.2.2.2.2.1,fun h=>by rw[hgg] at h;cases h⟩,by simp[intOf];omega⟩
    have:=HH.out.2.2.1
    rw[hgg] at this;exact this
   ·have HG:Hid (s'.going=true):=hgg;have hb':(Px.runX V l[n] s').asks.length≤1000000000:=by
     have h1:=HH.out.2.2.1;rw[hgg] at h1;have h2:=(Px.qfr V (l.drop (n+1)) (Px.runX V l[n] s')).length_le;have h3:=H.out.2.2.2.2;rw[← h1] at h3;exact Nat.le_trans h2 h3
    have HB:Hid (_):=hb';clear hb';go_wp2_with fail;refine (qlw B c V s' vv vh' vl' va' vp' pv' [] _ HH.out.2.1).mono ?_;rintro e w' ⟨rfl,rfl⟩;rw[HG.out];go_wp2_with fail;refine (HX.out n hnl s' _ ok q vv vh' vl' va' vp' pv' HH.out.2.2.2.1 H.out.2.2.1 HH.out.2.1 HH.out.2.2.2.2.1.held HG.out (HH.out.2.2.2.2.1.go HG.out).1 HH.out.2.2.2.2.1.flat ?hcnt HB.out).mono ?_
    case hcnt =>
     have h1:=HH.out.2.2.2.2.2 HG.out;have h2:=(HH.out.2.2.2.2.1.go HG.out).2;omega
    rintro e w1 ⟨rfl,b1,vh1,vl1,va1,vp1,pv1,h1⟩;have L1:Hid (_∧_):=⟨b1,h1⟩;clear b1 h1;go_wp2_with fail;refine ⟨⟨n+1,by omega,by go_num,HH.out.1.trans L1.out.1,Px.runX V l[n] s',_,_,_,_,_,L1.out.2,?_,HH.out.2.2.2.2.1.step HG.out (Px.zfk V l[n] (Px.qi3 V _) (Px.qi3 V _)),fun _=>?_⟩,by simp[intOf];omega⟩
    ·have:=HH.out.2.2.1
     rw[HG.out] at this;exact this
    ·have:=HH.out.2.2.2.2.2 HG.out
     omega
  ·have hnl:l.drop n=[]:=List.drop_of_length_le (by have:=HLen.out;omega)
   rw[hnl,Px.qdy] at he;have HH:Hid (_∧_∧_):=⟨hbr,hs',he⟩;clear hbr hs' he hnl hk' hc';go_wp2_with fail;go_end0
   rw[← HH.out.2.2];exact ⟨rfl,HH.out.1,_,_,_,_,_,HH.out.2.1⟩
theorem zxu (B c:Nat) (V:Px.Vs) (x:Px.Sm) (hop:x.op=114) (hn9:x.n≤9) (i1:Dos B c V x.one):DoOk B c V 50 x:=by
 intro s w ok q vv vh vl va vp pv hx hok hs hlen hgo hpl hfl hpn hb;obtain ⟨hq,ve,v1,v2,q1,q2,hv,_,e4,e5,_,_⟩:=hx;obtain ⟨d0,d1,d2,d3,d4,d5,d6,d7,d8,d9,d10,df⟩:=qaa hv;rw[hop] at d0;have hqB:=hok q hq;have hrun:Px.runX V x s=Px.iter (Px.runS V x.one) x.n s:=by unfold Px.runX;rw[if_neg (by omega),if_neg (by omega),if_neg (by omega),if_neg (by omega),if_pos hop]
 obtain ⟨a1,n1,k1,rfl⟩:∃ a n c,v1=.slice a n c:=by obtain ⟨a,c',h,_⟩:=e4.len;exact ⟨_,_,_,h⟩
 have hk0:Keeps V s.piles.length s:=⟨hlen,hfl,fun _=>⟨hpl,Nat.le_refl _⟩⟩
 have HX:Hid ((∀ i,ok i→i < B)∧(SlAt w (.slice a1 n1 k1) q1 ok∧SmsAt w x.one ok q1)∧w.heap[q]?=some (.cells (qay x ve (.slice a1 n1 k1) v2) 218)):=⟨hok,⟨e4,e5⟩,hv⟩;have HS:Hid (St w B c V s vv vh vl va vp pv []∧Px.runX V x s=Px.iter (Px.runS V x.one) x.n s∧(Px.runX V x s).asks.length≤1000000000∧Keeps V s.piles.length s):=⟨hs,hrun,hb,hk0⟩;clear hok e4 e5 hv hs hrun hb hk0 hlen hgo hpl hfl;go_enter Tryz.func50,Tryz.ntmps50
 go_wp2_with fail;go_loopw [6] (fun i wr=>∃ j:Nat,j≤x.n∧i=.int .i64 j∧Hid (Below B w wr∧∃ s' vh' vl' va' vp' pv',St wr B c V s' vv vh' vl' va' vp' pv' []∧Px.iter (Px.runS V x.one) (x.n - j) s'=Px.runX V x s∧Keeps V s.piles.length s')) (fun i _=>x.n - (intOf i).toNat)
 case atStart=>exact ⟨0,by omega,rfl,Below.refl _ _,s,_,_,_,_,_,HS.out.1,HS.out.2.1.symm,HS.out.2.2.2⟩
 case round =>
  obtain ⟨j,hj,rfl,hr⟩:=hrel;obtain ⟨hbr,s',vh',vl',va',vp',pv',hs',he,hk'⟩:=hr.out;have hhq:wr.heap[q]?=_:=(hbr.block q hqB).trans HX.out.2.2;clear hr d0 d1 d2 d3 d4 d5 d6 d7 d8 d9 d10 df;obtain ⟨d0,d1,d2,d3,d4,d5,d6,d7,d8,d9,d10,df⟩:=qaa hhq;by_cases hlt:j < x.n
  ·obtain ⟨k,hk⟩:∃ k,x.n - j=k+1:=⟨x.n - j - 1,by omega⟩
   have hk2:x.n - (j+1)=k:=by omega
   rw[hk,Px.iter] at he;have hb':(Px.runS V x.one s').asks.length≤1000000000:=by
    have h2:=(Px.qtl (Px.qfr V x.one) k (Px.runS V x.one s')).length_le;rw[he] at h2;have h3:=HS.out.2.2.1;omega
   have hkk:=St.zam hbr HX.out.1 HX.out.2.1.1 HX.out.2.1.2;have HH:Hid (Below B w wr∧St wr B c V s' vv vh' vl' va' vp' pv' []∧Px.iter (Px.runS V x.one) k (Px.runS V x.one s')=Px.runX V x s∧Keeps V s.piles.length s'∧(Px.runS V x.one s').asks.length≤1000000000∧(SlAt wr (.slice a1 n1 k1) q1 ok∧SmsAt wr x.one ok q1)):=⟨hbr,hs',he,hk',hb',hkk⟩;clear hbr hs' he hk' hb' hkk hhq;go_wp2_with fail;refine (i1 s' _ ok _ q1 vv vh' vl' va' vp' pv' HH.out.2.2.2.2.2.1 HH.out.2.2.2.2.2.2 HX.out.1 HH.out.2.1 HH.out.2.2.2.1.held HH.out.2.2.2.1.flat (fun h=>⟨(HH.out.2.2.2.1.go h).1,by have:=(HH.out.2.2.2.1.go h).2;omega⟩) HH.out.2.2.2.2.1).mono ?_
   rintro e w1 ⟨rfl,b1,vh1,vl1,va1,vp1,pv1,h1⟩;have L1:Hid (_∧_):=⟨b1,h1⟩;clear b1 h1;go_wp2_with fail;refine ⟨⟨j+1,by omega,by go_num,HH.out.1.trans L1.out.1,Px.runS V x.one s',_,_,_,_,_,L1.out.2,by rw[hk2];exact HH.out.2.2.1,?_⟩,by simp[intOf];omega⟩
   cases hg:s'.going with
   | true=>exact HH.out.2.2.2.1.step hg (Px.qi3 V x.one)
   | false=>rw[Px.qez V x.one hg];exact HH.out.2.2.2.1
  ·obtain rfl:j=x.n:=by omega
   rw[Nat.sub_self,Px.iter] at he;have HH:Hid (_∧_∧_):=⟨hbr,hs',he⟩;clear hbr hs' he hk' hhq;go_wp2_with fail;go_end0
   rw[← HH.out.2.2];exact ⟨rfl,HH.out.1,_,_,_,_,_,HH.out.2.1⟩
open Go.RowKit
theorem zdl (s:Px.Rs):s.asks <+: (Px.ended s).asks:=Px.qp7 s
theorem St.zmd {w:World} {B c:Nat} {V:Px.Vs} {s:Px.Rs} {vv vh vl va vp:Value} {pv ex:List Value} (h:St w B c V s vv vh vl va vp pv ex) (n:Nat):St (w.setCell ⟨c,5,none⟩ (.int .i64 (n:Int))) B c V { s with over:=n } vv vh vl va vp pv ex :=
 h.own (qcp (Tch.refl _ _) rfl) (by rw[heap_set _ h.at_];simp) rfl rfl rfl rfl
theorem zl5 (l:List Px.Sm) (V:Px.Vs) (answers:List Int) (w:World) (ok:Nat→Prop) (v:Value) (qs:List Nat) (vv av:Value) (h1:SlAt w v qs ok) (h2:SmsAt w l ok qs) (hok:∀ i,ok i→i < w.heap.size) (hv:w.ownsRow 0 280 2 vv V.length (qbr V)) (ha:AnsAt w av answers) (hD:∀ B c,Dos B c V l) (hc:Px.cnt l≤999999) (hV:V.length≤1000000) (hb:(Px.play V l answers).asks.length≤1000000000) :
  Calls Tryz.prog 20 #[v,vv,av] w fun e w'=>∃ c vh vl va vp pv,e=.returned (.pointer (some ⟨c,0,none⟩))∧Below w.heap.size w w'∧St w' w.heap.size c V (Px.play V l answers) vv vh vl va vp pv []:=by
 obtain ⟨sa,sc,rfl,hml⟩:=h1.len;obtain ⟨fa,fn,fc,rfl⟩:=qad hv;obtain ⟨rfl,_⟩:=qnw hv;obtain ⟨ad,acap,rfl,ham,hab,hac⟩:=ha;have hmk:=run_make_row' (P:=Tryz.prog) 22 3 (.int .i64 0) 8 Tryz.underlying22 qtp rfl .i64 .i64 V.length (by omega) (by omega)
 have hmk2:∀ w:World,(Instr.makeSlice 62 (.int .i64 1) (.int .i64 1)).run Tryz.prog w=.ok (.slice (some ⟨w.heap.size,0,none⟩) 1 1) (w.alloc (.cells (madeCells #[.slice none 0 0] 1) 150)):=run_make_row' (P:=Tryz.prog) 62 150 (.slice none 0 0) 24 Tryz.underlying62 qoa rfl .i64 .i64 1 (by omega) (by omega)
 have HV:Hid (w.ownsRow 0 280 2 (.slice fa V.length fc) V.length (qbr V)∧V.length≤maxLen):=⟨hv,by unfold maxLen;omega⟩
 have HX:Hid ((SlAt w (.slice sa qs.length sc) qs ok∧SmsAt w l ok qs)∧(∀ i,ok i→i < w.heap.size)∧(∀ B c,Dos B c V l)∧(Px.play V l answers).asks.length≤1000000000):=⟨⟨h1,h2⟩,hok,hD,hb⟩;have HA:Hid (∀ i (hi:i < answers.length),∃ a:Addr,ad=some a∧a.block < w.heap.size∧w.cell? (a.add i)=some (.int .i64 answers[i])):=hac;unfold maxLen at ham hml;clear h1 h2 hok hD hb hac hv;go_enter Tryz.func20,Tryz.ntmps20
 go_wp2_with fail;go_cut [7] (fun p wc=>∃ c:Nat,p=.pointer (some ⟨c,0,none⟩)∧Hid (Below w.heap.size w wc∧∃ vh vp,St wc w.heap.size c V ⟨List.replicate V.length 0,[],[],[[]],0,false,false⟩ (.slice fa V.length fc) vh (.slice none 0 0) (.slice none 0 0) vp [.slice none 0 0] []))
 case first =>
  go_region
  all_goals
   go_wp2_with fail;go_meet
   case rel =>
    first
     | exact ⟨w.heap.size+2,rfl,((((Below.refl _ w).alloc (Nat.le_refl _) _).alloc (by simp) _).alloc (by simp;omega) _).drew,_,_,St.start (a:=w.heap.size) (b:=w.heap.size+1) HV.out.1 HV.out.2 ((((Tch.refl _ _).alloc _).alloc _).alloc _).drew (by omega) (by omega) (by omega) (by omega) (by omega) (by omega) zcu.1 zcu.2.1 zcu.2.2⟩
     | exact ⟨w.heap.size+2,rfl,((((Below.refl _ w).alloc (Nat.le_refl _) _).alloc (by simp) _).alloc (by simp;omega) _).drew,_,_,St.start (a:=w.heap.size+1) (b:=w.heap.size) HV.out.1 HV.out.2 ((((Tch.refl _ _).alloc _).alloc _).alloc _).drew (by omega) (by omega) (by omega) (by omega) (by omega) (by omega) zcu.2.1 zcu.1 zcu.2.2⟩
 case rest =>
 obtain ⟨c,rfl,hcut⟩:=hcut;obtain ⟨hbc,vh0,vp0,hs0⟩:=hcut.out;have H0:Hid (Below w.heap.size w wc∧St wc w.heap.size c V ⟨List.replicate V.length 0,[],[],[[]],0,false,false⟩ (.slice fa V.length fc) vh0 (.slice none 0 0) (.slice none 0 0) vp0 [.slice none 0 0] []):=⟨hbc,hs0⟩;obtain ⟨i0,hi,hz0,hz1,hz2⟩:=info_parts qtp;clear hcut hbc hs0 hmk hmk2;go_wp2_with fail;go_loopw [8] (fun i wr=>∃ j:Nat,j≤answers.length∧i=.int .i64 j∧Hid (Below w.heap.size w wr∧∃ vl,St wr w.heap.size c V ⟨List.replicate V.length 0,answers.take j,[],[[]],0,false,false⟩ (.slice fa V.length fc) vh0 vl (.slice none 0 0) vp0 [.slice none 0 0] []∧wr.ownsRow w.heap.size 3 1 vl (answers.take j).length (intCells (answers.take j)))) (fun i _=>answers.length - (intOf i).toNat)
 case atStart=>exact ⟨0,by omega,rfl,H0.out.1,_,H0.out.2,World.ownsRow_nil _ _ _ _⟩
 case round =>
  obtain ⟨j,hj,rfl,hr⟩:=hrel;obtain ⟨hbr,vl,hs,hrow⟩:=hr.out;obtain ⟨g0,g1,g2,g3,g4,g5,g6,g7,gf⟩:=qb1 hs.at_;by_cases hlt:j < answers.length
  ·obtain ⟨a,rfl,hab2,hac⟩:=HA.out j hlt;have hac2:wr.cell? (a.add j)=some (.int .i64 answers[j]):=by
    have hbl:(a.add j).block < w.heap.size:=by unfold Addr.add;split<;>exact hab2
    rw[hbr.cell hbl];exact hac
   have htk:answers.take (j+1)=answers.take j++[answers[j]]:=List.take_succ_eq_append_getElem hlt;generalize answers[j]=y at hac2 htk hac;obtain ⟨la,ln,lc,rfl⟩:=qad hrow;have hlj:(answers.take j).length=j:=by rw[List.length_take];omega
   have hgc:c < wr.heap.size:=hs.lt;have hga:a.block < wr.heap.size:=by have:=hbr.size;omega
   generalize hA:(Obj.cells #[.int .i64 y] 3)=A;have hW:Tch (fun _=>False) wr ((wr.alloc A).drew):=((Tch.refl _ _).alloc _).drew
   have O1:Hid (((wr.alloc A).drew).ownsRow w.heap.size 3 1 (.slice la ln lc) (answers.take j).length (intCells (answers.take j))):=qah hrow hW (fun _ _ h=>h)
   have O2:Hid (∀ j' u,[Value.int .i64 y][j']?=some u→((wr.alloc A).drew).cell? ((⟨wr.heap.size,0,none⟩:Addr).add j')=some u):=newsI (t:=3) (by
    show (wr.heap.push A)[wr.heap.size]?=_
    rw[Array.getElem?_push,if_pos rfl,← hA])
   have O3:Hid (∀ u∈[Value.int .i64 y],u.oneCell'=true):=by intro u hu;simp at hu;subst hu;rfl
   have O4:Hid ((answers.take j).length+1≤maxLen):=by unfold Hid maxLen;omega
   have O5:Hid (((answers.take j).length+1) * 8≤140737488355328):=by unfold Hid;omega
   have O6:Hid (w.heap.size≤((wr.alloc A).drew).heap.size):=by
    have:=hbr.size
    show w.heap.size≤(wr.heap.push A).size
    simp;omega
   have AQ:Hid (_):=hs.znk y hW;have ATC:Hid (wr.heap[c]?=_):=hs.at_;have H3:Hid (Below w.heap.size w wr∧answers.take (j+1)=answers.take j++[y]):=⟨hbr,htk⟩;subst hA;clear hr hbr hs hrow hW htk hac hlj;go_wp2_with fail;go_region_law (refine qbh rfl _ _ 22 rfl w.heap.size 3 i0 (.int .i64 0) 1 8 Tryz.underlying22 hi hz0 hz1 hz2 rfl (Nat.succ_pos 0) _ _ _ rfl O1.out _ 1 1 _ rfl rfl O2.out O3.out O4.out O5.out O6.out ?_;intro v' w3 hown' hgrow hloc;obtain ⟨va',vn',vc',rfl,hc3,HL⟩:=AQ.out v' w3 hown' hgrow hloc;obtain ⟨k0,k1,k2,k3,k4,k5,k6,k7,kf⟩:=qb1 (hc3.trans ATC.out);clear hown' hgrow hloc hc3)
   all_goals
    go_wp2_with fail;refine ⟨⟨j+1,by omega,by go_num,H3.out.1.trans HL.out.2.1,.slice va' vn' vc',by rw[H3.out.2];exact HL.out.1,by rw[H3.out.2];exact HL.out.2.2⟩,by simp[intOf];omega⟩
  ·obtain rfl:j=answers.length:=by omega
   rw[List.take_length] at hs;have hkk:=St.zam hbr HX.out.2.1 HX.out.1.1 HX.out.1.2;have hbs:(Px.runS V l ⟨List.replicate V.length 0,answers,[],[[]],0,false,false⟩).asks.length≤1000000000:=by
    have h1:=(zdl (Px.runS V l ⟨List.replicate V.length 0,answers,[],[[]],0,false,false⟩)).length_le;have h2:=HX.out.2.2.2;unfold Px.play at h2;omega
   have hI:=Px.qi3 V l ⟨List.replicate V.length 0,answers,[],[[]],0,false,false⟩ (by simp) (by simp)
   have H1:Hid (_∧_∧_∧_∧_):=⟨hbr,hs,hkk,hbs,hI⟩;clear hr hbr hs hrow hkk hbs hI;go_wp2_with fail;refine (HX.out.2.2.1 w.heap.size c ⟨List.replicate V.length 0,answers,[],[[]],0,false,false⟩ _ ok _ qs _ _ _ _ _ _ H1.out.2.2.1.1 H1.out.2.2.1.2 HX.out.2.1 H1.out.2.1 (by simp) (by simp) (fun _=>⟨by simp,by simp;omega⟩) H1.out.2.2.2.1).mono ?_
   rintro e w1 ⟨rfl,b1,vh1,vl1,va1,vp1,pv1,h1⟩;have hI:=H1.out.2.2.2.2;have hP:Px.play V l answers=Px.ended (Px.runS V l ⟨List.replicate V.length 0,answers,[],[[]],0,false,false⟩):=rfl;have hbb:=HX.out.2.2.2;rw[hP] at hbb;generalize Px.runS V l ⟨List.replicate V.length 0,answers,[],[[]],0,false,false⟩=s1 at h1 hI hP hbb;obtain ⟨y0,y1,y2,y3,y4,y5,y6,y7,yf⟩:=qb1 h1.at_;have H2:Hid (Below w.heap.size w w1∧St w1 w.heap.size c V s1 (.slice fa V.length fc) vh1 vl1 va1 vp1 pv1 []∧Px.play V l answers=Px.ended s1∧(Px.ended s1).asks.length≤1000000000∧(s1.over=0→s1.stop=false→s1.piles.length=1)):=⟨H1.out.1.trans b1,h1,hP,hbb,by simpa using hI.2.2⟩
   clear h1 hI hP hbb b1 g0 g1 g2 g3 g4 g5 g6 g7 gf;by_cases hov:s1.over=0
   ·have t0:((s1.over:Int) != 0)=false:=by rw[hov];rfl
    have HO:Hid (s1.over=0):=hov;clear hov;cases hst:s1.stop
    ·rw[hst] at y6;have HO2:Hid (s1.stop=false):=hst;clear hst;cases hfd:s1.failed
     ·rw[hfd] at y7;have HO3:Hid (s1.failed=false):=hfd;clear hfd;have hfin:Px.play V l answers={ s1 with over:=1 }:=by
       rw[H2.out.2.2.1];unfold Px.ended;rw[if_neg (by rw[HO.out,HO2.out];simp),if_neg (by rw[HO3.out];simp)]
      have H3:Hid (_):=hfin;clear hfin;go_wp2_with fail;go_ret;rw[H3.out];exact ⟨c,_,_,_,_,_,rfl,H2.out.1.trans (H2.out.2.1.qd1 (qcp (Tch.refl _ _) rfl)),H2.out.2.1.zmd 1⟩
     ·rw[hfd] at y7;have HO3:Hid (s1.failed=true):=hfd;clear hfd;have hfin:Px.play V l answers=(if (Px.qb5 s1).over=0∧(Px.qb5 s1).stop=false then { Px.qb5 s1 with over:=2 } else Px.qb5 s1):=by
       rw[H2.out.2.2.1];unfold Px.ended;rw[if_neg (by rw[HO.out,HO2.out];simp),if_pos HO3.out]
      have hub:(Px.qb5 s1).asks.length≤1000000000:=by
       have h3:=H2.out.2.2.2.1;rw[← H2.out.2.2.1,hfin] at h3;split at h3
       ·exact h3
       ·exact h3
      have hne:s1.piles≠[]:=fun e=>by have h4:=H2.out.2.2.2.2 HO.out HO2.out;rw[e] at h4;simp at h4
      have hS2:St ((w1.setCell ⟨c,5,none⟩ (.int .i64 1)).setCell ⟨c,5,none⟩ (.int .i64 0)) w.heap.size c V s1 (.slice fa V.length fc) vh1 vl1 va1 vp1 pv1 []:=by
       have h5:=(H2.out.2.1.zmd 1).zmd 0;have e5:({ s1 with over:=0 }:Px.Rs)=s1:=by rw[← HO.out]
       rw[← e5];exact h5
      have bS2:Below w.heap.size w ((w1.setCell ⟨c,5,none⟩ (.int .i64 1)).setCell ⟨c,5,none⟩ (.int .i64 0)):=H2.out.1.trans (H2.out.2.1.qd1 (qcp (qcp (Tch.refl _ _) rfl) rfl));have H3:Hid (_∧_∧_∧_∧_):=⟨hfin,hub,hne,hS2,bS2⟩;clear hfin hub hne hS2 bS2;go_wp2_with fail;refine (qy6 w.heap.size c V s1 _ vh1 vl1 va1 vp1 pv1 [] _ H3.out.2.2.2.1 H3.out.2.2.1 H3.out.2.1 HO.out).mono ?_;rintro e w2 ⟨rfl,b2,vl2,va2,vp2,pv2,h2⟩;have hfin:=H3.out.1;generalize Px.qb5 s1=s2 at h2 hfin;obtain ⟨z0,z1,z2,z3,z4,z5,z6,z7,zf⟩:=qb1 h2.at_;have H4:Hid (_∧_∧_):=⟨H3.out.2.2.2.2.trans b2,h2,hfin⟩
      clear b2 h2 hfin H3 y0 y1 y2 y3 y4 y5 y6 y7 yf;by_cases hov2:s2.over=0
      ·have t1:((s2.over:Int) == 0)=true:=by rw[hov2];rfl
       have HQ:Hid (s2.over=0):=hov2;clear hov2;cases hst2:s2.stop
       ·rw[hst2] at z6;go_wp2_with fail;go_ret;rw[H4.out.2.2,if_pos ⟨HQ.out,hst2⟩];exact ⟨c,_,_,_,_,_,rfl,H4.out.1.trans (H4.out.2.1.qd1 (qcp (Tch.refl _ _) rfl)),H4.out.2.1.zmd 2⟩
       ·rw[hst2] at z6;go_wp2_with fail;go_ret;rw[H4.out.2.2,if_neg (by rw[hst2];simp)]
        exact ⟨c,_,_,_,_,_,rfl,H4.out.1,H4.out.2.1⟩
      ·have t1:((s2.over:Int) == 0)=false:=by rw[beq_eq_false_iff_ne];omega
       have HQ:Hid (¬ s2.over=0):=hov2;clear hov2;go_wp2_with fail;go_ret;rw[H4.out.2.2,if_neg (fun h=>HQ.out h.1)]
       exact ⟨c,_,_,_,_,_,rfl,H4.out.1,H4.out.2.1⟩
    ·rw[hst] at y6;have hfin:Px.play V l answers=s1:=by rw[H2.out.2.2.1];unfold Px.ended;rw[if_pos (Or.inr hst)]
     have H3:Hid (_):=hfin;clear hfin hst;go_wp2_with fail;go_ret;rw[H3.out];exact ⟨c,_,_,_,_,_,rfl,H2.out.1,H2.out.2.1⟩
   ·have t0:((s1.over:Int) != 0)=true:=by rw[bne_iff_ne];omega
    have hfin:Px.play V l answers=s1:=by rw[H2.out.2.2.1];unfold Px.ended;rw[if_pos (Or.inl hov)]
    have H3:Hid (_):=hfin;clear hfin hov;go_wp2_with fail;go_ret;rw[H3.out];exact ⟨c,_,_,_,_,_,rfl,H2.out.1,H2.out.2.1⟩
open Go.RowKit
def zvo (s:ByteArray) (w:World) (e:Ending) (w':World):Prop :=
 Below w.heap.size w w'∧∃ a n c a' n' c',e=.returned (.tuple #[.slice a n c,.slice a' n' c',.int .i64 ((Px.check s).1:Int),.int .i64 ((Px.check s).2:Int)]) ∧
  ((Px.check s).1=0→∃ l qs,Px.read s=.ok l∧SlAt w' (.slice a n c) qs (In w w')∧SmsAt w' l (In w w') qs∧w'.ownsRow 0 280 2 (.slice a' n' c') (Px.qap l ⟨[],0,0⟩).vars.length (qbr (Px.qap l ⟨[],0,0⟩).vars))
theorem zmb {w:World} {base:Nat} {e:TypeId} {size:Nat} {v:Value} {n:Nat} {xs:List Value} (h:w.ownsRow base e size v n xs):w.ownsRow 0 e size v n xs:=by
 obtain ⟨h1,h2⟩:=h;refine ⟨h1,?_⟩;rcases h2 with h2 | ⟨g,cap,cur,hv,hg,r⟩
 ·exact Or.inl h2
 ·exact Or.inr ⟨g,cap,cur,hv,Nat.zero_le _,r⟩
theorem qx6 (s:ByteArray) (w:World) (hs:s.size≤maxLen):Calls Tryz.prog 19 #[.string s] w (zvo s w):=by
 go_enter Tryz.func19,Tryz.ntmps19
 go_wp2_with fail;refine (qj0 s _ hs).mono ?_;rintro e w1 ⟨hb,a,n,c,x,p,rfl,hr⟩;cases hrd:Px.read s with
 | error r =>
  obtain ⟨c',p'⟩:=r;rw[hrd] at hr;obtain ⟨rfl,rfl,rfl,rfl,rfl⟩:=hr;have hx0:x≠0:=by
   unfold Px.read at hrd;split at hrd
   ·cases hrd;omega
   ·split at hrd
    ·cases hrd;omega
    ·split at hrd
     ·cases hrd;omega
     ·cases hrd
  have t1:((x:Int) != 0)=true:=by rw[bne_iff_ne];omega
  have ck:Hid (Px.check s=(x,p)):=by unfold Hid Px.check;rw[hrd]
  have B:Hid (_):=hb;clear hrd hb;go_wp2_with fail;refine bodyPost_ret (v:=.tuple #[.slice none 0 0,.slice none 0 0,.int .i64 (x:Int),.int .i64 (p:Int)]) (by simp[results,Tryz.results19,go_sem]) rfl ?_
  refine ⟨B.out,none,0,0,none,0,0,by rw[ck.out],fun h=>?_⟩
  rw[ck.out] at h;exact absurd h hx0
 | ok l =>
  rw[hrd] at hr;obtain ⟨rfl,rfl,qs,h1,h2⟩:=hr;obtain ⟨wf,hcnt⟩:=Px.qd0 hrd;generalize hK:Px.qap l ⟨[],0,0⟩=K;have ck:Hid (Px.check s=if K.e=0 then (0,0) else (K.e,K.pl)):=by unfold Hid Px.check;rw[hrd];simp only[hK]
  have HH:Hid (Below w.heap.size w w1∧SlAt w1 (.slice a n c) qs (In w w1)∧SmsAt w1 l (In w w1) qs∧Px.WfS l∧Px.read s=.ok l∧Px.qap l ⟨[],0,0⟩=K):=⟨hb,h1,h2,wf,hrd,hK⟩;have HL:Hid (LkAt (w1.alloc (.cells #[.slice none 0 0,.int .i64 0,.int .i64 0] 93)) w1.heap.size ⟨[],0,0⟩):=by
   refine ⟨none,0,0,?_,World.ownsRow_nil _ _ _ _⟩;show (w1.heap.push _)[w1.heap.size]?=_
   rw[Array.getElem?_push,if_pos rfl];rfl
  clear hb h1 h2 wf hrd hK;go_wp2_with fail;refine (zae w1.heap.size l ⟨[],0,0⟩ _ (In w w1) _ qs (HH.out.2.1.keep fun i hi=>Below.heap_alloc _ _ _ hi.2) (HH.out.2.2.1.keep fun i hi=>Below.heap_alloc _ _ _ hi.2) (fun i hi=>hi.2) HL.out HH.out.2.2.2.1 (by simp;omega)).mono ?_
  rw[HH.out.2.2.2.2.2];rintro e w2 ⟨rfl,l2,b2⟩;obtain ⟨va,vn,vc,g1,g2⟩:=l2.ex;obtain ⟨c0,c1,c2,cf⟩:=cells3 g1;have bW:Below w.heap.size w w2:=(HH.out.1.alloc HH.out.1.size _).trans (b2.mono HH.out.1.size);have hkeep:∀ i,In w w1 i→w2.heap[i]?=w1.heap[i]?:=fun i hi=>by rw[b2.block i hi.2,Below.heap_alloc _ _ _ hi.2]
  have hz2:w1.heap.size < w2.heap.size:=lt_of_cell c0;have H2:Hid (Below w.heap.size w w2∧SlAt w2 (.slice a n c) qs (In w w2)∧SmsAt w2 l (In w w2) qs∧w2.ownsRow (w1.heap.size+1) 280 2 (.slice va vn vc) K.vars.length (qbr K.vars)):=⟨bW,(HH.out.2.1.keep hkeep).mono fun i hi=>⟨hi.1,by have:=hi.2;omega⟩,(HH.out.2.2.1.keep hkeep).mono fun i hi=>⟨hi.1,by have:=hi.2;omega⟩,g2⟩
  clear l2 b2 g1 g2 bW hkeep;by_cases hE:K.e=0
  ·have t1:((K.e:Int) != 0)=false:=by rw[hE];rfl
   have HE:Hid (K.e=0):=hE;clear hE;go_wp2_with fail;go_region
   go_wp2_with fail;refine bodyPost_ret (v:=.tuple #[.slice a n c,.slice va vn vc,.int .i64 0,.int .i64 0]) (by simp[results,Tryz.results19,go_sem]) rfl ?_
   refine ⟨H2.out.1.drew,a,n,c,va,vn,vc,by rw[ck.out,if_pos HE.out];rfl,fun h=>⟨l,qs,HH.out.2.2.2.2.1,H2.out.2.1,H2.out.2.2.1.keep fun _ _=>rfl,?_⟩⟩
   rw[HH.out.2.2.2.2.2];exact World.ownsRow.drew (zmb H2.out.2.2.2)
  ·have t1:((K.e:Int) != 0)=true:=by rw[bne_iff_ne];omega
   have HE:Hid (¬ K.e=0):=hE;clear hE;go_wp2_with fail;go_region
   go_wp2_with fail;refine bodyPost_ret (v:=.tuple #[.slice none 0 0,.slice none 0 0,.int .i64 (K.e:Int),.int .i64 (K.pl:Int)]) (by simp[results,Tryz.results19,go_sem]) rfl ?_
   refine ⟨H2.out.1.drew,none,0,0,none,0,0,by rw[ck.out,if_neg HE.out],fun h=>?_⟩
   rw[ck.out,if_neg HE.out] at h;exact absurd h HE.out
theorem zt7 {s:ByteArray} {l:List Px.Sm} (hr:Px.read s=.ok l) (hc:(Px.check s).1=0):(Px.qap l ⟨[],0,0⟩).e=0∧Px.check s=(0,0):=by
 unfold Px.check at hc ⊢;rw[hr] at hc ⊢;dsimp only at hc ⊢;split at hc
 ·rename_i h;exact ⟨h,by rw[if_pos h]⟩
 ·rename_i h;exact absurd hc h
theorem _root_.Go.Proofs.YthanmfbakpcigaaGreatDoor.Px.zbm (P:Px.Pg) (i:Nat) (arg:Int) (most:Nat) (und:Bool) (m:Px.Ms):(Px.askM P i arg most und m).2.2.asks.length=m.asks.length+1:=by
 unfold Px.askM;split
 ·simp
 ·split
  ·simp
  ·split<;>simp
theorem mt1 (r:Nat×Int×Px.Ms) (n:Nat) (h:r.2.2.asks.length=n):(match r with
  | (0,v,m')=>((0:Nat),{ m' with st:=v::m'.st.tail })
  | (e,_,m')=>(e,m')).2.asks.length=n:=by
 obtain ⟨e,v,m'⟩:=r;cases e<;>exact h
theorem mt2 (r:Nat×Int×Px.Ms) (n:Nat) (u:List (Nat×Int)) (h:r.2.2.asks.length=n):(match r with
   | (0,_,m')=>((0:Nat),{ m' with undos:=u })
   | (1,_,m')=>(4,m')
   | (e,_,m')=>(e,m')).2.asks.length=n:=by
 obtain ⟨e,v,m'⟩:=r;match e with
 | 0=>exact h
 | 1=>exact h
 | e+2=>exact h
theorem mt3 (r:Nat×Px.Ms) (n p:Nat) (h:r.2.asks.length≤n):(match r with
   | (0,m')=>((0:Nat),m')
   | (e,m')=>(e,{ m' with place:=p })).2.asks.length≤n:=by
 obtain ⟨e,m'⟩:=r;cases e<;>exact h
theorem mt4 (r:Nat×Px.Ms) (n:Nat) (h:r.2.asks.length≤n):(match r with
 | (0,m')=>(decide (m'.fin≠0),m')
 | (1,m')=>(decide (m'.fin≠0),{ m' with qak:=true })
 | (2,m')=>(true,m')
 | (3,m')=>(decide (m'.fin≠0),m')
 | (_,m')=>(true,{ m' with fin:=3 })).2.asks.length≤n:=by
 obtain ⟨e,m'⟩:=r;match e with
 | 0=>exact h
 | 1=>exact h
 | 2=>exact h
 | 3=>exact h
 | e+4=>exact h
theorem _root_.Go.Proofs.YthanmfbakpcigaaGreatDoor.Px.zup (P:Px.Pg) (i:Px.Ins) (m:Px.Ms):(Px.doM P i m).2.asks.length≤m.asks.length+1:=by
 unfold Px.doM;by_cases h0:i.k=0
 ·rw[if_pos h0];exact Nat.le_succ _
 rw[if_neg h0];by_cases h1:i.k=1
 ·rw[if_pos h1];exact Nat.le_succ _
 rw[if_neg h1];by_cases h2:i.k=2
 ·rw[if_pos h2];exact Nat.le_succ _
 rw[if_neg h2];by_cases h3:i.k=3
 ·rw[if_pos h3];exact Nat.le_succ _
 rw[if_neg h3];by_cases h4:i.k=7
 ·rw[if_pos h4];by_cases hh:m.st.headD 0=0
  ·rw[if_pos hh];exact Nat.le_succ _
  ·rw[if_neg hh];exact Nat.le_succ _
 rw[if_neg h4];by_cases h5:i.k≤10
 ·rw[if_pos h5];exact Nat.le_succ _
 rw[if_neg h5];by_cases h6:i.k=11
 ·rw[if_pos h6];exact Nat.le_succ _
 rw[if_neg h6];by_cases h7:i.k=12
 ·rw[if_pos h7];exact Nat.le_succ _
 rw[if_neg h7];by_cases h8:i.k=13
 ·rw[if_pos h8];exact Nat.le_succ _
 rw[if_neg h8];by_cases h9:i.k=14
 ·rw[if_pos h9];by_cases hh:0 < m.st.headD 0
  ·rw[if_pos hh];exact Nat.le_succ _
  ·rw[if_neg hh];exact Nat.le_succ _
 rw[if_neg h9];by_cases h10:i.k=15
 ·rw[if_pos h10];exact Nat.le_succ _
 rw[if_neg h10];by_cases h11:i.k=16
 ·rw[if_pos h11];exact Nat.le_succ _
 rw[if_neg h11];by_cases h12:i.k=17
 ·rw[if_pos h12];exact Nat.le_succ _
 rw[if_neg h12];by_cases h13:i.k=18
 ·rw[if_pos h13];exact Nat.le_of_eq (mt1 _ _ (Px.zbm P i.a (m.st.headD 0) i.b false m))
 rw[if_neg h13];exact Nat.le_succ _
theorem _root_.Go.Proofs.YthanmfbakpcigaaGreatDoor.Px.zel (P:Px.Pg) (m:Px.Ms):(Px.qa2 P m).2.asks.length≤m.asks.length+1:=by
 have hb:(Px.qa2.behind m).2.asks.length=m.asks.length:=by unfold Px.qa2.behind;split<;>rfl
 unfold Px.qa2;split
 ·omega
 ·rename_i u r hu;split
  ·omega
  ·exact Nat.le_of_eq (mt2 _ _ _ (Px.zbm P u.1 u.2 3 true m))
theorem _root_.Go.Proofs.YthanmfbakpcigaaGreatDoor.Px.zg7 (P:Px.Pg) (m:Px.Ms):(Px.qbo P m).2.asks.length≤m.asks.length+1:=by
 have hs:(Px.qa1 P m).2.asks.length≤m.asks.length+1:=by
  unfold Px.qa1;split
  ·exact Px.zel P m
  ·split
   ·exact Nat.le_succ _
   ·rename_i i hi;exact mt3 _ _ _ (Px.zup P i { m with place:=m.place+1 })
 exact mt4 _ _ hs
theorem _root_.Go.Proofs.YthanmfbakpcigaaGreatDoor.Px.qzv (P:Px.Pg) (n:Nat):∀ m:Px.Ms,(Px.runM P n m).2.asks.length≤m.asks.length+n:=by
 induction n with
 | zero=>intro m;exact Nat.le_refl _
 | succ n ih =>
  intro m;rw[Px.runM];have h1:=Px.zg7 P m;split
  ·dsimp only;omega
  ·have h2:=ih (Px.qbo P m).2;omega
theorem qz1 {s:ByteArray} {l:List Px.Sm} (hr:Px.read s=.ok l) (hc:Px.check s=(0,0)) (answers:List Int):(Px.play (Px.qap l ⟨[],0,0⟩).vars l answers).asks.length≤4000000:=by
 obtain ⟨m,h1,h2,_⟩:=Px.qvy hr hc answers 4000000 (by omega)
 have h3:=Px.qzv (Px.pgOf l) 4000000 ⟨[],List.replicate (Px.pgOf l).nv 0,[],[],[],answers,0,0,false,0⟩;rw[h1] at h3;rw[← h2]
 simpa using h3
open Go.RowKit
theorem zr5 {s:ByteArray} {answers:List Int} (h:¬ (Px.check s).1=0):Px.run s answers=([],0,Px.check s):=by
 unfold Px.run;cases hr:Px.read s with
 | error r =>
  have:Px.check s=r:=by unfold Px.check;rw[hr]
  rw[this]
 | ok l =>
  dsimp only;rw[if_neg (fun e=>h (by rw[e]))]
theorem zlq {s:ByteArray} {answers:List Int} {l:List Px.Sm} (hr:Px.read s=.ok l) (h:Px.check s=(0,0)):Px.run s answers=((Px.play (Px.qap l ⟨[],0,0⟩).vars l answers).asks,(Px.play (Px.qap l ⟨[],0,0⟩).vars l answers).over,0,0):=by
 unfold Px.run;rw[hr];dsimp only;rw[if_pos h]
theorem AnsAt.keep {w w':World} {v:Value} {l:List Int} (h:AnsAt w v l) (hb:Below w.heap.size w w'):AnsAt w' v l:=by
 obtain ⟨ad,cap,rfl,h1,h2,h3⟩:=h;refine ⟨ad,cap,rfl,h1,h2,fun i hi=>?_⟩
 obtain ⟨a,rfl,h4,h5⟩:=h3 i hi;refine ⟨a,rfl,Nat.lt_of_lt_of_le h4 hb.size,?_⟩;have hbl:(a.add i).block < w.heap.size:=by unfold Addr.add;split<;>exact h4
 rw[hb.cell hbl];exact h5
theorem zja {s:ByteArray} {l:List Px.Sm} (hr:Px.read s=.ok l):Px.WfS l∧Px.cnt l≤999999∧(Px.qap l ⟨[],0,0⟩).vars.length≤1000000:=by
 obtain ⟨h1,h2⟩:=Px.qd0 hr;have h3:=Px.qdh l ⟨[],0,0⟩;simp at h3;refine ⟨h1,by omega,by omega⟩
theorem zwm {w:World} {base base':Nat} {e:TypeId} {size:Nat} {v:Value} {n:Nat} {xs:List Value} (h:w.ownsRow base e size v n xs) (hb:base'≤base):w.ownsRow base' e size v n xs:=by
 obtain ⟨h1,h2⟩:=h;refine ⟨h1,?_⟩;rcases h2 with h2 | ⟨g,cap,cur,hv,hg,r⟩
 ·exact Or.inl h2
 ·exact Or.inr ⟨g,cap,cur,hv,Nat.le_trans hb hg,r⟩
def qnb (s:ByteArray) (answers:List Int) (w:World) (e:Ending) (w':World):Prop :=
 Below w.heap.size w w'∧∃ va,e=.returned (.tuple #[va,.int .i64 ((Px.run s answers).2.1:Int),.int .i64 ((Px.run s answers).2.2.1:Int),.int .i64 ((Px.run s answers).2.2.2:Int)])∧w'.ownsRow w.heap.size 66 4 va (Px.run s answers).1.length (qfs (Px.run s answers).1)
theorem qh2 (hall:∀ B c V l,Px.WfS l→Px.okS V l→Dos B c V l) (s:ByteArray) (answers:List Int) (av:Value) (w:World) (hs:s.size≤maxLen) (ha:AnsAt w av answers):Calls Tryz.prog 8 #[.string s,av] w (qnb s answers w):=by
 have HA:Hid (AnsAt w av answers):=ha;obtain ⟨ad,acap,rfl,_,_,_⟩:=ha;have HALL:Hid (∀ B c V l,Px.WfS l→Px.okS V l→Dos B c V l):=hall;clear hall;go_enter Tryz.func8,Tryz.ntmps8
 go_wp2_with fail;refine (qx6 s _ hs).mono ?_;rintro e w1 ⟨hb,a,n,c,a',n',c',rfl,hr⟩;by_cases h0:(Px.check s).1=0
 ·obtain ⟨l,qs,hrd,h1,h2,h3⟩:=hr h0;obtain ⟨g1,g2⟩:=zt7 hrd h0;obtain ⟨wf,hcn,hvn⟩:=zja hrd;obtain ⟨tr,_⟩:=Px.qxq hrd;obtain ⟨_,_,_,okk⟩:=Px.qg9 l ⟨[],0,0⟩ wf tr (fun v hv=>by cases hv) g1
  have okk:=okk [];rw[List.append_nil] at okk;have t1:(((Px.check s).1:Int) != 0)=false:=by rw[h0];rfl
  have hpl:=qz1 hrd g2 answers;have hD:∀ B c,Dos B c (Px.qap l ⟨[],0,0⟩).vars l:=fun B c=>HALL.out B c _ l wf okk
  have hR:=zlq (answers:=answers) hrd g2;have H1:Hid (Below w.heap.size w w1∧(SlAt w1 (.slice a n c) qs (In w w1)∧SmsAt w1 l (In w w1) qs)∧w1.ownsRow 0 280 2 (.slice a' n' c') (Px.qap l ⟨[],0,0⟩).vars.length (qbr (Px.qap l ⟨[],0,0⟩).vars)∧(∀ B c,Dos B c (Px.qap l ⟨[],0,0⟩).vars l)∧(Px.play (Px.qap l ⟨[],0,0⟩).vars l answers).asks.length≤4000000∧Px.cnt l≤999999∧(Px.qap l ⟨[],0,0⟩).vars.length≤1000000∧_):=⟨hb,⟨h1,h2⟩,h3,hD,hpl,hcn,hvn,hR⟩;have hbA:=HA.out.keep hb;have HB:Hid (_):=hbA;clear hb hr h1 h2 h3 hD hpl hR hbA wf okk tr g1 g2 hrd hcn hvn;go_wp2_with fail;refine (zl5 l _ answers _ (In w w1) _ qs _ _ H1.out.2.1.1 H1.out.2.1.2 (fun i hi=>hi.2) H1.out.2.2.1 HB.out H1.out.2.2.2.1 H1.out.2.2.2.2.2.1 H1.out.2.2.2.2.2.2.1 (by have:=H1.out.2.2.2.2.1;omega)).mono ?_
  rintro e w2 ⟨c2,vh,vl,va,vp,pv,rfl,b2,hst⟩;obtain ⟨y0,y1,y2,y3,y4,y5,y6,y7,yf⟩:=qb1 hst.at_;obtain ⟨sa,sn,sc,rfl⟩:=qad hst.asks;have H2:Hid (_∧_):=⟨b2,hst⟩;clear b2 hst;go_wp2_with fail;go_region
  all_goals
   go_wp2_with fail;refine bodyPost_ret (v:=.tuple #[.slice sa sn sc,.int .i64 ((Px.play (Px.qap l ⟨[],0,0⟩).vars l answers).over:Int),.int .i64 0,.int .i64 0]) (by simp[results,Tryz.results8,go_sem]) rfl ?_
   rw[qnb,H1.out.2.2.2.2.2.2.2];exact ⟨(H1.out.1.trans (H2.out.1.mono H1.out.1.size)).drew,_,rfl,World.ownsRow.drew (zwm H2.out.2.asks H1.out.1.size)⟩
 ·have t1:(((Px.check s).1:Int) != 0)=true:=by rw[bne_iff_ne];omega
  have hR:=zr5 (answers:=answers) h0;have H1:Hid (_∧_):=⟨hb,hR⟩;clear hb hr hR h0;go_wp2_with fail;refine bodyPost_ret (v:=.tuple #[.slice none 0 0,.int .i64 0,.int .i64 ((Px.check s).1:Int),.int .i64 ((Px.check s).2:Int)]) (by simp[results,Tryz.results8,go_sem]) rfl ?_
  rw[qnb,H1.out.2];exact ⟨H1.out.1,_,rfl,World.ownsRow_nil _ _ _ _⟩
end Ref
end Go.Proofs.YthanmfbakpcigaaGreatDoor
