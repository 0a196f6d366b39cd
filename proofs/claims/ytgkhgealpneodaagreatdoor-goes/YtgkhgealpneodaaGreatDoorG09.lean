import Derived.Test.YtgkhgealpneodaaGreatDoorG06
set_option maxRecDepth 100000
set_option maxHeartbeats 4000000
namespace Go.Proofs.YtgkhgealpneodaaGreatDoor
open Go.RowKit Tryz
namespace Ref
open Px
def qx(V:Vs)(x:Sm)(s1:Rs):Rs:=
 if s1.over≠0\/s1.stop=true then s1
 else if s1.failed then(let s2:=mM {s1 with failed:=false};if s2.going then ig V x.two s2 else s2)
 else{s1 with eU:=jq s1.eU.dropLast (s1.eU.getLastD [])}
theorem zk0(V:Vs)(x:Sm)(s1:Rs):s1.eY <+: (qx V x s1).eY:=by
 unfold qx;split;·exact aR _
 split
 ·have h1:=Mf {s1 with failed:=false};dsimp only;split;·exact h1.trans (Ee V x.two _)
  exact h1
 exact aR _
theorem znn{ps:List (List (dX×Int))}(h:ps≠[]):jq ps []=ps:=by obtain⟨qs,q,e⟩:∃qs q,ps=qs++[q]:=⟨_,_,(bM h).symm⟩;subst e;simp[jq,List.getLastD_eq_getLast?]
theorem zno(ps:List (List (dX×Int)))(a b:List (dX×Int)):jq (jq ps a) b=jq ps (a++b):=by simp[jq,List.getLastD_eq_getLast?]
theorem ztr(ps:List (List (dX×Int)))(a:List (dX×Int)):jq ps a≠[]:=by simp[jq]
theorem NH{W:dY}{b:Nat}{p:dZ}{t:TypeId}(h:W.heap[b]?=some (.cells #[p] t)):∀j u,[p][j]?=some u->W.cell? ((⟨b,0,none⟩:Addr).add j)=some u:=by intro j u hj;match j,hj with| 0,hj=>simp at hj;subst hj;simp[Addr.add,World.cell?,h]
theorem zxt(B c:Nat)(V:Vs)(x:Sm)(hop:x.op=116)(i1:JD B c V x.one)(i2:JD B c V x.two):pU B c V 180 x:=by
 intro s w ok q vv vh vl va vp pv hx hok hs hlen hgo hpl hfl hpn hb;obtain⟨hq,ve,v1,v2,q1,q2,hv,_,e4,e5,e6,e7⟩:=hx;obtain⟨d0,d1,d2,d3,d4,d5,d6,d7,d8,d9,kJ,df⟩:=jy hv;have qc:=hok q hq;have hrun:iQ V x s=qx V x (ig V x.one {s with eU:=s.eU++[[]]}):=by unfold iQ;rw[ah (by omega),ah (by omega),ah (by omega),aA hop];rfl
 have hB:=hs.hB;have hcz:=hs.lt;obtain⟨c0,c1,c2,c3,c4,c5,c6,c7,cf⟩:=oh hs.at_;obtain⟨a1,n1,k1,rfl⟩:∃a n c,v1=.slice a n c:=by obtain⟨a,c',h,_⟩:=e4.len;exact⟨_,_,_,h⟩
 obtain⟨a2,n2,k2,rfl⟩:∃a n c,v2=.slice a n c:=by obtain⟨a,c',h,_⟩:=e6.len;exact⟨_,_,_,h⟩
 obtain⟨pa,pn,pc,rfl⟩:=lu hs.eU;obtain⟨i0,hi,hz0,hz1,hz2⟩:=info_parts Nu;have hpb:=bR.2 hpl;have HX:Hid ((∀i,ok i->i<B)/\(jc w (.slice a1 n1 k1) q1 ok/\gF w x.one ok q1)/\(jc w (.slice a2 n2 k2) q2 ok/\gF w x.two ok q2)/\w.heap[q]?=some (.cells (p9 x ve (.slice a1 n1 k1) (.slice a2 n2 k2)) 172)):=⟨hok,⟨e4,e5⟩,⟨e6,e7⟩,hv⟩;have HS:Hid (St w B c V s vv vh vl va (.slice pa pn pc) pv []/\s.held.length=V.length/\s.eU≠[]/\s.eU.flatten.length<=s.eY.length/\iQ V x s=qx V x (ig V x.one {s with eU:=s.eU++[[]]})/\(iQ V x s).eY.length<=1000000000):=⟨hs,hlen,hpl,hfl,hrun,hb⟩;generalize hA:(Obj.cells #[iE] 241)=A;have hW:fE (fun _=>False) w (w.alloc A):=(fE.refl _ _).alloc _;have O1:Hid ((w.alloc A).ownsRow B 241 1 (.slice pa pn pc) s.eU.length pv):=iM hs.eU hW (fun _ _ h=>h);have O2:Hid (∀j u,[Value.slice none 0 0][j]?=some u->(w.alloc A).cell? ((⟨w.heap.size,0,none⟩:Addr).add j)=some u):=by refine NH (t:=241) ?_;show(w.heap.push A)[w.heap.size]?=_;rw[aD,aA rfl,<- hA]
 have O3:Hid (∀u∈[Value.slice none 0 0],u.oneCell'=true):=by intro u hu;simp at hu;subst hu;rfl
 have O4:Hid (s.eU.length+1<=maxLen):=by unfold Hid maxLen;omega
 have O5:Hid ((s.eU.length+1)*24<=140737488355328):=by unfold Hid;omega
 have O6:Hid (B<=(w.alloc A).heap.size):=by show B<=(w.heap.push A).size;simp;omega
 have AQ:Hid _:=hs.Q6 hW;have zy:Hid (w.heap[c]?=_):=hs.at_;subst hA;clear hok e4 e5 e6 e7 hv hs hlen hpl hfl hrun hb hgo hW;go_enter func180,ntmps180;go_wp2_with (first
  |(at_builtin;refine wpList_append_own_at _ rfl _ _ 91 rfl B 241 i0 (iE) 1 24 underlying91 hi hz0 hz1 hz2 rfl (bX 0) _ _ _ rfl O1.o _ 1 1 _ rfl rfl O2.o O3.o O4.o O5.o O6.o ?_)
  |fail)
 intro v' w3 hown' hgrow _ hloc;obtain⟨va',vn',vc',rfl,hc3,HL⟩:=AQ.o v' w3 hown' hgrow (by simpa using hloc);obtain⟨g0,g1,g2,g3,g4,g5,g6,g7,gf⟩:=oh (hc3.trans zy.o);have uy:(w3.setCell ⟨c,4,none⟩ (.slice va' vn' vc')).heap[q]?=_:=(HL.o.2.block q qc).trans HX.o.2.2.2;obtain⟨m0,m1,m2,m3,m4,m5,m6,m7,m8,m9,m10,mf⟩:=jy uy;clear hown' hgrow hloc hc3 uy c0 c1 c2 c3 c4 c5 c6 c7 cf d0 d1 d2 d3 d4 d5 d6 d7 d8 d9 kJ df O1 O2 O3 O4 O5 O6 AQ zy;have hk3:∀i,ok i->(w3.setCell ⟨c,4,none⟩ (.slice va' vn' vc')).heap[i]?=w.heap[i]?:=fun i hi=>HL.o.2.block i (HX.o.1 i hi);have H0:Hid ((jc (w3.setCell ⟨c,4,none⟩ (.slice va' vn' vc')) (.slice a1 n1 k1) q1 ok/\gF (w3.setCell ⟨c,4,none⟩ (.slice va' vn' vc')) x.one ok q1)):=⟨HX.o.2.1.1.keep hk3,HX.o.2.1.2.keep hk3⟩;have hpre:(ig V x.one {s with eU:=s.eU++[[]]}).eY.length<=1000000000:=by have h1:=(zk0 V x (ig V x.one {s with eU:=s.eU++[[]]})).length_le;rw[<- HS.o.2.2.2.2.1]at h1;have:=HS.o.2.2.2.2.2;omega
 have hi3:=Bj V x.one {s with eU:=s.eU++[[]]} (by simp) (by simpa using HS.o.2.2.2.1);have H1:Hid (_/\_):=⟨hpre,hi3⟩;clear hk3 hpre hi3;go_wp2_with fail;refine(i1 {s with eU:=s.eU++[[]]} _ ok _ q1 vv vh vl va _ _ H0.o.1 H0.o.2 HX.o.1 HL.o.1 HS.o.2.1 (by simp) (by simpa using HS.o.2.2.2.1) (by simp;omega) H1.o.1).mono ?_;rintro e w1 ⟨rfl,b1,vP,mQ,jD,Bu,Bv,h1⟩;have hE:iQ V x s=qx V x (ig V x.one {s with eU:=s.eU++[[]]}):=HS.o.2.2.2.2.1;have hI:=H1.o.2;generalize ig V x.one {s with eU:=s.eU++[[]]}=s1 at h1 hE hI;have bb1:Below B w w1:=HL.o.2.trans b1;have JL:w1.heap[q]?=_:=(bb1.block q qc).trans HX.o.2.2.2;clear m0 m1 m2 m3 m4 m5 m6 m7 m8 m9 m10 mf g0 g1 g2 g3 g4 g5 g6 g7 gf;obtain⟨m0,m1,m2,m3,m4,m5,m6,m7,m8,m9,m10,mf⟩:=jy JL;obtain⟨g0,g1,g2,g3,g4,g5,g6,g7,gf⟩:=oh h1.at_;have HT:Hid (iQ V x s=qx V x s1/\(s1.held.length=s.held.length/\s1.eU.flatten.length<=s1.eY.length/\(s1.over=0->s1.stop=false->s1.eU.length=(s.eU++[[]]).length))/\Below B w w1/\St w1 B c V s1 vv vP mQ jD Bu Bv []):=⟨hE,hI,bb1,h1⟩;clear hE hI bb1 h1 JL b1 H0 H1 HL;by_cases hov:s1.over=0
 ·have t0:((s1.over:Int) != 0)=false:=by rw[hov];rfl
  have HO:Hid (s1.over=0):=hov;clear hov;cases hst:s1.stop
  ·rw[hst]at g6;have yA:Hid (s1.stop=false):=hst;clear hst;have vB:s1.eU.length=s.eU.length+1:=by have:=HT.o.2.1.2.2 HO.o yA.o;simpa using this
   cases yB:s1.failed
   ·rw[yB]at g7;have Dc:Hid (s1.failed=false):=yB;clear yB;have hne1:s1.eU≠[]:=fun e=>by rw[e]at vB;simp at vB
    obtain⟨gp,JH,pn,qv,tv,rfl,hpc,hpm,hpq,rfl,wR,hpe,uz,hpf⟩:=HT.o.2.2.2.Nr hne1;generalize hps:s1.eU.dropLast=ps at *;generalize htop:s1.eU.getLastD []=top at *;obtain⟨m,hm⟩:∃m,pn=m+1:=⟨pn-1,by rw[hpe]at vB;simp at vB;omega⟩;subst hm;obtain⟨hS,hrow⟩:=HT.o.2.2.2.popped hpe hpq;obtain⟨ta,tn,tc,rfl⟩:=lu hrow;obtain⟨rfl,QZ,_⟩:=Jw hrow;have Df:ps≠[]:=fun e=>by rw[e]at hpq;simp at hpq
    have NI:qx V x s1={s1 with eU:=jq ps top}:=by unfold qx;rw[ah (by rw[HO.o,yA.o];simp),ah (by rw[Dc.o];simp),hps,htop]
    have htl:top.length<=1000000000:=by have h2:=HT.o.2.1.2.1;rw[hpe]at h2;simp at h2;have h3:=HS.o.2.2.2.2.2;rw[HT.o.1,NI]at h3;dsimp only at h3;omega
    have htot:ps.flatten.length+top.length<=1000000000:=by have h2:=HT.o.2.1.2.1;rw[hpe]at h2;simp at h2;have h3:=HS.o.2.2.2.2.2;rw[HT.o.1,NI]at h3;dsimp only at h3;simp;omega
    have bS:=HT.o.2.2.1.trans (HT.o.2.2.2.xM (w':=w1.setCell ⟨c,4,none⟩ (.slice (some ⟨gp,0,none⟩) (m+1) JH)) (r9 (fE.refl _ _) rfl));have H2:Hid (_/\_/\_/\_/\ps≠[]/\m+1=ps.length/\ps.flatten.length+top.length<=1000000000):=⟨hS,hrow,NI,bS,Df,hpq,htot⟩;unfold maxLen at hpm QZ;clear hS hrow NI bS Df hpq wR hpe hps htop hne1 htot;go_wp2_with fail;go_loopw [6] (fun i wr=>∃j:Nat,j<=top.length/\i=eF (j:Int)/\Hid (Below B w wr/\∃vp' pv',St wr B c V {s1 with eU:=jq ps (top.take j)} vv vP mQ jD vp' pv' [.slice ta top.length tc]/\wr.ownsRow B 244 2 (.slice ta top.length tc) top.length (rZ top))) (fun i _=>top.length-(intOf i).toNat)
    case atStart=>exact⟨0,by omega,rfl,H2.o.2.2.2.1,_,_,by rw[List.take_zero,znn H2.o.2.2.2.2.1];exact H2.o.1,H2.o.2.1⟩
    case round=>
     obtain⟨j,hj,rfl,hr⟩:=hrel;by_cases hlt:j<top.length
     ·obtain⟨hbr,vp',pv',hs',hrow'⟩:=hr.o;obtain⟨_,_,hcells⟩:=Jw hrow';obtain⟨gt,rfl,hc1,hc2⟩:=hcells j hlt;have htk:top.take (j+1)=top.take j++[(top[j].1,top[j].2)]:=by rw[aZ hlt]
      generalize top[j].1=tw at hc1 htk;generalize top[j].2=tx at hc2 htk;obtain⟨gq,qcap,qn,rv,uv,rfl,hqc,hqm,hqq,rfl,hrn,hqe,vZ,Xv⟩:=hs'.Nr (ztr _ _);dsimp only at hqq hqe;have NJ:(jq ps (top.take j)).dropLast.length=m:=by have:=H2.o.2.2.2.2.2.1;simp[jq];omega
      rw[NJ]at hqq;subst hqq;generalize hlast:(jq ps (top.take j)).getLastD []=last at hqe;have hrow2:wr.ownsRow B 244 2 uv last.length (rZ last):=hs'.each qn last uv (by dsimp only;rw[hqe];rw[aY (by omega),NJ];simp) (by rw[<- hrn];simp);obtain⟨ua,un,uc,rfl⟩:=lu hrow2;have hll:last.length<=1000000000:=by
       have h3:last.length<=(jq ps (top.take j)).flatten.length:=by rw[hqe];simp
       have h4:(jq ps (top.take j)).flatten.length=ps.flatten.length+(top.take j).length:=by have hne:=H2.o.2.2.2.2.1;obtain⟨qs,q',e⟩:∃qs q',ps=qs++[q']:=⟨_,_,(bM hne).symm⟩;rw[e];simp[jq,List.getLastD_eq_getLast?];omega
       have h5:=H2.o.2.2.2.2.2.2;rw[bZ]at h4;omega
      obtain⟨i0,hi,hz0,hz1,hz2⟩:=info_parts Xn;generalize hA:(Obj.cells #[.string tw,eF tx] 244)=A;have hW:fE (fun _=>False) wr ((wr.alloc A).drew):=((fE.refl _ _).alloc _).drew;have O1:Hid (((wr.alloc A).drew).ownsRow B 244 2 (.slice ua un uc) last.length (rZ last)):=iM hrow2 hW (fun _ _ h=>h);have O2:Hid (∀j' u,[.string tw,eF tx][j']?=some u->((wr.alloc A).drew).cell? ((⟨wr.heap.size,0,none⟩:Addr).add j')=some u):=Nz (t:=244) (by show(wr.heap.push A)[wr.heap.size]?=_;rw[aD,aA rfl,<- hA]);have O3:Hid (∀u∈[Value.string tw,eF tx],u.oneCell'=true):=by intro u hu;simp at hu;obtain rfl|rfl:=hu<;>rfl
      have O4:Hid (last.length+1<=maxLen):=by unfold Hid maxLen;omega
      have O5:Hid ((last.length+1)*24<=140737488355328):=by unfold Hid;omega
      have O6:Hid (B<=((wr.alloc A).drew).heap.size):=by have:=hs'.lt;show B<=(wr.heap.push A).size;simp;omega
      have AQ:Hid _:=hs'.Nt (by dsimp only;exact hqe) (by dsimp only;exact NJ.symm) tw tx hW;have AK:Hid _:=hs'.znp hrn hW (bD.2 rfl) hrow';have zy:Hid (wr.heap[c]?=_/\∀w3:dY,w3.heap[gq]?=wr.heap[gq]?->w3.cell? ⟨gq,qn,none⟩=some (.slice ua un uc)/\∀o,w3.frozen? ⟨gq,o,none⟩=false):=⟨hs'.at_,fun w3 h3=>⟨(aH (w:=wr) (a:=⟨gq,qn,none⟩) h3).trans vZ,fun o=>(cO (w:=wr) (a:=⟨gq,o,none⟩) h3).trans (Xv o)⟩⟩;have hgq:gq<wr.heap.size:=lt_of_cell vZ;have hgt:gt<wr.heap.size:=lt_of_cell hc1;have hgc:c<wr.heap.size:=hs'.lt;have hqlt:((qn:Int)<(qn:Int)+1):=by omega
      have hwrap:IntKind.i64.wrap (qn:Int)=(qn:Int):=by unfold maxLen at hqm;rw[IntKind.wrap_i64];omega
      have hq0:(0:Int)<=(qn:Int):=by omega
      obtain⟨y0,y1,y2,y3,y4,y5,y6,y7,yf⟩:=oh hs'.at_;have H3:Hid (Below B w wr/\top.take (j+1)=top.take j++[(tw,tx)]):=⟨hbr,htk⟩;subst hA;unfold maxLen at hqm;clear hr hbr hs' hrow' hcells hrow2 hqe NJ hrn hlast hW htk m0 m1 m2 m3 m4 m5 m6 m7 m8 m9 m10 mf g0 g1 g2 g3 g4 g5 g6 g7 gf uz hpf;have FIN:Hid (∀wd vd pd,Hid (St wd B c V {s1 with eU:=jq (jq ps (top.take j)) [(tw,tx)]} vv vP mQ jD vd pd [.slice (some ⟨gt,0,none⟩) top.length tc]/\Below B wr wd)->Hid (wd.ownsRow B 244 2 (.slice (some ⟨gt,0,none⟩) top.length tc) top.length (rZ top)) ->
        Hid (Below B w wd/\∃vp' pv',St wd B c V {s1 with eU:=jq ps (top.take (j+1))} vv vP mQ jD vp' pv' [.slice (some ⟨gt,0,none⟩) top.length tc]/\wd.ownsRow B 244 2 (.slice (some ⟨gt,0,none⟩) top.length tc) top.length (rZ top))):=by
       intro wd vd pd h4 h5;refine⟨H3.o.1.trans h4.o.2,vd,pd,?_,h5.o⟩;have h6:=h4.o.1;rw[zno,<- H3.o.2]at h6;exact h6
      clear y0 y1 y2 y3 y5 y6 y7 t0 hq hop hpn vB hpc hpm hll H3 HT HO yA Dc H2 HX HS;go_wp2_with fail;go_region_law (refine zk rfl _ _ 241 rfl B 244 i0 (.agg #[.string ⟨#[]⟩,eF 0]) 2 24 underlying241 hi hz0 hz1 hz2 rfl (bX 1) _ _ _ rfl O1.o _ 1 1 _ rfl rfl O2.o O3.o O4.o O5.o O6.o ?_;intro v' w3 hown' hgrow hloc;have Xw:=AK.o v' w3 hgrow;obtain⟨va',vn',vc',rfl,hc3,hg3,HL⟩:=AQ.o v' w3 hown' hgrow hloc;have HK:Hid _:=Xw;obtain⟨_,_,_,_,k4,_,_,_,kf⟩:=oh (hc3.trans zy.o.1);obtain⟨kp,Xq⟩:=zy.o.2 w3 hg3;have HF:=FIN.o _ _ _ HL HK;clear hown' hgrow hloc hc3 hg3 Xw HL HK)
      all_goals
       clear hc1 hc2 vZ Xv y4 yf O1 O2 O3 O4 O5 O6 AQ AK zy FIN kp Xq k4 kf hi hz0 hz1 hz2;go_wp2_with fail;exact⟨⟨j+1,by omega,by go_num,HF⟩,by simp[intOf];omega⟩
     obtain rfl:j=top.length:=by omega
     obtain⟨hbr,vp',pv',hs',hrow'⟩:=hr.o;have H3:Hid (_/\_):=⟨hbr,hs'⟩;clear hr hbr hs' hrow';go_wp2_with fail;go_end0
     rw[HT.o.1,H2.o.2.2.1];have h4:=H3.o.2;rw[dH]at h4;exact⟨rfl,H3.o.1,_,_,_,_,_,h4.fewer⟩
   rw[yB]at g7;have Dc:Hid (s1.failed=true):=yB;clear yB;have hE2:qx V x s1=(if(mM {s1 with failed:=false}).going then ig V x.two (mM {s1 with failed:=false})else mM {s1 with failed:=false}):=by unfold qx;rw[ah (by rw[HO.o,yA.o];simp),aA Dc.o]
   have hub:(mM {s1 with failed:=false}).eY.length<=1000000000:=by
    have h2:=HS.o.2.2.2.2.2;rw[HT.o.1,hE2]at h2;split at h2;·have:=(Ee V x.two (mM {s1 with failed:=false})).length_le;omega
    exact h2
   have Xx:St (w1.setCell ⟨c,7,none⟩ (.bool false)) B c V {s1 with failed:=false} vv vP mQ jD Bu Bv []:=HT.o.2.2.2.own (r9 (fE.refl _ _) rfl) (by rw[heap_set _ HT.o.2.2.2.at_];simp) rfl rfl rfl rfl;have Xy:Below B w (w1.setCell ⟨c,7,none⟩ (.bool false)):=HT.o.2.2.1.trans (HT.o.2.2.2.xM (r9 (fE.refl _ _) rfl));have hne1:s1.eU≠[]:=fun e=>by rw[e]at vB;simp at vB
   have HU:Hid (_/\_/\_/\_/\_):=⟨hE2,hub,Xx,Xy,hne1⟩;clear hE2 hub Xx Xy hne1;go_wp2_with fail;refine(Xg B c V {s1 with failed:=false} vv vP mQ jD Bu Bv [] _ HU.o.2.2.1 HU.o.2.2.2.2 HU.o.2.1 HO.o).mono ?_;rintro e w2 ⟨rfl,b2,om,jO,ND,NG,h2⟩;have bb2:Below B w w2:=HU.o.2.2.2.1.trans b2;have JM:w2.heap[q]?=_:=(bb2.block q qc).trans HX.o.2.2.2;clear m0 m1 m2 m3 m4 m5 m6 m7 m8 m9 m10 mf g0 g1 g2 g3 g4 g5 g6 g7 gf;obtain⟨m0,m1,m2,m3,m4,m5,m6,m7,m8,m9,m10,mf⟩:=jy JM;have hkeep:=ML (s1.eU.getLastD []).reverse {s1 with failed:=false,eU:=s1.eU.dropLast};have hU:mM {s1 with failed:=false}=ny (s1.eU.getLastD []).reverse {s1 with failed:=false,eU:=s1.eU.dropLast}:=rfl;rw[<- hU]at hkeep;have Rh:=HU.o.1;have Xz:=HU.o.2.1;generalize mM {s1 with failed:=false}=s2 at h2 hkeep Rh Xz;dsimp only at hkeep;have hk2:∀i,ok i->w2.heap[i]?=w.heap[i]?:=fun i hi=>bb2.block i (HX.o.1 i hi);have H2:Hid (qx V x s1=(if s2.going then ig V x.two s2 else s2)/\Below B w w2/\St w2 B c V s2 vv vP om jO ND NG []/\(jc w2 (.slice a2 n2 k2) q2 ok/\gF w2 x.two ok q2)/\(s2.held=s1.held/\s2.eU=s1.eU.dropLast/\s1.eY.length<=s2.eY.length)):=⟨Rh,bb2,h2,⟨HX.o.2.2.1.1.keep hk2,HX.o.2.2.1.2.keep hk2⟩,hkeep.1,hkeep.2.1,hkeep.2.2.2⟩;clear Rh bb2 h2 hkeep hU JM b2 HU hk2 Xz;cases hg2:s2.going;·go_wp2_with fail;refine(Nn B c V s2 vv vP om jO ND NG [] _ H2.o.2.2.1).mono ?_;rintro e w' ⟨rfl,rfl⟩;rw[hg2];go_wp2_with fail;refine bodyPost_ret (results_none rfl _ _ _) rfl ?_;rw[HT.o.1,H2.o.1,hg2];exact⟨rfl,H2.o.2.1,_,_,_,_,_,H2.o.2.2.1⟩
   have HG:Hid (s2.going=true):=hg2;have hb2:(ig V x.two s2).eY.length<=1000000000:=by have h3:=HS.o.2.2.2.2.2;rw[HT.o.1,H2.o.1,hg2]at h3;exact h3
   have hd2:s2.eU.length=s.eU.length:=by rw[H2.o.2.2.2.2.2.1,cK,vB];omega
   have hf2:s2.eU.flatten.length<=s2.eY.length:=by have h4:=Wu s1.eU;have h5:=HT.o.2.1.2.1;have h6:=H2.o.2.2.2.2.2.2;rw[H2.o.2.2.2.2.2.1];omega
   have H3:Hid (_/\_/\_):=⟨hb2,hd2,hf2⟩;clear hb2 hd2 hf2;go_wp2_with fail;refine(Nn B c V s2 vv vP om jO ND NG [] _ H2.o.2.2.1).mono ?_;rintro e w' ⟨rfl,rfl⟩;rw[HG.o];go_wp2_with fail;refine(i2 s2 _ ok _ q2 vv vP om jO _ _ H2.o.2.2.2.1.1 H2.o.2.2.2.1.2 HX.o.1 H2.o.2.2.1 (by rw[H2.o.2.2.2.2.1,HT.o.2.1.1];exact HS.o.2.1) (fun e=>by have h3:=H3.o.2.1;rw[e]at h3;exact HS.o.2.2.1 (bA.1 h3.symm)) H3.o.2.2 (by rw[H3.o.2.1];omega) H3.o.1).mono ?_;rintro e w4 ⟨rfl,b4,vh4,GZ,va4,vp4,pv4,h4⟩;have H4:Hid (_/\_):=⟨b4,h4⟩;clear b4 h4;go_wp2_with fail;refine bodyPost_ret (results_none rfl _ _ _) rfl ?_;rw[HT.o.1,H2.o.1,HG.o];exact⟨rfl,H2.o.2.1.trans H4.o.1,_,_,_,_,_,H4.o.2⟩
  rw[hst]at g6;have yA:Hid (s1.stop=true):=hst;clear hst;go_wp2_with fail;refine bodyPost_ret (results_none rfl _ _ _) rfl ?_;have hfin:iQ V x s=s1:=by rw[HT.o.1];unfold qx;rw[aA (aj yA.o)]
  rw[hfin];exact⟨rfl,HT.o.2.2.1,_,_,_,_,_,HT.o.2.2.2⟩
 have t0:((s1.over:Int) != 0)=true:=by rw[bne_iff_ne];omega
 have HO:Hid (¬s1.over=0):=hov;clear hov;go_wp2_with fail;refine bodyPost_ret (results_none rfl _ _ _) rfl ?_;have hfin:iQ V x s=s1:=by rw[HT.o.1];unfold qx;rw[aA (ak HO.o)]
 rw[hfin];exact⟨rfl,HT.o.2.2.1,_,_,_,_,_,HT.o.2.2.2⟩
