import Derived.Test.YtokkhhekekeokaaGreatDoorC08
set_option maxRecDepth 100000
set_option maxHeartbeats 4000000
namespace Go.Proofs.YtokkhhekekeokaaGreatDoor
open Go.RowKit Tryz
namespace Ref
open Px
def oU (V:Vs)(x:Sm)(s1:Rs):Rs :=
 if s1.over≠0\/s1.stop=true then s1
 else if s1.failed then (let s2:=lS { s1 with failed:=false };if s2.going then gJ V x.two s2 else s2)
 else { s1 with fG:=iA s1.fG.dropLast (s1.fG.getLastD []) }
theorem Mn (V:Vs)(x:Sm)(s1:Rs):s1.fI <+: (oU V x s1).fI:=by
 unfold oU;split
 ·exact aO _
 ·split
  ·have h1:=La { s1 with failed:=false }
   dsimp only;split
   ·exact h1.trans (CF V x.two _)
   ·exact h1
  ·exact aO _
theorem Mo {ps:List (List (fq×Int))}(h:ps≠[]):iA ps []=ps:=by
 obtain ⟨qs,q,e⟩:∃ qs q,ps=qs++[q]:=⟨_,_,(bH h).symm⟩;subst e;simp[iA,List.getLastD_eq_getLast?]
theorem Mp (ps:List (List (fq×Int)))(a b:List (fq×Int)):iA (iA ps a) b=iA ps (a++b):=by
 simp[iA,List.getLastD_eq_getLast?]
theorem Mu (ps:List (List (fq×Int)))(a:List (fq×Int)):iA ps a≠[]:=by simp[iA]
theorem Iz {W:fu}{b:Nat}{p:fC}{t:TypeId}(h:W.heap[b]?=some (.cells #[p] t)):∀ j u,[p][j]?=some u->W.cell? ((⟨b,0,none⟩:Addr).add j)=some u:=by
 intro j u hj;match j,hj with
 | 0,hj=>simp at hj;subst hj;simp[Addr.add,World.cell?,h]
theorem My (B c:Nat)(V:Vs)(x:Sm)(hop:x.op=116)(i1:Io B c V x.one)(i2:Io B c V x.two):oz B c V 128 x:=by
 intro s w ok q vv vh vl va vp pv hx hok hs hlen hgo hpl hfl hpn hb;obtain ⟨hq,ve,v1,v2,q1,q2,hv,_,e4,e5,e6,e7⟩:=hx;obtain ⟨d0,d1,d2,d3,d4,d5,d6,d7,d8,d9,jT,df⟩:=kG hv;have oJ:=hok q hq;have hrun:gT V x s=oU V x (gJ V x.one { s with fG:=s.fG++[[]] }):=by unfold gT;rw[if_neg (by omega),if_neg (by omega),if_neg (by omega),if_pos hop];rfl
 have hB:=hs.hB;have hcz:=hs.lt;obtain ⟨c0,c1,c2,c3,c4,c5,c6,c7,cf⟩:=nk hs.at_;obtain ⟨a1,n1,k1,rfl⟩:∃ a n c,v1=.slice a n c:=by obtain ⟨a,c',h,_⟩:=e4.len;exact ⟨_,_,_,h⟩
 obtain ⟨a2,n2,k2,rfl⟩:∃ a n c,v2=.slice a n c:=by obtain ⟨a,c',h,_⟩:=e6.len;exact ⟨_,_,_,h⟩
 obtain ⟨pa,pn,pc,rfl⟩:=jm hs.fG;obtain ⟨i0,hi,hz0,hz1,hz2⟩:=info_parts Mq;have hpb:=bV.2 hpl;have HX:Hid ((∀ i,ok i->i < B)/\(iq w (.slice a1 n1 k1) q1 ok/\fV w x.one ok q1)/\(iq w (.slice a2 n2 k2) q2 ok/\fV w x.two ok q2)/\w.heap[q]?=some (.cells (oI x ve (.slice a1 n1 k1) (.slice a2 n2 k2)) 250)):=⟨hok,⟨e4,e5⟩,⟨e6,e7⟩,hv⟩;have HS:Hid (St w B c V s vv vh vl va (.slice pa pn pc) pv []/\s.held.length=V.length/\s.fG≠[]/\s.fG.flatten.length<=s.fI.length/\gT V x s=oU V x (gJ V x.one { s with fG:=s.fG++[[]] })/\(gT V x s).fI.length<=1000000000):=⟨hs,hlen,hpl,hfl,hrun,hb⟩
 generalize hA:(Obj.cells #[.slice none 0 0] 187)=A;have hW:fO (fun _=>False) w (w.alloc A):=(fO.refl _ _).alloc _
 have O1:Hid ((w.alloc A).ownsRow B 187 1 (.slice pa pn pc) s.fG.length pv):=gZ hs.fG hW (fun _ _ h=>h)
 have O2:Hid (∀ j u,[Value.slice none 0 0][j]?=some u->(w.alloc A).cell? ((⟨w.heap.size,0,none⟩:Addr).add j)=some u):=by
  refine Iz (t:=187) ?_;show (w.heap.push A)[w.heap.size]?=_
  rw[aB,if_pos rfl,<- hA]
 have O3:Hid (∀ u∈[Value.slice none 0 0],u.oneCell'=true):=by intro u hu;simp at hu;subst hu;rfl
 have O4:Hid (s.fG.length+1<=maxLen):=by unfold Hid maxLen;omega
 have O5:Hid ((s.fG.length+1) * 24<=140737488355328):=by unfold Hid;omega
 have O6:Hid (B<=(w.alloc A).heap.size):=by
  show B<=(w.heap.push A).size
  simp;omega
 have AQ:Hid (_):=hs.PL hW;have yg:Hid (w.heap[c]?=_):=hs.at_;subst hA;clear hok e4 e5 e6 e7 hv hs hlen hpl hfl hrun hb hgo hW;go_enter func128,ntmps128
 go_wp2_with (first
  | (at_builtin;refine wpList_append_own_at _ rfl _ _ 57 rfl B 187 i0 (.slice none 0 0) 1 24 underlying57 hi hz0 hz1 hz2 rfl (bZ 0) _ _ _ rfl O1.o _ 1 1 _ rfl rfl O2.o O3.o O4.o O5.o O6.o ?_)
  | fail)
 intro v' w3 hown' hgrow _ hloc;obtain ⟨va',vn',vc',rfl,hc3,HL⟩:=AQ.o v' w3 hown' hgrow (by simpa using hloc)
 obtain ⟨g0,g1,g2,g3,g4,g5,g6,g7,gf⟩:=nk (hc3.trans yg.o);have su:(w3.setCell ⟨c,4,none⟩ (.slice va' vn' vc')).heap[q]?=_:=(HL.o.2.block q oJ).trans HX.o.2.2.2;obtain ⟨m0,m1,m2,m3,m4,m5,m6,m7,m8,m9,m10,mf⟩:=kG su;clear hown' hgrow hloc hc3 su c0 c1 c2 c3 c4 c5 c6 c7 cf d0 d1 d2 d3 d4 d5 d6 d7 d8 d9 jT df O1 O2 O3 O4 O5 O6 AQ yg;have hk3:∀ i,ok i->(w3.setCell ⟨c,4,none⟩ (.slice va' vn' vc')).heap[i]?=w.heap[i]?:=fun i hi=>HL.o.2.block i (HX.o.1 i hi)
 have H0:Hid ((iq (w3.setCell ⟨c,4,none⟩ (.slice va' vn' vc')) (.slice a1 n1 k1) q1 ok/\fV (w3.setCell ⟨c,4,none⟩ (.slice va' vn' vc')) x.one ok q1)):=⟨HX.o.2.1.1.keep hk3,HX.o.2.1.2.keep hk3⟩;have hpre:(gJ V x.one { s with fG:=s.fG++[[]] }).fI.length<=1000000000:=by
  have h1:=(Mn V x (gJ V x.one { s with fG:=s.fG++[[]] })).length_le
  rw[<- HS.o.2.2.2.2.1] at h1
  have:=HS.o.2.2.2.2.2
  omega
 have hi3:=Bl V x.one { s with fG:=s.fG++[[]] } (by simp) (by simpa using HS.o.2.2.2.1)
 have H1:Hid (_/\_):=⟨hpre,hi3⟩;clear hk3 hpre hi3;go_wp2_with fail;refine (i1 { s with fG:=s.fG++[[]] } _ ok _ q1 vv vh vl va _ _ H0.o.1 H0.o.2 HX.o.1 HL.o.1 HS.o.2.1 (by simp) (by simpa using HS.o.2.2.2.1) (by simp;omega) H1.o.1).mono ?_
 rintro e w1 ⟨rfl,b1,uw,lD,iI,Ab,Ac,h1⟩;have hE:gT V x s=oU V x (gJ V x.one { s with fG:=s.fG++[[]] }):=HS.o.2.2.2.2.1
 have hI:=H1.o.2;generalize gJ V x.one { s with fG:=s.fG++[[]] }=s1 at h1 hE hI
 have bb1:Below B w w1:=HL.o.2.trans b1;have IB:w1.heap[q]?=_:=(bb1.block q oJ).trans HX.o.2.2.2;clear m0 m1 m2 m3 m4 m5 m6 m7 m8 m9 m10 mf g0 g1 g2 g3 g4 g5 g6 g7 gf;obtain ⟨m0,m1,m2,m3,m4,m5,m6,m7,m8,m9,m10,mf⟩:=kG IB;obtain ⟨g0,g1,g2,g3,g4,g5,g6,g7,gf⟩:=nk h1.at_;have HT:Hid (gT V x s=oU V x s1/\(s1.held.length=s.held.length/\s1.fG.flatten.length<=s1.fI.length/\(s1.over=0->s1.stop=false->s1.fG.length=(s.fG++[[]]).length))/\Below B w w1/\St w1 B c V s1 vv uw lD iI Ab Ac []):=⟨hE,hI,bb1,h1⟩;clear hE hI bb1 h1 IB b1 H0 H1 HL;by_cases hov:s1.over=0
 ·have t0:((s1.over:Int) != 0)=false:=by rw[hov];rfl
  have HO:Hid (s1.over=0):=hov;clear hov;cases hst:s1.stop
  ·rw[hst] at g6;have zu:Hid (s1.stop=false):=hst;clear hst;have tH:s1.fG.length=s.fG.length+1:=by have:=HT.o.2.1.2.2 HO.o zu.o;simpa using this
   cases vM:s1.failed
   ·rw[vM] at g7;have Bw:Hid (s1.failed=false):=vM;clear vM;have hne1:s1.fG≠[]:=fun e=>by rw[e] at tH;simp at tH
    obtain ⟨gp,Iu,pn,qv,tv,rfl,hpc,hpm,hpq,rfl,vI,hpe,sw,hpf⟩:=HT.o.2.2.2.Mi hne1;generalize hps:s1.fG.dropLast=ps at *;generalize htop:s1.fG.getLastD []=top at *;obtain ⟨m,hm⟩:∃ m,pn=m+1:=⟨pn - 1,by rw[hpe] at tH;simp at tH;omega⟩
    subst hm;obtain ⟨hS,hrow⟩:=HT.o.2.2.2.popped hpe hpq;obtain ⟨ta,tn,tc,rfl⟩:=jm hrow;obtain ⟨rfl,PI,_⟩:=Ih hrow;have Bz:ps≠[]:=fun e=>by rw[e] at hpq;simp at hpq
    have MF:oU V x s1={ s1 with fG:=iA ps top }:=by
     unfold oU;rw[if_neg (by rw[HO.o,zu.o];simp),if_neg (by rw[Bw.o];simp),hps,htop]
    have htl:top.length<=1000000000:=by
     have h2:=HT.o.2.1.2.1;rw[hpe] at h2;simp at h2;have h3:=HS.o.2.2.2.2.2;rw[HT.o.1,MF] at h3;dsimp only at h3;omega
    have htot:ps.flatten.length+top.length<=1000000000:=by
     have h2:=HT.o.2.1.2.1;rw[hpe] at h2;simp at h2;have h3:=HS.o.2.2.2.2.2;rw[HT.o.1,MF] at h3;dsimp only at h3;simp;omega
    have bS:=HT.o.2.2.1.trans (HT.o.2.2.2.wB (w':=w1.setCell ⟨c,4,none⟩ (.slice (some ⟨gp,0,none⟩) (m+1) Iu)) (qL (fO.refl _ _) rfl));have H2:Hid (_/\_/\_/\_/\ps≠[]/\m+1=ps.length/\ps.flatten.length+top.length<=1000000000):=⟨hS,hrow,MF,bS,Bz,hpq,htot⟩;unfold maxLen at hpm PI;clear hS hrow MF bS Bz hpq vI hpe hps htop hne1 htot;go_wp2_with fail;go_loopw [6] (fun i wr=>∃ j:Nat,j<=top.length/\i=.int .i64 (j:Int)/\Hid (Below B w wr/\∃ vp' pv',St wr B c V { s1 with fG:=iA ps (top.take j) } vv uw lD iI vp' pv' [.slice ta top.length tc]/\wr.ownsRow B 190 2 (.slice ta top.length tc) top.length (qK top))) (fun i _=>top.length - (intOf i).toNat)
    case atStart=>exact ⟨0,by omega,rfl,H2.o.2.2.2.1,_,_,by rw[List.take_zero,Mo H2.o.2.2.2.2.1];exact H2.o.1,H2.o.2.1⟩
    case round =>
     obtain ⟨j,hj,rfl,hr⟩:=hrel;by_cases hlt:j < top.length
     ·obtain ⟨hbr,vp',pv',hs',hrow'⟩:=hr.o;obtain ⟨_,_,hcells⟩:=Ih hrow';obtain ⟨gt,rfl,hc1,hc2⟩:=hcells j hlt;have htk:top.take (j+1)=top.take j++[(top[j].1,top[j].2)]:=by rw[bg hlt]
      generalize top[j].1=tw at hc1 htk;generalize top[j].2=tx at hc2 htk;obtain ⟨gq,Mz,qn,rv,uv,rfl,hqc,hqm,hqq,rfl,hrn,hqe,uM,WB⟩:=hs'.Mi (Mu _ _);dsimp only at hqq hqe;have MG:(iA ps (top.take j)).dropLast.length=m:=by
       have:=H2.o.2.2.2.2.2.1
       simp[iA];omega
      rw[MG] at hqq;subst hqq;generalize hlast:(iA ps (top.take j)).getLastD []=last at hqe;have hrow2:wr.ownsRow B 190 2 uv last.length (qK last):=hs'.each qn last uv (by dsimp only;rw[hqe];rw[aJ (by omega),MG];simp) (by rw[<- hrn];simp)
      obtain ⟨ua,un,uc,rfl⟩:=jm hrow2;have hll:last.length<=1000000000:=by
       have h3:last.length<=(iA ps (top.take j)).flatten.length:=by rw[hqe];simp
       have h4:(iA ps (top.take j)).flatten.length=ps.flatten.length+(top.take j).length:=by
        have hne:=H2.o.2.2.2.2.1;obtain ⟨qs,q',e⟩:∃ qs q',ps=qs++[q']:=⟨_,_,(bH hne).symm⟩;rw[e];simp[iA,List.getLastD_eq_getLast?];omega
       have h5:=H2.o.2.2.2.2.2.2;rw[bU] at h4;omega
      obtain ⟨i0,hi,hz0,hz1,hz2⟩:=info_parts Wq;generalize hA:(Obj.cells #[.string tw,.int .i64 tx] 190)=A;have hW:fO (fun _=>False) wr ((wr.alloc A).drew):=((fO.refl _ _).alloc _).drew
      have O1:Hid (((wr.alloc A).drew).ownsRow B 190 2 (.slice ua un uc) last.length (qK last)):=gZ hrow2 hW (fun _ _ h=>h)
      have O2:Hid (∀ j' u,[.string tw,.int .i64 tx][j']?=some u->((wr.alloc A).drew).cell? ((⟨wr.heap.size,0,none⟩:Addr).add j')=some u):=Mv (t:=190) (by
       show (wr.heap.push A)[wr.heap.size]?=_
       rw[aB,if_pos rfl,<- hA])
      have O3:Hid (∀ u∈[Value.string tw,.int .i64 tx],u.oneCell'=true):=by intro u hu;simp at hu;rcases hu with rfl | rfl<;>rfl
      have O4:Hid (last.length+1<=maxLen):=by unfold Hid maxLen;omega
      have O5:Hid ((last.length+1) * 24<=140737488355328):=by unfold Hid;omega
      have O6:Hid (B<=((wr.alloc A).drew).heap.size):=by
       have:=hs'.lt
       show B<=(wr.heap.push A).size
       simp;omega
      have AQ:Hid (_):=hs'.Ml (by dsimp only;exact hqe) (by dsimp only;exact MG.symm) tw tx hW
      have AK:Hid (_):=hs'.F2 hrn hW (bq.2 rfl) hrow';have yg:Hid (wr.heap[c]?=_/\∀ w3:fu,w3.heap[gq]?=wr.heap[gq]?->w3.cell? ⟨gq,qn,none⟩=some (.slice ua un uc)/\∀ o,w3.frozen? ⟨gq,o,none⟩=false):=⟨hs'.at_,fun w3 h3=>⟨(aF (w:=wr) (a:=⟨gq,qn,none⟩) h3).trans uM,fun o=>(bQ (w:=wr) (a:=⟨gq,o,none⟩) h3).trans (WB o)⟩⟩
      have hgq:gq < wr.heap.size:=lt_of_cell uM;have hgt:gt < wr.heap.size:=lt_of_cell hc1;have hgc:c < wr.heap.size:=hs'.lt;have Nm:((qn:Int) < (qn:Int)+1):=by omega
      have hwrap:IntKind.i64.wrap (qn:Int)=(qn:Int):=by unfold maxLen at hqm;rw[IntKind.wrap_i64];omega
      have hq0:(0:Int)<=(qn:Int):=by omega
      obtain ⟨y0,y1,y2,y3,y4,y5,y6,y7,yf⟩:=nk hs'.at_;have H3:Hid (Below B w wr/\top.take (j+1)=top.take j++[(tw,tx)]):=⟨hbr,htk⟩;subst hA;unfold maxLen at hqm;clear hr hbr hs' hrow' hcells hrow2 hqe MG hrn hlast hW htk m0 m1 m2 m3 m4 m5 m6 m7 m8 m9 m10 mf g0 g1 g2 g3 g4 g5 g6 g7 gf sw hpf;have FIN:Hid (∀ wd vd pd,Hid (St wd B c V { s1 with fG:=iA (iA ps (top.take j)) [(tw,tx)] } vv uw lD iI vd pd [.slice (some ⟨gt,0,none⟩) top.length tc]/\Below B wr wd)->Hid (wd.ownsRow B 190 2 (.slice (some ⟨gt,0,none⟩) top.length tc) top.length (qK top)) ->
        Hid (Below B w wd/\∃ vp' pv',St wd B c V { s1 with fG:=iA ps (top.take (j+1)) } vv uw lD iI vp' pv' [.slice (some ⟨gt,0,none⟩) top.length tc]/\wd.ownsRow B 190 2 (.slice (some ⟨gt,0,none⟩) top.length tc) top.length (qK top))):=by
       intro wd vd pd h4 h5;refine ⟨H3.o.1.trans h4.o.2,vd,pd,?_,h5.o⟩;have h6:=h4.o.1;rw[Mp,<- H3.o.2] at h6;exact h6
      clear y0 y1 y2 y3 y5 y6 y7 t0 hq hop hpn tH hpc hpm hll H3 HT HO zu Bw H2 HX HS;go_wp2_with fail;go_region_law (refine wR rfl _ _ 187 rfl B 190 i0 (.agg #[.string ⟨#[]⟩,.int .i64 0]) 2 24 underlying187 hi hz0 hz1 hz2 rfl (bZ 1) _ _ _ rfl O1.o _ 1 1 _ rfl rfl O2.o O3.o O4.o O5.o O6.o ?_;intro v' w3 hown' hgrow hloc;have WC:=AK.o v' w3 hgrow;obtain ⟨va',vn',vc',rfl,hc3,hg3,HL⟩:=AQ.o v' w3 hown' hgrow hloc;have HK:Hid (_):=WC;obtain ⟨_,_,_,_,k4,_,_,_,kf⟩:=nk (hc3.trans yg.o.1);obtain ⟨kp,Wu⟩:=yg.o.2 w3 hg3;have HF:=FIN.o _ _ _ HL HK;clear hown' hgrow hloc hc3 hg3 WC HL HK)
      all_goals
       clear hc1 hc2 uM WB y4 yf O1 O2 O3 O4 O5 O6 AQ AK yg FIN kp Wu k4 kf hi hz0 hz1 hz2;go_wp2_with fail;exact ⟨⟨j+1,by omega,by go_num,HF⟩,by simp[intOf];omega⟩
     ·obtain rfl:j=top.length:=by omega
      obtain ⟨hbr,vp',pv',hs',hrow'⟩:=hr.o;have H3:Hid (_/\_):=⟨hbr,hs'⟩;clear hr hbr hs' hrow';go_wp2_with fail;go_end0
      rw[HT.o.1,H2.o.2.2.1];have h4:=H3.o.2;rw[cK] at h4;exact ⟨rfl,H3.o.1,_,_,_,_,_,h4.fewer⟩
   ·rw[vM] at g7;have Bw:Hid (s1.failed=true):=vM;clear vM;have hE2:oU V x s1=(if (lS { s1 with failed:=false }).going then gJ V x.two (lS { s1 with failed:=false }) else lS { s1 with failed:=false }):=by
     unfold oU;rw[if_neg (by rw[HO.o,zu.o];simp),if_pos Bw.o]
    have hub:(lS { s1 with failed:=false }).fI.length<=1000000000:=by
     have h2:=HS.o.2.2.2.2.2;rw[HT.o.1,hE2] at h2;split at h2
     ·have:=(CF V x.two (lS { s1 with failed:=false })).length_le
      omega
     ·exact h2
    have WE:St (w1.setCell ⟨c,7,none⟩ (.bool false)) B c V { s1 with failed:=false } vv uw lD iI Ab Ac []:=HT.o.2.2.2.own (qL (fO.refl _ _) rfl) (by rw[heap_set _ HT.o.2.2.2.at_];simp) rfl rfl rfl rfl
    have WG:Below B w (w1.setCell ⟨c,7,none⟩ (.bool false)):=HT.o.2.2.1.trans (HT.o.2.2.2.wB (qL (fO.refl _ _) rfl));have hne1:s1.fG≠[]:=fun e=>by rw[e] at tH;simp at tH
    have HU:Hid (_/\_/\_/\_/\_):=⟨hE2,hub,WE,WG,hne1⟩;clear hE2 hub WE WG hne1;go_wp2_with fail;refine (Wj B c V { s1 with failed:=false } vv uw lD iI Ab Ac [] _ HU.o.2.2.1 HU.o.2.2.2.2 HU.o.2.1 HO.o).mono ?_
    rintro e w2 ⟨rfl,b2,ny,iR,MB,MC,h2⟩;have bb2:Below B w w2:=HU.o.2.2.2.1.trans b2;have IC:w2.heap[q]?=_:=(bb2.block q oJ).trans HX.o.2.2.2;clear m0 m1 m2 m3 m4 m5 m6 m7 m8 m9 m10 mf g0 g1 g2 g3 g4 g5 g6 g7 gf;obtain ⟨m0,m1,m2,m3,m4,m5,m6,m7,m8,m9,m10,mf⟩:=kG IC;have hkeep:=VA (s1.fG.getLastD []).reverse { s1 with failed:=false,fG:=s1.fG.dropLast }
    have hU:lS { s1 with failed:=false }=l9 (s1.fG.getLastD []).reverse { s1 with failed:=false,fG:=s1.fG.dropLast }:=rfl
    rw[<- hU] at hkeep;have Qa:=HU.o.1;have WH:=HU.o.2.1;generalize lS { s1 with failed:=false }=s2 at h2 hkeep Qa WH
    dsimp only at hkeep;have hk2:∀ i,ok i->w2.heap[i]?=w.heap[i]?:=fun i hi=>bb2.block i (HX.o.1 i hi)
    have H2:Hid (oU V x s1=(if s2.going then gJ V x.two s2 else s2)/\Below B w w2/\St w2 B c V s2 vv uw ny iR MB MC []/\(iq w2 (.slice a2 n2 k2) q2 ok/\fV w2 x.two ok q2)/\(s2.held=s1.held/\s2.fG=s1.fG.dropLast/\s1.fI.length<=s2.fI.length)):=⟨Qa,bb2,h2,⟨HX.o.2.2.1.1.keep hk2,HX.o.2.2.1.2.keep hk2⟩,hkeep.1,hkeep.2.1,hkeep.2.2.2⟩
    clear Qa bb2 h2 hkeep hU IC b2 HU hk2 WH;cases hg2:s2.going
    ·go_wp2_with fail;refine (Md B c V s2 vv uw ny iR MB MC [] _ H2.o.2.2.1).mono ?_;rintro e w' ⟨rfl,rfl⟩;rw[hg2];go_wp2_with fail;refine bodyPost_ret (results_none rfl _ _ _) rfl ?_;rw[HT.o.1,H2.o.1,hg2];exact ⟨rfl,H2.o.2.1,_,_,_,_,_,H2.o.2.2.1⟩
    ·have HG:Hid (s2.going=true):=hg2;have hb2:(gJ V x.two s2).fI.length<=1000000000:=by
      have h3:=HS.o.2.2.2.2.2;rw[HT.o.1,H2.o.1,hg2] at h3;exact h3
     have hd2:s2.fG.length=s.fG.length:=by rw[H2.o.2.2.2.2.2.1,cO,tH];omega
     have hf2:s2.fG.flatten.length<=s2.fI.length:=by
      have h4:=Vy s1.fG;have h5:=HT.o.2.1.2.1;have h6:=H2.o.2.2.2.2.2.2;rw[H2.o.2.2.2.2.2.1];omega
     have H3:Hid (_/\_/\_):=⟨hb2,hd2,hf2⟩;clear hb2 hd2 hf2;go_wp2_with fail;refine (Md B c V s2 vv uw ny iR MB MC [] _ H2.o.2.2.1).mono ?_;rintro e w' ⟨rfl,rfl⟩;rw[HG.o];go_wp2_with fail;refine (i2 s2 _ ok _ q2 vv uw ny iR _ _ H2.o.2.2.2.1.1 H2.o.2.2.2.1.2 HX.o.1 H2.o.2.2.1 (by rw[H2.o.2.2.2.2.1,HT.o.2.1.1];exact HS.o.2.1) (fun e=>by have h3:=H3.o.2.1;rw[e] at h3;exact HS.o.2.2.1 (aY.1 h3.symm)) H3.o.2.2 (by rw[H3.o.2.1];omega) H3.o.1).mono ?_
     rintro e w4 ⟨rfl,b4,vh4,Fx,Nx,vp4,pv4,h4⟩;have H4:Hid (_/\_):=⟨b4,h4⟩;clear b4 h4;go_wp2_with fail;refine bodyPost_ret (results_none rfl _ _ _) rfl ?_;rw[HT.o.1,H2.o.1,HG.o];exact ⟨rfl,H2.o.2.1.trans H4.o.1,_,_,_,_,_,H4.o.2⟩
  ·rw[hst] at g6;have zu:Hid (s1.stop=true):=hst;clear hst;go_wp2_with fail;refine bodyPost_ret (results_none rfl _ _ _) rfl ?_;have hfin:gT V x s=s1:=by rw[HT.o.1];unfold oU;rw[if_pos (ah zu.o)]
   rw[hfin];exact ⟨rfl,HT.o.2.2.1,_,_,_,_,_,HT.o.2.2.2⟩
 ·have t0:((s1.over:Int) != 0)=true:=by rw[bne_iff_ne];omega
  have HO:Hid (¬ s1.over=0):=hov;clear hov;go_wp2_with fail;refine bodyPost_ret (results_none rfl _ _ _) rfl ?_;have hfin:gT V x s=s1:=by rw[HT.o.1];unfold oU;rw[if_pos (ak HO.o)]
  rw[hfin];exact ⟨rfl,HT.o.2.2.1,_,_,_,_,_,HT.o.2.2.2⟩
