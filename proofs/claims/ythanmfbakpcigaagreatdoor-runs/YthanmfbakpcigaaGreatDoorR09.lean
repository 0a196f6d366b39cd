import Derived.Test.YthanmfbakpcigaaGreatDoorR06
import Derived.Test.YthanmfbakpcigaaGreatDoorR08
set_option maxRecDepth 100000
set_option maxHeartbeats 4000000
namespace Go.Proofs.YthanmfbakpcigaaGreatDoor
open Go.RowKit
namespace Ref
def tryE (V:Px.Vs) (x:Px.Sm) (s1:Px.Rs):Px.Rs :=
 if s1.over≠0∨s1.stop=true then s1
 else if s1.failed then (let s2:=Px.qb5 { s1 with failed:=false };if s2.going then Px.runS V x.two s2 else s2)
 else { s1 with piles:=Px.layP s1.piles.dropLast (s1.piles.getLastD []) }
theorem zk0 (V:Px.Vs) (x:Px.Sm) (s1:Px.Rs):s1.asks <+: (tryE V x s1).asks:=by
 unfold tryE;split
 ·exact List.prefix_refl _
 ·split
  ·have h1:=Px.qiw { s1 with failed:=false }
   dsimp only;split
   ·exact h1.trans (Px.qfr V x.two _)
   ·exact h1
  ·exact List.prefix_refl _
theorem znn {ps:List (List (ByteArray×Int))} (h:ps≠[]):Px.layP ps []=ps:=by
 obtain ⟨qs,q,e⟩:∃ qs q,ps=qs++[q]:=⟨_,_,(List.dropLast_concat_getLast h).symm⟩;subst e;simp[Px.layP,List.getLastD_eq_getLast?]
theorem zno (ps:List (List (ByteArray×Int))) (a b:List (ByteArray×Int)):Px.layP (Px.layP ps a) b=Px.layP ps (a++b):=by
 simp[Px.layP,List.getLastD_eq_getLast?]
theorem ztr (ps:List (List (ByteArray×Int))) (a:List (ByteArray×Int)):Px.layP ps a≠[]:=by simp[Px.layP]
theorem news1 {W:World} {b:Nat} {p:Value} {t:TypeId} (h:W.heap[b]?=some (.cells #[p] t)):∀ j u,[p][j]?=some u→W.cell? ((⟨b,0,none⟩:Addr).add j)=some u:=by
 intro j u hj;match j,hj with
 | 0,hj=>simp at hj;subst hj;simp[Addr.add,World.cell?,h]
theorem zxt (B c:Nat) (V:Px.Vs) (x:Px.Sm) (hop:x.op=116) (i1:zkh B c V x.one) (i2:zkh B c V x.two):DoOk B c V 118 x:=by
 intro s w ok q vv vh vl va vp pv hx hok hs hlen hgo hpl hfl hpn hb;obtain ⟨hq,ve,v1,v2,q1,q2,hv,_,e4,e5,e6,e7⟩:=hx;obtain ⟨d0,d1,d2,d3,d4,d5,d6,d7,d8,d9,d10,df⟩:=qaa hv;have hqB:=hok q hq;have hrun:Px.runX V x s=tryE V x (Px.runS V x.one { s with piles:=s.piles++[[]] }):=by unfold Px.runX;rw[if_neg (by omega),if_neg (by omega),if_neg (by omega),if_pos hop];rfl
 have hB:=hs.hB;have hcz:=hs.lt;obtain ⟨c0,c1,c2,c3,c4,c5,c6,c7,cf⟩:=qb1 hs.at_;obtain ⟨a1,n1,k1,rfl⟩:∃ a n c,v1=.slice a n c:=by obtain ⟨a,c',h,_⟩:=e4.len;exact ⟨_,_,_,h⟩
 obtain ⟨a2,n2,k2,rfl⟩:∃ a n c,v2=.slice a n c:=by obtain ⟨a,c',h,_⟩:=e6.len;exact ⟨_,_,_,h⟩
 obtain ⟨pa,pn,pc,rfl⟩:=qad hs.piles;obtain ⟨i0,hi,hz0,hz1,hz2⟩:=info_parts qoa;have hpb:=List.length_pos_iff.2 hpl;have HX:Hid ((∀ i,ok i→i < B)∧(SlAt w (.slice a1 n1 k1) q1 ok∧SmsAt w x.one ok q1)∧(SlAt w (.slice a2 n2 k2) q2 ok∧SmsAt w x.two ok q2)∧w.heap[q]?=some (.cells (qay x ve (.slice a1 n1 k1) (.slice a2 n2 k2)) 218)):=⟨hok,⟨e4,e5⟩,⟨e6,e7⟩,hv⟩;have HS:Hid (St w B c V s vv vh vl va (.slice pa pn pc) pv []∧s.held.length=V.length∧s.piles≠[]∧s.piles.flatten.length≤s.asks.length∧Px.runX V x s=tryE V x (Px.runS V x.one { s with piles:=s.piles++[[]] })∧(Px.runX V x s).asks.length≤1000000000):=⟨hs,hlen,hpl,hfl,hrun,hb⟩
 generalize hA:(Obj.cells #[.slice none 0 0] 150)=A;have hW:Tch (fun _=>False) w (w.alloc A):=(Tch.refl _ _).alloc _
 have O1:Hid ((w.alloc A).ownsRow B 150 1 (.slice pa pn pc) s.piles.length pv):=qah hs.piles hW (fun _ _ h=>h)
 have O2:Hid (∀ j u,[Value.slice none 0 0][j]?=some u→(w.alloc A).cell? ((⟨w.heap.size,0,none⟩:Addr).add j)=some u):=by
  refine news1 (t:=150) ?_;show (w.heap.push A)[w.heap.size]?=_
  rw[Array.getElem?_push,if_pos rfl,← hA]
 have O3:Hid (∀ u∈[Value.slice none 0 0],u.oneCell'=true):=by intro u hu;simp at hu;subst hu;rfl
 have O4:Hid (s.piles.length+1≤maxLen):=by unfold Hid maxLen;omega
 have O5:Hid ((s.piles.length+1) * 24≤140737488355328):=by unfold Hid;omega
 have O6:Hid (B≤(w.alloc A).heap.size):=by
  show B≤(w.heap.push A).size
  simp;omega
 have AQ:Hid (_):=hs.qsz hW;have ATC:Hid (w.heap[c]?=_):=hs.at_;subst hA;clear hok e4 e5 e6 e7 hv hs hlen hpl hfl hrun hb hgo hW;go_enter Tryz.func118,Tryz.ntmps118
 go_wp2_with (first
  | (at_builtin;refine wpList_append_own_at _ rfl _ _ 62 rfl B 150 i0 (.slice none 0 0) 1 24 Tryz.underlying62 hi hz0 hz1 hz2 rfl (Nat.succ_pos 0) _ _ _ rfl O1.out _ 1 1 _ rfl rfl O2.out O3.out O4.out O5.out O6.out ?_)
  | fail)
 intro v' w3 hown' hgrow _ hloc;obtain ⟨va',vn',vc',rfl,hc3,HL⟩:=AQ.out v' w3 hown' hgrow (by simpa using hloc)
 obtain ⟨g0,g1,g2,g3,g4,g5,g6,g7,gf⟩:=qb1 (hc3.trans ATC.out);have hhq:(w3.setCell ⟨c,4,none⟩ (.slice va' vn' vc')).heap[q]?=_:=(HL.out.2.block q hqB).trans HX.out.2.2.2;obtain ⟨m0,m1,m2,m3,m4,m5,m6,m7,m8,m9,m10,mf⟩:=qaa hhq;clear hown' hgrow hloc hc3 hhq c0 c1 c2 c3 c4 c5 c6 c7 cf d0 d1 d2 d3 d4 d5 d6 d7 d8 d9 d10 df O1 O2 O3 O4 O5 O6 AQ ATC;have hk3:∀ i,ok i→(w3.setCell ⟨c,4,none⟩ (.slice va' vn' vc')).heap[i]?=w.heap[i]?:=fun i hi=>HL.out.2.block i (HX.out.1 i hi)
 have H0:Hid ((SlAt (w3.setCell ⟨c,4,none⟩ (.slice va' vn' vc')) (.slice a1 n1 k1) q1 ok∧SmsAt (w3.setCell ⟨c,4,none⟩ (.slice va' vn' vc')) x.one ok q1)):=⟨HX.out.2.1.1.keep hk3,HX.out.2.1.2.keep hk3⟩;have hpre:(Px.runS V x.one { s with piles:=s.piles++[[]] }).asks.length≤1000000000:=by
  have h1:=(zk0 V x (Px.runS V x.one { s with piles:=s.piles++[[]] })).length_le
  rw[← HS.out.2.2.2.2.1] at h1
  have:=HS.out.2.2.2.2.2
  omega
 have hi3:=Px.qi3 V x.one { s with piles:=s.piles++[[]] } (by simp) (by simpa using HS.out.2.2.2.1)
 have H1:Hid (_∧_):=⟨hpre,hi3⟩;clear hk3 hpre hi3;go_wp2_with fail;refine (i1 { s with piles:=s.piles++[[]] } _ ok _ q1 vv vh vl va _ _ H0.out.1 H0.out.2 HX.out.1 HL.out.1 HS.out.2.1 (by simp) (by simpa using HS.out.2.2.2.1) (by simp;omega) H1.out.1).mono ?_
 rintro e w1 ⟨rfl,b1,vh1,vl1,va1,vp1,pv1,h1⟩;have hE:Px.runX V x s=tryE V x (Px.runS V x.one { s with piles:=s.piles++[[]] }):=HS.out.2.2.2.2.1
 have hI:=H1.out.2;generalize Px.runS V x.one { s with piles:=s.piles++[[]] }=s1 at h1 hE hI
 have bb1:Below B w w1:=HL.out.2.trans b1;have hhq1:w1.heap[q]?=_:=(bb1.block q hqB).trans HX.out.2.2.2;clear m0 m1 m2 m3 m4 m5 m6 m7 m8 m9 m10 mf g0 g1 g2 g3 g4 g5 g6 g7 gf;obtain ⟨m0,m1,m2,m3,m4,m5,m6,m7,m8,m9,m10,mf⟩:=qaa hhq1;obtain ⟨g0,g1,g2,g3,g4,g5,g6,g7,gf⟩:=qb1 h1.at_;have HT:Hid (Px.runX V x s=tryE V x s1∧(s1.held.length=s.held.length∧s1.piles.flatten.length≤s1.asks.length∧(s1.over=0→s1.stop=false→s1.piles.length=(s.piles++[[]]).length))∧Below B w w1∧St w1 B c V s1 vv vh1 vl1 va1 vp1 pv1 []):=⟨hE,hI,bb1,h1⟩;clear hE hI bb1 h1 hhq1 b1 H0 H1 HL;by_cases hov:s1.over=0
 ·have t0:((s1.over:Int) != 0)=false:=by rw[hov];rfl
  have HO:Hid (s1.over=0):=hov;clear hov;cases hst:s1.stop
  ·rw[hst] at g6;have HO2:Hid (s1.stop=false):=hst;clear hst;have hpl1:s1.piles.length=s.piles.length+1:=by have:=HT.out.2.1.2.2 HO.out HO2.out;simpa using this
   cases hfd:s1.failed
   ·rw[hfd] at g7;have HO3:Hid (s1.failed=false):=hfd;clear hfd;have hne1:s1.piles≠[]:=fun e=>by rw[e] at hpl1;simp at hpl1
    obtain ⟨gp,pcap,pn,qv,tv,rfl,hpc,hpm,hpq,rfl,hqn,hpe,hpcell,hpf⟩:=HT.out.2.2.2.qn9 hne1;generalize hps:s1.piles.dropLast=ps at *;generalize htop:s1.piles.getLastD []=top at *;obtain ⟨m,hm⟩:∃ m,pn=m+1:=⟨pn - 1,by rw[hpe] at hpl1;simp at hpl1;omega⟩
    subst hm;obtain ⟨hS,hrow⟩:=HT.out.2.2.2.popped hpe hpq;obtain ⟨ta,tn,tc,rfl⟩:=qad hrow;obtain ⟨rfl,htm,_⟩:=qjl hrow;have hpsne:ps≠[]:=fun e=>by rw[e] at hpq;simp at hpq
    have hE3:tryE V x s1={ s1 with piles:=Px.layP ps top }:=by
     unfold tryE;rw[if_neg (by rw[HO.out,HO2.out];simp),if_neg (by rw[HO3.out];simp),hps,htop]
    have htl:top.length≤1000000000:=by
     have h2:=HT.out.2.1.2.1;rw[hpe] at h2;simp at h2;have h3:=HS.out.2.2.2.2.2;rw[HT.out.1,hE3] at h3;dsimp only at h3;omega
    have htot:ps.flatten.length+top.length≤1000000000:=by
     have h2:=HT.out.2.1.2.1;rw[hpe] at h2;simp at h2;have h3:=HS.out.2.2.2.2.2;rw[HT.out.1,hE3] at h3;dsimp only at h3;simp;omega
    have bS:=HT.out.2.2.1.trans (HT.out.2.2.2.qd1 (w':=w1.setCell ⟨c,4,none⟩ (.slice (some ⟨gp,0,none⟩) (m+1) pcap)) (qcp (Tch.refl _ _) rfl));have H2:Hid (_∧_∧_∧_∧ps≠[]∧m+1=ps.length∧ps.flatten.length+top.length≤1000000000):=⟨hS,hrow,hE3,bS,hpsne,hpq,htot⟩;unfold maxLen at hpm htm;clear hS hrow hE3 bS hpsne hpq hqn hpe hps htop hne1 htot;go_wp2_with fail;go_loopw [6] (fun i wr=>∃ j:Nat,j≤top.length∧i=.int .i64 (j:Int)∧Hid (Below B w wr∧∃ vp' pv',St wr B c V { s1 with piles:=Px.layP ps (top.take j) } vv vh1 vl1 va1 vp' pv' [.slice ta top.length tc]∧wr.ownsRow B 154 2 (.slice ta top.length tc) top.length (qbe top))) (fun i _=>top.length - (intOf i).toNat)
    case atStart=>exact ⟨0,by omega,rfl,H2.out.2.2.2.1,_,_,by rw[List.take_zero,znn H2.out.2.2.2.2.1];exact H2.out.1,H2.out.2.1⟩
    case round =>
     obtain ⟨j,hj,rfl,hr⟩:=hrel;by_cases hlt:j < top.length
     ·obtain ⟨hbr,vp',pv',hs',hrow'⟩:=hr.out;obtain ⟨_,_,hcells⟩:=qjl hrow';obtain ⟨gt,rfl,hc1,hc2⟩:=hcells j hlt;have htk:top.take (j+1)=top.take j++[(top[j].1,top[j].2)]:=by rw[List.take_succ_eq_append_getElem hlt]
      generalize top[j].1=tw at hc1 htk;generalize top[j].2=tx at hc2 htk;obtain ⟨gq,qcap,qn,rv,uv,rfl,hqc,hqm,hqq,rfl,hrn,hqe,hqcell,hqf⟩:=hs'.qn9 (ztr _ _);dsimp only at hqq hqe;have hqd:(Px.layP ps (top.take j)).dropLast.length=m:=by
       have:=H2.out.2.2.2.2.2.1
       simp[Px.layP];omega
      rw[hqd] at hqq;subst hqq;generalize hlast:(Px.layP ps (top.take j)).getLastD []=last at hqe;have hrow2:wr.ownsRow B 154 2 uv last.length (qbe last):=hs'.each qn last uv (by dsimp only;rw[hqe];rw[List.getElem?_append_right (by omega),hqd];simp) (by rw[← hrn];simp)
      obtain ⟨ua,un,uc,rfl⟩:=qad hrow2;have hll:last.length≤1000000000:=by
       have h3:last.length≤(Px.layP ps (top.take j)).flatten.length:=by rw[hqe];simp
       have h4:(Px.layP ps (top.take j)).flatten.length=ps.flatten.length+(top.take j).length:=by
        have hne:=H2.out.2.2.2.2.1;obtain ⟨qs,q',e⟩:∃ qs q',ps=qs++[q']:=⟨_,_,(List.dropLast_concat_getLast hne).symm⟩;rw[e];simp[Px.layP,List.getLastD_eq_getLast?];omega
       have h5:=H2.out.2.2.2.2.2.2;rw[List.length_take] at h4;omega
      obtain ⟨i0,hi,hz0,hz1,hz2⟩:=info_parts zav;generalize hA:(Obj.cells #[.string tw,.int .i64 tx] 154)=A;have hW:Tch (fun _=>False) wr ((wr.alloc A).drew):=((Tch.refl _ _).alloc _).drew
      have O1:Hid (((wr.alloc A).drew).ownsRow B 154 2 (.slice ua un uc) last.length (qbe last)):=qah hrow2 hW (fun _ _ h=>h)
      have O2:Hid (∀ j' u,[.string tw,.int .i64 tx][j']?=some u→((wr.alloc A).drew).cell? ((⟨wr.heap.size,0,none⟩:Addr).add j')=some u):=zmv (t:=154) (by
       show (wr.heap.push A)[wr.heap.size]?=_
       rw[Array.getElem?_push,if_pos rfl,← hA])
      have O3:Hid (∀ u∈[Value.string tw,.int .i64 tx],u.oneCell'=true):=by intro u hu;simp at hu;rcases hu with rfl | rfl<;>rfl
      have O4:Hid (last.length+1≤maxLen):=by unfold Hid maxLen;omega
      have O5:Hid ((last.length+1) * 24≤140737488355328):=by unfold Hid;omega
      have O6:Hid (B≤((wr.alloc A).drew).heap.size):=by
       have:=hs'.lt
       show B≤(wr.heap.push A).size
       simp;omega
      have AQ:Hid (_):=hs'.qti (by dsimp only;exact hqe) (by dsimp only;exact hqd.symm) tw tx hW
      have AK:Hid (_):=hs'.znp hrn hW (List.mem_singleton.2 rfl) hrow';have ATC:Hid (wr.heap[c]?=_∧∀ w3:World,w3.heap[gq]?=wr.heap[gq]?→w3.cell? ⟨gq,qn,none⟩=some (.slice ua un uc)∧∀ o,w3.frozen? ⟨gq,o,none⟩=false):=⟨hs'.at_,fun w3 h3=>⟨(World.cell?_of_block (w:=wr) (a:=⟨gq,qn,none⟩) h3).trans hqcell,fun o=>(World.frozen?_of_block (w:=wr) (a:=⟨gq,o,none⟩) h3).trans (hqf o)⟩⟩
      have hgq:gq < wr.heap.size:=lt_of_cell hqcell;have hgt:gt < wr.heap.size:=lt_of_cell hc1;have hgc:c < wr.heap.size:=hs'.lt;have hqlt:((qn:Int) < (qn:Int)+1):=by omega
      have hwrap:IntKind.i64.wrap (qn:Int)=(qn:Int):=by unfold maxLen at hqm;rw[IntKind.wrap_i64];omega
      have hq0:(0:Int)≤(qn:Int):=by omega
      obtain ⟨y0,y1,y2,y3,y4,y5,y6,y7,yf⟩:=qb1 hs'.at_;have H3:Hid (Below B w wr∧top.take (j+1)=top.take j++[(tw,tx)]):=⟨hbr,htk⟩;subst hA;unfold maxLen at hqm;clear hr hbr hs' hrow' hcells hrow2 hqe hqd hrn hlast hW htk m0 m1 m2 m3 m4 m5 m6 m7 m8 m9 m10 mf g0 g1 g2 g3 g4 g5 g6 g7 gf hpcell hpf;have FIN:Hid (∀ wd vd pd,Hid (St wd B c V { s1 with piles:=Px.layP (Px.layP ps (top.take j)) [(tw,tx)] } vv vh1 vl1 va1 vd pd [.slice (some ⟨gt,0,none⟩) top.length tc]∧Below B wr wd)→Hid (wd.ownsRow B 154 2 (.slice (some ⟨gt,0,none⟩) top.length tc) top.length (qbe top)) →
        Hid (Below B w wd∧∃ vp' pv',St wd B c V { s1 with piles:=Px.layP ps (top.take (j+1)) } vv vh1 vl1 va1 vp' pv' [.slice (some ⟨gt,0,none⟩) top.length tc]∧wd.ownsRow B 154 2 (.slice (some ⟨gt,0,none⟩) top.length tc) top.length (qbe top))):=by
       intro wd vd pd h4 h5;refine ⟨H3.out.1.trans h4.out.2,vd,pd,?_,h5.out⟩;have h6:=h4.out.1;rw[zno,← H3.out.2] at h6;exact h6
      clear y0 y1 y2 y3 y5 y6 y7 t0 hq hop hpn hpl1 hpc hpm hll H3 HT HO HO2 HO3 H2 HX HS;go_wp2_with fail;go_region_law (refine qbh rfl _ _ 150 rfl B 154 i0 (.agg #[.string ⟨#[]⟩,.int .i64 0]) 2 24 Tryz.underlying150 hi hz0 hz1 hz2 rfl (Nat.succ_pos 1) _ _ _ rfl O1.out _ 1 1 _ rfl rfl O2.out O3.out O4.out O5.out O6.out ?_;intro v' w3 hown' hgrow hloc;have HK3:=AK.out v' w3 hgrow;obtain ⟨va',vn',vc',rfl,hc3,hg3,HL⟩:=AQ.out v' w3 hown' hgrow hloc;have HK:Hid (_):=HK3;obtain ⟨_,_,_,_,k4,_,_,_,kf⟩:=qb1 (hc3.trans ATC.out.1);obtain ⟨kp,kpf⟩:=ATC.out.2 w3 hg3;have HF:=FIN.out _ _ _ HL HK;clear hown' hgrow hloc hc3 hg3 HK3 HL HK)
      all_goals
       clear hc1 hc2 hqcell hqf y4 yf O1 O2 O3 O4 O5 O6 AQ AK ATC FIN kp kpf k4 kf hi hz0 hz1 hz2;go_wp2_with fail;exact ⟨⟨j+1,by omega,by go_num,HF⟩,by simp[intOf];omega⟩
     ·obtain rfl:j=top.length:=by omega
      obtain ⟨hbr,vp',pv',hs',hrow'⟩:=hr.out;have H3:Hid (_∧_):=⟨hbr,hs'⟩;clear hr hbr hs' hrow';go_wp2_with fail;go_end0
      rw[HT.out.1,H2.out.2.2.1];have h4:=H3.out.2;rw[List.take_length] at h4;exact ⟨rfl,H3.out.1,_,_,_,_,_,h4.fewer⟩
   ·rw[hfd] at g7;have HO3:Hid (s1.failed=true):=hfd;clear hfd;have hE2:tryE V x s1=(if (Px.qb5 { s1 with failed:=false }).going then Px.runS V x.two (Px.qb5 { s1 with failed:=false }) else Px.qb5 { s1 with failed:=false }):=by
     unfold tryE;rw[if_neg (by rw[HO.out,HO2.out];simp),if_pos HO3.out]
    have hub:(Px.qb5 { s1 with failed:=false }).asks.length≤1000000000:=by
     have h2:=HS.out.2.2.2.2.2;rw[HT.out.1,hE2] at h2;split at h2
     ·have:=(Px.qfr V x.two (Px.qb5 { s1 with failed:=false })).length_le
      omega
     ·exact h2
    have hSf:St (w1.setCell ⟨c,7,none⟩ (.bool false)) B c V { s1 with failed:=false } vv vh1 vl1 va1 vp1 pv1 []:=HT.out.2.2.2.own (qcp (Tch.refl _ _) rfl) (by rw[heap_set _ HT.out.2.2.2.at_];simp) rfl rfl rfl rfl
    have bSf:Below B w (w1.setCell ⟨c,7,none⟩ (.bool false)):=HT.out.2.2.1.trans (HT.out.2.2.2.qd1 (qcp (Tch.refl _ _) rfl));have hne1:s1.piles≠[]:=fun e=>by rw[e] at hpl1;simp at hpl1
    have HU:Hid (_∧_∧_∧_∧_):=⟨hE2,hub,hSf,bSf,hne1⟩;clear hE2 hub hSf bSf hne1;go_wp2_with fail;refine (qy6 B c V { s1 with failed:=false } vv vh1 vl1 va1 vp1 pv1 [] _ HU.out.2.2.1 HU.out.2.2.2.2 HU.out.2.1 HO.out).mono ?_
    rintro e w2 ⟨rfl,b2,vl2,va2,vp2,pv2,h2⟩;have bb2:Below B w w2:=HU.out.2.2.2.1.trans b2;have hhq2:w2.heap[q]?=_:=(bb2.block q hqB).trans HX.out.2.2.2;clear m0 m1 m2 m3 m4 m5 m6 m7 m8 m9 m10 mf g0 g1 g2 g3 g4 g5 g6 g7 gf;obtain ⟨m0,m1,m2,m3,m4,m5,m6,m7,m8,m9,m10,mf⟩:=qaa hhq2;have hkeep:=Px.qq3 (s1.piles.getLastD []).reverse { s1 with failed:=false,piles:=s1.piles.dropLast }
    have hU:Px.qb5 { s1 with failed:=false }=Px.qch (s1.piles.getLastD []).reverse { s1 with failed:=false,piles:=s1.piles.dropLast }:=rfl
    rw[← hU] at hkeep;have hUE:=HU.out.1;have hUb:=HU.out.2.1;generalize Px.qb5 { s1 with failed:=false }=s2 at h2 hkeep hUE hUb
    dsimp only at hkeep;have hk2:∀ i,ok i→w2.heap[i]?=w.heap[i]?:=fun i hi=>bb2.block i (HX.out.1 i hi)
    have H2:Hid (tryE V x s1=(if s2.going then Px.runS V x.two s2 else s2)∧Below B w w2∧St w2 B c V s2 vv vh1 vl2 va2 vp2 pv2 []∧(SlAt w2 (.slice a2 n2 k2) q2 ok∧SmsAt w2 x.two ok q2)∧(s2.held=s1.held∧s2.piles=s1.piles.dropLast∧s1.asks.length≤s2.asks.length)):=⟨hUE,bb2,h2,⟨HX.out.2.2.1.1.keep hk2,HX.out.2.2.1.2.keep hk2⟩,hkeep.1,hkeep.2.1,hkeep.2.2.2⟩
    clear hUE bb2 h2 hkeep hU hhq2 b2 HU hk2 hUb;cases hg2:s2.going
    ·go_wp2_with fail;refine (qlw B c V s2 vv vh1 vl2 va2 vp2 pv2 [] _ H2.out.2.2.1).mono ?_;rintro e w' ⟨rfl,rfl⟩;rw[hg2];go_wp2_with fail;refine bodyPost_ret (results_none rfl _ _ _) rfl ?_;rw[HT.out.1,H2.out.1,hg2];exact ⟨rfl,H2.out.2.1,_,_,_,_,_,H2.out.2.2.1⟩
    ·have HG:Hid (s2.going=true):=hg2;have hb2:(Px.runS V x.two s2).asks.length≤1000000000:=by
      have h3:=HS.out.2.2.2.2.2;rw[HT.out.1,H2.out.1,hg2] at h3;exact h3
     have hd2:s2.piles.length=s.piles.length:=by rw[H2.out.2.2.2.2.2.1,List.length_dropLast,hpl1];omega
     have hf2:s2.piles.flatten.length≤s2.asks.length:=by
      have h4:=Px.za9 s1.piles;have h5:=HT.out.2.1.2.1;have h6:=H2.out.2.2.2.2.2.2;rw[H2.out.2.2.2.2.2.1];omega
     have H3:Hid (_∧_∧_):=⟨hb2,hd2,hf2⟩;clear hb2 hd2 hf2;go_wp2_with fail;refine (qlw B c V s2 vv vh1 vl2 va2 vp2 pv2 [] _ H2.out.2.2.1).mono ?_;rintro e w' ⟨rfl,rfl⟩;rw[HG.out];go_wp2_with fail;refine (i2 s2 _ ok _ q2 vv vh1 vl2 va2 _ _ H2.out.2.2.2.1.1 H2.out.2.2.2.1.2 HX.out.1 H2.out.2.2.1 (by rw[H2.out.2.2.2.2.1,HT.out.2.1.1];exact HS.out.2.1) (fun e=>by have h3:=H3.out.2.1;rw[e] at h3;exact HS.out.2.2.1 (List.length_eq_zero_iff.1 h3.symm)) H3.out.2.2 (by rw[H3.out.2.1];omega) H3.out.1).mono ?_
     rintro e w4 ⟨rfl,b4,vh4,vl4,va4,vp4,pv4,h4⟩;have H4:Hid (_∧_):=⟨b4,h4⟩;clear b4 h4;go_wp2_with fail;refine bodyPost_ret (results_none rfl _ _ _) rfl ?_;rw[HT.out.1,H2.out.1,HG.out];exact ⟨rfl,H2.out.2.1.trans H4.out.1,_,_,_,_,_,H4.out.2⟩
  ·rw[hst] at g6;have HO2:Hid (s1.stop=true):=hst;clear hst;go_wp2_with fail;refine bodyPost_ret (results_none rfl _ _ _) rfl ?_;have hfin:Px.runX V x s=s1:=by rw[HT.out.1];unfold tryE;rw[if_pos (Or.inr HO2.out)]
   rw[hfin];exact ⟨rfl,HT.out.2.2.1,_,_,_,_,_,HT.out.2.2.2⟩
 ·have t0:((s1.over:Int) != 0)=true:=by rw[bne_iff_ne];omega
  have HO:Hid (¬ s1.over=0):=hov;clear hov;go_wp2_with fail;refine bodyPost_ret (results_none rfl _ _ _) rfl ?_;have hfin:Px.runX V x s=s1:=by rw[HT.out.1];unfold tryE;rw[if_pos (Or.inl HO.out)]
  rw[hfin];exact ⟨rfl,HT.out.2.2.1,_,_,_,_,_,HT.out.2.2.2⟩
open Go.RowKit
theorem qkw (B c:Nat) (V:Px.Vs) (l:List Px.Sm) (hw:Px.WfS l) (hk:Px.okS V l):∀ i (hi:i < l.length),DoOk B c V 50 l[i]:=by
 match l with
 | []=>intro i hi;simp at hi
 | ⟨op,word,pl,ex,asw,asPl,undo,n,nPl,one,two⟩::rest =>
  obtain ⟨w1,w2,w3,w4⟩:=Px.qd7.1 hw;obtain ⟨k1,k2,k3,k4⟩:=Px.qgd.1 hk;have hx:DoOk B c V 50 ⟨op,word,pl,ex,asw,asPl,undo,n,nPl,one,two⟩:=by
   dsimp only at w1 w2 w3 k1 k2 k3;have k1':=k1;rcases k1 with h | h | h | h | h | h
   ·exact zxv B c V _ h.1 w1.1 k1'
   ·exact zxs B c V _ h.1 (zuo B c V _ h.1 w1.1 k1')
   ·exact do_if B c V _ h.1 w1.1 k1' (qru B c V one (qkw B c V one w2 (k2 (Or.inl h.1)))).ok (qru B c V two (qkw B c V two w3 (k3 (Or.inl h.1)))).ok
   ·exact zuj B c V _ h (zxt B c V _ h (qru B c V one (qkw B c V one w2 (k2 (Or.inr (Or.inl h))))).ok (qru B c V two (qkw B c V two w3 (k3 (Or.inr h)))).ok)
   ·exact zxu B c V _ h.1 h.2 (qru B c V one (qkw B c V one w2 (k2 (Or.inr (Or.inr h.1)))))
   ·exact zun B c V _ h
  intro i hi;cases i with
  | zero=>exact hx
  | succ i=>exact qkw B c V rest w4 k4 i (by simpa using hi)
theorem zi4 (B c:Nat) (V:Px.Vs) (l:List Px.Sm) (hw:Px.WfS l) (hk:Px.okS V l):Dos B c V l:=qru B c V l (qkw B c V l hw hk)
open Go.RowKit
theorem zr7 (s:ByteArray) (answers:List Int) (av:Value) (w:World) (hs:s.size≤maxLen) (ha:AnsAt w av answers):Calls Tryz.prog 8 #[.string s,av] w (qnb s answers w) :=
 qh2 (fun B c V l hw hk=>zi4 B c V l hw hk) s answers av w hs ha
end Ref
end Go.Proofs.YthanmfbakpcigaaGreatDoor
