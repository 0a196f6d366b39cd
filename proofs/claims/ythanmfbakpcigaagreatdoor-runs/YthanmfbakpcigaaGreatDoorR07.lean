import Derived.Test.YthanmfbakpcigaaGreatDoorR06
set_option maxRecDepth 100000
set_option maxHeartbeats 4000000
namespace Go.Proofs.YthanmfbakpcigaaGreatDoor
open Go.RowKit
namespace Ref
def zu4 (V:Px.Vs) (x:Px.Sm) (R:Option (Option Int)×Px.Rs):Px.Rs :=
 match R with
 | (none,s1)=>s1
 | (some none,s1)=>{ s1 with failed:=true }
 | (some (some v),s1)=>{ s1 with held:=if x.asw.size=0 then s1.held else Px.setV V s1.held x.asw v,piles:=if x.undo.size=0 then s1.piles else Px.layP s1.piles [(x.undo,v)] }
theorem zu3 {V:Px.Vs} {x:Px.Sm} {s:Px.Rs} {arg:Int} (h:Px.evO V s.held x.ex=some arg):Px.qei V x.word x.ex x.asw x.undo x.n s=zu4 V x (Px.tries x.word arg false x.n 1 s):=by
 rw[Px.qei,h];rfl
theorem zdz (V:Px.Vs) (x:Px.Sm) (R:Option (Option Int)×Px.Rs):(zu4 V x R).asks=R.2.asks:=by
 obtain ⟨o,s1⟩:=R;match o with
 | none=>rfl
 | some none=>rfl
 | some (some v)=>rfl
theorem zuo (B c:Nat) (V:Px.Vs) (x:Px.Sm) (hop:x.op=99) (hw:Px.WfO x.ex) (hk:Px.okH V x.op x.word x.ex x.asw x.n):DoOk B c V 117 x:=by
 intro s w ok q vv vh vl va vp pv hx hok hs hlen hgo hpl hfl hpn hb;obtain ⟨hq,ve,v1,v2,q1,q2,hv,e3,_,_,_,_⟩:=hx;obtain ⟨d0,d1,d2,d3,d4,d5,d6,d7,d8,d9,d10,df⟩:=qaa hv;have hqB:=hok q hq;obtain ⟨ho1,ho2,ho3⟩:=qob hgo;obtain ⟨hke,hka,hn1,hn5⟩:Px.okO V x.ex 105∧(x.asw.size=0∨Px.okV V x.asw 105)∧1≤x.n∧x.n≤5:=by
  rcases hk with h | h | h | h | h | h
  ·omega
  ·exact h.2
  all_goals omega
 have hrun:Px.runX V x s=Px.qei V x.word x.ex x.asw x.undo x.n s:=by unfold Px.runX;rw[if_neg (by omega),if_pos hop]
 have hB:=hs.hB;have hcz:=hs.lt;obtain ⟨c0,c1,c2,c3,c4,c5,c6,c7,cf⟩:=qb1 hs.at_;have HX:Hid ((∀ i,ok i→i < B)∧ExO w x.ex ok ve∧w.heap[q]?=some (.cells (qay x ve v1 v2) 218)∧Px.WfO x.ex∧Px.okO V x.ex 105∧(x.asw.size=0∨Px.okV V x.asw 105)):=⟨hok,e3,hv,hw,hke,hka⟩;have HS:Hid (St w B c V s vv vh vl va vp pv []∧s.held.length=V.length∧(s.over=0∧s.stop=false∧s.failed=false)∧s.piles≠[]∧s.piles.flatten.length≤s.asks.length∧Px.runX V x s=Px.qei V x.word x.ex x.asw x.undo x.n s∧(Px.runX V x s).asks.length≤1000000000):=⟨hs,hlen,⟨ho1,ho2,ho3⟩,hpl,hfl,hrun,hb⟩;clear hok e3 hv hw hke hka hs hlen ho1 ho2 ho3 hpl hfl hrun hb hgo hk
 obtain ⟨pe,rfl⟩:∃ pe,ve=.pointer pe:=by
  have:=HX.out.2.1
  cases hx:x.ex with
  | none=>rw[hx] at this;exact ⟨_,this⟩
  | some e=>rw[hx] at this;obtain ⟨qe,h,_⟩:=this;exact ⟨_,h⟩
 go_enter Tryz.func117,Tryz.ntmps117
 go_upto_if 13 with fail
 go_cut [4] (fun a wc=>∃ arg,a=.int .i64 arg∧Hid (Px.evO V s.held x.ex=some arg∧St wc B c V s vv vh vl va vp pv []∧Tch (·=c) w wc))
 case first =>
  cases hex:x.ex with
  | none =>
   have hpe:(Value.pointer pe)=.pointer none:=by have:=HX.out.2.1;rw[hex] at this;exact this
   cases hpe;have HE:Hid (_):=hex;clear hex;go_wp2_with fail;go_meet
   case rel=>exact ⟨0,rfl,by rw[HE.out];rfl,HS.out.1,Tch.refl _ _⟩
  | some ex =>
   obtain ⟨qe,hpe,hxe⟩:∃ qe,Value.pointer pe=ptr qe∧ExAt w ex ok qe:=by have:=HX.out.2.1;rw[hex] at this;exact this
   unfold ptr at hpe;cases hpe;have HE:Hid (x.ex=some ex∧ExAt w ex ok qe):=⟨hex,hxe⟩;clear hex hxe;go_wp2_with fail;refine (zdi B c V ex (HX.out.2.2.2.1 ex HE.out.1) s _ ok qe vv vh vl va vp pv [] HE.out.2 HX.out.1 HS.out.1 HS.out.2.1 HS.out.2.2.1.2.2 ⟨105,HX.out.2.2.2.2.1 ex HE.out.1⟩).mono ?_;rintro e w1 ⟨n,rfl,h1,h2,h3⟩;cases hev:Px.evE V s.held ex with
   | none =>
    obtain ⟨g0,g1,g2,g3,g4,g5,g6,g7,gf⟩:=qb1 (h3 hev).at_;have H1:Hid (_∧_∧_):=⟨h1,h3 hev,hev⟩;clear h1 h2 h3 hev;go_wp2_with fail;refine bodyPost_ret (results_none rfl _ _ _) rfl ?_;have hfin:Px.runX V x s={ s with failed:=true }:=by
     have he:Px.evO V s.held x.ex=none:=by rw[HE.out.1];exact H1.out.2.2
     rw[HS.out.2.2.2.2.2.1,Px.qei,he]
    rw[hfin];exact ⟨rfl,HS.out.1.qd1 H1.out.1,_,_,_,_,_,H1.out.2.1⟩
   | some v =>
    obtain ⟨rfl,h4⟩:=h2 v hev;obtain ⟨g0,g1,g2,g3,g4,g5,g6,g7,gf⟩:=qb1 h4.at_;rw[HS.out.2.2.1.2.2] at g7;have H1:Hid (_∧_∧_):=⟨h1,h4,hev⟩;clear h1 h2 h3 hev h4;go_wp2_with fail;go_meet
    case rel=>exact ⟨_,rfl,by rw[HE.out.1];exact H1.out.2.2,H1.out.2.1,H1.out.1⟩
 case rest =>
 obtain ⟨arg,rfl,hC⟩:=hcut;have hrun1:Px.runX V x s=zu4 V x (Px.tries x.word arg false x.n 1 s):=by rw[HS.out.2.2.2.2.2.1,zu3 hC.out.1]
 generalize hR:Px.tries x.word arg false x.n 1 s=R at hrun1;have HR:Hid (_):=hR;have hRb:R.2.asks.length≤1000000000:=by
  have h1:=HS.out.2.2.2.2.2.2;rw[hrun1,zdz] at h1;exact h1
 have HR2:Hid (_∧_):=⟨hrun1,hRb⟩;clear hR hrun1 hRb c0 c1 c2 c3 c4 c5 c6 c7 cf d0 d1 d2 d3 d4 d5 d6 d7 d8 d9 d10 df;go_wp2_with fail;go_loopw [5] (fun t wr=>∃ tt:Nat,1≤tt∧tt≤x.n+1∧t=.int .i64 tt∧Hid (Below B w wr∧∃ s2 vl2 va2,St wr B c V s2 vv vh vl2 va2 vp pv []∧Px.tries x.word arg false (x.n+1 - tt) tt s2=R∧s2.held=s.held∧s2.piles=s.piles∧s.asks.length≤s2.asks.length)) (fun t _=>x.n+1 - (intOf t).toNat)
 case atStart=>exact ⟨1,by omega,by omega,rfl,HS.out.1.qd1 hC.out.2.2,s,vl,va,hC.out.2.1,HR.out,rfl,rfl,Nat.le_refl _⟩
 case round =>
  obtain ⟨tt,ht1,ht2,rfl,hr⟩:=hrel;obtain ⟨hbr,s2,vl2,va2,hs2,htr,hh2,hp2,ha2⟩:=hr.out;have hhq:wr.heap[q]?=_:=(hbr.block q hqB).trans HX.out.2.2.1;obtain ⟨j0,j1,j2,j3,j4,j5,j6,j7,j8,j9,j10,jf⟩:=qaa hhq;by_cases hlt:tt≤x.n
  ·obtain ⟨k,hk⟩:∃ k,x.n+1 - tt=k+1:=⟨x.n - tt,by omega⟩
   have hk2:x.n+1 - (tt+1)=k:=by omega
   rw[hk] at htr;have hlen2:s2.asks.length≤1000000000:=by
    have h1:s2.asks.length≤(Px.tries x.word arg false (k+1) tt s2).2.asks.length:=(Px.qix x.word arg false (k+1) tt s2).length_le;rw[htr] at h1;have h2:=HR2.out.2;omega
   have H2:Hid (Below B w wr∧St wr B c V s2 vv vh vl2 va2 vp pv []∧Px.tries x.word arg false (k+1) tt s2=R∧s2.held=s.held∧s2.piles=s.piles∧s.asks.length≤s2.asks.length):=⟨hbr,hs2,htr,hh2,hp2,ha2⟩;clear hr hbr hs2 htr hh2 hp2 ha2 hhq;cases hsl:s2.left with
   | nil =>
    have HE:Hid (_):=hsl;have hfin:Hid (Px.runX V x s={ s2 with asks:=s2.asks++[⟨x.word,arg,tt,false⟩],stop:=true }):=by
     unfold Hid;rw[HR2.out.1,← H2.out.2.2.1,Px.tries,quj _ HE.out];rfl
    clear hsl;go_wp2_with fail;refine (zbi B c V ⟨x.word,arg,tt,false⟩ s2 vv vh vl2 va2 _ pv _ _ H2.out.2.1 hlen2 HE.out).mono ?_;rintro e w3 ⟨rfl,vl3,va3,h3,t3⟩;have H3:Hid (_∧_):=⟨h3,t3⟩;clear h3 t3;go_wp2_with fail;refine bodyPost_ret (results_none rfl _ _ _) rfl ?_;rw[hfin.out];exact ⟨rfl,H2.out.1.trans (H2.out.2.1.qkd H3.out.2),_,_,_,_,_,H3.out.1⟩
   | cons y r =>
    have HE:Hid (_):=hsl;clear hsl;by_cases hy:0≤y
    ·have ER:Hid (R=(some (some y),{ s2 with asks:=s2.asks++[⟨x.word,arg,tt,false⟩],left:=r })):=by
      unfold Hid;rw[← H2.out.2.2.1,Px.tries,qkc _ HE.out];simp only;rw[if_pos hy]
     go_wp2_with fail;refine (qoj B c V ⟨x.word,arg,tt,false⟩ s2 vv vh vl2 va2 _ pv _ _ H2.out.2.1 hlen2 HE.out).mono ?_;rintro e w3 ⟨rfl,vl3,va3,h3,t3⟩;have b3:Below B w w3:=H2.out.1.trans (H2.out.2.1.qkd t3);have hhq3:w3.heap[q]?=_:=(b3.block q hqB).trans HX.out.2.2.1;obtain ⟨m0,m1,m2,m3,m4,m5,m6,m7,m8,m9,m10,mf⟩:=qaa hhq3;obtain ⟨g0,g1,g2,g3,g4,g5,g6,g7,gf⟩:=qb1 h3.at_;have H3:Hid (_∧_):=⟨h3,b3⟩;clear h3 t3 b3 hhq3;generalize hs3:({ s2 with asks:=s2.asks++[⟨x.word,arg,tt,false⟩],left:=r }:Px.Rs)=s3 at *
     have hh3:s3.held=s.held:=by rw[← hs3];exact H2.out.2.2.2.1
     have hp3:s3.piles=s.piles:=by rw[← hs3];exact H2.out.2.2.2.2.1
     have ha3:s.asks.length+1≤s3.asks.length:=by
      rw[← hs3]
      have:=H2.out.2.2.2.2.2
      simp only[List.length_append,List.length_singleton];omega
     have hq3:s3.asks.length≤1000000000:=by
      have:=HR2.out.2
      rw[ER.out] at this;exact this
     have hfin:Hid (Px.runX V x s={ s3 with held:=if x.asw.size=0 then s3.held else Px.setV V s3.held x.asw y,piles:=if x.undo.size=0 then s3.piles else Px.layP s3.piles [(x.undo,y)] }):=by
      unfold Hid;rw[HR2.out.1,ER.out];rfl
     have HP:Hid (s3.held=s.held∧s3.piles=s.piles∧s.asks.length+1≤s3.asks.length∧s3.asks.length≤1000000000):=⟨hh3,hp3,ha3,hq3⟩;clear hs3 hh3 hp3 ha3 hq3;go_upto_if 52 with fail
     go_cut [] (fun wd=>Hid (St wd B c V { s3 with held:=if x.asw.size=0 then s3.held else Px.setV V s3.held x.asw y } vv vh vl3 va3 vp pv []∧Below B w wd))
     case first =>
      cases ha:x.asw.toList.isEmpty
      ·have hz:¬ x.asw.size=0:=fun hz=>by
        have:x.asw.toList.isEmpty=true:=by rw[List.isEmpty_iff,ByteArray.toList_eq];exact List.length_eq_zero_iff.1 hz
        rw[this] at ha;cases ha
       obtain ⟨i,hi,_⟩:=HX.out.2.2.2.2.2.resolve_left hz;have hil:=qds hi;have hil2:i < s3.held.length:=by rw[HP.out.1,HS.out.2.1];exact hil
       obtain ⟨gh,hcap,rfl,hmh,hch,hfh⟩:=H3.out.1.zid hil2;obtain ⟨fa,fn,fc,rfl⟩:=qad H3.out.1.vars;have HI:Hid (Px.qa3 V x.asw=some i∧¬ x.asw.size=0):=⟨hi,hz⟩;unfold maxLen at hmh;clear hi hz;go_wp2_with fail;go_region_with (go_at_call 116;refine (qyf HI.out.1 _ 0 _ _ _ (World.ownsRow.drew H3.out.1.vars)).mono ?_;rintro e w4 ⟨rfl,rfl⟩)
       all_goals
        go_wp2_with fail;go_meet
        case rel =>
         have hst:=H3.out.1.drew.zic rfl i y;have e1:(if x.asw.size=0 then s3.held else Px.setV V s3.held x.asw y)=s3.held.set i y:=by rw[if_neg HI.out.2];unfold Px.setV;rw[HI.out.1]
         rw[Hid,e1];exact ⟨hst.1,H3.out.2.trans hst.2.of_drew⟩
      ·have hz:x.asw.size=0:=by
        rw[List.isEmpty_iff,ByteArray.toList_eq] at ha;exact List.length_eq_zero_iff.2 ha
       go_wp2_with fail;go_meet
       case rel =>
        rw[Hid,if_pos hz];exact H3.out
     case rest =>
     have hhq4:wc.heap[q]?=_:=(hcut.out.2.block q hqB).trans HX.out.2.2.1;clear m0 m1 m2 m3 m4 m5 m6 m7 m8 m9 m10 mf g0 g1 g2 g3 g4 g5 g6 g7 gf;obtain ⟨m0,m1,m2,m3,m4,m5,m6,m7,m8,m9,m10,mf⟩:=qaa hhq4;obtain ⟨g0,g1,g2,g3,g4,g5,g6,g7,gf⟩:=qb1 hcut.out.1.at_;clear hhq4;cases ha:x.undo.toList.isEmpty
     ·have hz:¬ x.undo.size=0:=fun hz=>by
       have:x.undo.toList.isEmpty=true:=by rw[List.isEmpty_iff,ByteArray.toList_eq];exact List.length_eq_zero_iff.1 hz
       rw[this] at ha;cases ha
      have hpn4:({ s3 with held:=if x.asw.size=0 then s3.held else Px.setV V s3.held x.asw y }:Px.Rs).piles≠[]:=by
       dsimp only;rw[HP.out.2.1];exact HS.out.2.2.2.1
      obtain ⟨gp,pcap,pn,qv,tv,rfl,hpc,hpm,hpq,rfl,hqn,hpe,hpcell,hpf⟩:=hcut.out.1.qn9 hpn4;dsimp only at hpq hpe;generalize htop:s3.piles.getLastD []=top at hpe;have hlq:qv.length=s3.piles.dropLast.length:=by rw[hqn,hpq]
      have hrow:wc.ownsRow B 154 2 tv top.length (qbe top):=hcut.out.1.each pn top tv (by dsimp only;rw[hpe,hpq];simp) (by rw[← hqn];simp)
      obtain ⟨ta,tn,tc,rfl⟩:=qad hrow;have htl:top.length≤1000000000:=by
       have h1:top.length≤s3.piles.flatten.length:=by rw[hpe];simp
       have h2:s3.piles.flatten.length≤s.asks.length:=by rw[HP.out.2.1];exact HS.out.2.2.2.2.1
       have h3:=HP.out.2.2;omega
      obtain ⟨i0,hi,hz0,hz1,hz2⟩:=info_parts zav;generalize hA:(Obj.cells #[.string x.undo,.int .i64 y] 154)=A;have hW:Tch (fun _=>False) wc ((wc.alloc A).drew):=((Tch.refl _ _).alloc _).drew
      have O1:Hid (((wc.alloc A).drew).ownsRow B 154 2 (.slice ta tn tc) top.length (qbe top)):=qah hrow hW (fun _ _ h=>h)
      have O2:Hid (∀ j u,[.string x.undo,.int .i64 y][j]?=some u→((wc.alloc A).drew).cell? ((⟨wc.heap.size,0,none⟩:Addr).add j)=some u):=zmv (t:=154) (by
       show (wc.heap.push A)[wc.heap.size]?=_
       rw[Array.getElem?_push,if_pos rfl,← hA])
      have O3:Hid (∀ u∈[Value.string x.undo,.int .i64 y],u.oneCell'=true):=by intro u hu;simp at hu;rcases hu with rfl | rfl<;>rfl
      have O4:Hid (top.length+1≤maxLen):=by unfold Hid maxLen;omega
      have O5:Hid ((top.length+1) * 24≤140737488355328):=by unfold Hid;omega
      have O6:Hid (B≤((wc.alloc A).drew).heap.size):=by
       have:=hcut.out.1.lt
       show B≤(wc.heap.push A).size
       simp;omega
      have AQ:Hid (_):=hcut.out.1.qti hpe hpq x.undo y hW;have ATC:Hid (wc.heap[c]?=_∧∀ w3:World,w3.heap[gp]?=wc.heap[gp]?→w3.cell? ⟨gp,pn,none⟩=some (.slice ta tn tc)∧∀ o,w3.frozen? ⟨gp,o,none⟩=false):=⟨hcut.out.1.at_,fun w3 h3=>⟨(World.cell?_of_block (w:=wc) (a:=⟨gp,pn,none⟩) h3).trans hpcell,fun o=>(World.frozen?_of_block (w:=wc) (a:=⟨gp,o,none⟩) h3).trans (hpf o)⟩⟩
      have HZ:Hid (_):=hz;subst hA;unfold maxLen at hpm;have hgpz:gp < wc.heap.size:=lt_of_cell hpcell;have hczc:c < wc.heap.size:=hcut.out.1.lt;have hqzc:q < wc.heap.size:=lt_of_cell m0;have hpnlt:((pn:Int) < (pn:Int)+1):=by omega
      clear hW hrow hpe hpq hqn hlq htop hz hpn4;go_wp2_with fail;go_region_law (refine qbh rfl _ _ 150 rfl B 154 i0 (.agg #[.string ⟨#[]⟩,.int .i64 0]) 2 24 Tryz.underlying150 hi hz0 hz1 hz2 rfl (Nat.succ_pos 1) _ _ _ rfl O1.out _ 1 1 _ rfl rfl O2.out O3.out O4.out O5.out O6.out ?_;intro v' w3 hown' hgrow hloc;obtain ⟨va',vn',vc',rfl,hc3,hg3,HL⟩:=AQ.out v' w3 hown' hgrow hloc;obtain ⟨k0,k1,k2,k3,k4,k5,k6,k7,kf⟩:=qb1 (hc3.trans ATC.out.1);obtain ⟨kp,kpf⟩:=ATC.out.2 w3 hg3;clear hown' hgrow hloc hc3 hg3)
      all_goals
       go_wp2_with fail;refine bodyPost_ret (results_none rfl _ _ _) rfl ?_;rw[hfin.out,if_neg HZ.out];exact ⟨rfl,hcut.out.2.trans HL.out.2,_,_,_,_,_,HL.out.1⟩
     ·have hz:x.undo.size=0:=by
       rw[List.isEmpty_iff,ByteArray.toList_eq] at ha;exact List.length_eq_zero_iff.2 ha
      have HZ:Hid (_):=hz;clear hz;go_wp2_with fail;refine bodyPost_ret (results_none rfl _ _ _) rfl ?_;rw[hfin.out,if_pos HZ.out];exact ⟨rfl,hcut.out.2,_,_,_,_,_,hcut.out.1⟩
    ·have ER:Hid (Px.tries x.word arg false k (tt+1) { s2 with asks:=s2.asks++[⟨x.word,arg,tt,false⟩],left:=r }=R):=by
      unfold Hid;rw[← H2.out.2.2.1,Px.tries,qkc _ HE.out];simp only;rw[if_neg hy]
     go_wp2_with fail;refine (qoj B c V ⟨x.word,arg,tt,false⟩ s2 vv vh vl2 va2 _ pv _ _ H2.out.2.1 hlen2 HE.out).mono ?_;rintro e w3 ⟨rfl,vl3,va3,h3,t3⟩;have H3:Hid (_∧_):=⟨h3,t3⟩;clear h3 t3;go_wp2_with fail;refine ⟨⟨tt+1,by omega,by omega,by go_num,H2.out.1.trans (H2.out.2.1.qkd H3.out.2),_,vl3,va3,H3.out.1,by rw[hk2];exact ER.out,H2.out.2.2.2.1,H2.out.2.2.2.2.1,?_⟩,by simp[intOf];omega⟩
     have:=H2.out.2.2.2.2.2
     simp only[List.length_append,List.length_singleton];omega
  ·obtain rfl:tt=x.n+1:=by omega
   obtain ⟨m0,m1,m2,m3,m4,m5,m6,m7,mf⟩:=qb1 hs2.at_;have H2:Hid (_∧_∧_):=⟨hbr,hs2,htr⟩;clear hr hbr hs2 htr hh2 hp2 ha2 hhq;go_wp2_with fail;go_end0
   have hfin:Px.runX V x s={ s2 with failed:=true }:=by
    rw[HR2.out.1,← H2.out.2.2,Nat.sub_self];rfl
   rw[hfin];exact ⟨rfl,H2.out.1.trans (H2.out.2.1.qd1 (qcp (Tch.refl _ _) rfl)),_,_,_,_,_,H2.out.2.1.fails⟩
end Ref
end Go.Proofs.YthanmfbakpcigaaGreatDoor
