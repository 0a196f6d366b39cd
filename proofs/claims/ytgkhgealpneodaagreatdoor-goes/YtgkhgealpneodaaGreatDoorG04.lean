import Derived.Test.YtgkhgealpneodaaGreatDoorG03
import Derived.BigQuiet
set_option maxRecDepth 100000
set_option maxHeartbeats 4000000
namespace Go.Proofs.YtgkhgealpneodaaGreatDoor
open Go.RowKit Tryz
namespace Ref
open Px
theorem Jr(b:Nat)(s:dX)(n:Nat)(hst:GJ b s n (fJ s n))(hs3:s.size<=300)(st:eO)(w:dY)(hD:iN s (n+1) st)(p:fQ w b s st.t (-1) st.eP st.fu)(h0:gN s st.t ⟨#[108,101,116]⟩=false)(h1:gN s st.t ⟨#[99,97,108,108]⟩=false)(h2:gN s st.t ⟨#[105,102]⟩=false)(ho:gN s st.t ⟨#[116,114,121]⟩=true):fI 39 #[fq b] w (zq b s w (mG s (fJ s n) (eZ s st))):=by
 have hs:s.size<=maxLen:=by unfold maxLen;omega
 have hb:=p.lt;have HD:Hid (iN s (n+1) st/\fQ w b s st.t (-1) st.eP st.fu):=⟨hD,p⟩;have hN0:=hD.n0;have hN:st.eP+(s.size+1:Nat)<=1000000:=by have:=hD.n1;omega
 clear hD p;go_enter func39,ntmps39;go_wp2_with fail;refine(uX b s _ st.t st.eP st.fu _ (HD.o.2.alloc _) h0).mono ?_;rintro e w' ⟨rfl,hw⟩;rw[<- hw];clear hw;go_wp2_with fail;refine(uX b s _ st.t st.eP st.fu _ (HD.o.2.alloc _) h1).mono ?_;rintro e w' ⟨rfl,hw⟩;rw[<- hw];clear hw;go_wp2_with fail;refine(uX b s _ st.t st.eP st.fu _ (HD.o.2.alloc _) h2).mono ?_;rintro e w' ⟨rfl,hw⟩;rw[<- hw];clear hw;go_wp2_with fail;refine(Eu b s _ st.t st.eP st.fu _ (HD.o.2.alloc _) HD.o.1.tk.le hs ho).mono ?_;rintro e w1 ⟨rfl,p1,k1⟩;have m1:Mk b s w w.heap.size (.ok (jY,eZ s st)) st.eP w1:=Mk.start hb rfl k1 ⟨p1,yZ HD.o.1.tk⟩;have D1:Hid (iN s (n+1) (eZ s st)):=HD.o.1.good (jh HD.o.1.tk ho);clear p1 k1;obtain⟨y,ve,a1,n1,c1,a2,n2,c2,hc,hcx⟩:=m1.cells;obtain⟨d0,d1,d2,d3,d4,d5,d6,d7,d8,d9,kJ,df⟩:=jy hc;have M2:Hid (Mk b s w w.heap.size (qZ 116 (eZ s st)) st.eP (w1.setCell ⟨w.heap.size,0,none⟩ (.int .u8 116))):=m1.op 116 hb (ay _);clear hc hcx m1;go_wp2_with fail;clear d0 d1 d2 d3 d4 d5 d6 d7 d8 d9 kJ df;refine(Jg b s n _ hst (lQ s n) hs3 _ _ M2.o.pen ?hd).mono ?_;case hd=>
  intro st1 h1;cases h1;exact D1.o
 rintro e w4 h4;obtain⟨va,vn,vc,he⟩:∃va vn vc,e=fM (.slice va vn vc):=by obtain⟨_,va,vn,vc,he,_⟩:=h4;exact⟨va,vn,vc,he⟩
 subst he;have m5:=M2.o.one (lQ s n) hb (ay _) h4;obtain⟨y,ve,a1,n1,c1,a2,n2,c2,hc,hcx⟩:=M2.o.cells;have hc3:=Kp.heap h4.1 hc (by omega);obtain⟨d0,d1,d2,d3,d4,d5,d6,d7,d8,d9,kJ,df⟩:=jy hc3;have M3:Hid _:=m5;clear hc hcx hc3 m5 h4;clear M2;go_wp2_with fail;clear d0 d1 d2 d3 d4 d5 d6 d7 d8 d9 kJ df;refine(lS b s _ _ _ M3.o.pen hs).mono ?_;rintro e w5 ⟨rfl,k5,p5⟩;have M4:Hid (Mk b s w w.heap.size (gV (gV (qZ 116 (eZ s st)) (nN s (fJ s n))) (kP s ⟨#[101,108,115,101]⟩)) st.eP w5):=M3.o.need hb (ay _) k5 p5;clear k5 p5 M3;go_wp2_with fail;refine(Jg b s n _ hst (lQ s n) hs3 _ _ M4.o.pen ?hd).mono ?_;case hd=>
  intro st1 h1;cases hr:Px.block s (fJ s n) (eZ s st)with| error p=>simp[gV,qZ,nN,hr,Except.map]at h1| ok r=>
  obtain⟨l2,st2⟩:=r;have g2:=D1.o.good (qW (lQ s n) _ _ _ D1.o.tk hr);cases hr2:Px.need s ⟨#[101,108,115,101]⟩ st2 with| error p=>simp[gV,qZ,nN,hr,kP,hr2,Except.map]at h1| ok jg=>
  simp[gV,qZ,nN,hr,kP,hr2,Except.map]at h1;rw[<- h1];exact g2.good (og g2.tk hr2)
 rintro e w6 h4;obtain⟨va,vn,vc,he⟩:∃va vn vc,e=fM (.slice va vn vc):=by obtain⟨_,va,vn,vc,he,_⟩:=h4;exact⟨va,vn,vc,he⟩
 subst he;have m5:=M4.o.two (lQ s n) hb (ay _) h4;obtain⟨y,ve,a1,n1,c1,a2,n2,c2,hc,hcx⟩:=M4.o.cells;have hc3:=Kp.heap h4.1 hc (by omega);obtain⟨d0,d1,d2,d3,d4,d5,d6,d7,d8,d9,kJ,df⟩:=jy hc3;have M5:Hid _:=m5;clear hc hcx hc3 m5 h4;clear M4;go_wp2_with fail;go_ret;rw[Nh];exact M5.o.post (ay _)
theorem QM(b:Nat)(s:dX)(n:Nat)(hst:GJ b s n (fJ s n))(hs3:s.size<=300)(st:eO)(w:dY)(hD:iN s (n+1) st)(p:fQ w b s st.t (-1) st.eP st.fu)(h0:gN s st.t ⟨#[108,101,116]⟩=false)(h1:gN s st.t ⟨#[99,97,108,108]⟩=false)(h2:gN s st.t ⟨#[105,102]⟩=false)(h3:gN s st.t ⟨#[116,114,121]⟩=false)(ho:gN s st.t ⟨#[114,101,112,101,97,116]⟩=true):fI 39 #[fq b] w (zq b s w (sG s (fJ s n) (eZ s st))):=by
 have hs:s.size<=maxLen:=by unfold maxLen;omega
 have hb:=p.lt;have HD:Hid (iN s (n+1) st/\fQ w b s st.t (-1) st.eP st.fu):=⟨hD,p⟩;have hN0:=hD.n0;have hN:st.eP+(s.size+1:Nat)<=1000000:=by have:=hD.n1;omega
 clear hD p;go_enter func39,ntmps39;go_wp2_with fail;refine(uX b s _ st.t st.eP st.fu _ (HD.o.2.alloc _) h0).mono ?_;rintro e w' ⟨rfl,hw⟩;rw[<- hw];clear hw;go_wp2_with fail;refine(uX b s _ st.t st.eP st.fu _ (HD.o.2.alloc _) h1).mono ?_;rintro e w' ⟨rfl,hw⟩;rw[<- hw];clear hw;go_wp2_with fail;refine(uX b s _ st.t st.eP st.fu _ (HD.o.2.alloc _) h2).mono ?_;rintro e w' ⟨rfl,hw⟩;rw[<- hw];clear hw;go_wp2_with fail;refine(uX b s _ st.t st.eP st.fu _ (HD.o.2.alloc _) h3).mono ?_;rintro e w' ⟨rfl,hw⟩;rw[<- hw];clear hw;go_wp2_with fail;refine(Eu b s _ st.t st.eP st.fu _ (HD.o.2.alloc _) HD.o.1.tk.le hs ho).mono ?_;rintro e w1 ⟨rfl,p1,k1⟩;have m1:Mk b s w w.heap.size (.ok (jY,eZ s st)) st.eP w1:=Mk.start hb rfl k1 ⟨p1,yZ HD.o.1.tk⟩;have D1:Hid (iN s (n+1) (eZ s st)):=HD.o.1.good (jh HD.o.1.tk ho);clear p1 k1;obtain⟨y,ve,a1,n1,c1,a2,n2,c2,hc,hcx⟩:=m1.cells;obtain⟨d0,d1,d2,d3,d4,d5,d6,d7,d8,d9,kJ,df⟩:=jy hc;have M2:Hid (Mk b s w w.heap.size (qZ 114 (eZ s st)) st.eP (w1.setCell ⟨w.heap.size,0,none⟩ (.int .u8 114))):=m1.op 114 hb (ay _);clear hc hcx m1;go_wp2_with fail;clear d0 d1 d2 d3 d4 d5 d6 d7 d8 d9 kJ df;refine(nG b s 110 (.ok (eZ s st)) _ M2.o.pen hs).mono ?_;rintro e w2 ⟨⟨kv,kx,rfl⟩,k2,p2⟩;have m3:=M2.o.kind hb (ay _) k2 p2;obtain⟨y,ve,a1,n1,c1,a2,n2,c2,hc,hcx⟩:=m3.cells;obtain⟨d0,d1,d2,d3,d4,d5,d6,d7,d8,d9,kJ,df⟩:=jy hc;have hq2:w.heap.size<w2.heap.size:=lt_of_cell d0;have V:Hid _:=Nf (r:=.ok (eZ s st)) M2.o.pen;have M3:Hid _:=m3;clear k2 p2 hc hcx m3 M2;go_wp2_with fail;refine(Qt _ _ V.o.1 V.o.2).mono ?_;rintro e w' ⟨rfl,hw⟩;rw[hw];clear hw;go_wp2_with fail;have m4:Mk b s w w.heap.size (C9 s (eZ s st)) st.eP _:=Mk.store (fun y=>{y with n:=iq (nL s (.ok (eZ s st)) 110).toList,gZ:=qD (.ok (eZ s st)) 110}) (fun y=>⟨rfl,rfl,rfl⟩) M3.o
  (W:=((w2.setCell ⟨w.heap.size,7,none⟩ (.int .i64 (iq (nL s (.ok (eZ s st)) 110).toList))).setCell ⟨w.heap.size,8,none⟩ (eF (qD (.ok (eZ s st)) 110))).alloc (.cells #[.int .u8 kv,.string (nL s (.ok (eZ s st)) 110),eF (qD (.ok (eZ s st)) 110),eF kx] 106))
  (((M3.o.kp.iD (ay _) _).iD (ay _) _).alloc _) (by simp) (fun i hi hne=>by rw[aI _ _ _ (by simpa[gP]using hi),lg _ hne,lg _ hne])
  (fun y ve v1 v2 h=>by rw[aI _ _ _ (by simpa[gP]using hq2),heap_set _ (heap_set _ h)];simp[p9])
  ?pp ?rr
 case pp=>
  rw[<- V2];exact((M3.o.pen.iD (by omega) _).iD (by omega) _).alloc _
 case rr=>
  intro x' st' hx;unfold C9 Px.kind at hx;by_cases hk:(eZ s st).t.k=110
  ·rw[aA hk]at hx;cases hx;refine⟨rfl,{jY with op:=114},eZ s (eZ s st),?_,?_⟩;·simp[gV,rM,Px.kind,hk,qZ]
   simp[nL,qD,hk,Px.txt]
  rw[ah hk]at hx;cases hx
 have M4:Hid _:=m4;clear m4 M3 d0 d1 d2 d3 d4 d5 d6 d7 d8 d9 kJ df;refine(Jg b s n _ hst (lQ s n) hs3 _ _ M4.o.pen ?hd).mono ?_;case hd=>
  intro st1 h1;cases hr:Px.kind s 110 (eZ s st)with| error p=>simp[C9,hr,Except.map]at h1| ok st2=>
  simp[C9,hr,Except.map]at h1;rw[<- h1];exact D1.o.good (qA D1.o.tk (by decide) (by decide) hr)
 rintro e w4 h4;obtain⟨va,vn,vc,he⟩:∃va vn vc,e=fM (.slice va vn vc):=by obtain⟨_,va,vn,vc,he,_⟩:=h4;exact⟨va,vn,vc,he⟩
 subst he;have m5:=M4.o.one (lQ s n) hb (ay _) h4;obtain⟨y,ve,a1,n1,c1,a2,n2,c2,hc,hcx⟩:=M4.o.cells;have hc3:=Kp.heap h4.1 hc (by omega);obtain⟨d0,d1,d2,d3,d4,d5,d6,d7,d8,d9,kJ,df⟩:=jy hc3;have M5:Hid _:=m5;clear hc hcx hc3 m5 h4;clear M4;go_wp2_with fail;go_ret;rw[Ni];exact M5.o.post (ay _)
theorem Wf(b:Nat)(s:dX)(hs3:s.size<=300)(n:Nat):GJ b s n (fJ s n):=by
 induction n with| zero=>intro st w hD p;have:=hD.room;omega| succ n ih=>
 intro st w hD p;rw[fJ];cases h0:gN s st.t ⟨#[108,101,116]⟩
 ·cases h1:gN s st.t ⟨#[99,97,108,108]⟩
  ·cases h2:gN s st.t ⟨#[105,102]⟩
   ·cases h3:gN s st.t ⟨#[116,114,121]⟩
    ·cases h4:gN s st.t ⟨#[114,101,112,101,97,116]⟩;·exact Jp b s n hs3 st w hD p h0 h1 h2 h3 h4
     exact QM b s n ih hs3 st w hD p h0 h1 h2 h3 h4
    exact Jr b s n ih hs3 st w hD p h0 h1 h2 h3
   exact Jq b s n ih hs3 st w hD p h0 h1 h2
  exact Jo b s n hs3 st w hD p h0 h1
 exact Jm b s n hs3 st w hD p h0
variable{W w w':dY}{B base c cap g i k o off size vc vn:Nat}{a b v va vh vl vp vv:dZ}{e t:TypeId}
theorem oh{c d e f g h:dZ}(hh:w.heap[k]?=some (.cells #[a,b,c,d,e,f,g,h] t)):w.cell? ⟨k,0,none⟩=some a/\w.cell? ⟨k,1,none⟩=some b/\w.cell? ⟨k,2,none⟩=some c/\w.cell? ⟨k,3,none⟩=some d/\w.cell? ⟨k,4,none⟩=some e/\w.cell? ⟨k,5,none⟩=some f/\w.cell? ⟨k,6,none⟩=some g/\w.cell? ⟨k,7,none⟩=some h/\∀o,w.frozen? ⟨k,o,none⟩=false:=by refine⟨?_,?_,?_,?_,?_,?_,?_,?_,?_⟩<;>simp[World.cell?,World.frozen?,hh]
def QN(s:dX)(w:dY)(e:Ending)(w':dY):Prop:=
 Below w.heap.size w w'/\∃a n c,∃(x p:Nat),e=fM (.tuple #[.slice a n c,eF (x:Int),eF (p:Int)]) /\
  match Px.read s with
  |.error (c',p')=>x=c'/\p=p'/\a=none/\n=0/\c=0
  |.ok l=>x=0/\p=0/\∃qs,jc w' (.slice a n c) qs (gD w w')/\gF w' l (gD w w') qs
theorem Wg(s:dX)(w:dY)(h:300<s.size)(hs:s.size<=maxLen):fI 18 #[.string s] w (QN s w):=by
 unfold maxLen at hs;have e1:Hid (Px.read s=.error (1,0)):=by unfold Hid;rw[Px.read,aA h]
 go_enter func18,ntmps18;go_wp2_with fail;go_ret3
 refine⟨aF _ _,none,0,0,1,0,rfl,?_⟩;rw[e1.o];exact⟨rfl,rfl,rfl,rfl,rfl⟩
theorem Wk(s:dX)(w:dY)(hs3:s.size<=300):fI 18 #[.string s] w (QN s w):=by
 obtain⟨i0,hi,hz0,hz1,hz2⟩:=info_parts WT;have hs:s.size<=maxLen:=by unfold maxLen;omega
 have hd:decide (300<(s.size:Int))=false:=by simp;omega
 have er:Hid (Px.read s=match gy s (fJ s (s.size+1)) (fun st=>st.t.k==0) (s.size+1) [] ⟨gY s 0,0,-1⟩with
  |.error p=>.error (2,p)
  |.ok (l,st)=>if 0<=st.fu then .error (3,st.fu.toNat)else .ok l):=by
  unfold Hid;rw[Px.read,ah (by omega)];cases gy s (fJ s (s.size+1)) (fun st=>st.t.k==0) (s.size+1) [] ⟨gY s 0,0,-1⟩<;>rfl
 have hst:=Wf w.heap.size s hs3 (s.size+1);have HG:Hid _:=lQ s (s.size+1);generalize fJ s (s.size+1)=g at *;go_enter func18,ntmps18;go_wp2_with fail;refine(MR s 0 _ (aQ _) hs).mono ?_;unfold mh;rintro e w1 ⟨rfl,hbw⟩;have g1:w1.heap[w.heap.size]?=some (.cells #[.string s,.int .u8 0,.string ⟨#[]⟩,eF 0,eF 0,eF (-1),eF 0,eF (-1)] 108):=by rw[hbw.block _ (by simp)];show(w.heap.push _)[w.heap.size]?=_;rw[aD,aA rfl]
 obtain⟨c0,c1,c2,c3,c4,c5,c6,c7,f⟩:=oh g1;have hbz:w.heap.size<w1.heap.size:=lt_of_cell c0;have BW:Hid (Below w.heap.size w w1):=((aF _ _).alloc (ay _) _).trans (hbw.mono (by simp));have G1:Hid _:=g1;go_wp2_with fail;generalize hW:(((w1.setCell ⟨w.heap.size,1,none⟩ (.int .u8 ((gY s 0).k:Int))).setCell ⟨w.heap.size,2,none⟩ (.string (s.extract (gY s 0).a (gY s 0).b))).setCell ⟨w.heap.size,3,none⟩ (eF ((gY s 0).a:Int))).setCell ⟨w.heap.size,4,none⟩ (eF ((gY s 0).b:Int))=W;have P0:Hid (fQ W w.heap.size s (gY s 0) (-1) 0 (-1)):=⟨by rw[<- hW,heap_set _ (heap_set _ (heap_set _ (heap_set _ G1.o)))];simp⟩;have Nj:Hid (Below w.heap.size w W):=by rw[<- hW];exact(((BW.o.setCell (ay _) _).setCell (ay _) _).setCell (ay _) _).setCell (ay _) _
 have hbW:w.heap.size<W.heap.size:=P0.o.lt;have TK:Hid (Tk s (gY s 0)):=(wI s 0 (aQ _)).1;generalize hR:gy s g (fun st=>st.t.k==0) (s.size+1) [] ⟨gY s 0,0,-1⟩=R at er;have HRR:Hid _:=hR;generalize Wl:w.heap.size=B at *;have QO:Hid _:=Wl;go_loopw [6] (fun v wr=>Hid (M0 B s g (fun st=>st.t.k==0) (iN s (s.size+1)) R W wr v)) (fun _ wr=>sK s B wr)
 case atStart=>
  refine⟨Kp.refl _ _,[],aX _ _ _ _,ak ⟨[],⟨gY s 0,0,-1⟩,s.size+1,gF.oV.2 rfl,by simp,P0.o,⟨TK.o,by simp;omega,by simp,by simp;omega⟩,HRR.o,by simp;omega⟩⟩
 case round=>
  obtain⟨kr,qs,hown,hcase⟩:=hrel.o;obtain⟨va,vn,vc,rfl⟩:=QJ hown;have KR:Hid (Kp B W wr/\wr.ownsRow W.heap.size 110 1 (.slice va vn vc) qs.length (qs.map ptr)):=⟨kr,hown⟩;obtain⟨l,st1,m,hl,hq,p1,hD1,hch,hm⟩|⟨pe,t,eP,fu,hRe,hq,p1⟩:=hcase
  ·obtain⟨m,rfl⟩:∃m',m=m'+1:=⟨m-1,by omega⟩;obtain⟨c0,c1,c2,c3,c4,c5,c6,c7,f,hbr⟩:=p1.cells;have L:Hid _:=hl;have PP:Hid _:=p1;have DD:Hid _:=hD1;have CH:Hid _:=hch;by_cases hk0:st1.t.k=0
   ·have t1:((st1.t.k:Int) != 0)=false:=by rw[hk0];rfl
    have Bn:Hid (R=.ok (l,st1)):=by unfold Hid;rw[<- CH.o,gy,aA (by simp[hk0])]
    by_cases hdp:0<=st1.fu
    ·go_wp2_with fail;go_region
     go_wp2_with fail;go_ret3
     refine⟨by rw[QO.o];exact(Nj.o.trans (KR.o.1.qj (ay _) (by omega))).drew,none,0,0,3,st1.fu.toNat,by rw[Int.toNat_of_nonneg hdp];rfl,?_⟩;rw[er.o,Bn.o];simp only[aA hdp,and_self]
    go_wp2_with fail;go_ret3
    have z1:=KR.o.1.size;have z0:=Nj.o.size;refine⟨by rw[QO.o];exact(Nj.o.trans (KR.o.1.qj (ay _) (by omega))),va,vn,vc,0,0,rfl,?_⟩;rw[er.o,Bn.o];simp only[ah (show ¬0<=st1.fu by omega)];refine⟨trivial,trivial,qs,?_,?_⟩;·refine WX KR.o.2 fun k hk=>?_;have:=KR.o.2.lt k hk;exact⟨by omega,by omega⟩
    exact L.o.mono fun k hk=>⟨by have:=hk.1.1;omega,hk.1.2⟩
   have t1:((st1.t.k:Int) != 0)=true:=by rw[bne_iff_ne];omega
   go_wp2_with fail;refine(hst st1 _ DD.o PP.o).mono ?_;rintro e w3 ⟨k3,q,rfl,h3⟩;have hown3:w3.ownsRow W.heap.size 110 1 (.slice va vn vc) qs.length (qs.map ptr):=Jd KR.o.2 fun k hk=>k3.block k (KR.o.2.lt k hk).2 (by have:=(KR.o.2.lt k hk).1;omega);have Jf:W.heap.size<=w3.heap.size:=by have:=k3.size;have:=KR.o.1.size;omega
   have QK:qs.length<=300:=by have:=DD.o.tk.ab;have:=DD.o.tk.le;omega
   have H3:Hid (zq B s wr (g st1) (fM (ptr q)) w3):=⟨k3,q,rfl,h3⟩;unfold ptr;go_wp2_with (first
    |(at_builtin;refine wpList_append_own_at _ rfl _ _ 26 rfl W.heap.size 110 i0 (.pointer none) 1 8 underlying26 hi hz0 hz1 hz2 rfl (by decide) _ _ _ rfl (hown3.alloc _) ⟨w3.heap.size,0,none⟩ 1 1 [fq q] rfl rfl ?c1 ?c2 ?c3 ?c4 ?c5 ?_)
    |fail)
   case c1=>
    intro j u hj;match j,hj with| 0,hj=>simp at hj;subst hj;simp[Addr.add]
   case c2=>intro u hu;simp at hu;subst hu;rfl
   case c3=>unfold maxLen;omega
   case c4=>omega
   case c5=>simp;omega
   intro v' w4 hown' hgrow _ hloc;obtain⟨r1,r2⟩:=WV hbW HG.o KR.o.1 KR.o.2 L.o hq DD.o hm (R:=R) (stop:=fun st=>st.t.k==0) (by rw[<- CH.o,gy,ah (by simp[hk0])];cases g st1<;>rfl) H3.o hown' hgrow hloc;have RR:Hid (_/\_):=⟨r1,r2⟩;go_wp2;exact⟨RR.o.1,by rw[GA PP.o];exact RR.o.2⟩
  obtain⟨c0,c1,c2,c3,c4,c5,c6,c7,f,hbr⟩:=p1.cells;have PP:Hid (R=.error pe/\fQ wr B s t (pe:Int) eP fu):=⟨hRe,p1⟩;have hpe:(0:Int)<=pe:=by omega
  go_wp2_with fail;go_region
  go_wp2_with fail;go_ret3
  refine⟨by rw[QO.o];exact(Nj.o.trans (KR.o.1.qj (ay _) (by omega))).drew,none,0,0,2,pe,rfl,?_⟩;rw[er.o,PP.o.1];exact⟨rfl,rfl,rfl,rfl,rfl⟩
def rY(l:List (dX×Nat)):List dZ:=l.flatMap fun v=>[.string v.1,.int .u8 (v.2:Int)]
theorem WY(l:List (dX×Nat))(i:Nat)(h:i<l.length):(rY l)[i*2]?=some (.string l[i].1)/\(rY l)[i*2+1]?=some (.int .u8 (l[i].2:Int)):=by
 induction l generalizing i with| nil=>simp at h| cons v l ih=>
 cases i with| zero=>exact⟨rfl,rfl⟩| succ i=>
 have:=ih i (by simpa using h);have e:(i+1)*2=i*2+2:=by omega
 rw[e];exact this
variable{l:List (dX×Nat)}
theorem QS{va:Option Addr}(h:w.ownsRow base 101 2 (.slice va vn vc) l.length (rY l))(i:Nat)(hi:i<l.length):∃g,va=some ⟨g,0,none⟩/\base<=g/\vn=l.length/\w.cell? ⟨g,i*2,none⟩=some (.string l[i].1)/\w.cell? ⟨g,i*2+1,none⟩=some (.int .u8 (l[i].2:Int)):=by
 obtain⟨h1,h2⟩|⟨g,cap,cur,h1,h2,h3,h4,h5,h6,h7⟩:=h.2;·omega
 cases h1;have hc:∀j,j<l.length*2->w.cell? ⟨g,j,none⟩=(rY l)[j]?:=by intro j hj;rw[<- h7,bE hj];simp[World.cell?,h3]
 obtain⟨e1,e2⟩:=WY l i hi;exact⟨g,rfl,h2,rfl,by rw[hc _ (by omega)];exact e1,by rw[hc _ (by omega)];exact e2⟩
def xL(l:List (dX×Nat))(x:dX):Int:=
 match jG l x with
 |none=>-1
 |some i=>i
theorem Nk{va:Option Addr}(h:w.ownsRow base 101 2 (.slice va vn vc) l.length (rY l)):vn=l.length/\l.length<=maxLen:=by
 obtain⟨h1,h2⟩|⟨g,cap,cur,h1,h2,h3,h4,h5,h6,h7⟩:=h.2;·cases h1;exact⟨h2.symm,by omega⟩
 cases h1;exact⟨rfl,by omega⟩
variable{x:dX}
theorem Wr(hk:k<l.length)(h:(l[k].1.toList==x.toList)=false)(hv:jG l x=(jG (l.drop k) x).map (·+k)):jG l x=(jG (l.drop (k+1)) x).map (·+(k+1)):=by rw[hv,bV hk,jG,ah (by simp[h])];cases jG (l.drop (k+1)) x with| none=>rfl| some i=>simp;omega
theorem W0(hk:k<l.length)(h:(l[k].1.toList==x.toList)=true)(hv:jG l x=(jG (l.drop k) x).map (·+k)):jG l x=some k:=by rw[hv,bV hk,jG,aA h];simp
theorem EA(l:List (dX×Nat))(x:dX)(w:dY)(base:Nat)(va:Option Addr)(vn vc:Nat)(h:w.ownsRow base 101 2 (.slice va vn vc) l.length (rY l)):fI 152 #[.slice va vn vc,.string x] w fun e w'=>e=fM (eF (xL l x))/\w=w':=by
 obtain⟨rfl,hml⟩:=Nk h;unfold maxLen at hml;have H:Hid _:=h;clear h;go_enter func152,ntmps152;go_wp2_with fail;go_loop [5] (fun i=>∃k:Nat,k<=l.length/\i=eF k/\Hid (jG l x=(jG (l.drop k) x).map (·+k))) (fun i=>l.length-(intOf i).toNat)
 case atStart=>exact⟨0,by omega,rfl,by simp[Hid]⟩
 case round=>
  obtain⟨k,hk,rfl,hv⟩:=hrel;by_cases hlt:k<l.length
  ·obtain⟨g,rfl,hg,_,hc,hc'⟩:=QS H.o k hlt;cases hb:(l[k].1.toList==x.toList);·go_wp2_with fail;exact⟨⟨k+1,by omega,by go_num,Wr hlt hb hv.o⟩,by simp[intOf];omega⟩
   go_wp2_with fail;go_ret;exact⟨MV (by rw[xL,W0 hlt hb hv.o]),rfl⟩
  go_wp2_with fail;go_ret;exact⟨MV (by rw[xL,hv.o,dh (by omega)];rfl),rfl⟩
theorem qJ(k z:Nat)(w:dY):fI 77 #[.int .u8 (k:Int),.int .u8 (z:Int)] w fun e w'=>e=fM (.bool (jL k z))/\w=w':=by
 have e1:Hid (jL k z=(((k:Int)==z)||((k:Int)==63))):=by unfold Hid jL;rw[bI];simp;omega
 cases h1:((k:Int)==z);all_goals
  go_enter func77,ntmps77;go_wp2_with fail;go_ret;exact⟨vX (by rw[e1.o,h1];simp),rfl⟩
structure jk(w:dY)(c:Nat)(k:gM):Prop where
 ex:∃va vn vc,w.heap[c]?=some (.cells #[.slice va vn vc,eF (k.e:Int),eF (k.pl:Int)] 58)/\w.ownsRow (c+1) 101 2 (.slice va vn vc) k.vars.length (rY k.vars)
theorem cells3{c:dZ}(hh:w.heap[k]?=some (.cells #[a,b,c] t)):w.cell? ⟨k,0,none⟩=some a/\w.cell? ⟨k,1,none⟩=some b/\w.cell? ⟨k,2,none⟩=some c/\∀o,w.frozen? ⟨k,o,none⟩=false:=by refine⟨?_,?_,?_,?_⟩<;>simp[World.cell?,World.frozen?,hh]
variable{ex pv xs:List dZ}
theorem QT{u:dZ}{n:Nat}(h:w.ownsRow (c+1) e size v n xs):(w.setCell ⟨c,o,none⟩ u).ownsRow (c+1) e size v n xs:=ownsRow_setCell_below h (Nat.lt_succ_self _) u
theorem QU{a:dY}(h:Below c a w)(u:dZ):Below c a (w.setCell ⟨c,o,none⟩ u):=h.setCell (p:=⟨c,o,none⟩) (ay _) u
theorem lu{n:Nat}(h:w.ownsRow base e size v n xs):∃a k c,v=.slice a k c:=by
 obtain⟨h1,_⟩|⟨g,cap,cur,h1,_⟩:=h.2;·exact⟨_,_,_,h1⟩
 exact⟨_,_,_,h1⟩
theorem W6(l:List (dX×Nat))(x:dX)(z:Nat):rY (l++[(x,z)])=rY l++[.string x,.int .u8 (z:Int)]:=by simp[rY]
theorem wQ(c e p:Nat)(k:gM)(w:dY)(h:jk w c k):fI 78 #[fq c,eF (e:Int),eF (p:Int)] w fun e' w'=>e'=fM (.tuple #[])/\jk w' c (Px.say e p k)/\Below c w w':=by
 obtain⟨va,vn,vc,h1,h2⟩:=h.ex;obtain⟨c0,c1,c2,f⟩:=cells3 h1;have yes:Px.say e p k=⟨k.vars,e,p⟩->jk ((w.setCell ⟨c,1,none⟩ (eF (e:Int))).setCell ⟨c,2,none⟩ (eF (p:Int))) c (Px.say e p k)/\Below c w ((w.setCell ⟨c,1,none⟩ (eF (e:Int))).setCell ⟨c,2,none⟩ (eF (p:Int))):=by intro hs;rw[hs];exact⟨⟨va,vn,vc,by rw[heap_set _ (heap_set _ h1)];simp,QT (QT h2)⟩,QU (QU (aF _ _) _) _⟩
 have no:Px.say e p k=k->jk w c (Px.say e p k)/\Below c w w:=by intro hs;rw[hs];exact⟨⟨va,vn,vc,h1,h2⟩,aF _ _⟩
 have YES:Hid _:=yes;have NO:Hid _:=no;clear yes no h h1 h2;by_cases g0:k.e=0
 ·have t0:((k.e:Int)==0)=true:=by rw[g0];rfl
  go_enter func78,ntmps78;go_wp2_with fail;go_end0
  exact⟨rfl,YES.o (by unfold Px.say;rw[aA (ak g0)])⟩
 have t0:((k.e:Int)==0)=false:=by rw[beq_eq_false_iff_ne];omega
 by_cases g1:p<k.pl
 ·have t1:(p:Int)<k.pl:=by omega
  go_enter func78,ntmps78;go_wp2_with fail;go_end0
  exact⟨rfl,YES.o (by unfold Px.say;rw[aA (aj (ak g1))])⟩
 have t1:¬(p:Int)<k.pl:=by omega
 by_cases g2:p=k.pl
 ·have t2:((p:Int)==k.pl)=true:=by rw[beq_iff_eq];omega
  have G2:Hid _:=g2;clear g2;by_cases g3:e<k.e
  ·have t3:(e:Int)<k.e:=by omega
   go_enter func78,ntmps78;go_wp2_with fail;go_end0
   exact⟨rfl,YES.o (by unfold Px.say;rw[aA (aj (aj ⟨G2.o,g3⟩))])⟩
  have t3:¬(e:Int)<k.e:=by omega
  go_enter func78,ntmps78;go_wp2_with fail;go_end0
  exact⟨rfl,NO.o (by unfold Px.say;rw[ah (by omega)])⟩
 have t2:((p:Int)==k.pl)=false:=by rw[beq_eq_false_iff_ne];omega
 go_enter func78,ntmps78;go_wp2_with fail;go_end0
 exact⟨rfl,NO.o (by unfold Px.say;rw[ah (by omega)])⟩
theorem W7:(prog.info? 101).map (fun i=>(i.zero,i.size,i.bytes))=some (some (.agg #[.string ⟨#[]⟩,.int .u8 0]),2,24):=by kernel_rfl
theorem wK(h:jG l x=some i):i<l.length:=by
 induction l generalizing i with
 |nil=>cases h
 |cons v l ih=>
 rw[jG]at h;split at h;·cases h;simp
 cases hf:jG l x with
 |none=>rw[hf]at h;cases h
 |some j=>rw[hf]at h;cases h;have:=ih hf;simp;omega
theorem Js(c:Nat)(x:dX)(p z:Nat)(k:gM)(w:dY)(h:jk w c k)(hv:k.vars.length<=1000000):fI 76 #[fq c,.string x,eF (p:Int),.int .u8 (z:Int)] w fun e' w'=>e'=fM (.tuple #[])/\jk w' c (oQ x p z k)/\Below c w w':=by
 obtain⟨va,vn,vc,h1,h2⟩:=h.ex;obtain⟨c0,c1,c2,f⟩:=cells3 h1;obtain⟨rfl,_⟩:=Nk h2;have hcz:c<w.heap.size:=lt_of_cell c0;have H:Hid (_/\_):=⟨h1,h2⟩;have HL:Hid _:=h;clear h1 h2 h;cases hf:jG k.vars x with
 |none=>
  obtain⟨i0,hi,hz0,hz1,hz2⟩:=info_parts W7;have e1:Hid (oQ x p z k=⟨k.vars++[(x,z)],k.e,k.pl⟩):=by unfold Hid oQ;rw[hf]
  have e2:Hid (xL k.vars x=-1):=by unfold Hid xL;rw[hf]
  clear hf;go_enter func76,ntmps76;go_wp2_with fail;refine(EA k.vars x _ _ _ _ _ H.o.2).mono ?_;rintro e w' ⟨rfl,rfl⟩;rw[e2.o];go_wp2_with (first
   |(at_builtin;refine wpList_append_own_at _ rfl _ _ 27 rfl (c+1) 101 i0 (.agg #[.string ⟨#[]⟩,.int .u8 0]) 2 24 underlying27 hi hz0 hz1 hz2 rfl (by decide) _ _ _ rfl (H.o.2.alloc _) ⟨w.heap.size,0,none⟩ 1 1 [.string x,.int .u8 (z:Int)] rfl rfl ?c1 ?c2 ?c3 ?c4 ?c5 ?_)
   |fail)
  case c1=>
   intro j u hj;match j,hj with| 0,hj=>simp at hj;subst hj;simp[Addr.add]| 1,hj=>simp at hj;subst hj;simp[Addr.add]
  case c2=>intro u hu;simp at hu;obtain rfl|rfl:=hu<;>rfl
  case c3=>unfold maxLen;omega
  case c4=>omega
  case c5=>simp;omega
  intro v' w3 hown' hgrow _ hloc;obtain⟨va',vn',vc',rfl⟩:=lu hown';have rH:∀i,(Value.slice va k.vars.length vc).ownBlock=some i->c+1<=i:=fun i hi=>(H.o.2.lt i hi).1;have h3:w3.heap[c]?=some (.cells #[.slice va k.vars.length vc,eF (k.e:Int),eF (k.pl:Int)] 58):=by rw[hgrow.block c (by simp;omega) (fun e=>by have:=rH c e.symm;omega),aI _ _ _ hcz];exact H.o.1
  obtain⟨d0,d1,d2,df⟩:=cells3 h3;have hb3:Below c w w3:=((aF _ _).alloc (by omega) _).grown hgrow (by simp;omega) (fun i hi=>by have:=rH i hi;omega);have H3:Hid (_/\_/\_):=⟨hown',h3,hb3⟩;clear hown' hgrow hloc h3 hb3 rH;go_wp2_with fail;refine bodyPost_ret (results_none rfl _ _ _) rfl ?_;rw[e1.o];refine⟨rfl,⟨va',vn',vc',by rw[heap_set _ H3.o.2.1];simp,?_⟩,QU H3.o.2.2 _⟩;have:=QT (c:=c) (o:=0) (u:=.slice va' vn' vc') H3.o.1;rw[W6];simpa using this
 |some i=>
 have hlt:=wK hf;obtain⟨g,rfl,hg,_,hc,hc'⟩:=QS H.o.2 i hlt;have e2:Hid (xL k.vars x=(i:Int)):=by unfold Hid xL;rw[hf]
 have e3:pG k.vars i=k.vars[i].2:=by simp[pG,hlt]
 have e1:Hid (oQ x p z k=if vS k.vars[i].2 z then Px.say 6 p k else k):=by unfold Hid oQ;rw[hf];simp only[e3]
 have e4:Hid (vS k.vars[i].2 z=(((k.vars[i].2:Int) != z)&&((k.vars[i].2:Int) != 63)&&((z:Int) != 63))):=by unfold Hid vS;rw[bI];simp;omega
 have E3:Hid _:=e3;clear hf e3;generalize hkz:k.vars[i].2=kz at *;clear hkz;cases g1:((kz:Int) != z)
 ·go_enter func76,ntmps76;go_wp2_with fail;refine(EA k.vars x _ _ _ _ _ H.o.2).mono ?_;rintro e w' ⟨rfl,rfl⟩;rw[e2.o];go_wp2_with fail;go_end0
  rw[e1.o,e4.o,g1];exact⟨rfl,HL.o,aF _ _⟩
 cases g2:((kz:Int) != 63)
 ·go_enter func76,ntmps76;go_wp2_with fail;refine(EA k.vars x _ _ _ _ _ H.o.2).mono ?_;rintro e w' ⟨rfl,rfl⟩;rw[e2.o];go_wp2_with fail;go_end0
  rw[e1.o,e4.o,g1,g2];exact⟨rfl,HL.o,aF _ _⟩
 cases g3:((z:Int) != 63)
 ·go_enter func76,ntmps76;go_wp2_with fail;refine(EA k.vars x _ _ _ _ _ H.o.2).mono ?_;rintro e w' ⟨rfl,rfl⟩;rw[e2.o];go_wp2_with fail;go_end0
  rw[e1.o,e4.o,g1,g2,g3];exact⟨rfl,HL.o,aF _ _⟩
 go_enter func76,ntmps76;go_wp2_with fail;refine(EA k.vars x _ _ _ _ _ H.o.2).mono ?_;rintro e w' ⟨rfl,rfl⟩;rw[e2.o];go_wp2_with fail;refine(wQ c 6 p k _ HL.o).mono ?_;rintro e w1 ⟨rfl,l1,b1⟩;have L1:Hid (_/\_):=⟨l1,b1⟩;clear l1 b1;go_wp2_with fail;go_end0
 rw[e1.o,e4.o,g1,g2,g3];exact⟨rfl,L1.o⟩
def zu(l:List iL):List dZ:=l.flatMap fun a=>[.string a.eH,eF a.arg,eF (a.nth:Int),.bool a.undo]
def rZ(l:List (dX×Int)):List dZ:=l.flatMap fun a=>[.string a.1,eF a.2]
def gB(l:List Int):List dZ:=l.map (Value.int .i64)
theorem W8(l:List iL):(zu l).length=l.length*4:=by induction l with| nil=>rfl| cons v l ih=>simp[zu]at ih |-;omega
theorem WZ(l:List (dX×Int))(i:Nat)(h:i<l.length):(rZ l)[i*2]?=some (.string l[i].1)/\(rZ l)[i*2+1]?=some (eF l[i].2):=by
 induction l generalizing i with| nil=>simp at h| cons v l ih=>
 cases i with| zero=>exact⟨rfl,rfl⟩| succ i=>
 have:=ih i (by simpa using h);have e:(i+1)*2=i*2+2:=by omega
 rw[e];exact this
theorem W9(l:List iL)(a:iL):zu (l++[a])=zu l++[.string a.eH,eF a.arg,eF (a.nth:Int),.bool a.undo]:=by simp[zu]
theorem Xs(l:List (dX×Int))(a:dX×Int):rZ (l++[a])=rZ l++[.string a.1,eF a.2]:=by simp[rZ]
def qw(w:dY)(v:dZ)(l:List Int):Prop :=∃ad cap,v=.slice ad l.length cap/\l.length<=maxLen/\l.length<=cap/\(0<l.length->∃g off cur ty,ad=some ⟨g,off,none⟩/\w.heap[g]?=some (.cells cur ty (0,0))/\∀i(hi:i<l.length),cur[off+i]?=some (eF l[i]))
variable{T:Nat->Prop}
theorem qw.oL{l:List Int}(h:qw w v l)(ht:fE T w w')(hn:∀k,v.ownBlock=some k->¬T k):qw w' v l:=by obtain⟨ad,cap,rfl,h2,h3,h4⟩:=h;refine⟨ad,cap,rfl,h2,h3,fun hl=>?_⟩;obtain⟨g,off,cur,ty,rfl,h5,h6⟩:=h4 hl;exact⟨g,off,cur,ty,rfl,by rw[ht.block g (aN.1 h5).1 (hn g rfl)];exact h5,h6⟩
structure St(w:dY)(B c:Nat)(V:Vs)(s:Rs)(vv vh vl va vp:dZ)(pv ex:List dZ):Prop where
 hB:B<=c
 at_:w.heap[c]?=some (.cells #[vv,vh,vl,va,vp,eF (s.over:Int),.bool s.stop,.bool s.failed] 93)
 vars:w.ownsRow 0 101 2 vv V.length (rY V)
 nX:∀k,vv.ownBlock=some k->k<B
 held:w.ownsRow B 3 1 vh s.held.length (gB s.held)
 left:qw w vl s.left
 eY:w.ownsRow B 95 4 va s.eY.length (zu s.eY)
 eU:w.ownsRow B 241 1 vp s.eU.length pv
 each:∀(i:Nat)(p:List (dX×Int))(v:dZ),s.eU[i]?=some p->pv[i]?=some v->w.ownsRow B 244 2 v p.length (rZ p)
 sep:Sep B c w (vh::vl::va::vp::(pv++ex))
variable{V:Vs}{s:Rs}
theorem St.lt(h:St w B c V s vv vh vl va vp pv ex):c<w.heap.size:=(aN.1 h.at_).1
theorem St.Nl(h:St w B c V s vv vh vl va vp pv ex):pv.length=s.eU.length:=by have:=h.eU.1;omega
theorem St.own{w w':dY}{B c:Nat}{V:Vs}{s s':Rs}{vv vh vl va vp:dZ}{pv ex:List dZ}(h:St w B c V s vv vh vl va vp pv ex)(ht:fE (·=c) w w')(hc:w'.heap[c]?=some (.cells #[vv,vh,vl,va,vp,eF (s'.over:Int),.bool s'.stop,.bool s'.failed] 93))(e1:s'.held=s.held)(e2:s'.left=s.left)(e3:s'.eY=s.eY)(e4:s'.eU=s.eU):St w' B c V s' vv vh vl va vp pv ex:=by
 have hc0:=h.lt;have hB:=h.hB;have hne:∀v∈vh::vl::va::vp::(pv++ex),∀k,v.ownBlock=some k->¬k=c:=fun v hv k hk=>(h.sep.own v hv k hk).2.1;refine⟨hB,hc,iM h.vars ht fun k hk=>by have:=h.nX k hk;omega,h.nX,?_,?_,?_,?_,?_,h.sep.world ht.size⟩;·rw[e1];exact iM h.held ht (hne _ (by simp))
 ·rw[e2];exact h.left.oL ht (hne _ (by simp))
 ·rw[e3];exact iM h.eY ht (hne _ (by simp))
 ·rw[e4];exact iM h.eU ht (hne _ (by simp))
 intro i p v hp hv;rw[e4]at hp;exact iM (h.each i p v hp hv) ht (hne _ (by simp[List.mem_of_getElem? hv]))
theorem Nn(B c:Nat)(V:Vs)(s:Rs)(vv vh vl va vp:dZ)(pv ex:List dZ)(w:dY)(h:St w B c V s vv vh vl va vp pv ex):fI 140 #[fq c] w fun e w'=>e=fM (.bool s.going)/\w=w':=by
 obtain⟨c0,c1,c2,c3,c4,c5,c6,c7,cf⟩:=oh h.at_;have hg:Hid (s.going=(((s.over:Int)==0) && !s.stop && !s.failed)):=by unfold Hid Rs.going;congr 2;rw[bI];simp
 cases h1:((s.over:Int)==0);all_goals
  cases h2:s.stop;all_goals
   rw[h2]at c6;go_enter func140,ntmps140;go_wp2_with fail;go_ret;exact⟨vX (by rw[hg.o,h1,h2];simp),rfl⟩
theorem Db(b:Bool)(w:dY):fI 228 #[.bool b] w fun e w'=>e=fM (eF (iY b))/\w=w':=by
 cases b;all_goals
  go_enter func228,ntmps228;go_wp2_with fail;go_ret;exact⟨rfl,rfl⟩
theorem Ys:(prog.info? 95).map (fun i=>(i.zero,i.size,i.bytes))=some (some (.agg #[.string ⟨#[]⟩,eF 0,eF 0,.bool false]),4,40):=by kernel_rfl
theorem St.asked{w3:dY}{va':dZ}(h:St w B c V s vv vh vl va vp pv ex)(a:iL)(hg:fE (fun k=>va.ownBlock=some k) w w3)(hown:w3.ownsRow B 95 4 va' (s.eY.length+1) (zu (s.eY++[a])))(hloc:va'.ownBlock=va.ownBlock\/∃n,va'.ownBlock=some n/\w.heap.size<=n/\n<w3.heap.size)(hw':w'=w3.setCell ⟨c,3,none⟩ va'):St w' B c V {s with eY:=s.eY++[a]} vv vh vl va' vp pv ex/\fE (fun k=>k=c\/va.ownBlock=some k) w w':=by
 subst hw';have hc0:=h.lt;have hB:=h.hB;have lV:va.ownBlock≠some c:=fun e=>(h.sep.own va (by simp) c e).2.1 rfl;have hc3:w3.heap[c]?=_:=(hg.block c hc0 lV).trans h.at_;have hT:fE (fun k=>k=c\/va.ownBlock=some k) w (w3.setCell ⟨c,3,none⟩ va'):=fE.setCell (T:=fun k=>k=c\/va.ownBlock=some k) (hg.mono fun k _ hk=>aj hk) (p:=⟨c,3,none⟩) (ak (ak rfl)) _;have hcn':va'.ownBlock≠some c:=fun e=>by
  obtain hl|⟨n,hl,h1,h2⟩:=hloc;·rw[hl]at e;exact lV e
  rw[hl]at e;cases e;omega
 have hne:∀i v,i≠2->(vh::vl::va::vp::(pv++ex))[i]?=some v->∀k,v.ownBlock=some k->¬(k=c\/va.ownBlock=some k):=by
  intro i v hi hv k hk hh;obtain rfl|hh:=hh;·exact(h.sep.own v (bL hv) _ hk).2.1 rfl
  exact h.sep.mem hv (show(vh::vl::va::vp::(pv++ex))[2]?=some va from rfl) hi k hk hh
 refine⟨⟨hB,?_,iM h.vars hT fun k hk hh=>?_,h.nX,iM h.held hT (hne 0 _ (by decide) rfl),h.left.oL hT (hne 1 _ (by decide) rfl),?_,iM h.eU hT (hne 3 _ (by decide) rfl),?_,?_⟩,hT⟩;·rw[heap_set _ hc3];simp
 ·have:=h.nX k hk;obtain rfl|hh:=hh;·omega
  have:=(h.sep.own va (by simp) k hh).1;omega
 ·rw[aC];exact ownsRow_setCell_other hown hcn' _
 ·intro i p v hp hv;refine iM (h.each i p v hp hv) hT (hne (4+i) v (by omega) ?_);rw[show 4+i=i+1+1+1+1 by omega,bC,bC,bC,bC,bg (by have:=(aT.1 hv).1;exact this)];exact hv
 refine Sep.turn (A:=[vh,vl]) (v:=va) (R:=vp::(pv++ex)) h.sep hT.size (by omega) hc0 ?_;obtain hl|⟨n,hl,h1,h2⟩:=hloc;·exact ak hl
 exact aj (aj ⟨n,hl,h1,by simpa[World.setCell]using h2⟩)
def vM(B c:Nat)(V:Vs)(a:iL)(s:Rs)(vv vh va vp:dZ)(pv ex:List dZ)(w:dY)(e:Ending)(w':dY):Prop:=e=fM (.tuple #[eF ((Px.ask a s).1.getD 0),.bool (Px.ask a s).1.isSome])/\∃vl' va',St w' B c V (Px.ask a s).2 vv vh vl' va' vp pv ex/\fE (fun k=>k=c\/va.ownBlock=some k) w w'
theorem r9(h:fE T w w')(hc:T c):fE T w (w'.setCell ⟨c,o,none⟩ v):=h.setCell (p:=⟨c,o,none⟩) (ak hc) v
theorem St.stopped(h:St w B c V s vv vh vl va vp pv ex):St (w.setCell ⟨c,6,none⟩ (.bool true)) B c V {s with stop:=true} vv vh vl va vp pv ex:=h.own (r9 (fE.refl _ _) rfl) (by rw[heap_set _ h.at_];simp) rfl rfl rfl rfl
theorem St.Jt{s':Rs}{vl':dZ}(h:St w B c V s vv vh vl va vp pv ex)(ht:fE (·=c) w w')(hc:w'.heap[c]?=some (.cells #[vv,vh,vl',va,vp,eF (s'.over:Int),.bool s'.stop,.bool s'.failed] 93))(hL:qw w vl' s'.left)(hb:vl'.ownBlock=vl.ownBlock)(e1:s'.held=s.held)(e3:s'.eY=s.eY)(e4:s'.eU=s.eU):St w' B c V s' vv vh vl' va vp pv ex:=by
 have hc0:=h.lt;have hB:=h.hB;have hne:∀v∈vh::vl::va::vp::(pv++ex),∀k,v.ownBlock=some k->¬k=c:=fun v hv k hk=>(h.sep.own v hv k hk).2.1;refine⟨hB,hc,iM h.vars ht fun k hk=>by have:=h.nX k hk;omega,h.nX,?_,?_,?_,?_,?_,?_⟩;·rw[e1];exact iM h.held ht (hne _ (by simp))
 ·exact hL.oL ht fun k hk=>hne vl (by simp) k (by rw[<- hb];exact hk)
 ·rw[e3];exact iM h.eY ht (hne _ (by simp))
 ·rw[e4];exact iM h.eU ht (hne _ (by simp))
 ·intro i p v hp hv;rw[e4]at hp;exact iM (h.each i p v hp hv) ht (hne _ (by simp[List.mem_of_getElem? hv]))
 exact Sep.turn (A:=[vh]) (v:=vl) (R:=va::vp::(pv++ex)) h.sep ht.size (by omega) hc0 (ak hb)
variable{n:Int}{r:List Int}
theorem St.less(h:St w B c V s vv vh (.slice (some ⟨g,off,none⟩) (r.length+1) cap) va vp pv ex)(hl:s.left=n::r):St (w.setCell ⟨c,2,none⟩ (.slice (some ⟨g,off+1,none⟩) r.length (cap-1))) B c V {s with left:=r} vv vh (.slice (some ⟨g,off+1,none⟩) r.length (cap-1)) va vp pv ex:=by refine h.Jt (r9 (fE.refl _ _) rfl) (by rw[heap_set _ h.at_];simp) ?_ rfl rfl rfl rfl;obtain⟨ad,cap',e,h2,h3,h4⟩:=h.left;rw[hl]at h2 h3 h4 e;simp only[aG]at h2 h3 e;cases e;refine⟨_,_,rfl,by dsimp only;omega,by dsimp only;omega,fun _=>?_⟩;obtain⟨g',off',cur,ty,e,h5,h6⟩:=h4 (by simp);cases e;refine⟨g,off+1,cur,ty,rfl,h5,fun i hi=>?_⟩;have:=h6 (i+1) (by simpa using hi);rw[show off+1+i=off+(i+1) by omega,this];rfl
theorem St.Ju(h:St w B c V s vv vh (.slice (some ⟨g,off,none⟩) (r.length+1) cap) va vp pv ex)(_hl:s.left=n::r)(hr:r.length=0):St (w.setCell ⟨c,2,none⟩ (.slice (some ⟨g,off,none⟩) r.length 0)) B c V {s with left:=r} vv vh (.slice (some ⟨g,off,none⟩) r.length 0) va vp pv ex:=by refine h.Jt (r9 (fE.refl _ _) rfl) (by rw[heap_set _ h.at_];simp) ?_ rfl rfl rfl rfl;exact⟨_,_,rfl,by dsimp only;rw[hr];exact aQ _,by dsimp only;omega,fun h=>by dsimp only at h;omega⟩
theorem St.first(h:St w B c V s vv vh vl va vp pv ex)(hl:s.left=n::r):∃g off cap,vl=.slice (some ⟨g,off,none⟩) (r.length+1) cap/\r.length+1<=cap/\r.length+1<=maxLen/\w.cell? ⟨g,off,none⟩=some (eF n):=by obtain⟨ad,cap,e,h2,h3,h4⟩:=h.left;rw[hl]at h2 h3 h4 e;simp only[aG]at h2 h3 e;obtain⟨g,off,cur,ty,rfl,h5,h6⟩:=h4 (by simp);have:=h6 0 (by simp);refine⟨g,off,cap,e,h3,h2,?_⟩;simp only[World.cell?,h5];simpa using this
theorem St.Z1{m:Nat}(h:St w B c V s vv vh (.slice (some ⟨g,off,none⟩) m cap) va vp pv ex)(hl:s.left=n::r):w.cell? ⟨g,off,none⟩=some (eF n)/\∀o,w.frozen? ⟨g,o,none⟩=false:=by obtain⟨ad,cap',e,h2,h3,h4⟩:=h.left;rw[hl]at h4;simp only[Value.slice.injEq]at e;obtain⟨g',off',cur,ty,e2,h5,h6⟩:=h4 (by simp);rw[<- e.1]at e2;simp only[Option.some.injEq,Addr.mk.injEq,and_true]at e2;obtain⟨rfl,rfl⟩:=e2;have:=h6 0 (by simp);refine⟨?_,fun o=>by simp[World.frozen?,h5]⟩;simp only[World.cell?,h5];simpa using this
theorem St.Z2(h:St w B c V s vv vh vl va vp pv ex)(hl:s.left=[]):∃ad cap,vl=.slice ad 0 cap:=by obtain⟨ad,cap,e,_⟩:=h.left;rw[hl]at e;exact⟨ad,cap,e⟩
theorem Z3{b:Nat}{p q r s:dZ}(h:W.heap[b]?=some (.cells #[p,q,r,s] t)):∀j u,[p,q,r,s][j]?=some u->W.cell? ((⟨b,0,none⟩:Addr).add j)=some u:=by intro j u hj;match j,hj with| 0,hj=>simp at hj;subst hj;simp[Addr.add,World.cell?,h]| 1,hj=>simp at hj;subst hj;simp[Addr.add,World.cell?,h]| 2,hj=>simp at hj;subst hj;simp[Addr.add,World.cell?,h]| 3,hj=>simp at hj;subst hj;simp[Addr.add,World.cell?,h]
theorem Np(a:iL)(h:s.left=[]):Px.ask a s=(none,{s with eY:=s.eY++[a],stop:=true}):=by
 unfold Px.ask;split;·rfl
 rename_i h';rw[h]at h';cases h'
theorem GQ(a:iL)(h:s.left=n::r):Px.ask a s=(some n,{s with eY:=s.eY++[a],left:=r}):=by
 unfold Px.ask;split;·rename_i h';rw[h]at h';cases h'
 rename_i h';rw[h]at h';cases h';rfl
theorem St.zvg(h:St w B c V s vv vh vl va vp pv ex)(a:iL)(hW:fE (fun _=>False) w W):∀v' w3,w3.ownsRow B 95 4 v' (s.eY.length+1) (zu s.eY++[.string a.eH,eF a.arg,eF (a.nth:Int),.bool a.undo])->W.grownBy w3 va.ownBlock->(v'.ownBlock=va.ownBlock\/v'.ownBlock=some W.heap.size) ->
   ∃a1 n1 c1,v'=.slice a1 n1 c1/\w3.heap[c]?=some (.cells #[vv,vh,vl,va,vp,eF (s.over:Int),.bool s.stop,.bool s.failed] 93)/\Hid (St (w3.setCell ⟨c,3,none⟩ v') B c V {s with eY:=s.eY++[a]} vv vh vl v' vp pv ex/\fE (fun k=>k=c\/va.ownBlock=some k) w (w3.setCell ⟨c,3,none⟩ v')):=by
 intro v' w3 hown hg hloc;obtain⟨a1,n1,c1,rfl⟩:=lu hown;have hT:fE (fun k=>va.ownBlock=some k) w w3:=(hW.mono fun _ _ h=>h.elim).grown hg fun k hk=>ak hk;have hcz:=h.lt;have lV:va.ownBlock≠some c:=fun e=>(h.sep.own va (by simp) c e).2.1 rfl;refine⟨a1,n1,c1,rfl,(hT.block c hcz lV).trans h.at_,h.asked a hT (by rw[W9];exact hown) ?_ rfl⟩;obtain hl|hl:=hloc;·exact ak hl
 ·exact aj ⟨_,hl,hW.size,(hown.lt _ hl).2⟩
theorem Xa(B c:Nat)(V:Vs)(a:iL)(s:Rs)(vv vh vl va vp:dZ)(pv ex:List dZ)(w:dY)(h:St w B c V s vv vh vl va vp pv ex)(hl:s.eY.length<=1000000000):fI 142 #[fq c,.agg #[.string a.eH,eF a.arg,eF (a.nth:Int),.bool a.undo]] w (vM B c V a s vv vh va vp pv ex w):=by
 obtain⟨c0,c1,c2,c3,c4,c5,c6,c7,cf⟩:=oh h.at_;have hB:=h.hB;have hcz:=h.lt;obtain⟨i0,hi,hz0,hz1,hz2⟩:=info_parts Ys;obtain⟨aa,an,ac,rfl⟩:=lu h.eY;have H:Hid _:=h;generalize hA:(Obj.cells #[.string a.eH,eF a.arg,eF (a.nth:Int),.bool a.undo] 95)=A;have hW:fE (fun _=>False) w (((w.alloc A).alloc A).drew):=(((fE.refl _ _).alloc _).alloc _).drew;have O1:Hid ((((w.alloc A).alloc A).drew).ownsRow B 95 4 (.slice aa an ac) s.eY.length (zu s.eY)):=iM H.o.eY hW (fun _ _ h=>h);have O2:Hid (∀j u,[.string a.eH,eF a.arg,eF (a.nth:Int),.bool a.undo][j]?=some u->(((w.alloc A).alloc A).drew).cell? ((⟨w.heap.size+1,0,none⟩:Addr).add j)=some u):=Z3 (t:=95) (by show((w.heap.push A).push A)[w.heap.size+1]?=_;rw[xJ,<- hA]);have O3:Hid (∀u∈[Value.string a.eH,eF a.arg,eF (a.nth:Int),.bool a.undo],u.oneCell'=true):=by intro u hu;simp at hu;obtain rfl|rfl|rfl|rfl:=hu<;>rfl
 have O4:Hid (s.eY.length+1<=maxLen):=by unfold Hid maxLen;omega
 have O5:Hid ((s.eY.length+1)*40<=140737488355328):=by unfold Hid;omega
 have O6:Hid (B<=(((w.alloc A).alloc A).drew).heap.size):=by show B<=((w.heap.push A).push A).size;simp;omega
 have AQ:Hid _:=H.o.zvg a hW;subst hA;cases hsl:s.left with
 |nil=>
  obtain⟨la,lc,rfl⟩:=H.o.Z2 hsl;have HE:Hid _:=hsl;go_enter func142,ntmps142;go_wp2_with fail;go_region_law (refine zk rfl _ _ 90 rfl B 95 i0 (.agg #[.string ⟨#[]⟩,eF 0,eF 0,.bool false]) 4 40 underlying90 hi hz0 hz1 hz2 rfl (bX 3) _ _ _ rfl O1.o _ 1 1 _ rfl rfl O2.o O3.o O4.o O5.o O6.o ?_;intro v' w3 hown' hgrow hloc;obtain⟨va',vn',vc',rfl,hc3,HS⟩:=AQ.o v' w3 hown' hgrow hloc;obtain⟨d0,d1,d2,d3,d4,d5,d6,d7,df⟩:=oh hc3;clear hown' hgrow hloc hc3)
  all_goals
   go_wp2_with fail;go_ret2;rw[vM,Np a HE.o];exact⟨rfl,.slice la 0 lc,.slice va' vn' vc',HS.o.1.stopped,r9 HS.o.2 (ak rfl)⟩
 |cons n r=>
 obtain⟨g,off,cap,rfl,hcap,hml,hcell⟩:=H.o.first hsl;have HE:Hid _:=hsl;unfold maxLen at hml;go_enter func142,ntmps142
 go_wp2_with fail;go_region_law (refine zk rfl _ _ 90 rfl B 95 i0 (.agg #[.string ⟨#[]⟩,eF 0,eF 0,.bool false]) 4 40 underlying90 hi hz0 hz1 hz2 rfl (bX 3) _ _ _ rfl O1.o _ 1 1 _ rfl rfl O2.o O3.o O4.o O5.o O6.o ?_;intro v' w3 hown' hgrow hloc;obtain⟨va',vn',vc',rfl,hc3,HS⟩:=AQ.o v' w3 hown' hgrow hloc;obtain⟨d0,d1,d2,d3,d4,d5,d6,d7,df⟩:=oh hc3;clear hown' hgrow hloc hc3)
 all_goals
  obtain⟨hcell,hfz⟩:=HS.o.1.Z1 (n:=n) (r:=r) HE.o;go_wp2_with fail
 all_goals
  go_ret2;rw[vM,GQ a HE.o];first
   |exact⟨rfl,.slice (some ⟨g,off+1,none⟩) r.length (cap-1),.slice va' vn' vc',HS.o.1.less HE.o,r9 HS.o.2 (ak rfl)⟩
   |exact⟨rfl,.slice (some ⟨g,off,none⟩) r.length 0,.slice va' vn' vc',HS.o.1.Ju HE.o (by omega),r9 HS.o.2 (ak rfl)⟩
theorem jk.cells{k:gM}(h:jk w c k):∃va vn vc,w.cell? ⟨c,0,none⟩=some (.slice va vn vc)/\w.ownsRow (c+1) 101 2 (.slice va vn vc) k.vars.length (rY k.vars)/\c<w.heap.size:=by obtain⟨va,vn,vc,h1,h2⟩:=h.ex;obtain⟨c0,_⟩:=cells3 h1;exact⟨va,vn,vc,c0,h2,lt_of_cell c0⟩
theorem jk.drew{w:dY}{c:Nat}{k:gM}(h:jk w c k):jk w.drew c k:=by obtain⟨va,vn,vc,h1,h2⟩:=h.ex;exact⟨va,vn,vc,h1,h2.1,h2.2⟩
theorem jk.drewN{w:dY}{c:Nat}{k:gM}(n:Nat)(h:jk w c k):jk (w.drewN n) c k:=by obtain⟨va,vn,vc,h1,h2⟩:=h.ex;exact⟨va,vn,vc,h1,h2.1,h2.2⟩
def tY(c:Nat)(x:fG):Prop:=∀(k:gM)(w:dY)(ok:Nat->Prop)(q:Nat),ji w x ok q->(∀i,ok i->i<c)->jk w c k ->
 fI 75 #[fq c,fq q] w fun e w'=>e=fM (.int .u8 ((jr x k).1:Int))/\jk w' c (jr x k).2/\Below c w w'
theorem Xb(l:List (dX×Nat))(x:dX)(w:dY)(base:Nat)(va:Option Addr)(vn vc:Nat)(h:w.ownsRow base 101 2 (.slice va vn vc) l.length (rY l)):fI 152 #[.slice va vn vc,.string x] w fun e w'=>e=fM (eF (xL l x))/\w'=w:=(EA l x w base va vn vc h).mono fun _ _ h=>⟨h.1,h.2.symm⟩
theorem Xc(c:Nat)(w:dY)(n:Nat):Below c w (w.drewN n):=⟨rfl,rfl,rfl,ay _,fun _ _=>rfl⟩
theorem zhr(c:Nat)(op n:Nat)(eH:dX)(pl own:Nat)(hop:op=110\/op=116):tY c ⟨op,n,eH,pl,own,none,none⟩:=by
 intro k w ok q hx hok hl;obtain⟨hq,v,hv⟩:=hx.root;obtain⟨c0,c1,c2,c3,c4,c5,f⟩:=oD hv;have HL:Hid _:=hl;obtain rfl|rfl:=hop;·go_enter func75,ntmps75;go_wp2_with fail;go_ret;exact⟨rfl,HL.o,aF _ _⟩
 go_enter func75,ntmps75;go_wp2_with fail;go_ret;exact⟨rfl,HL.o,aF _ _⟩
theorem zhq(c:Nat)(n:Nat)(eH:dX)(pl own:Nat):tY c ⟨119,n,eH,pl,own,none,none⟩:=by
 intro k w ok q hx hok hl;obtain⟨hq,v,hv⟩:=hx.root;obtain⟨c0,c1,c2,c3,c4,c5,f⟩:=oD hv;obtain⟨va,vn,vc,l0,hown,hcz⟩:=hl.cells;have HL:Hid (jk w c k/\_):=⟨hl,hown⟩;obtain⟨rfl,_⟩:=Nk hown;cases hf:jG k.vars eH with
 |none=>
  have e2:Hid (xL k.vars eH=-1):=by unfold Hid xL;rw[hf]
  have e1:Hid (jr ⟨119,n,eH,pl,own,none,none⟩ k=(63,Px.say 5 own k)):=by unfold Hid;simp[jr,Ai,hf]
  go_enter func75,ntmps75;go_wp2_with fail;go_quiet ((go_at_call 152;exact Calls.quiet_of_same (Xb k.vars eH _ (c+1) _ _ _ HL.o.2)))
  rw[e2.o];go_wp2_with fail;refine(wQ c 5 own k _ (HL.o.1.drewN nq)).mono ?_;rintro e w1 ⟨rfl,l1,b1⟩;have L1:Hid (_/\_):=⟨l1,b1⟩;go_wp2_with fail;go_ret;rw[e1.o];exact⟨rfl,L1.o.1,(Xc _ _ _).trans L1.o.2⟩
 |some i=>
 have hlt:=wK hf;obtain⟨g,rfl,hg,_,hc,hc'⟩:=QS HL.o.2 i hlt;have e2:Hid (xL k.vars eH=(i:Int)):=by unfold Hid xL;rw[hf]
 have e1:Hid (jr ⟨119,n,eH,pl,own,none,none⟩ k=(k.vars[i].2,k)):=by unfold Hid;simp[jr,Ai,hf,pG,hlt]
 go_enter func75,ntmps75;go_wp2_with fail;go_quiet ((go_at_call 152;exact Calls.quiet_of_same (Xb k.vars eH _ (c+1) _ _ _ HL.o.2)))
 rw[e2.o];go_wp2_with fail;go_ret;rw[e1.o];exact⟨rfl,HL.o.1.drewN nq,Xc _ _ _⟩
theorem znt(c:Nat)(n:Nat)(eH:dX)(pl own:Nat)(l:fG)(ih:tY c l):tY c ⟨33,n,eH,pl,own,some l,none⟩:=by
 intro k w ok q hx hok hl;obtain⟨hq,kb,lq,hkb,hne,hv,hkc,hxl⟩:=hx;obtain⟨c0,c1,c2,c3,c4,c5,f⟩:=oD hv;have k0:w.cell? ⟨kb,0,none⟩=some (fq lq):=by simp[World.cell?,hkc]
 have hqc:=hok q hq;have HL:Hid (jk w c k/\_/\_):=⟨hl,hxl,hv⟩;have HK:Hid (∀i,(ok i/\i≠q/\i≠kb)->i<c):=fun i hi=>hok i hi.1;have e1:Hid (jr ⟨33,n,eH,pl,own,some l,none⟩ k=sH own (jr l k)):=rfl;generalize hr:jr l k=r at e1;have HR:Hid _:=hr;cases hi:jL r.1 98;all_goals
  go_enter func75,ntmps75;go_wp2_with fail;refine(ih k _ _ lq HL.o.2.1 HK.o HL.o.1).mono ?_;rw[HR.o];rintro e w1 ⟨rfl,l1,b1⟩;have hv1:w1.heap[q]?=_:=(b1.block q hqc).trans HL.o.2.2;obtain⟨d0,d1,d2,d3,d4,d5,df⟩:=oD hv1;have L1:Hid (_/\_):=⟨l1,b1⟩;go_wp2_with fail;refine(qJ r.1 98 _).mono ?_;rintro e w' ⟨rfl,rfl⟩;go_wp2_with fail
 ·refine(wQ c 6 own r.2 _ L1.o.1).mono ?_;rintro e w2 ⟨rfl,l2,b2⟩;have L2:Hid (_/\_):=⟨l2,b2⟩;go_wp2_with fail;go_ret;rw[e1.o,sH,hi];exact⟨rfl,L2.o.1,L1.o.2.trans L2.o.2⟩
 go_ret;rw[e1.o,sH,hi];exact⟨rfl,L1.o.1,L1.o.2⟩
theorem St.drewN{w:dY}{B c:Nat}{V:Vs}{s:Rs}{vv vh vl va vp:dZ}{pv ex:List dZ}(h:St w B c V s vv vh vl va vp pv ex)(n:Nat):St (w.drewN n) B c V s vv vh vl va vp pv ex:=h.own ⟨rfl,rfl,rfl,ay _,fun _ _ _=>rfl⟩ h.at_ rfl rfl rfl rfl
theorem St.drew{w:dY}{B c:Nat}{V:Vs}{s:Rs}{vv vh vl va vp:dZ}{pv ex:List dZ}(h:St w B c V s vv vh vl va vp pv ex):St w.drew B c V s vv vh vl va vp pv ex:=h.own ⟨rfl,rfl,rfl,ay _,fun _ _ _=>rfl⟩ h.at_ rfl rfl rfl rfl
theorem zwc(T:Nat->Prop)(w:dY)(n:Nat):fE T w (w.drewN n):=⟨rfl,rfl,rfl,ay _,fun _ _ _=>rfl⟩
theorem St.fails(h:St w B c V s vv vh vl va vp pv ex):St (w.setCell ⟨c,7,none⟩ (.bool true)) B c V {s with failed:=true} vv vh vl va vp pv ex:=h.own (r9 (fE.refl _ _) rfl) (by rw[heap_set _ h.at_];simp) rfl rfl rfl rfl
def QV(B c:Nat)(V:Vs)(s:Rs)(r:Option Int)(vv vh vl va vp:dZ)(pv ex:List dZ)(w:dY)(e:Ending)(w':dY):Prop :=∃n,e=fM (eF n)/\fE (·=c) w w'/\(∀v,r=some v->n=v/\St w' B c V s vv vh vl va vp pv ex)/\(r=none->St w' B c V {s with failed:=true} vv vh vl va vp pv ex)
def vg(B c:Nat)(V:Vs)(x:fG):Prop:=∀(s:Rs)(w:dY)(ok:Nat->Prop)(q:Nat)(vv vh vl va vp:dZ)(pv ex:List dZ),ji w x ok q->(∀i,ok i->i<B)->St w B c V s vv vh vl va vp pv ex->s.held.length=V.length->s.failed=false->(∃k,nP V x k) ->
 fI 178 #[fq c,fq q] w (QV B c V s (ni V s.held x) vv vh vl va vp pv ex w)
theorem Xd(B c:Nat)(V:Vs)(op n:Nat)(eH:dX)(pl own:Nat)(hop:op=110\/op=116):vg B c V ⟨op,n,eH,pl,own,none,none⟩:=by
 intro s w ok q vv vh vl va vp pv ex hx hok hs hlen hf hk;obtain⟨hq,v,hv⟩:=hx.root;obtain⟨c0,c1,c2,c3,c4,c5,f⟩:=oD hv;have HS:Hid _:=hs;obtain rfl|rfl:=hop
 ·go_enter func178,ntmps178;go_wp2_with fail;go_ret;refine⟨_,rfl,fE.refl _ _,fun v h=>?_,fun h=>?_⟩;·rw[ni]at h;simp at h;exact⟨h,HS.o⟩
  rw[ni]at h;simp at h
 go_enter func178,ntmps178;go_wp2_with fail;go_ret;refine⟨_,rfl,fE.refl _ _,fun v h=>?_,fun h=>?_⟩;·rw[ni]at h;simp at h;exact⟨h,HS.o⟩
 rw[ni]at h;simp at h
theorem St.QW(h:St w B c V s vv vh vl va vp pv ex)(hi:i<s.held.length):∃g cap,vh=.slice (some ⟨g,0,none⟩) s.held.length cap/\s.held.length<=maxLen/\w.cell? ⟨g,i,none⟩=some (eF (s.held.getD i 0))/\∀o,w.frozen? ⟨g,o,none⟩=false:=by
 obtain⟨h1,h2⟩:=h.held;obtain⟨_,h2⟩|⟨g,cap,cur,hv,hg,hh,hn,hm,hz,ht⟩:=h2;·omega
 refine⟨g,cap,hv,by omega,?_,fun o=>by simp[World.frozen?,hh]⟩;have e:cur[i]?=(gB s.held)[i]?:=by rw[<- ht,bE (by omega)];simp
 simp only[World.cell?,hh];rw[e];simp[gB,hi]
theorem QX(hi:jG l x=some i)(w:dY)(base:Nat)(va:Option Addr)(vn vc:Nat)(h:w.ownsRow base 101 2 (.slice va vn vc) l.length (rY l)):fI 152 #[.slice va vn vc,.string x] w fun e w'=>e=fM (eF (i:Int))/\w'=w:=(EA l x w base va vn vc h).mono fun _ _ h=>⟨by rw[h.1,xL,hi],h.2.symm⟩
theorem zug(B c:Nat)(V:Vs)(n:Nat)(eH:dX)(pl own:Nat):vg B c V ⟨119,n,eH,pl,own,none,none⟩:=by
 intro s w ok q vv vh vl va vp pv ex hx hok hs hlen hf hk;obtain⟨hq,v,hv⟩:=hx.root;obtain⟨c0,c1,c2,c3,c4,c5,f⟩:=oD hv;obtain⟨d0,d1,d2,d3,d4,d5,d6,d7,df⟩:=oh hs.at_;obtain⟨k,hk⟩:=hk;obtain⟨i,hi,_⟩:∃i,jG V eH=some i/\True:=by rw[nP]at hk;simp at hk;obtain⟨i,h,_⟩:=hk;exact⟨i,h,trivial⟩
 have hlt:=wK hi;obtain⟨g,cap,rfl,hm,hcell,hfr⟩:=hs.QW (i:=i) (by omega);obtain⟨a1,n1,cc1,rfl⟩:=lu hs.vars;have HI:Hid _:=hi;have e1:Hid (ni V s.held ⟨119,n,eH,pl,own,none,none⟩=some (s.held.getD i 0)):=by unfold Hid;simp[ni,IU,hi]
 have HS:Hid _:=hs;unfold maxLen at hm;have hil:i<s.held.length:=by omega
 go_enter func178,ntmps178;go_wp2_with fail;go_quiet ((go_at_call 152;exact Calls.quiet_of_same (QX HI.o _ 0 _ _ _ HS.o.vars)))
 go_wp2_with fail;go_ret;refine⟨_,rfl,zwc _ _ _,fun v h=>?_,fun h=>?_⟩;·rw[e1.o]at h;cases h;exact⟨by simp[hil],HS.o.drewN _⟩
 rw[e1.o]at h;cases h
theorem zxr(B c:Nat)(V:Vs)(n:Nat)(eH:dX)(pl own:Nat)(l:fG)(ih:vg B c V l):vg B c V ⟨33,n,eH,pl,own,some l,none⟩:=by
 intro s w ok q vv vh vl va vp pv ex hx hok hs hlen hf hk;obtain⟨hq,kb,lq,hkb,hne,hv,hkc,hxl⟩:=hx;obtain⟨c0,c1,c2,c3,c4,c5,f⟩:=oD hv;have k0:w.cell? ⟨kb,0,none⟩=some (fq lq):=by simp[World.cell?,hkc]
 obtain⟨k,hk⟩:=hk;rw[nP]at hk;have HS:Hid (St w B c V s vv vh vl va vp pv ex/\ji w l _ lq/\s.held.length=V.length/\s.failed=false/\∃k,nP V l k):=⟨hs,hxl,hlen,hf,98,hk.2.2⟩;have HK:Hid (∀i,(ok i/\i≠q/\i≠kb)->i<B):=fun i hi=>hok i hi.1;have e1:Hid (ni V s.held ⟨33,n,eH,pl,own,some l,none⟩=(ni V s.held l).map fun v=>wrap64 (1-v)):=rfl;go_enter func178,ntmps178;go_wp2_with fail;refine(ih s _ _ lq vv vh vl va vp pv ex HS.o.2.1 HK.o HS.o.1 HS.o.2.2.1 HS.o.2.2.2.1 HS.o.2.2.2.2).mono ?_;rintro e w1 ⟨m,rfl,h1,h2,h3⟩;have H1:Hid (_/\_/\_):=⟨h1,h2,h3⟩;go_wp2_with fail;go_ret;refine⟨_,rfl,H1.o.1,fun v h=>?_,fun h=>?_⟩
 ·rw[e1.o]at h;cases hl:ni V s.held l with
  |none=>rw[hl]at h;cases h
  |some a=>
  rw[hl]at h;cases h;obtain⟨rfl,h5⟩:=H1.o.2.1 a hl;exact⟨by simp[wrap64],h5⟩
 rw[e1.o]at h;cases hl:ni V s.held l with| none=>exact H1.o.2.2 hl| some a=>rw[hl]at h;cases h
theorem zuh(B c:Nat)(V:Vs)(op:Nat)(hop:op=42\/op=47\/op=43\/op=45\/op=60\/op=61\/op=35)(n:Nat)(eH:dX)(pl own:Nat)(l r:fG)(ihl:vg B c V l)(ihr:vg B c V r):vg B c V ⟨op,n,eH,pl,own,some l,some r⟩:=by
 intro s w ok q vv vh vl va vp pv ex hx hok hs hlen hf hk;obtain⟨hq,kb,lq,rq,hkb,hne,hv,hkc,hxl,Jv⟩:=hx;obtain⟨c0,c1,c2,c3,c4,c5,f⟩:=oD hv;have k0:w.cell? ⟨kb,0,none⟩=some (fq lq):=by simp[World.cell?,hkc]
 have hB:=hs.hB;have hcz:=hs.lt;have hqc:=hok q hq;have Bo:=hok kb hkb;obtain⟨k,hk⟩:=hk;have hkk:(∃k,nP V l k)/\∃k,nP V r k:=by
  rw[nP]at hk;split at hk;·obtain⟨_,j,h1,h2⟩:=hk;exact⟨⟨j,h1⟩,j,h2⟩
  exact⟨⟨_,hk.2.2.1⟩,_,hk.2.2.2⟩
 have HS:Hid (St w B c V s vv vh vl va vp pv ex/\(ji w l _ lq/\ji w r _ rq)/\s.held.length=V.length/\s.failed=false/\((∃k,nP V l k)/\∃k,nP V r k)/\_/\_):=⟨hs,⟨hxl,Jv⟩,hlen,hf,hkk,hv,hkc⟩;have HK:Hid (∀i,(ok i/\i≠q/\i≠kb)->i<B):=fun i hi=>hok i hi.1;have e1:Hid (ni V s.held ⟨op,n,eH,pl,own,some l,some r⟩=match ni V s.held l with
  |none=>none
  |some a=>match ni V s.held r with
   |none=>none
   |some b=>pJ op a b):=rfl
 have o1:((op:Int)==110)=false:=by rw[beq_eq_false_iff_ne];omega
 have o2:((op:Int)==116)=false:=by rw[beq_eq_false_iff_ne];omega
 have o3:((op:Int)==119)=false:=by rw[beq_eq_false_iff_ne];omega
 have o4:((op:Int)==33)=false:=by rw[beq_eq_false_iff_ne];omega
 have OP:Hid _:=hop;go_enter func178,ntmps178;go_wp2_with fail;refine(ihl s _ _ lq vv vh vl va vp pv ex HS.o.2.1.1 HK.o HS.o.1 HS.o.2.2.1 HS.o.2.2.2.1 HS.o.2.2.2.2.1.1).mono ?_;rintro e w1 ⟨a,rfl,h1,h2,h3⟩;have hv1:w1.heap[q]?=_:=(h1.block q (by omega) (by omega)).trans HS.o.2.2.2.2.2.1;have hk1:w1.heap[kb]?=_:=(h1.block kb (by omega) (by omega)).trans HS.o.2.2.2.2.2.2;have hx1:ji w1 r _ rq:=HS.o.2.1.2.keep fun i hi=>h1.block i (by have:=HK.o i hi;omega) (by have:=HK.o i hi;omega);obtain⟨d0,d1,d2,d3,d4,d5,df⟩:=oD hv1;have Xe:w1.cell? ⟨kb,1,none⟩=some (fq rq):=by simp[World.cell?,hk1]
 cases hl:ni V s.held l with
 |none=>
  obtain⟨g0,g1,g2,g3,g4,g5,g6,g7,gf⟩:=oh (h3 hl).at_;have H1:Hid (_/\_):=⟨h1,h3 hl⟩;have E2:Hid (ni V s.held ⟨op,n,eH,pl,own,some l,some r⟩=none):=by unfold Hid;rw[e1.o,hl]
  go_wp2_with fail;go_ret;refine⟨_,rfl,H1.o.1,fun v h=>?_,fun _=>H1.o.2⟩;rw[E2.o]at h;cases h
 |some av=>
 obtain⟨rfl,h4⟩:=h2 av hl;obtain⟨g0,g1,g2,g3,g4,g5,g6,g7,gf⟩:=oh h4.at_;rw[HS.o.2.2.2.1]at g7;have hz1:=h1.size;have H1:Hid (fE (·=c) w w1/\St w1 B c V s vv vh vl va vp pv ex/\ji w1 r _ rq/\_/\ni V s.held l=some a):=⟨h1,h4,hx1,hv1,hl⟩;go_wp2_with fail;refine(ihr s _ _ rq vv vh vl va vp pv ex H1.o.2.2.1 HK.o H1.o.2.1 HS.o.2.2.1 HS.o.2.2.2.1 HS.o.2.2.2.2.1.2).mono ?_;rintro e w2 ⟨b,rfl,h1,h2,h3⟩;have hv2:w2.heap[q]?=_:=(h1.block q (by omega) (by omega)).trans H1.o.2.2.2.1;obtain⟨j0,j1,j2,j3,j4,j5,jf⟩:=oD hv2;cases hr:ni V s.held r with
 |none=>
  obtain⟨m0,m1,m2,m3,m4,m5,m6,m7,mf⟩:=oh (h3 hr).at_;have H2:Hid (_/\_):=⟨h1,h3 hr⟩;have E2:Hid (ni V s.held ⟨op,n,eH,pl,own,some l,some r⟩=none):=by unfold Hid;rw[e1.o,H1.o.2.2.2.2,hr]
  go_wp2_with fail;go_ret;refine⟨_,rfl,H1.o.1.trans H2.o.1,fun v h=>?_,fun _=>H2.o.2⟩;rw[E2.o]at h;cases h
 |some bv=>
 obtain⟨rfl,h4⟩:=h2 bv hr;obtain⟨m0,m1,m2,m3,m4,m5,m6,m7,mf⟩:=oh h4.at_;rw[HS.o.2.2.2.1]at m7;have H2:Hid (fE (·=c) w w2/\St w2 B c V s vv vh vl va vp pv ex):=⟨H1.o.1.trans h1,h4⟩;have E2:Hid (ni V s.held ⟨op,n,eH,pl,own,some l,some r⟩=pJ op a b):=by unfold Hid;rw[e1.o,H1.o.2.2.2.2,hr]
 have FIN:Hid (∀v,pJ op a b=some v->QV B c V s (ni V s.held ⟨op,n,eH,pl,own,some l,some r⟩) vv vh vl va vp pv ex w (fM (eF v)) w2):=fun v hv=>by rw[E2.o,hv];exact⟨v,rfl,H2.o.1,fun v' h=>by cases h;exact⟨rfl,H2.o.2⟩,fun h=>by cases h⟩
 obtain rfl|rfl|rfl|rfl|rfl|rfl|rfl:=OP.o;case inr.inl=>
  by_cases hb:b=0;·go_wp2_with fail;go_ret;rw[QV,E2.o];refine⟨_,rfl,r9 H2.o.1 rfl,fun v h=>?_,fun _=>H2.o.2.fails⟩;simp[pJ,hb]at h
  go_wp2_with fail;go_ret;refine FIN.o _ ?_;simp[pJ,hb,wrap64]
 case inl=>
  go_wp2_with fail;go_ret;exact FIN.o _ rfl
 case inr.inr.inl=>
  go_wp2_with fail;go_ret;exact FIN.o _ rfl
 case inr.inr.inr.inl=>
  go_wp2_with fail;go_ret;exact FIN.o _ rfl
 all_goals
  go_wp2_with fail;refine(Db _ _).mono ?_;rintro e w' ⟨rfl,rfl⟩;go_wp2_with fail;go_ret;exact FIN.o _ (by first|rfl|(show some (iY (decide (a≠b)))=_;congr 2;rw[bI];simp))
theorem GR(B c:Nat)(V:Vs)(x:fG)(hw:nU x):vg B c V x:=by
 match x with
 |⟨op,n,eH,pl,own,none,none⟩=>
  obtain h|h|h:=hw;·exact Xd B c V op n eH pl own (ak h)
  ·exact Xd B c V op n eH pl own (aj h)
  rw[h];exact zug B c V n eH pl own
 |⟨op,n,eH,pl,own,none,some r⟩=>exact hw.elim
 |⟨op,n,eH,pl,own,some l,none⟩=>rw[hw.1];exact zxr B c V n eH pl own l (GR B c V l hw.2)
 |⟨op,n,eH,pl,own,some l,some r⟩=>exact zuh B c V op hw.1 n eH pl own l r (GR B c V l hw.2.1) (GR B c V r hw.2.2)
