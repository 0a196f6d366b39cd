import Derived.Test.YtokkhhekekeokaaGreatDoorXC00
set_option maxRecDepth 100000
set_option maxHeartbeats 2000000
namespace Go.Proofs.YtokkhhekekeokaaGreatDoor
open Go.RowKit Tryz
namespace Ref
open Px
variable {s:fq}{fK:List Int}
theorem Ly (h:¬ (Px.check s).1=0):Px.run s fK=([],0,Px.check s):=by
 unfold Px.run;cases hr:Px.read s with
 | error r =>
  have:Px.check s=r:=by unfold Px.check;rw[hr]
  rw[this]
 | ok l =>
  dsimp only;rw[if_neg (fun e=>h (by rw[e]))]
variable {l:List Sm}
theorem Lz (hr:Px.read s=.ok l)(h:Px.check s=(0,0)):Px.run s fK=((Px.play (iG l ⟨[],0,0⟩).vars l fK).fI,(Px.play (iG l ⟨[],0,0⟩).vars l fK).over,0,0):=by
 unfold Px.run;rw[hr];dsimp only;rw[if_pos h]
variable {w:fu}{v:fC}
theorem jZ.keep {w':fu}{l:List Int}(h:jZ w v l)(hb:Below w.heap.size w w'):jZ w' v l:=by
 obtain ⟨ad,cap,rfl,h1,h2,h3⟩:=h;refine ⟨ad,cap,rfl,h1,h2,fun i hi=>?_⟩
 obtain ⟨a,rfl,h4,h5⟩:=h3 i hi;refine ⟨a,rfl,aV h4 hb.size,?_⟩;have hbl:(a.add i).block < w.heap.size:=by unfold Addr.add;split<;>exact h4
 rw[hb.cell hbl];exact h5
theorem Mb (hr:Px.read s=.ok l):jM l/\Px.cnt l<=999999/\(iG l ⟨[],0,0⟩).vars.length<=1000000:=by
 obtain ⟨h1,h2⟩:=EC hr;have h3:=zn l ⟨[],0,0⟩;simp at h3;refine ⟨h1,by omega,by omega⟩
theorem Mm {base base':Nat}{e:TypeId}{size:Nat}{n:Nat}{xs:List fC}(h:w.ownsRow base e size v n xs)(hb:base'<=base):w.ownsRow base' e size v n xs:=by
 obtain ⟨h1,h2⟩:=h;refine ⟨h1,?_⟩;rcases h2 with h2 | ⟨g,cap,cur,hv,hg,r⟩
 ·exact ak h2
 ·exact ah ⟨g,cap,cur,hv,aP hb hg,r⟩
def ME (s:fq)(fK:List Int)(w:fu)(e:Ending)(w':fu):Prop :=
 Below w.heap.size w w'/\∃ va,e=.returned (.tuple #[va,.int .i64 ((Px.run s fK).2.1:Int),.int .i64 ((Px.run s fK).2.2.1:Int),.int .i64 ((Px.run s fK).2.2.2:Int)])/\w'.ownsRow w.heap.size 68 4 va (Px.run s fK).1.length (Bt (Px.run s fK).1)
theorem P8 (hall:∀ B c V l,jM l->mZ V l->yh B c V l)(s:fq)(fK:List Int)(av:fC)(w:fu)(hs:s.size<=maxLen)(ha:jZ w av fK):Calls prog 6 #[.string s,av] w (ME s fK w):=by
 have HA:Hid (jZ w av fK):=ha;obtain ⟨ad,PZ,rfl,_,_,_⟩:=ha;have P9:Hid (∀ B c V l,jM l->mZ V l->yh B c V l):=hall;clear hall;go_enter func6,ntmps6
 go_wp2_with fail;refine (Lq s _ hs).mono ?_;rintro e w1 ⟨hb,a,n,c,a',n',c',rfl,hr⟩;by_cases h0:(Px.check s).1=0
 ·obtain ⟨l,qs,hrd,h1,h2,h3⟩:=hr h0;obtain ⟨g1,g2⟩:=Lt hrd h0;obtain ⟨wf,hcn,Wz⟩:=Mb hrd;obtain ⟨tr,_⟩:=OC hrd;obtain ⟨_,_,_,Iy⟩:=Bc l ⟨[],0,0⟩ wf tr (fun v hv=>by cases hv) g1
  have Iy:=Iy [];rw[dG] at Iy;have t1:(((Px.check s).1:Int) != 0)=false:=by rw[h0];rfl
  have hpl:=Wy hrd g2 fK;have hD:∀ B c,yh B c (iG l ⟨[],0,0⟩).vars l:=fun B c=>P9.o B c _ l wf Iy
  have hR:=Lz (fK:=fK) hrd g2;have H1:Hid (Below w.heap.size w w1/\(iq w1 (.slice a n c) qs (In w w1)/\fV w1 l (In w w1) qs)/\w1.ownsRow 0 315 2 (.slice a' n' c') (iG l ⟨[],0,0⟩).vars.length (rP (iG l ⟨[],0,0⟩).vars)/\(∀ B c,yh B c (iG l ⟨[],0,0⟩).vars l)/\(Px.play (iG l ⟨[],0,0⟩).vars l fK).fI.length<=4000000/\Px.cnt l<=999999/\(iG l ⟨[],0,0⟩).vars.length<=1000000/\_):=⟨hb,⟨h1,h2⟩,h3,hD,hpl,hcn,Wz,hR⟩;have WA:=HA.o.keep hb;have HB:Hid (_):=WA;clear hb hr h1 h2 h3 hD hpl hR WA wf Iy tr g1 g2 hrd hcn Wz;go_wp2_with fail;refine (Ks l _ fK _ (In w w1) _ qs _ _ H1.o.2.1.1 H1.o.2.1.2 (fun i hi=>hi.2) H1.o.2.2.1 HB.o H1.o.2.2.2.1 H1.o.2.2.2.2.2.1 H1.o.2.2.2.2.2.2.1 (by have:=H1.o.2.2.2.2.1;omega)).mono ?_
  rintro e w2 ⟨c2,vh,vl,va,vp,pv,rfl,b2,hst⟩;obtain ⟨y0,y1,y2,y3,y4,y5,y6,y7,yf⟩:=nk hst.at_;obtain ⟨sa,sn,sc,rfl⟩:=jm hst.fI;have H2:Hid (_/\_):=⟨b2,hst⟩;clear b2 hst;go_wp2_with fail;go_region
  all_goals
   go_wp2_with fail;refine bodyPost_ret (v:=.tuple #[.slice sa sn sc,.int .i64 ((Px.play (iG l ⟨[],0,0⟩).vars l fK).over:Int),.int .i64 0,.int .i64 0]) (by simp[results,results6,go_sem]) rfl ?_
   rw[ME,H1.o.2.2.2.2.2.2.2];exact ⟨(H1.o.1.trans (H2.o.1.mono H1.o.1.size)).drew,_,rfl,World.ownsRow.drew (Mm H2.o.2.fI H1.o.1.size)⟩
 ·have t1:(((Px.check s).1:Int) != 0)=true:=by rw[bne_iff_ne];omega
  have hR:=Ly (fK:=fK) h0;have H1:Hid (_/\_):=⟨hb,hR⟩;clear hb hr hR h0;go_wp2_with fail;refine bodyPost_ret (v:=.tuple #[.slice none 0 0,.int .i64 0,.int .i64 ((Px.check s).1:Int),.int .i64 ((Px.check s).2:Int)]) (by simp[results,results6,go_sem]) rfl ?_
  rw[ME,H1.o.2];exact ⟨H1.o.1,_,rfl,aT _ _ _ _⟩
