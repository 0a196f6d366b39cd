import Derived.Test.YtokkhhekekeokaaGreatDoorC44
import Derived.Test.YtokkhhekekeokaaGreatDoorC13
set_option maxRecDepth 100000
set_option maxHeartbeats 4000000
namespace Go.Proofs.YtokkhhekekeokaaGreatDoor
open Go.RowKit Tryz
namespace Lw
open Ed Px Ref Rn
variable {s:fq}
theorem yba {r:Nat×Nat}(h:Px.read s=.error r):r.1≠0:=by
 unfold Px.read at h;split at h
 ·cases h;dsimp only;omega
 ·split at h
  ·cases h;dsimp only;omega
  ·split at h
   ·cases h;dsimp only;omega
   ·cases h
theorem qrx (h:(Px.check s).1=0):Px.check s=(0,0):=by
 cases hr:Px.read s with
 | error r=>rw[FX hr] at h;exact absurd h (yba hr)
 | ok l =>
  unfold Px.check at h |-;rw[hr] at h |-;dsimp only at h |-;split at h
  ·rename_i hh;rw[if_pos hh]
  ·rename_i hh;exact absurd h hh
variable {l:List Sm}
theorem yaw (hr:Px.read s=.ok l):Px.good (Px.codeOf (iL l))=some (iL l):=by
 unfold Px.good;rw[if_neg (by have:=Ri hr;omega),zx0 hr]
 exact if_pos (YC l)
theorem zzm (hr:Px.read s=.ok l)(h:Px.check s=(0,0))(a:List Int):zI (Px.codeOf (iL l)) a=(0,(Px.run s a).2.1,(Px.run s a).1):=by
 obtain ⟨h1,h2,h3⟩:=zm8 hr h a;unfold zI;rw[yaw hr];dsimp only;rw[if_neg (by omega),h1,h2]
variable {w w':fu}{B n:Nat}{v:fC}
theorem qoc {l:List Int}(h:w.ownsRow B 3 1 v l.length (Ref.intCells l)):Rn.jg w v l:=by
 obtain ⟨ad,cap,rfl,hc⟩:=TI h;refine ⟨ad,cap,rfl,hc,fun i hi=>?_,fun q hq=>?_⟩
 ·obtain ⟨g,cap',e,_,_,_,h1⟩:=TH h (by omega)
  cases e;refine ⟨g,0,rfl,?_⟩;rw[bX];exact h1 i _ (by simp[Ref.intCells,hi])
 ·subst hq;exact (h.lt _ rfl).2
theorem Us (e:Int)(w:fu):Calls prog 7 #[.int .i64 e] w fun r w'=>r=.returned (.int .i64 e)/\w'=w:=by
 go_enter func7,ntmps7
 go_wp2_with fail;go_ret;exact ⟨rfl,rfl⟩
theorem own_below {e:TypeId}{size:Nat}{xs:List fC}(h:w.ownsRow B e size v n xs)(k:Below w.heap.size w w'):w'.ownsRow B e size v n xs:=gZ h ((fO.refl (fun _=>False) w).below k) (fun _ _ h=>h)
theorem kR.keep {l:List Px.Ask}(h:kR w v l)(k:Below w.heap.size w w'):kR w' v l:=by
 obtain ⟨ad,cap,e,h1⟩:=h.ex;refine ⟨ad,cap,e,fun i hi=>?_⟩
 obtain ⟨g,e1,c1,c2,c3,c4⟩:=h1 i hi;have hz:=lt_of_cell c1;exact ⟨g,e1,by rw[k.cell (p:=⟨g,i * 4,none⟩) hz];exact c1,by rw[k.cell (p:=⟨g,i * 4+1,none⟩) hz];exact c2,by rw[k.cell (p:=⟨g,i * 4+2,none⟩) hz];exact c3,by rw[k.cell (p:=⟨g,i * 4+3,none⟩) hz];exact c4⟩
theorem qpb (s:fq)(a:List Int):(Px.run s a).1.length<=4000000:=by
 by_cases h:Px.check s=(0,0)
 ·cases hr:Px.read s with
  | error r=>rw[FX hr] at h;subst h;unfold Px.run;rw[hr];simp
  | ok l=>rw[TL hr h a];exact Wy hr h a
 ·rw[TJ h a];simp
structure sM (w:fu)(B:Nat)(v:fC)(n:Nat)(wr:fu):Prop where
 t:fO (fun k=>v.ownBlock=some k) w wr
 o:∃ xs,wr.ownsRow B 35 4 v n xs
theorem sM.step {wr:fu}{g c:Nat}(h:sM w B (.slice (some ⟨g,0,none⟩) n c) n wr)(j:Nat)(a b d e:fC):sM w B (.slice (some ⟨g,0,none⟩) n c) n ((((wr.setCell ⟨g,j,none⟩ a).setCell ⟨g,j+1,none⟩ b).setCell ⟨g,j+2,none⟩ d).setCell ⟨g,j+3,none⟩ e):=by
 obtain ⟨xs,ho⟩:=h.o;exact ⟨(((h.t.setCell (p:=⟨g,j,none⟩) (ak rfl) a).setCell (p:=⟨g,j+1,none⟩) (ak rfl) b).setCell (p:=⟨g,j+2,none⟩) (ak rfl) d).setCell (p:=⟨g,j+3,none⟩) (ak rfl) e,_,((((ho.stored j a).1.stored (j+1) b).1.stored (j+2) d).1.stored (j+3) e).1⟩
theorem jaa (E F:Nat->Addr)(s:fq)(l:List Int)(av:fC)(w:fu)(hs:s.size<=maxLen)(g:Gr w E F)(ha:Ref.jZ w av l)(hr:∀ x∈l,nA x) :
  Calls prog 3 #[.string s,av] w fun e w'=>e=.returned (.bool true)/\Below w.heap.size w w':=by
 have G0:Hid (Gr w E F/\s.size<=maxLen/\Ref.jZ w av l/\(∀ x∈l,nA x)/\l.length<=140737488355328):=by
  obtain ⟨ad,cap,e,h1,h2,h3⟩:=id ha;exact ⟨g,hs,ha,hr,by omega⟩
 have HC:Hid (_):=Ed.zzz E F s w hs g;obtain ⟨ad,cap,rfl,_⟩:=id ha;clear g hs ha hr;go_enter func3,ntmps3
 go_wp2_with fail;refine aA HC.o ?_;rintro e w1 ⟨b1,rfl⟩;have H1:Hid (_):=N0 s l (.slice ad l.length cap) w1 G0.o.2.1 (G0.o.2.2.1.keep b1);have K1:Hid (Below w.heap.size w w1):=b1;clear b1 HC;go_wp2_with fail;refine aA H1.o ?_;rintro e w2 ⟨b2,v2,rfl,o2⟩;have K2:Hid (Below w.heap.size w w2/\w2.ownsRow w1.heap.size 68 4 v2 (Px.run s l).1.length (jw (Px.run s l).1)):=⟨K1.o.trans (b2.mono K1.o.size),o2⟩;obtain ⟨a2,n2,c2,rfl⟩:=jm o2;clear b2 o2 H1 K1;by_cases hck:(Px.check s).1=0
 ·have yX:=qrx hck;obtain ⟨t,hr,hcs⟩:=ya1 yX;have HX:Hid (∀ W sv,Below w.heap.size w W->Rn.jg W sv l->Calls prog 8 #[.string (yV s),sv] W fun e w'=>∃ va,e=.returned (.tuple #[va,.int .i64 ((Px.run s l).2.1:Int),.int .i64 0])/\Below W.heap.size W w'/\w'.ownsRow W.heap.size 35 4 va (Px.run s l).1.length (jw (Px.run s l).1)):=fun W sv hW hsv=>by
   rw[hcs];refine (zzy E F _ l sv W (by have:=Ri hr;unfold maxLen;omega) (G0.o.1.below hW) hsv G0.o.2.2.2.2 G0.o.2.2.2.1).mono ?_
   rintro e w' ⟨b1,va,rfl,ho⟩;rw[zzm hr yX] at ho |-;exact ⟨va,rfl,b1,ho⟩
  have hlen:(Px.run s l).1.length<=4000000:=qpb s l;have he:Px.run s l=((Px.run s l).1,(Px.run s l).2.1,0,0):=by rw[TL hr yX]
  have KJ:(Px.check s).2=0:=by rw[yX]
  generalize Px.run s l=R at *;obtain ⟨fI,over,er,pl⟩:=R;dsimp only at *;obtain ⟨rfl,rfl⟩:er=0/\pl=0:=by simpa using he
  rw[hck,KJ];have Ut:Hid (∀ W,Below w.heap.size w W->Calls prog 9 #[.slice ad l.length cap] W fun e w'=>∃ a2 n2 c2,e=.returned (.slice a2 n2 c2)/\Hid (Below W.heap.size W w'/\Rn.jg w' (.slice a2 n2 c2) l)):=fun W hW=>by
   refine (qm4 l _ W (G0.o.2.2.1.keep hW)).mono ?_;rintro e w' ⟨v',rfl,b1,o1⟩;obtain ⟨a2,n2,c2,rfl⟩:=jm o1;exact ⟨a2,n2,c2,rfl,b1,qoc o1⟩
  clear hck yX KJ hr hcs he;generalize yV s=CS at *;go_wp2_with fail;refine aA (Ut.o _ K2.o.1) ?_;rintro e w3 ⟨a3,n3,c3,rfl,H3⟩;have K3:Hid (Below w.heap.size w w3/\w3.ownsRow w1.heap.size 68 4 (.slice a2 n2 c2) fI.length (jw fI)/\Rn.jg w3 (.slice a3 n3 c3) l):=⟨K2.o.1.trans (H3.o.1.mono K2.o.1.size),own_below K2.o.2 H3.o.1,H3.o.2⟩;clear H3 K2;go_wp2_with fail;refine aA (HX.o _ _ K3.o.1 K3.o.2.2) ?_;rintro e w4 ⟨v4,rfl,b4,o4⟩;have K4:Hid (Below w.heap.size w w4/\w4.ownsRow w1.heap.size 68 4 (.slice a2 n2 c2) fI.length (jw fI)/\w4.ownsRow w3.heap.size 35 4 v4 fI.length (jw fI)):=⟨K3.o.1.trans (b4.mono K3.o.1.size),own_below K3.o.2.1 b4,o4⟩
  obtain ⟨a4,n4,c4,rfl⟩:=jm o4;clear b4 o4 K3;go_wp2_with fail;refine aA (Ut.o _ K4.o.1) ?_;rintro e w5 ⟨a5,n5,c5,rfl,H5⟩;have K5:Hid (Below w.heap.size w w5/\w5.ownsRow w1.heap.size 68 4 (.slice a2 n2 c2) fI.length (jw fI)/\w5.ownsRow w3.heap.size 35 4 (.slice a4 n4 c4) fI.length (jw fI)/\Rn.jg w5 (.slice a5 n5 c5) l):=⟨K4.o.1.trans (H5.o.1.mono K4.o.1.size),own_below K4.o.2.1 H5.o.1,own_below K4.o.2.2 H5.o.1,H5.o.2⟩;clear H5 K4;go_wp2_with fail;refine aA (HX.o _ _ K5.o.1 K5.o.2.2.2) ?_;rintro e w6 ⟨v6,rfl,b6,o6⟩;have K6:Hid (Below w.heap.size w w6/\kR w6 (.slice a2 n2 c2) fI/\kR w6 (.slice a4 n4 c4) fI/\w6.ownsRow w5.heap.size 35 4 v6 fI.length (jw fI)/\w5.heap.size<=w6.heap.size/\Below w5.heap.size w5 w6/\kR w5 (.slice a2 n2 c2) fI/\kR w5 (.slice a4 n4 c4) fI/\Below w.heap.size w w5):=⟨K5.o.1.trans (b6.mono K5.o.1.size),Kt (own_below K5.o.2.1 b6),Kt (own_below K5.o.2.2.1 b6),o6,b6.size,b6,Kt K5.o.2.1,Kt K5.o.2.2.1,K5.o.1⟩
  obtain ⟨a6,c6,rfl,_⟩:=TI o6;clear b6 o6 HX Ut K5;go_wp2_with fail;go_loopw [18] (fun i wr=>∃ j:Nat,j<=fI.length/\i=.int .i64 j/\Hid (sM w6 w5.heap.size (.slice a6 fI.length c6) fI.length wr)) (fun i _=>fI.length - (intOf i).toNat)
  case atStart=>exact ⟨0,by omega,rfl,fO.refl _ _,_,K6.o.2.2.2.1⟩
  case round =>
   obtain ⟨j,hj,rfl,hr⟩:=hrel;by_cases hlt:j < fI.length
   ·obtain ⟨xs,ho⟩:=hr.o.o;obtain ⟨g3,c3',e3,q1,q2,q3,q4⟩:=TH ho (by omega)
    cases e3;have hxl:xs.length=fI.length * 4:=ho.1;have p1:=q4 (j * 4) _ (bD (by omega))
    have p2:=q4 (j * 4+1) _ (bD (by omega))
    have p3:=q4 (j * 4+2) _ (bD (by omega))
    have p4:=q4 (j * 4+3) _ (bD (by omega))
    have f0:=ho.frozenAt;have hlt':(j:Int) < (fI.length:Int):=by omega
    clear q4 ho;go_wp2_with fail;exact ⟨⟨j+1,by omega,by go_num,hr.o.step (j * 4) _ _ _ _⟩,by simp[intOf];omega⟩
   ·obtain rfl:j=fI.length:=by omega
    have b7:Below w5.heap.size w6 wr:=hr.o.t.mY K6.o.2.2.2.2.1 fun k hk=>(K6.o.2.2.2.1.lt k hk).1
    have N9:Below w5.heap.size w5 wr:=K6.o.2.2.2.2.2.1.trans b7;have H7:Hid (_):=zli fI (.slice a4 n4 c4) (.slice a2 n2 c2) wr (K6.o.2.2.2.2.2.2.2.1.keep N9) (K6.o.2.2.2.2.2.2.1.keep N9) hlen;have K7:Hid (Below w.heap.size w wr):=K6.o.2.2.2.2.2.2.2.2.trans (N9.mono K6.o.2.2.2.2.2.2.2.2.size);clear b7 N9 hr K6;go_wp2_with fail;refine aA H7.o ?_;rintro e w8 ⟨rfl,b8⟩;have K8:Hid (Below w.heap.size w w8):=K7.o.trans (b8.mono K7.o.size);clear b8 H7;go_wp2_with fail;refine (Us _ _).mono ?_;rintro e w9 ⟨rfl,rfl⟩;go_wp2_with fail;refine (Us _ _).mono ?_;rintro e w10 ⟨rfl,rfl⟩
    go_wp2_with fail;go_ret;exact ⟨rfl,K8.o⟩
 ·have hne:Px.check s≠(0,0):=fun e=>hck (congrArg Prod.fst e)
  have HE:Hid (_):=TJ hne l;rw[Uo hne];rw[TJ hne l] at K2 |-;dsimp only;generalize (Px.check s).1=c1 at *;generalize (Px.check s).2=c2 at *;have hc3:((c1:Int) != 0)=true:=by rw[bne_iff_ne];omega
  clear HE hne hck;go_wp2_with fail;refine (Us _ _).mono ?_;rintro e w9 ⟨rfl,rfl⟩;go_wp2_with fail;go_ret;exact ⟨rfl,K2.o.1⟩
