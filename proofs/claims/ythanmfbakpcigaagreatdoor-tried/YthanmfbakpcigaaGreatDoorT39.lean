import Derived.Test.YthanmfbakpcigaaGreatDoorT38
import Derived.Test.YthanmfbakpcigaaGreatDoorT37
import Derived.Test.YthanmfbakpcigaaGreatDoorT22
import Derived.Test.YthanmfbakpcigaaGreatDoorT23
import Derived.Test.YthanmfbakpcigaaGreatDoorT20
import Derived.Test.YthanmfbakpcigaaGreatDoorT21
import Derived.Test.YthanmfbakpcigaaGreatDoorT02
import Derived.Test.YthanmfbakpcigaaGreatDoorT08
set_option maxRecDepth 100000
set_option maxHeartbeats 4000000
namespace Go.Proofs.YthanmfbakpcigaaGreatDoor
open Go.RowKit
namespace Ed
theorem zn6:(Tryz.prog.info? 29).map (fun i=>(i.zero,i.size,i.bytes))=some (some (.agg #[.string ⟨#[]⟩,.int .i64 0,.int .i64 0,.bool false]),4,40):=by kernel_rfl
theorem zjz (l:List Px.Ask) (v:Value) (w:World) (h:Lw.AsksAt w v l) (hl:l.length≤10000000) :
  Calls Tryz.prog 18 #[v] w fun e w'=>∃ v',e=.returned v'∧Below w.heap.size w w'∧w'.ownsRow w.heap.size 29 4 v' l.length (Rn.askC l):=by
 obtain ⟨ad,cap,rfl,hc⟩:=h.ex;obtain ⟨i0,hi,hz0,hz1,hz2⟩:=info_parts zn6;have HC:Hid (∀ i (hi:i < l.length),∃ g,ad=some ⟨g,0,none⟩∧w.cell? ⟨g,i * 4,none⟩=some (.string l[i].word)∧w.cell? ⟨g,i * 4+1,none⟩=some (.int .i64 l[i].arg)∧w.cell? ⟨g,i * 4+2,none⟩=some (.int .i64 (l[i].nth:Int))∧w.cell? ⟨g,i * 4+3,none⟩=some (.bool l[i].undo)):=hc;clear hc h;go_enter Tryz.func18,Tryz.ntmps18
 go_wp2_with fail;go_loopw [3,8] (fun v i wr=>∃ j:Nat,j≤l.length∧i=.int .i64 j∧Hid (Below w.heap.size w wr∧wr.ownsRow w.heap.size 29 4 v (l.take j).length (Rn.askC (l.take j)))) (fun _ i _=>l.length - (intOf i).toNat)
 case atStart=>exact ⟨0,by omega,rfl,Below.refl _ _,World.ownsRow_nil _ _ _ _⟩
 case round =>
  obtain ⟨j,hj,rfl,hr⟩:=hrel;obtain ⟨hbr,hrow⟩:=hr.out;by_cases hlt:j < l.length
  ·obtain ⟨g,rfl,p1,p2,p3,p4⟩:=HC.out j hlt;have z1:=lt_of_cell p1;have kp:∀ {o:Nat} {x:Value},w.cell? ⟨g,o,none⟩=some x→wr.cell? ⟨g,o,none⟩=some x:=fun {o x} hx=>by rw[hbr.cell (p:=⟨g,o,none⟩) z1];exact hx
   have p1:=kp p1;have p2:=kp p2;have p3:=kp p3;have p4:=kp p4;have htk:l.take (j+1)=l.take j++[l[j]]:=List.take_succ_eq_append_getElem hlt;have hsn:=Rn.qww (l.take j) l[j];rw[← htk] at hsn;generalize l[j]=a at *;obtain ⟨word,arg,nth,und⟩:=a;dsimp only[Rn.zd7] at *;obtain ⟨la,ln,lc,rfl⟩:=Ref.qad hrow;have hlj:(l.take j).length=j:=by rw[List.length_take];omega
   have hlk:(l.take (j+1)).length=j+1:=by rw[List.length_take];omega
   have H3:Hid (Below w.heap.size w wr∧Rn.askC (l.take (j+1))=Rn.askC (l.take j)++[.string word,.int .i64 arg,.int .i64 (nth:Int),.bool und]):=⟨hbr,hsn⟩;have HO:Hid (wr.ownsRow w.heap.size 29 4 (.slice la ln lc) (l.take j).length (Rn.askC (l.take j))):=hrow;have hsz:w.heap.size≤wr.heap.size:=hbr.size;have hga:g < wr.heap.size:=by omega
   have hlt':(j:Int) < (l.length:Int):=by omega
   generalize (nth:Int)=n at *;clear hr hbr hrow htk hsn kp;have N4:Hid (∀ W:World,W.heap[wr.heap.size+1]?=some (.cells #[.string word,.int .i64 arg,.int .i64 n,.bool und] 29)→∀ j u,[Value.string word,.int .i64 arg,.int .i64 n,.bool und][j]?=some u→W.cell? ((⟨wr.heap.size+1,0,none⟩:Addr).add j)=some u):=fun W hW=>Rn.zmu hW
   have O3:Hid (∀ u∈[Value.string word,.int .i64 arg,.int .i64 n,.bool und],u.oneCell'=true):=by intro u hu;simp at hu;rcases hu with rfl | rfl | rfl | rfl<;>rfl
   go_wp2_with (first
    | (at_builtin;refine wpList_append_own_at _ rfl _ _ 24 rfl w.heap.size 29 i0 (.agg #[.string ⟨#[]⟩,.int .i64 0,.int .i64 0,.bool false]) 4 40 Tryz.underlying24 hi hz0 hz1 hz2 rfl (by decide) _ _ _ rfl ((HO.out.alloc _).alloc _) ⟨wr.heap.size+1,0,none⟩ 1 1 [.string word,.int .i64 arg,.int .i64 n,.bool und] rfl rfl (N4.out _ ?c1) O3.out ?c3 ?c4 ?c5 ?_)
    | fail)
   case c1 =>
    show ((wr.heap.push _).push _)[wr.heap.size+1]?=_
    rw[Ref.qdu]
   case c3=>unfold maxLen;omega
   case c4=>omega
   case c5=>simp;omega
   ·intro v' w4 hown' hgrow _ hloc;have HN:Hid (Below w.heap.size w w4∧w4.ownsRow w.heap.size 29 4 v' (l.take (j+1)).length (Rn.askC (l.take (j+1)))):=by
     refine ⟨H3.out.1.trans ?_,?_⟩
     ·have hT:Tch (fun k=>(Value.slice la ln lc).ownBlock=some k) wr w4:=(((Tch.refl _ _).alloc _).alloc _).grown hgrow fun k hk=>Or.inl hk
      exact hT.qbg hsz fun k hk=>(HO.out.lt k hk).1
     ·rw[H3.out.2,hlk];exact hown'
    clear hown' hgrow hloc;go_wp2;exact ⟨⟨j+1,by omega,by go_num,HN.out⟩,by simp[intOf];omega⟩
  ·obtain rfl:j=l.length:=by omega
   rw[List.take_length] at hrow;have HF:Hid (_∧_):=⟨hbr,hrow⟩;clear hr hbr hrow;go_wp2_with fail;go_ret;exact ⟨_,rfl,HF.out.1,HF.out.2⟩
open Go.RowKit
theorem zm7 {s:ByteArray} {l:List Px.Sm} (h:Px.read s=.ok l):Rn.Fit (Px.pgOf l):=by
 obtain ⟨hg,hl⟩:=Px.qxp h;have hw:=Px.qqz l [];have hv:=Px.quw l [];simp only[List.length_nil,Nat.zero_add] at hw hv;have iw:∀ w,Px.idxW (Px.wsS l []) w < 65536:=fun w=>by have:=Px.qtq (Px.wsS l []) w;omega
 have iv:∀ w,Px.idxW (Px.vsS l []) w < 65536:=fun w=>by have:=Px.qtq (Px.vsS l []) w;omega
 have hi:=Px.qiq (Px.idxW (Px.wsS l [])) (Px.idxW (Px.vsS l [])) l 0;refine ⟨Px.zm5 l,Px.qpn iw iv l hg 0 (by omega),?_,?_,?_⟩
 ·show (Px.mkS _ _ l 0).length≤_;omega
 ·show (Px.wsS l []).length≤_;omega
 ·show (Px.vsS l []).length≤_;omega
structure Gr (w:World) (E F:Nat→Addr):Prop where
 l:Lg.Gw w E
 m:Rn.Gm w F
 k:Mk.Gk w w.heap.size
theorem Gr.below {w w':World} {E F:Nat→Addr} (h:Gr w E F) (k:Below w.heap.size w w'):Gr w' E F:=by
 have g:=h.k.below k;exact ⟨h.l.below k,h.m.below k,g.tab,Nat.le_trans g.lo k.size⟩
theorem qsn {s:ByteArray} (h:Px.check s≠(0,0)) (a:List Int):Px.run s a=([],0,Px.check s):=by
 unfold Px.run;cases hr:Px.read s with
 | error r=>simp only;rw[Px.qf4 hr]
 | ok l=>simp only;rw[if_neg h]
theorem qpa {s:ByteArray} {l:List Px.Sm} (hr:Px.read s=.ok l) (h:Px.check s=(0,0)) (a:List Int):Px.run s a=((Px.play (Px.qap l ⟨[],0,0⟩).vars l a).asks,(Px.play (Px.qap l ⟨[],0,0⟩).vars l a).over,0,0):=by
 unfold Px.run;rw[hr];simp only;rw[if_pos h]
theorem zm8 {s:ByteArray} {l:List Px.Sm} (hr:Px.read s=.ok l) (h:Px.check s=(0,0)) (a:List Int):Rn.qkh (Px.pgOf l) a=(Px.run s a).2.1∧Rn.qh3 (Px.pgOf l) a=(Px.run s a).1∧(Px.run s a).2.1≤3:=by
 obtain ⟨m,h1,h2,_⟩:=Px.qvy hr h a 4000000 (by omega)
 rw[qpa hr h a];have e:Px.runM (Px.pgOf l) 4000000 (Px.qi2 (Px.pgOf l) a)=((Px.play (Px.qap l ⟨[],0,0⟩).vars l a).over,m):=h1;unfold Rn.qkh Rn.qh3;rw[e];exact ⟨rfl,h2,Px.zsg _ _ _⟩
def qnb (s:ByteArray) (l:List Int) (w:World) (e:Ending) (w':World):Prop:=Below w.heap.size w w'∧∃ va,e=.returned (.tuple #[va,.int .i64 ((Px.run s l).2.1:Int),.int .i64 ((Px.run s l).2.2.1:Int),.int .i64 ((Px.run s l).2.2.2:Int)])∧w'.ownsRow w.heap.size 29 4 va (Px.run s l).1.length (Rn.askC (Px.run s l).1)
theorem GivenAt.below {w w':World} {sv:Value} {l:List Int} (h:Rn.GivenAt w sv l) (k:Below w.heap.size w w'):Rn.GivenAt w' sv l:=by
 obtain ⟨ad,c,e,hc,h1,h2⟩:=h;refine ⟨ad,c,e,hc,fun i hi=>?_,fun q hq=>Nat.lt_of_lt_of_le (h2 q hq) k.size⟩
 obtain ⟨q,o,e1,e2⟩:=h1 i hi;exact ⟨q,o,e1,by rw[k.cell (p:=⟨q,o+i,none⟩) (lt_of_cell e2)];exact e2⟩
theorem qi5 {fn:Func} {t u v x:Tmp} (h:fn.results=#[.tmp t,.tmp u,.tmp v,.tmp x]) (tmps:Array Value) (P:Program) (w:World) :
  (results fn tmps).run P w=.ok (.tuple #[tmps.getD t undef,tmps.getD u undef,tmps.getD v undef,tmps.getD x undef]) w:=by
 simp[results,h]
theorem zm3 {E F:Nat→Addr} {s:ByteArray} {l:List Px.Sm} {a:List Int} {sv v:Value} {us:List Value} {w:World} (hr:Px.read s=.ok l) (g:Gr w E F) (hs:Lg.SlL w v us (· < w.heap.size)) (hm:Lg.LsAt w l (· < w.heap.size) us) (ha:Rn.GivenAt w sv a) (hlen:a.length≤140737488355328) (hra:∀ x∈a,Px.R64 x) :
  Calls Tryz.prog 17 #[v] w fun e w1=>∃ pp,e=.returned (.pointer (some ⟨pp,0,none⟩)) ∧
   Hid (Calls Tryz.prog 16 #[.pointer (some ⟨pp,0,none⟩),sv] w1 fun e2 w2=>∃ va,e2=.returned (.tuple #[va,.int .i64 (Rn.qkh (Px.pgOf l) a:Int)])∧Below w.heap.size w w2∧(Rn.qkh (Px.pgOf l) a≠4→w2.ownsRow w1.heap.size 88 4 va (Rn.qh3 (Px.pgOf l) a).length (Rn.askC (Rn.qh3 (Px.pgOf l) a)))):=by
 refine (Mk.zm4 l (Px.qd0 hr).1 (Px.qxq hr).1 (Px.qxo hr).2 w v us hs hm g.k).mono ?_;rintro e w1 ⟨pp,rfl,hb,hp⟩;refine ⟨pp,rfl,?_⟩;have g1:=g.below hb;refine (Rn.zmz hp g1.m (GivenAt.below ha hb) hlen hra (zm7 hr)).mono ?_;rintro e2 w2 ⟨b2,va,rfl,_,hown⟩;exact ⟨va,rfl,hb.trans (b2.mono hb.size),hown⟩
theorem qh2 (E F:Nat→Addr) (s:ByteArray) (a:List Int) (sv:Value) (w:World) (hs:s.size≤maxLen) (g:Gr w E F) (ha:Rn.GivenAt w sv a) (hlen:a.length≤140737488355328) (hra:∀ x∈a,Px.R64 x) :
  Calls Tryz.prog 7 #[.string s,sv] w (qnb s a w):=by
 have G0:Hid (Gr w E F∧Rn.GivenAt w sv a∧a.length≤140737488355328∧∀ x∈a,Px.R64 x):=⟨g,ha,hlen,hra⟩;have HR:Hid (Calls Tryz.prog 14 #[.string s] w (Lg.qol s E w)):=Lg.qj0 E (fun l hl c m B=>Lg.qub c m B E l hl) s w hs g.l
 obtain ⟨ad,ac,rfl,_⟩:=ha;clear g hs hlen hra;go_enter Tryz.func7,Tryz.ntmps7
 go_wp2_with fail;refine HR.out.mono ?_;rintro e w1 ⟨hb,v,er,rfl,hc⟩;have HB:Hid (Below w.heap.size w w1):=hb;have G1:Hid (Gr w1 E F):=G0.out.1.below hb;clear hb;rcases hc with ⟨h1,rfl,l,vs,hr,hsl,hls⟩ | ⟨h1,rfl⟩ | ⟨c,p,f,h2,h3,h1,rfl,hF⟩
 ·have HM:Hid (_):=zm3 hr G1.out hsl hls (GivenAt.below G0.out.2.1 HB.out) G0.out.2.2.1 G0.out.2.2.2;obtain ⟨m1,m2,m3⟩:=zm8 hr h1 a;have m4:Px.run s a=((Px.run s a).1,(Px.run s a).2.1,0,0):=by rw[qpa hr h1 a]
  obtain ⟨va0,vn0,vc0,rfl⟩:=hsl.form;have HE:Hid (_∧_∧_∧_):=⟨m1,m2,m3,m4⟩;have hne4:Rn.qkh (Px.pgOf l) a≠4:=by omega
  clear hsl hls hr h1 m1 m2 m3 m4;go_wp2_with fail;refine Calls.mono HM.out ?_;rintro e w2 ⟨pp,rfl,HQ⟩;go_wp2_with fail;refine Calls.mono HQ.out ?_;rintro e w3 ⟨va,rfl,b3,hown⟩;have hown:=hown hne4;have HA:Hid (_):=zjz _ va w3 (Lw.qm8 hown) (by have:=Px.qzv (Px.pgOf l) 4000000 (Px.qi2 (Px.pgOf l) a);have e0:(Px.qi2 (Px.pgOf l) a).asks.length=0:=rfl;unfold Rn.qh3;omega)
  obtain ⟨a1,n1,c1,rfl⟩:=Ref.qad hown;have H3:Hid (Below w.heap.size w w3):=HB.out.trans (b3.mono HB.out.size);clear hown b3 HM HQ;go_wp2_with fail;refine Calls.mono HA.out ?_;rintro e w4 ⟨vb,rfl,b4,ho4⟩;obtain ⟨a2,n2,c2,rfl⟩:=Ref.qad ho4;have H4:Hid (_∧_):=⟨b4,ho4⟩;clear b4 ho4 HA;go_wp2_with fail
  (try simp only[Exit.inBlock,Exit.then])
  refine bodyPost_ret (qi5 rfl _ _ _) rfl ?_;refine ⟨H3.out.trans (H4.out.1.mono H3.out.size),.slice a2 n2 c2,?_,?_⟩
  ·have e1:(Px.run s a).2.2.1=0:=by rw[HE.out.2.2.2]
   have e2:(Px.run s a).2.2.2=0:=by rw[HE.out.2.2.2]
   rw[e1,e2,← HE.out.1];rfl
  ·rw[← HE.out.2.1];exact Rn.qvr H4.out.2 H3.out.size
 ·have HE:Hid (Px.run s a=([],0,1,0)):=by unfold Hid;rw[qsn (by rw[h1];decide) a,h1]
  go_wp2_with fail;refine (Lg.qo0 E _ G1.out.l.s).mono ?_;rintro e w2 ⟨rfl,b2⟩;have B2:Hid (Below w.heap.size w w2):=HB.out.trans (b2.mono HB.out.size);clear b2;go_wp2_with fail
  (try simp only[Exit.inBlock,Exit.then])
  refine bodyPost_ret (qi5 rfl _ _ _) rfl ?_;refine ⟨B2.out,.slice none 0 0,?_,?_⟩
  ·rw[HE.out];rfl
  ·rw[HE.out];exact World.ownsRow_nil _ _ _ _
 ·have HF:Hid (Lg.qe9 w1 f p (E c)):=hF;have HE:Hid (Px.run s a=([],0,c,p)):=by unfold Hid;rw[qsn (by rw[h1];intro e;have:=congrArg Prod.fst e;dsimp only at this;omega) a,h1]
  clear hF;go_wp2_with fail;refine (Lg.qmh E c p f _ G1.out.l.s HF.out ⟨h2,h3⟩).mono ?_;rintro e w2 ⟨rfl,b2⟩;have B2:Hid (Below w.heap.size w w2):=HB.out.trans (b2.mono HB.out.size);clear b2;go_wp2_with fail
  (try simp only[Exit.inBlock,Exit.then])
  refine bodyPost_ret (qi5 rfl _ _ _) rfl ?_;refine ⟨B2.out,.slice none 0 0,?_,?_⟩
  ·rw[HE.out];rfl
  ·rw[HE.out];exact World.ownsRow_nil _ _ _ _
end Ed
end Go.Proofs.YthanmfbakpcigaaGreatDoor
