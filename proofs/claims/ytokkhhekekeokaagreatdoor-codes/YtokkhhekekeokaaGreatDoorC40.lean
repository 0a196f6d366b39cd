import Derived.Test.YtokkhhekekeokaaGreatDoorC39
import Derived.Test.YtokkhhekekeokaaGreatDoorC38
import Derived.Test.YtokkhhekekeokaaGreatDoorC24
set_option maxRecDepth 100000
set_option maxHeartbeats 4000000
namespace Go.Proofs.YtokkhhekekeokaaGreatDoor
open Go.RowKit Tryz
namespace Ed
open Lg Lw Px Ref Rn
theorem zn6:(prog.info? 35).map (fun i=>(i.zero,i.size,i.bytes))=some (some (.agg #[.string ⟨#[]⟩,.int .i64 0,.int .i64 0,.bool false]),4,40):=by kernel_rfl
theorem zjz (l:List Px.Ask)(v:fC)(w:fu)(h:kR w v l)(hl:l.length<=10000000) :
  Calls prog 19 #[v] w fun e w'=>∃ v',e=.returned v'/\Below w.heap.size w w'/\w'.ownsRow w.heap.size 35 4 v' l.length (jw l):=by
 obtain ⟨ad,cap,rfl,hc⟩:=h.ex;obtain ⟨i0,hi,hz0,hz1,hz2⟩:=info_parts zn6;have HC:Hid (∀ i (hi:i < l.length),∃ g,ad=some ⟨g,0,none⟩/\w.cell? ⟨g,i * 4,none⟩=some (.string l[i].fD)/\w.cell? ⟨g,i * 4+1,none⟩=some (.int .i64 l[i].arg)/\w.cell? ⟨g,i * 4+2,none⟩=some (.int .i64 (l[i].nth:Int))/\w.cell? ⟨g,i * 4+3,none⟩=some (.bool l[i].undo)):=hc;clear hc h;go_enter func19,ntmps19
 go_wp2_with fail;go_loopw [3,8] (fun v i wr=>∃ j:Nat,j<=l.length/\i=.int .i64 j/\Hid (Below w.heap.size w wr/\wr.ownsRow w.heap.size 35 4 v (l.take j).length (jw (l.take j)))) (fun _ i _=>l.length - (intOf i).toNat)
 case atStart=>exact ⟨0,by omega,rfl,aH _ _,aT _ _ _ _⟩
 case round =>
  obtain ⟨j,hj,rfl,hr⟩:=hrel;obtain ⟨hbr,hrow⟩:=hr.o;by_cases hlt:j < l.length
  ·obtain ⟨g,rfl,p1,p2,p3,p4⟩:=HC.o j hlt;have z1:=lt_of_cell p1;have kp:∀ {o:Nat} {x:fC},w.cell? ⟨g,o,none⟩=some x->wr.cell? ⟨g,o,none⟩=some x:=fun {o x} hx=>by rw[hbr.cell (p:=⟨g,o,none⟩) z1];exact hx
   have p1:=kp p1;have p2:=kp p2;have p3:=kp p3;have p4:=kp p4;have htk:l.take (j+1)=l.take j++[l[j]]:=bg hlt;have hsn:=Zg (l.take j) l[j];rw[<- htk] at hsn;generalize l[j]=a at *;obtain ⟨fD,arg,nth,und⟩:=a;dsimp only[Ga] at *;obtain ⟨la,ln,lc,rfl⟩:=jm hrow;have hlj:(l.take j).length=j:=by rw[bU];omega
   have hlk:(l.take (j+1)).length=j+1:=by rw[bU];omega
   have H3:Hid (Below w.heap.size w wr/\jw (l.take (j+1))=jw (l.take j)++[.string fD,.int .i64 arg,.int .i64 (nth:Int),.bool und]):=⟨hbr,hsn⟩;have HO:Hid (wr.ownsRow w.heap.size 35 4 (.slice la ln lc) (l.take j).length (jw (l.take j))):=hrow;have hsz:w.heap.size<=wr.heap.size:=hbr.size;have hga:g < wr.heap.size:=by omega
   have hlt':(j:Int) < (l.length:Int):=by omega
   generalize (nth:Int)=n at *;clear hr hbr hrow htk hsn kp;have N4:Hid (∀ W:fu,W.heap[wr.heap.size+1]?=some (.cells #[.string fD,.int .i64 arg,.int .i64 n,.bool und] 35)->∀ j u,[Value.string fD,.int .i64 arg,.int .i64 n,.bool und][j]?=some u->W.cell? ((⟨wr.heap.size+1,0,none⟩:Addr).add j)=some u):=fun W hW=>Rn.Me hW
   have O3:Hid (∀ u∈[Value.string fD,.int .i64 arg,.int .i64 n,.bool und],u.oneCell'=true):=by intro u hu;simp at hu;rcases hu with rfl | rfl | rfl | rfl<;>rfl
   go_wp2_with (first
    | (at_builtin;refine wpList_append_own_at _ rfl _ _ 30 rfl w.heap.size 35 i0 (.agg #[.string ⟨#[]⟩,.int .i64 0,.int .i64 0,.bool false]) 4 40 underlying30 hi hz0 hz1 hz2 rfl (by decide) _ _ _ rfl ((HO.o.alloc _).alloc _) ⟨wr.heap.size+1,0,none⟩ 1 1 [.string fD,.int .i64 arg,.int .i64 n,.bool und] rfl rfl (N4.o _ ?c1) O3.o ?c3 ?c4 ?c5 ?_)
    | fail)
   case c1 =>
    show ((wr.heap.push _).push _)[wr.heap.size+1]?=_
    rw[wV]
   case c3=>unfold maxLen;omega
   case c4=>omega
   case c5=>simp;omega
   ·intro v' w4 hown' hgrow _ hloc;have HN:Hid (Below w.heap.size w w4/\w4.ownsRow w.heap.size 35 4 v' (l.take (j+1)).length (jw (l.take (j+1)))):=by
     refine ⟨H3.o.1.trans ?_,?_⟩
     ·have hT:fO (fun k=>(Value.slice la ln lc).ownBlock=some k) wr w4:=(((fO.refl _ _).alloc _).alloc _).grown hgrow fun k hk=>ak hk
      exact hT.mY hsz fun k hk=>(HO.o.lt k hk).1
     ·rw[H3.o.2,hlk];exact hown'
    clear hown' hgrow hloc;go_wp2;exact ⟨⟨j+1,by omega,by go_num,HN.o⟩,by simp[intOf];omega⟩
  ·obtain rfl:j=l.length:=by omega
   rw[cK] at hrow;have HF:Hid (_/\_):=⟨hbr,hrow⟩;clear hr hbr hrow;go_wp2_with fail;go_ret;exact ⟨_,rfl,HF.o.1,HF.o.2⟩
variable {s:fq}{l:List Sm}
theorem zm7 (h:Px.read s=.ok l):Rn.Fit (iL l):=by
 obtain ⟨hg,hl⟩:=Na h;have hw:=D7 l [];have hv:=FZ l [];simp only[aL,bX] at hw hv;have iw:∀ w,fM (jq l []) w < 65536:=fun w=>by have:=Nb (jq l []) w;omega
 have iv:∀ w,fM (iV l []) w < 65536:=fun w=>by have:=Nb (iV l []) w;omega
 have hi:=xA (fM (jq l [])) (fM (iV l [])) l 0;refine ⟨YC l,Jj iw iv l hg 0 (by omega),?_,?_,?_⟩
 ·show (Px.mkS _ _ l 0).length<=_;omega
 ·show (jq l []).length<=_;omega
 ·show (iV l []).length<=_;omega
structure Gr (w:fu)(E F:Nat->Addr):Prop where
 l:Gw w E
 m:Gm w F
 k:Mk.Gk w w.heap.size
theorem Gr.below {w w':fu}{E F:Nat->Addr}(h:Gr w E F)(k:Below w.heap.size w w'):Gr w' E F:=by
 have g:=h.k.below k;exact ⟨h.l.below k,h.m.below k,g.tab,aP g.lo k.size⟩
theorem TJ (h:Px.check s≠(0,0))(a:List Int):Px.run s a=([],0,Px.check s):=by
 unfold Px.run;cases hr:Px.read s with
 | error r=>simp only;rw[FX hr]
 | ok l=>simp only;rw[if_neg h]
theorem TL (hr:Px.read s=.ok l)(h:Px.check s=(0,0))(a:List Int):Px.run s a=((Px.play (iG l ⟨[],0,0⟩).vars l a).fI,(Px.play (iG l ⟨[],0,0⟩).vars l a).over,0,0):=by
 unfold Px.run;rw[hr];simp only;rw[if_pos h]
theorem zm8 (hr:Px.read s=.ok l)(h:Px.check s=(0,0))(a:List Int):uZ (iL l) a=(Px.run s a).2.1/\yQ (iL l) a=(Px.run s a).1/\(Px.run s a).2.1<=3:=by
 obtain ⟨m,h1,h2,_⟩:=Vv hr h a 4000000 (by omega)
 rw[TL hr h a];have e:Px.runM (iL l) 4000000 (yC (iL l) a)=((Px.play (iG l ⟨[],0,0⟩).vars l a).over,m):=h1;unfold uZ yQ;rw[e];exact ⟨rfl,h2,rN _ _ _⟩
theorem jg.below {w w':fu}{sv:fC}{l:List Int}(h:Rn.jg w sv l)(k:Below w.heap.size w w'):Rn.jg w' sv l:=by
 obtain ⟨ad,c,e,hc,h1,h2⟩:=h;refine ⟨ad,c,e,hc,fun i hi=>?_,fun q hq=>aV (h2 q hq) k.size⟩
 obtain ⟨q,o,e1,e2⟩:=h1 i hi;exact ⟨q,o,e1,by rw[k.cell (p:=⟨q,o+i,none⟩) (lt_of_cell e2)];exact e2⟩
