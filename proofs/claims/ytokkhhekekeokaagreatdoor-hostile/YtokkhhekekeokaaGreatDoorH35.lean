import Derived.Test.YtokkhhekekeokaaGreatDoorH34
import Derived.Test.YtokkhhekekeokaaGreatDoorH33
import Derived.Test.YtokkhhekekeokaaGreatDoorH18
import Derived.Test.YtokkhhekekeokaaGreatDoorH19
import Derived.Test.YtokkhhekekeokaaGreatDoorH16
import Derived.Test.YtokkhhekekeokaaGreatDoorH17
import Derived.Test.YtokkhhekekeokaaGreatDoorH02
set_option maxRecDepth 100000
set_option maxHeartbeats 4000000
namespace Go.Proofs.YtokkhhekekeokaaGreatDoor
open Go.RowKit
namespace Ed
theorem zn6:(Tryz.prog.info? 35).map (fun i=>(i.zero,i.size,i.bytes))=some (some (.agg #[.string ⟨#[]⟩,.int .i64 0,.int .i64 0,.bool false]),4,40):=by kernel_rfl
theorem zjz (l:List Px.Ask) (v:Value) (w:World) (h:Lw.AsksAt w v l) (hl:l.length≤10000000) :
  Calls Tryz.prog 19 #[v] w fun e w'=>∃ v',e=.returned v'∧Below w.heap.size w w'∧w'.ownsRow w.heap.size 35 4 v' l.length (Rn.askC l):=by
 obtain ⟨ad,cap,rfl,hc⟩:=h.ex;obtain ⟨i0,hi,hz0,hz1,hz2⟩:=info_parts zn6;have HC:Hid (∀ i (hi:i < l.length),∃ g,ad=some ⟨g,0,none⟩∧w.cell? ⟨g,i * 4,none⟩=some (.string l[i].word)∧w.cell? ⟨g,i * 4+1,none⟩=some (.int .i64 l[i].arg)∧w.cell? ⟨g,i * 4+2,none⟩=some (.int .i64 (l[i].nth:Int))∧w.cell? ⟨g,i * 4+3,none⟩=some (.bool l[i].undo)):=hc;clear hc h;go_enter Tryz.func19,Tryz.ntmps19
 go_wp2_with fail;go_loopw [3,8] (fun v i wr=>∃ j:Nat,j≤l.length∧i=.int .i64 j∧Hid (Below w.heap.size w wr∧wr.ownsRow w.heap.size 35 4 v (l.take j).length (Rn.askC (l.take j)))) (fun _ i _=>l.length - (intOf i).toNat)
 case atStart=>exact ⟨0,by omega,rfl,Below.refl _ _,World.ownsRow_nil _ _ _ _⟩
 case round =>
  obtain ⟨j,hj,rfl,hr⟩:=hrel;obtain ⟨hbr,hrow⟩:=hr.out;by_cases hlt:j < l.length
  ·obtain ⟨g,rfl,p1,p2,p3,p4⟩:=HC.out j hlt;have z1:=lt_of_cell p1;have kp:∀ {o:Nat} {x:Value},w.cell? ⟨g,o,none⟩=some x→wr.cell? ⟨g,o,none⟩=some x:=fun {o x} hx=>by rw[hbr.cell (p:=⟨g,o,none⟩) z1];exact hx
   have p1:=kp p1;have p2:=kp p2;have p3:=kp p3;have p4:=kp p4;have htk:l.take (j+1)=l.take j++[l[j]]:=List.take_succ_eq_append_getElem hlt;have hsn:=Rn.qww (l.take j) l[j];rw[← htk] at hsn;generalize l[j]=a at *;obtain ⟨word,arg,nth,und⟩:=a;dsimp only[Rn.zd7] at *;obtain ⟨la,ln,lc,rfl⟩:=Ref.qad hrow;have hlj:(l.take j).length=j:=by rw[List.length_take];omega
   have hlk:(l.take (j+1)).length=j+1:=by rw[List.length_take];omega
   have H3:Hid (Below w.heap.size w wr∧Rn.askC (l.take (j+1))=Rn.askC (l.take j)++[.string word,.int .i64 arg,.int .i64 (nth:Int),.bool und]):=⟨hbr,hsn⟩;have HO:Hid (wr.ownsRow w.heap.size 35 4 (.slice la ln lc) (l.take j).length (Rn.askC (l.take j))):=hrow;have hsz:w.heap.size≤wr.heap.size:=hbr.size;have hga:g < wr.heap.size:=by omega
   have hlt':(j:Int) < (l.length:Int):=by omega
   generalize (nth:Int)=n at *;clear hr hbr hrow htk hsn kp;have N4:Hid (∀ W:World,W.heap[wr.heap.size+1]?=some (.cells #[.string word,.int .i64 arg,.int .i64 n,.bool und] 35)→∀ j u,[Value.string word,.int .i64 arg,.int .i64 n,.bool und][j]?=some u→W.cell? ((⟨wr.heap.size+1,0,none⟩:Addr).add j)=some u):=fun W hW=>Rn.zmu hW
   have O3:Hid (∀ u∈[Value.string word,.int .i64 arg,.int .i64 n,.bool und],u.oneCell'=true):=by intro u hu;simp at hu;rcases hu with rfl | rfl | rfl | rfl<;>rfl
   go_wp2_with (first
    | (at_builtin;refine wpList_append_own_at _ rfl _ _ 30 rfl w.heap.size 35 i0 (.agg #[.string ⟨#[]⟩,.int .i64 0,.int .i64 0,.bool false]) 4 40 Tryz.underlying30 hi hz0 hz1 hz2 rfl (by decide) _ _ _ rfl ((HO.out.alloc _).alloc _) ⟨wr.heap.size+1,0,none⟩ 1 1 [.string word,.int .i64 arg,.int .i64 n,.bool und] rfl rfl (N4.out _ ?c1) O3.out ?c3 ?c4 ?c5 ?_)
    | fail)
   case c1 =>
    show ((wr.heap.push _).push _)[wr.heap.size+1]?=_
    rw[Ref.qdu]
   case c3=>unfold maxLen;omega
   case c4=>omega
   case c5=>simp;omega
   ·intro v' w4 hown' hgrow _ hloc;have HN:Hid (Below w.heap.size w w4∧w4.ownsRow w.heap.size 35 4 v' (l.take (j+1)).length (Rn.askC (l.take (j+1)))):=by
     refine ⟨H3.out.1.trans ?_,?_⟩
     ·have hT:Tch (fun k=>(Value.slice la ln lc).ownBlock=some k) wr w4:=(((Tch.refl _ _).alloc _).alloc _).grown hgrow fun k hk=>Or.inl hk
      exact hT.qbg hsz fun k hk=>(HO.out.lt k hk).1
     ·rw[H3.out.2,hlk];exact hown'
    clear hown' hgrow hloc;go_wp2;exact ⟨⟨j+1,by omega,by go_num,HN.out⟩,by simp[intOf];omega⟩
  ·obtain rfl:j=l.length:=by omega
   rw[List.take_length] at hrow;have HF:Hid (_∧_):=⟨hbr,hrow⟩;clear hr hbr hrow;go_wp2_with fail;go_ret;exact ⟨_,rfl,HF.out.1,HF.out.2⟩
open Go.RowKit
theorem zm7 {s:ByteArray} {l:List Px.Sm} (h:Px.read s=.ok l):Rn.Fit (Px.pgOf l):=by
 obtain ⟨hg,hl⟩:=Px.qxp h;have hw:=Px.qqz l [];have hv:=Px.quw l [];simp only[List.length_nil,Nat.zero_add] at hw hv;have iw:∀ w,Px.idxW (Px.wsS l []) w < 65536:=fun w=>by have:=Px.qtq (Px.wsS l []) w;omega
 have iv:∀ w,Px.idxW (Px.vsS l []) w < 65536:=fun w=>by have:=Px.qtq (Px.vsS l []) w;omega
 have hi:=Px.qiq (Px.idxW (Px.wsS l [])) (Px.idxW (Px.vsS l [])) l 0;refine ⟨Px.zm5 l,Px.qpn iw iv l hg 0 (by omega),?_,?_,?_⟩
 ·show (Px.mkS _ _ l 0).length≤_;omega
 ·show (Px.wsS l []).length≤_;omega
 ·show (Px.vsS l []).length≤_;omega
structure Gr (w:World) (E F:Nat→Addr):Prop where
 l:Lg.Gw w E
 m:Rn.Gm w F
 k:Mk.Gk w w.heap.size
theorem Gr.below {w w':World} {E F:Nat→Addr} (h:Gr w E F) (k:Below w.heap.size w w'):Gr w' E F:=by
 have g:=h.k.below k;exact ⟨h.l.below k,h.m.below k,g.tab,Nat.le_trans g.lo k.size⟩
theorem qpa {s:ByteArray} {l:List Px.Sm} (hr:Px.read s=.ok l) (h:Px.check s=(0,0)) (a:List Int):Px.run s a=((Px.play (Px.qap l ⟨[],0,0⟩).vars l a).asks,(Px.play (Px.qap l ⟨[],0,0⟩).vars l a).over,0,0):=by
 unfold Px.run;rw[hr];simp only;rw[if_pos h]
theorem zm8 {s:ByteArray} {l:List Px.Sm} (hr:Px.read s=.ok l) (h:Px.check s=(0,0)) (a:List Int):Rn.qkh (Px.pgOf l) a=(Px.run s a).2.1∧Rn.qh3 (Px.pgOf l) a=(Px.run s a).1∧(Px.run s a).2.1≤3:=by
 obtain ⟨m,h1,h2,_⟩:=Px.qvy hr h a 4000000 (by omega)
 rw[qpa hr h a];have e:Px.runM (Px.pgOf l) 4000000 (Px.qi2 (Px.pgOf l) a)=((Px.play (Px.qap l ⟨[],0,0⟩).vars l a).over,m):=h1;unfold Rn.qkh Rn.qh3;rw[e];exact ⟨rfl,h2,Px.zsg _ _ _⟩
theorem GivenAt.below {w w':World} {sv:Value} {l:List Int} (h:Rn.GivenAt w sv l) (k:Below w.heap.size w w'):Rn.GivenAt w' sv l:=by
 obtain ⟨ad,c,e,hc,h1,h2⟩:=h;refine ⟨ad,c,e,hc,fun i hi=>?_,fun q hq=>Nat.lt_of_lt_of_le (h2 q hq) k.size⟩
 obtain ⟨q,o,e1,e2⟩:=h1 i hi;exact ⟨q,o,e1,by rw[k.cell (p:=⟨q,o+i,none⟩) (lt_of_cell e2)];exact e2⟩
end Ed
end Go.Proofs.YtokkhhekekeokaaGreatDoor
