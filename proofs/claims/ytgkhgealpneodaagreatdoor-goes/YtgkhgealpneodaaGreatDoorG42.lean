import Derived.Test.YtgkhgealpneodaaGreatDoorG05
set_option maxRecDepth 100000
set_option maxHeartbeats 4000000
namespace Go.Proofs.YtgkhgealpneodaaGreatDoor
open Go.RowKit Tryz
namespace Lw
open Ref
theorem rI(l:List Int)(x:Int):gB (l++[x])=gB l++[eF x]:=by simp[gB]
theorem qm4(l:List Int)(v:dZ)(w:dY)(h:zx w v l):fI 27 #[v] w fun e w'=>∃v',e=fM v'/\gU w w'/\w'.ownsRow w.heap.size 3 1 v' l.length (gB l):=by
 obtain⟨ad,cap,rfl,hm,hb,hc⟩:=h;obtain⟨i0,hi,hz0,hz1,hz2⟩:=info_parts Nv;have HC:Hid (∀i(hi:i<l.length),∃a:Addr,ad=some a/\a.block<w.heap.size/\w.cell? (a.add i)=some (eF l[i])):=hc;unfold maxLen at hm;go_enter func27,ntmps27;go_wp2_with fail;go_loopw [3,4] (fun v i wr=>∃j:Nat,j<=l.length/\i=eF j/\Hid (gU w wr/\wr.ownsRow w.heap.size 3 1 v (l.take j).length (gB (l.take j)))) (fun _ i _=>l.length-(intOf i).toNat)
 case atStart=>exact⟨0,by omega,rfl,aF _ _,aX _ _ _ _⟩
 case round=>
  obtain⟨j,hj,rfl,hr⟩:=hrel;obtain⟨hbr,hrow⟩:=hr.o;by_cases hlt:j<l.length
  ·obtain⟨a,rfl,hab,hac⟩:=HC.o j hlt;have EL:wr.cell? (a.add j)=some (eF l[j]):=by
    have hbl:(a.add j).block<w.heap.size:=by unfold Addr.add;split<;>exact hab
    rw[hbr.cell hbl];exact hac
   have htk:l.take (j+1)=l.take j++[l[j]]:=aZ hlt;generalize l[j]=y at EL htk hac;obtain⟨la,ln,lc,rfl⟩:=lu hrow;have hlj:(l.take j).length=j:=by rw[bZ];omega
   have H3:Hid (gU w wr/\l.take (j+1)=l.take j++[y]):=⟨hbr,htk⟩;have HO:Hid (wr.ownsRow w.heap.size 3 1 (.slice la ln lc) (l.take j).length (gB (l.take j))):=hrow;have hsz:w.heap.size<=wr.heap.size:=hbr.size;have hga:a.block<wr.heap.size:=by omega
   have hlt':(j:Int)<(l.length:Int):=by omega
   go_wp2_with (first
    |(at_builtin;refine wpList_append_own_at _ rfl _ _ 32 rfl w.heap.size 3 i0 (eF 0) 1 8 underlying32 hi hz0 hz1 hz2 rfl (by decide) _ _ _ rfl (HO.o.alloc _) ⟨wr.heap.size,0,none⟩ 1 1 [eF y] rfl rfl ?c1 ?c2 ?c3 ?c4 ?c5 ?_)
    |fail)
   case c1=>
    intro j u hj;match j,hj with| 0,hj=>simp at hj;subst hj;simp[Addr.add]
   case c2=>intro u hu;simp at hu;subst hu;rfl
   case c3=>unfold maxLen;omega
   case c4=>omega
   case c5=>simp;omega
   intro v' w4 hown' hgrow _ hloc;have HN:Hid (gU w w4/\w4.ownsRow w.heap.size 3 1 v' (l.take (j+1)).length (gB (l.take (j+1)))):=by
    refine⟨H3.o.1.trans ?_,?_⟩;·have hT:fE (fun k=>(Value.slice la ln lc).ownBlock=some k) wr w4:=((fE.refl _ _).alloc _).grown hgrow fun k hk=>ak hk;exact hT.qj hsz fun k hk=>(HO.o.lt k hk).1
    rw[H3.o.2,rI,aC,hlj];exact hown'
   go_wp2;exact⟨⟨j+1,by omega,by go_num,HN.o⟩,by simp[intOf];omega⟩
  obtain rfl:j=l.length:=by omega
  rw[dH]at hrow;have HF:Hid (_/\_):=⟨hbr,hrow⟩;go_wp2_with fail;go_ret;exact⟨_,rfl,HF.o.1,HF.o.2⟩
