import Derived.Test.YtokkhhekekeokaaGreatDoorC07
import Derived.Test.YtokkhhekekeokaaGreatDoorC33
import Derived.OpenShut
set_option maxRecDepth 100000
set_option maxHeartbeats 4000000
namespace Go.Proofs.YtokkhhekekeokaaGreatDoor
open Go.RowKit Tryz
namespace Lw
open Px Ref Rn
theorem qgs (l:List Int)(x:Int):Ref.intCells (l++[x])=Ref.intCells l++[.int .i64 x]:=by simp[Ref.intCells]
theorem qm4 (l:List Int)(v:fC)(w:fu)(h:Ref.jZ w v l) :
  Calls prog 9 #[v] w fun e w'=>∃ v',e=.returned v'/\Below w.heap.size w w'/\w'.ownsRow w.heap.size 3 1 v' l.length (Ref.intCells l):=by
 obtain ⟨ad,cap,rfl,hm,hb,hc⟩:=h;obtain ⟨i0,hi,hz0,hz1,hz2⟩:=info_parts PN;have HC:Hid (∀ i (hi:i < l.length),∃ a:Addr,ad=some a/\a.block < w.heap.size/\w.cell? (a.add i)=some (.int .i64 l[i])):=hc;unfold maxLen at hm;clear hc;go_enter func9,ntmps9
 go_wp2_with fail;go_loopw [3,4] (fun v i wr=>∃ j:Nat,j<=l.length/\i=.int .i64 j/\Hid (Below w.heap.size w wr/\wr.ownsRow w.heap.size 3 1 v (l.take j).length (Ref.intCells (l.take j)))) (fun _ i _=>l.length - (intOf i).toNat)
 case atStart=>exact ⟨0,by omega,rfl,aH _ _,aT _ _ _ _⟩
 case round =>
  obtain ⟨j,hj,rfl,hr⟩:=hrel;obtain ⟨hbr,hrow⟩:=hr.o;by_cases hlt:j < l.length
  ·obtain ⟨a,rfl,hab,hac⟩:=HC.o j hlt;have Dk:wr.cell? (a.add j)=some (.int .i64 l[j]):=by
    have hbl:(a.add j).block < w.heap.size:=by unfold Addr.add;split<;>exact hab
    rw[hbr.cell hbl];exact hac
   have htk:l.take (j+1)=l.take j++[l[j]]:=bg hlt;generalize l[j]=y at Dk htk hac;obtain ⟨la,ln,lc,rfl⟩:=jm hrow;have hlj:(l.take j).length=j:=by rw[bU];omega
   have H3:Hid (Below w.heap.size w wr/\l.take (j+1)=l.take j++[y]):=⟨hbr,htk⟩;have HO:Hid (wr.ownsRow w.heap.size 3 1 (.slice la ln lc) (l.take j).length (Ref.intCells (l.take j))):=hrow;have hsz:w.heap.size<=wr.heap.size:=hbr.size;have hga:a.block < wr.heap.size:=by omega
   have hlt':(j:Int) < (l.length:Int):=by omega
   clear hr hbr hrow htk hac;go_wp2_with (first
    | (at_builtin;refine wpList_append_own_at _ rfl _ _ 22 rfl w.heap.size 3 i0 (.int .i64 0) 1 8 underlying22 hi hz0 hz1 hz2 rfl (by decide) _ _ _ rfl (HO.o.alloc _) ⟨wr.heap.size,0,none⟩ 1 1 [.int .i64 y] rfl rfl ?c1 ?c2 ?c3 ?c4 ?c5 ?_)
    | fail)
   case c1 =>
    intro j u hj;match j,hj with
    | 0,hj=>simp at hj;subst hj;simp[Addr.add]
   case c2=>intro u hu;simp at hu;subst hu;rfl
   case c3=>unfold maxLen;omega
   case c4=>omega
   case c5=>simp;omega
   ·intro v' w4 hown' hgrow _ hloc;have HN:Hid (Below w.heap.size w w4/\w4.ownsRow w.heap.size 3 1 v' (l.take (j+1)).length (Ref.intCells (l.take (j+1)))):=by
     refine ⟨H3.o.1.trans ?_,?_⟩
     ·have hT:fO (fun k=>(Value.slice la ln lc).ownBlock=some k) wr w4:=((fO.refl _ _).alloc _).grown hgrow fun k hk=>ak hk
      exact hT.mY hsz fun k hk=>(HO.o.lt k hk).1
     ·rw[H3.o.2,qgs,ay,hlj];exact hown'
    clear hown' hgrow hloc;go_wp2;exact ⟨⟨j+1,by omega,by go_num,HN.o⟩,by simp[intOf];omega⟩
  ·obtain rfl:j=l.length:=by omega
   rw[cK] at hrow;have HF:Hid (_/\_):=⟨hbr,hrow⟩;clear hr hbr hrow;go_wp2_with fail;go_ret;exact ⟨_,rfl,HF.o.1,HF.o.2⟩
variable {w:fu}{B n size:Nat}{e:TypeId}{v:fC}{xs:List fC}
theorem TH (h:w.ownsRow B e size v n xs)(hn:0 < n):∃ g cap,v=.slice (some ⟨g,0,none⟩) n cap/\B<=g/\g < w.heap.size/\n<=cap/\∀ k x,xs[k]?=some x->w.cell? ⟨g,k,none⟩=some x:=by
 obtain ⟨hl,h⟩:=h;rcases h with ⟨_,h2⟩ | ⟨g,cap,cur,rfl,hg,hh,h4,h5,h6,h7⟩
 ·omega
 ·refine ⟨g,cap,rfl,hg,(aG.1 hh).1,h4,fun k x hk=>?_⟩
  have hlt:=(aU.1 hk).1;have e:cur[k]?=xs[k]?:=by
   rw[<- h7,bC (by omega)];simp
  simp[World.cell?,hh,e,hk]
theorem TI (h:w.ownsRow B e size v n xs):∃ ad cap,v=.slice ad n cap/\n<=cap:=by
 obtain ⟨hl,h⟩:=h;rcases h with ⟨rfl,h2⟩ | ⟨g,cap,cur,rfl,hg,hh,h4,h5,h6,h7⟩
 ·exact ⟨none,0,by rw[h2],by omega⟩
 ·exact ⟨_,_,rfl,h4⟩
structure kR (w:fu)(v:fC)(l:List Px.Ask):Prop where
 ex:∃ ad cap,v=.slice ad l.length cap/\∀ i (hi:i < l.length),∃ g,ad=some ⟨g,0,none⟩/\w.cell? ⟨g,i * 4,none⟩=some (.string l[i].fD)/\w.cell? ⟨g,i * 4+1,none⟩=some (.int .i64 l[i].arg)/\w.cell? ⟨g,i * 4+2,none⟩=some (.int .i64 (l[i].nth:Int))/\w.cell? ⟨g,i * 4+3,none⟩=some (.bool l[i].undo)
theorem zpe (l:List Px.Ask):∀ (i:Nat) (hi:i < l.length),(jw l)[i * 4]?=some (.string l[i].fD)/\(jw l)[i * 4+1]?=some (.int .i64 l[i].arg)/\(jw l)[i * 4+2]?=some (.int .i64 (l[i].nth:Int))/\(jw l)[i * 4+3]?=some (.bool l[i].undo):=by
 induction l with
 | nil=>intro i hi;simp at hi
 | cons a l ih =>
  intro i hi;have e:jw (a::l)=Ga a++jw l:=rfl;cases i with
  | zero=>exact ⟨rfl,rfl,rfl,rfl⟩
  | succ i =>
   have h:=ih i (by simp at hi;omega)
   have l4:(Ga a).length=4:=rfl;rw[e];refine ⟨?_,?_,?_,?_⟩
   ·rw[aJ (by omega),l4,show (i+1) * 4 - 4=i * 4 by omega];exact h.1
   ·rw[aJ (by omega),l4,show (i+1) * 4+1 - 4=i * 4+1 by omega];exact h.2.1
   ·rw[aJ (by omega),l4,show (i+1) * 4+2 - 4=i * 4+2 by omega];exact h.2.2.1
   ·rw[aJ (by omega),l4,show (i+1) * 4+3 - 4=i * 4+3 by omega];exact h.2.2.2
theorem Kt {l:List Px.Ask}(h:w.ownsRow B e 4 v l.length (jw l)):kR w v l:=by
 obtain ⟨ad,cap,rfl,_⟩:=TI h;refine ⟨ad,cap,rfl,fun i hi=>?_⟩
 obtain ⟨g,cap',e',_,_,_,hc⟩:=TH h (by omega)
 cases e';obtain ⟨h1,h2,h3,h4⟩:=zpe l i hi;exact ⟨g,rfl,hc _ _ h1,hc _ _ h2,hc _ _ h3,hc _ _ h4⟩
theorem zj7 (a:Px.Ask)(w:fu) :
  Calls prog 20 #[.agg #[.string a.fD,.int .i64 a.arg,.int .i64 (a.nth:Int),.bool a.undo],.agg #[.string a.fD,.int .i64 a.arg,.int .i64 (a.nth:Int),.bool a.undo]] w fun e w'=>e=.returned (.bool true)/\∃ A A':Obj,w'=(w.alloc A).alloc A':=by
 obtain ⟨fD,arg,nth,und⟩:=a;dsimp only;generalize (nth:Int)=n;cases und
 ·go_enter func20,ntmps20
  go_wp2_with fail;go_ret;exact ⟨rfl,_,_,rfl⟩
 ·go_enter func20,ntmps20
  go_wp2_with fail;go_ret;exact ⟨rfl,_,_,rfl⟩
theorem zli (l:List Px.Ask)(u v:fC)(w:fu)(hu:kR w u l)(hv:kR w v l)(hl:l.length<=4000000) :
  Calls prog 10 #[u,v] w fun e w'=>e=.returned (.bool true)/\Below w.heap.size w w':=by
 obtain ⟨a1,c1,rfl,h1⟩:=hu.ex;obtain ⟨a2,c2,rfl,h2⟩:=hv.ex;have H1:Hid (∀ i (hi:i < l.length),∃ g,a1=some ⟨g,0,none⟩/\w.cell? ⟨g,i * 4,none⟩=some (.string l[i].fD)/\w.cell? ⟨g,i * 4+1,none⟩=some (.int .i64 l[i].arg)/\w.cell? ⟨g,i * 4+2,none⟩=some (.int .i64 (l[i].nth:Int))/\w.cell? ⟨g,i * 4+3,none⟩=some (.bool l[i].undo)):=h1;have H2:Hid (∀ i (hi:i < l.length),∃ g,a2=some ⟨g,0,none⟩/\w.cell? ⟨g,i * 4,none⟩=some (.string l[i].fD)/\w.cell? ⟨g,i * 4+1,none⟩=some (.int .i64 l[i].arg)/\w.cell? ⟨g,i * 4+2,none⟩=some (.int .i64 (l[i].nth:Int))/\w.cell? ⟨g,i * 4+3,none⟩=some (.bool l[i].undo)):=h2;clear h1 h2 hu hv
 go_enter func10,ntmps10
 go_wp2_with fail;go_loopw [5] (fun i wr=>∃ j:Nat,j<=l.length/\i=.int .i64 j/\Hid (Below w.heap.size w wr)) (fun i _=>l.length - (intOf i).toNat)
 case atStart=>exact ⟨0,by omega,rfl,aH _ _⟩
 case round =>
  obtain ⟨j,hj,rfl,hr⟩:=hrel;by_cases hlt:j < l.length
  ·obtain ⟨g1,rfl,p1,p2,p3,p4⟩:=H1.o j hlt;obtain ⟨g2,rfl,q1,q2,q3,q4⟩:=H2.o j hlt;have z1:=lt_of_cell p1;have z2:=lt_of_cell q1;have kp:∀ {g o:Nat} {x:fC},g < w.heap.size->w.cell? ⟨g,o,none⟩=some x->wr.cell? ⟨g,o,none⟩=some x:=fun {g o x} hg hx=>by rw[hr.o.cell (p:=⟨g,o,none⟩) hg];exact hx
   have p1:=kp z1 p1;have p2:=kp z1 p2;have p3:=kp z1 p3;have p4:=kp z1 p4;have q1:=kp z2 q1;have q2:=kp z2 q2;have q3:=kp z2 q3;have q4:=kp z2 q4;have hlt':(j:Int) < (l.length:Int):=by omega
   have HA:=zj7 l[j];generalize l[j]=a at *;obtain ⟨fD,arg,nth,und⟩:=a;dsimp only at *;generalize (nth:Int)=n at *;have HQ:Hid (∀ W:fu,Calls prog 20 #[.agg #[.string fD,.int .i64 arg,.int .i64 n,.bool und],.agg #[.string fD,.int .i64 arg,.int .i64 n,.bool und]] W fun e w'=>e=.returned (.bool true)/\∃ A A':Obj,w'=(W.alloc A).alloc A'):=HA
   clear kp HA;go_wp2_with fail;go_region_held (fun w'=>w'.cell? ⟨g1,j * 4,none⟩=some (.string fD)/\w'.cell? ⟨g1,j * 4+1,none⟩=some (.int .i64 arg)/\w'.cell? ⟨g1,j * 4+2,none⟩=some (.int .i64 n)/\w'.cell? ⟨g1,j * 4+3,none⟩=some (.bool und)/\w'.cell? ⟨g2,j * 4,none⟩=some (.string fD)/\w'.cell? ⟨g2,j * 4+1,none⟩=some (.int .i64 arg)/\w'.cell? ⟨g2,j * 4+2,none⟩=some (.int .i64 n)/\w'.cell? ⟨g2,j * 4+3,none⟩=some (.bool und)) (go_keep)
    (first | (go_at_call 20;refine aA (HQ.o _) ?_;rintro e w1 ⟨rfl,A,A',rfl⟩))
   all_goals
    go_wp2_with fail;refine ⟨⟨j+1,by omega,by go_num,?_⟩,by simp[intOf];omega⟩
    exact (((hr.o.drew).alloc hr.o.size _).alloc (by have:=hr.o.size;simp;omega) _)
  ·obtain rfl:j=l.length:=by omega
   go_wp2_with fail;go_ret;exact ⟨rfl,hr.o⟩
structure kZ (w:fu)(ad:Option Addr)(cap:Nat)(l:List Int):Prop where
 a:Ref.jZ w (.slice ad l.length cap) l
 c:l.length<=cap
 m:cap<=maxLen
 r:∀ x∈l,nA x
open Go.ChangeShapes Go.WideShapes Go.RowKit
theorem Zq:prog.cellsOf 3=1:=by kernel_rfl
theorem Ku:prog.bytesOf 3=8:=by kernel_rfl
theorem zf0 {n:Int}(h:(Lit.int .i64 n).wf=true):nA n:=by
 simp only[Lit.wf,aZ,decide_eq_true_eq] at h;have e1:IntKind.i64.min=-9223372036854775808:=by decide
 have e2:IntKind.i64.max=9223372036854775807:=by decide
 rw[e1,e2] at h;exact h
theorem qok {H:Type}{enc:TypeId×fC->H}{W:fu}{base:Nat}{d:DataW H}{p:List MemPlace}(hval:Value.okWide prog W .any base 22 v)(h:DataW.Trod enc prog W 0 (fun _=>true) true 22 v d p)(hz:∀ elems spare,d=.slice elems spare->(elems.length+spare.length) * prog.bytesOf 3<=reachBytes) :
  ∃ ad cap l,v=.slice ad l.length cap/\kZ W ad cap l/\∀ W',Below W.heap.size W W'->DataW.Trod enc prog W' 0 (fun b=>decide (b < W.heap.size)) true 22 v d p:=by
 obtain ⟨a0,len,cap,rfl⟩:=okWide_slice underlying22 hval;obtain ⟨fuel,hf⟩:=h;rcases open_ints underlying22 underlying3 Zq hf with ⟨hcs,hx⟩ | ⟨a,len',cap',zs,hcs,_,hl,hm,hzl,hx,hcell,hwz⟩
 ·simp[Value.cells] at hcs;obtain ⟨rfl,rfl,rfl⟩:=hcs;simp only[Prod.mk.injEq] at hx;obtain ⟨rfl,rfl⟩:=hx;exact ⟨none,0,[],rfl,⟨⟨none,0,rfl,aK _,by decide,fun i hi=>absurd hi (bO _)⟩,aj _,aK _,fun x hx=>nomatch hx⟩,fun W' _=>⟨1,by simp[Value.cells,DataW.trod,underlying22]⟩⟩
 ·simp[Value.cells] at hcs;obtain ⟨rfl,rfl,rfl⟩:=hcs;simp only[Prod.mk.injEq] at hx;obtain ⟨rfl,rfl⟩:=hx;simp only[if_true] at hzl;have hsz:=hz _ _ rfl;rw[Ku] at hsz;have hll:(zs.take len).length=len:=by rw[bU];omega
  have hcap:cap * 8<=140737488355328:=by
   have:(lits (H:=H) .i64 (zs.take len)).length+(lits (H:=H) .i64 (zs.drop len)).length=cap:=by simp[lits];omega
   rw[this] at hsz
   have:reachBytes=140737488351232:=by decide
   omega
  have hblk:0 < cap->a.block < W.heap.size:=fun h0=>by
   have h1:=hcell 0 (by omega)
   have h2:a.add 0=a:=by simp[Addr.add]
   rw[h2] at h1;rcases dD a.block W.heap.size with h | h
   ·exact h
   ·exfalso;simp[World.cell?,Array.getElem?_eq_none h] at h1
  refine ⟨some a,cap,zs.take len,by rw[hll],⟨⟨some a,cap,by rw[hll],by omega,by omega,fun i hi=>?_⟩,by omega,hm,fun x hx=>?_⟩,fun W' hb=>⟨2,?_⟩⟩
  ·rw[hll] at hi;refine ⟨a,rfl,hblk (by omega),?_⟩
   rw[hcell i (by omega)]
   simp[List.getD,List.getElem_take,show i < zs.length by omega]
  ·exact zf0 (hwz x (List.mem_of_mem_take hx))
  ·have:=shut_ints (enc:=enc) (P:=prog) (w:=W') (base:=0) (spare:=fun b=>decide (b < W.heap.size)) (held:=true) (a:=a) (len:=len) (cap:=cap) (zs:=zs) 0 underlying22 underlying3 Zq (aK _) hl hm
    (by
     rcases Nat.eq_zero_or_pos cap with h0 | h0
     ·split<;>omega
     ·simp[hblk h0,hzl])
    (fun i hi=>by
     have hbk:=hblk (by omega)
     rw[aF (w:=W) (a:=a.add i) (hb.block _ (by rw[block_add];exact hbk))]
     exact hcell i hi) hwz
   simpa [Value.cells] using this
