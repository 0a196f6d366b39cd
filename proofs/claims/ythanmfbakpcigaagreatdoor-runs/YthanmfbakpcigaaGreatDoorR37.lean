import Derived.Test.YthanmfbakpcigaaGreatDoorR36
import Derived.Test.YthanmfbakpcigaaGreatDoorR09
import Derived.Test.YthanmfbakpcigaaGreatDoorR35
import Derived.Test.YthanmfbakpcigaaGreatDoorR02
import Derived.ChangeSlices
import Derived.SizedLaws
import Derived.OpenShut
set_option maxRecDepth 100000
set_option maxHeartbeats 4000000
namespace Go.Proofs.YthanmfbakpcigaaGreatDoor
open Go.RowKit
namespace Lw
theorem qoc {w:World} {B:Nat} {v:Value} {l:List Int} (h:w.ownsRow B 3 1 v l.length (Ref.intCells l)):Rn.GivenAt w v l:=by
 obtain ⟨ad,cap,rfl,hc⟩:=qe2 h;refine ⟨ad,cap,rfl,hc,fun i hi=>?_,fun q hq=>?_⟩
 ·obtain ⟨g,cap',e,_,_,_,h1⟩:=qi9 h (by omega)
  cases e;refine ⟨g,0,rfl,?_⟩;rw[Nat.zero_add];exact h1 i _ (by simp[Ref.intCells,hi])
 ·subst hq;exact (h.lt _ rfl).2
theorem zsz {w:World} {B:Nat} {v:Value} {l:List Int} (h:w.ownsRow B 3 1 v l.length (Ref.intCells l)) (hm:l.length≤maxLen):zbq w v l:=by
 obtain ⟨ad,cap,rfl,_⟩:=qe2 h;refine ⟨ad,cap,rfl,hm,fun i hi=>?_⟩
 obtain ⟨g,cap',e,_,_,_,h1⟩:=qi9 h (by omega)
 cases e;exact ⟨_,rfl,h.cells rfl i (.int .i64 l[i]) (by simp[Ref.intCells,hi])⟩
theorem zmo {w:World} {v:Value} {l:List Int} (h:Ref.AnsAt w v l):zbq w v l:=by
 obtain ⟨ad,cap,rfl,hm,_,h1⟩:=h;refine ⟨ad,cap,rfl,hm,fun i hi=>?_⟩
 obtain ⟨a,e,_,hc⟩:=h1 i hi;exact ⟨a,e,hc⟩
theorem qdl (e:Int) (w:World):Calls Tryz.prog 11 #[.int .i64 e] w fun r w'=>r=.returned (.int .i64 e)∧w'=w:=by
 go_enter Tryz.func11,Tryz.ntmps11
 go_wp2_with fail;go_ret;exact ⟨rfl,rfl⟩
theorem qpb (s:ByteArray) (a:List Int):(Px.run s a).1.length≤4000000:=by
 by_cases h:Px.check s=(0,0)
 ·cases hr:Px.read s with
  | error r=>rw[Px.qf4 hr] at h;subst h;unfold Px.run;rw[hr];simp
  | ok l=>rw[Ed.qpa hr h a];exact Ref.qz1 hr h a
 ·rw[Ed.qsn h a];simp
theorem own_below {w w':World} {B:Nat} {e:TypeId} {size n:Nat} {v:Value} {xs:List Value} (h:w.ownsRow B e size v n xs) (k:Below w.heap.size w w'):w'.ownsRow B e size v n xs:=qah h ((Tch.refl (fun _=>False) w).below k) (fun _ _ h=>h)
theorem AsksAt.keep {w w':World} {v:Value} {l:List Px.Ask} (h:AsksAt w v l) (k:Below w.heap.size w w'):AsksAt w' v l:=by
 obtain ⟨ad,cap,e,h1⟩:=h.ex;refine ⟨ad,cap,e,fun i hi=>?_⟩
 obtain ⟨g,e1,c1,c2,c3,c4⟩:=h1 i hi;have hz:=lt_of_cell c1;exact ⟨g,e1,by rw[k.cell (p:=⟨g,i * 4,none⟩) hz];exact c1,by rw[k.cell (p:=⟨g,i * 4+1,none⟩) hz];exact c2,by rw[k.cell (p:=⟨g,i * 4+2,none⟩) hz];exact c3,by rw[k.cell (p:=⟨g,i * 4+3,none⟩) hz];exact c4⟩
structure Struck (w:World) (B:Nat) (v:Value) (n:Nat) (wr:World):Prop where
 t:Tch (fun k=>v.ownBlock=some k) w wr
 o:∃ xs,wr.ownsRow B 29 4 v n xs
theorem Struck.step {w wr:World} {B g n c:Nat} (h:Struck w B (.slice (some ⟨g,0,none⟩) n c) n wr) (j:Nat) (a b d e:Value):Struck w B (.slice (some ⟨g,0,none⟩) n c) n ((((wr.setCell ⟨g,j,none⟩ a).setCell ⟨g,j+1,none⟩ b).setCell ⟨g,j+2,none⟩ d).setCell ⟨g,j+3,none⟩ e):=by
 obtain ⟨xs,ho⟩:=h.o;exact ⟨(((h.t.setCell (p:=⟨g,j,none⟩) (Or.inl rfl) a).setCell (p:=⟨g,j+1,none⟩) (Or.inl rfl) b).setCell (p:=⟨g,j+2,none⟩) (Or.inl rfl) d).setCell (p:=⟨g,j+3,none⟩) (Or.inl rfl) e,_,((((ho.stored j a).1.stored (j+1) b).1.stored (j+2) d).1.stored (j+3) e).1⟩
theorem zfh (E F:Nat→Addr) (s:ByteArray) (l:List Int) (av:Value) (w:World) (hs:s.size≤maxLen) (g:Ed.Gr w E F) (ha:Ref.AnsAt w av l) (hr:∀ x∈l,Px.R64 x) :
  Calls Tryz.prog 3 #[.string s,av] w fun e w'=>e=.returned (.bool true)∧Below w.heap.size w w':=by
 have HC:Hid (_):=qm4 l av w ha;have G0:Hid (Ed.Gr w E F∧s.size≤maxLen∧Ref.AnsAt w av l∧(∀ x∈l,Px.R64 x)∧l.length≤140737488355328∧l.length≤maxLen):=by
  obtain ⟨ad,cap,e,h1,h2,h3⟩:=id ha;exact ⟨g,hs,ha,hr,by omega,h1⟩
 obtain ⟨ad,cap,rfl,_⟩:=id ha;clear g hs ha hr;go_enter Tryz.func3,Tryz.ntmps3
 go_wp2_with fail;refine Calls.mono HC.out ?_;rintro e w1 ⟨v1,rfl,b1,o1⟩;have g1:=G0.out.1.below b1;have H1:Hid (_):=Ed.qh2 E F s l v1 w1 G0.out.2.1 g1 (qoc o1) G0.out.2.2.2.2.1 G0.out.2.2.2.1;have K1:Hid (Below w.heap.size w w1∧w1.ownsRow w.heap.size 3 1 v1 l.length (Ref.intCells l)):=⟨b1,o1⟩;obtain ⟨a1,n1,c1,rfl⟩:=Ref.qad o1;clear b1 o1 g1 HC;go_wp2_with fail;refine Calls.mono H1.out ?_;rintro e w2 ⟨b2,v2,rfl,o2⟩;have H2:Hid (_):=Ed.qh2 E F s l (.slice a1 n1 c1) w2 G0.out.2.1 ((G0.out.1.below K1.out.1).below b2) (Ed.GivenAt.below (qoc K1.out.2) b2) G0.out.2.2.2.2.1 G0.out.2.2.2.1
 have K2:Hid (Below w1.heap.size w1 w2∧w2.ownsRow w1.heap.size 29 4 v2 (Px.run s l).1.length (Rn.askC (Px.run s l).1)):=⟨b2,o2⟩;obtain ⟨a2,n2,c2,rfl⟩:=Ref.qad o2;clear b2 o2 H1;go_wp2_with fail;refine Calls.mono H2.out ?_;rintro e w3 ⟨b3,v3,rfl,o3⟩;obtain ⟨a3,c3,rfl,_⟩:=qe2 o3;have hlen:(Px.run s l).1.length≤4000000:=qpb s l;have K3:Hid (Below w2.heap.size w2 w3∧w3.ownsRow w2.heap.size 29 4 (.slice a3 (Px.run s l).1.length c3) (Px.run s l).1.length (Rn.askC (Px.run s l).1)):=⟨b3,o3⟩;clear b3 o3 H2;generalize hrun:Px.run s l=R at *;obtain ⟨asks,over,er,pl⟩:=R;dsimp only at *;go_wp2_with fail
 go_loopw [14] (fun i wr=>∃ j:Nat,j≤asks.length∧i=.int .i64 j∧Hid (Struck w3 w2.heap.size (.slice a3 asks.length c3) asks.length wr)) (fun i _=>asks.length - (intOf i).toNat)
 case atStart=>exact ⟨0,by omega,rfl,Tch.refl _ _,_,K3.out.2⟩
 case round =>
  obtain ⟨j,hj,rfl,hr⟩:=hrel;by_cases hlt:j < asks.length
  ·obtain ⟨xs,ho⟩:=hr.out.o;obtain ⟨g3,c3',e3,q1,q2,q3,q4⟩:=qi9 ho (by omega)
   cases e3;have hxl:xs.length=asks.length * 4:=ho.1;have p1:=q4 (j * 4) _ (List.getElem?_eq_getElem (by omega))
   have p2:=q4 (j * 4+1) _ (List.getElem?_eq_getElem (by omega))
   have p3:=q4 (j * 4+2) _ (List.getElem?_eq_getElem (by omega))
   have p4:=q4 (j * 4+3) _ (List.getElem?_eq_getElem (by omega))
   have f0:=ho.frozenAt;have hlt':(j:Int) < (asks.length:Int):=by omega
   clear q4 ho;go_wp2_with fail;exact ⟨⟨j+1,by omega,by go_num,hr.out.step (j * 4) _ _ _ _⟩,by simp[intOf];omega⟩
  ·obtain rfl:j=asks.length:=by omega
   have b4:Below w2.heap.size w3 wr:=hr.out.t.qbg K3.out.1.size fun k hk=>(K3.out.2.lt k hk).1
   have b24:Below w2.heap.size w2 wr:=K3.out.1.trans b4;have o2:wr.ownsRow w1.heap.size 29 4 (.slice a2 n2 c2) asks.length (Rn.askC asks):=own_below K2.out.2 b24;have b14:Below w1.heap.size w1 wr:=K2.out.1.trans (b24.mono K2.out.1.size);have o1:wr.ownsRow w.heap.size 3 1 (.slice a1 n1 c1) l.length (Ref.intCells l):=own_below K1.out.2 b14;have b04:Below w.heap.size w wr:=K1.out.1.trans (b14.mono K1.out.1.size);have H5:Hid (_):=Ref.zr7 s l (.slice ad l.length cap) wr G0.out.2.1 (G0.out.2.2.1.keep b04);have K5:Hid (_∧_∧_):=⟨b04,o1,o2⟩;clear b4 b24 o2 b14 o1 b04 hr;go_wp2_with fail;refine Calls.mono H5.out ?_
   rintro e w5 ⟨b5,v5,rfl,o5⟩;rw[hrun] at o5;dsimp only at o5;have H6:Hid (_):=zn3 l (.slice a1 n1 c1) (.slice ad l.length cap) w5 (zsz (own_below K5.out.2.1 b5) G0.out.2.2.2.2.2) (zmo (G0.out.2.2.1.keep (K5.out.1.trans (b5.mono K5.out.1.size))));have K6:Hid (Below w.heap.size w w5∧AsksAt w5 (.slice a2 n2 c2) asks∧w5.ownsRow wr.heap.size 66 4 v5 asks.length (Rn.askC asks)):=⟨K5.out.1.trans (b5.mono K5.out.1.size),qm8 (own_below K5.out.2.2 b5),o5⟩;obtain ⟨a5,n5,c5,rfl⟩:=Ref.qad o5;clear b5 o5 H5;simp only[hrun];go_wp2_with fail;refine Calls.mono H6.out ?_;rintro e w6 ⟨rfl,b6⟩
   have H7:Hid (_):=zli asks (.slice a2 n2 c2) (.slice a5 n5 c5) w6 (K6.out.2.1.keep b6) (qm8 (own_below K6.out.2.2 b6)) hlen;have K7:Hid (Below w.heap.size w w6):=K6.out.1.trans (b6.mono K6.out.1.size);clear b6 H6;go_wp2_with fail;refine Calls.mono H7.out ?_;rintro e w7 ⟨rfl,b7⟩;have K8:Hid (Below w.heap.size w w7):=K7.out.trans (b7.mono K7.out.size);clear b7 H7;go_wp2_with fail;refine (qdl _ _).mono ?_;rintro e w8 ⟨rfl,rfl⟩;go_wp2_with fail;go_ret;exact ⟨rfl,K8.out⟩
open Go.RowKit
structure ArgAt (w:World) (ad:Option Addr) (cap:Nat) (l:List Int):Prop where
 a:Ref.AnsAt w (.slice ad l.length cap) l
 c:l.length≤cap
 m:cap≤maxLen
 r:∀ x∈l,Px.R64 x
open Go.ChangeShapes Go.WideShapes Go.RowKit
theorem zx3:Tryz.prog.cellsOf 3=1:=by kernel_rfl
theorem bInt8:Tryz.prog.bytesOf 3=8:=by kernel_rfl
theorem zf0 {n:Int} (h:(Lit.int .i64 n).wf=true):Px.R64 n:=by
 simp only[Lit.wf,Bool.and_eq_true,decide_eq_true_eq] at h;have e1:IntKind.i64.min=-9223372036854775808:=by decide
 have e2:IntKind.i64.max=9223372036854775807:=by decide
 rw[e1,e2] at h;exact h
theorem qok {H:Type} {enc:TypeId×Value→H} {W:World} {base:Nat} {v:Value} {d:DataW H} {p:List MemPlace} (hval:Value.okWide Tryz.prog W .any base 22 v)
  (h:DataW.Trod enc Tryz.prog W 0 (fun _=>true) true 22 v d p)
  (hz:∀ elems spare,d=.slice elems spare→(elems.length+spare.length) * Tryz.prog.bytesOf 3≤reachBytes) :
  ∃ ad cap l,v=.slice ad l.length cap∧ArgAt W ad cap l∧∀ W',Below W.heap.size W W'→DataW.Trod enc Tryz.prog W' 0 (fun b=>decide (b < W.heap.size)) true 22 v d p:=by
 obtain ⟨a0,len,cap,rfl⟩:=okWide_slice Tryz.underlying22 hval;obtain ⟨fuel,hf⟩:=h;rcases open_ints Tryz.underlying22 Tryz.underlying3 zx3 hf with ⟨hcs,hx⟩ | ⟨a,len',cap',zs,hcs,_,hl,hm,hzl,hx,hcell,hwz⟩
 ·simp[Value.cells] at hcs;obtain ⟨rfl,rfl,rfl⟩:=hcs;simp only[Prod.mk.injEq] at hx;obtain ⟨rfl,rfl⟩:=hx;exact ⟨none,0,[],rfl,⟨⟨none,0,rfl,Nat.zero_le _,by decide,fun i hi=>absurd hi (Nat.not_lt_zero _)⟩,Nat.le_refl _,Nat.zero_le _,fun x hx=>nomatch hx⟩,fun W' _=>⟨1,by simp[Value.cells,DataW.trod,Tryz.underlying22]⟩⟩
 ·simp[Value.cells] at hcs;obtain ⟨rfl,rfl,rfl⟩:=hcs;simp only[Prod.mk.injEq] at hx;obtain ⟨rfl,rfl⟩:=hx;simp only[if_true] at hzl;have hsz:=hz _ _ rfl;rw[bInt8] at hsz;have hll:(zs.take len).length=len:=by rw[List.length_take];omega
  have hcap:cap * 8≤140737488355328:=by
   have:(lits (H:=H) .i64 (zs.take len)).length+(lits (H:=H) .i64 (zs.drop len)).length=cap:=by simp[lits];omega
   rw[this] at hsz
   have:reachBytes=140737488351232:=by decide
   omega
  have hblk:0 < cap→a.block < W.heap.size:=fun h0=>by
   have h1:=hcell 0 (by omega)
   have h2:a.add 0=a:=by simp[Addr.add]
   rw[h2] at h1;rcases Nat.lt_or_ge a.block W.heap.size with h | h
   ·exact h
   ·exfalso;simp[World.cell?,Array.getElem?_eq_none h] at h1
  refine ⟨some a,cap,zs.take len,by rw[hll],⟨⟨some a,cap,by rw[hll],by omega,by omega,fun i hi=>?_⟩,by omega,hm,fun x hx=>?_⟩,fun W' hb=>⟨2,?_⟩⟩
  ·rw[hll] at hi;refine ⟨a,rfl,hblk (by omega),?_⟩
   rw[hcell i (by omega)]
   simp[List.getD,List.getElem_take,show i < zs.length by omega]
  ·exact zf0 (hwz x (List.mem_of_mem_take hx))
  ·have:=shut_ints (enc:=enc) (P:=Tryz.prog) (w:=W') (base:=0) (spare:=fun b=>decide (b < W.heap.size)) (held:=true) (a:=a) (len:=len) (cap:=cap) (zs:=zs) 0 Tryz.underlying22 Tryz.underlying3 zx3 (Nat.zero_le _) hl hm
    (by
     rcases Nat.eq_zero_or_pos cap with h0 | h0
     ·split<;>omega
     ·simp[hblk h0,hzl])
    (fun i hi=>by
     have hbk:=hblk (by omega)
     rw[World.cell?_of_block (w:=W) (a:=a.add i) (hb.block _ (by rw[block_add];exact hbk))]
     exact hcell i hi) hwz
   simpa [Value.cells] using this
end Lw
end Go.Proofs.YthanmfbakpcigaaGreatDoor
