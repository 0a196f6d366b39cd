import Derived.Test.YthanmfbakpcigaaGreatDoorT40
import Derived.ChangeSlices
import Derived.SizedLaws
import Derived.OpenShut
set_option maxRecDepth 100000
set_option maxHeartbeats 4000000
namespace Go.Proofs.YthanmfbakpcigaaGreatDoor
open Go.RowKit
namespace Lw
theorem zci {s:ByteArray} (hc:Px.check s=(0,0)) (l:List Int):∃ A x,Px.run s l=(A,x,0,0)∧A.length≤l.length+1∧∀ i q,A[i]?=some q→1≤q.nth∧q.nth≤(if q.undo then 3 else 5)∧(1 < q.nth→∃ j v b,i=j+1∧A[j]?=some b∧l[j]?=some v∧v < 0∧b.word=q.word∧b.arg=q.arg∧b.undo=q.undo∧b.nth+1=q.nth):=by
 cases hr:Px.read s with
 | error r =>
  have:=qkp hr
  rw[Px.qf4 hr] at hc;exact absurd hc this
 | ok t =>
  have l1:=Px.qkq hr hc (Px.qap t ⟨[],0,0⟩).vars l;exact ⟨_,_,Ed.qpa hr hc l,l1.len,l1.tried⟩
theorem zb2 (E F:Nat→Addr) (s:ByteArray) (l:List Int) (ad:Option Addr) (cap:Nat) (w:World) (hs:s.size≤maxLen) (g:Ed.Gr w E F) (ha:ArgAt w ad cap l) :
  Calls Tryz.prog 5 #[.string s,.slice ad l.length cap] w fun e w'=>e=.returned (.bool true)∧Below w.heap.size w w':=by
 have HC:Hid (_):=qe7 E F w g;have hc:=ha.c;have hm:=ha.m;unfold maxLen at hm;have H2:Hid (∀ W,Below w.heap.size w W→qg0 s l (.slice ad l.length cap) w W):=fun W hW=>qog hs g ha W hW
 have H3:Hid (∀ W,Calls Tryz.prog 13 #[.string s] W fun e w'=>e=.returned (.tuple #[.int .i64 ((Px.check s).1:Int),.int .i64 ((Px.check s).2:Int)])∧Below W.heap.size W w'):=fun W=>Ref.qhx s W hs
 have hl2:=qpb s l;have hl8:l.length≤140737488355328:=by
  obtain ⟨_,_,_,_,h2,_⟩:=ha.a;omega
 have HA:Hid (∀ i (hi:i < l.length),∃ a:Addr,ad=some a∧a.block < w.heap.size∧w.cell? (a.add i)=some (.int .i64 l[i])):=by
  obtain ⟨ad',cap',e,_,_,h3⟩:=ha.a;cases e;exact h3
 clear g hs ha;unfold qg0 at H2;by_cases hck:Px.check s=(0,0)
 ·obtain ⟨A,x,hrun,hA,hT⟩:=zci hck l;simp only[hrun] at H2 hl2;simp only[hck] at H3;have HT:Hid (∀ i q,A[i]?=some q→1≤q.nth∧q.nth≤(if q.undo then 3 else 5)∧(1 < q.nth→∃ j v b,i=j+1∧A[j]?=some b∧l[j]?=some v∧v < 0∧b.word=q.word∧b.arg=q.arg∧b.undo=q.undo∧b.nth+1=q.nth)):=hT
  have hgt:¬ ((l.length:Int)+1 < (A.length:Int)):=by omega
  clear hT hrun;go_enter Tryz.func5,Tryz.ntmps5
  go_wp2_with fail;refine Calls.mono HC.out ?_;rintro e w1 ⟨rfl,b1⟩;have K1:Hid (Below w.heap.size w w1):=b1;clear b1 HC;go_wp2_with fail;refine Calls.mono (H2.out _ K1.out) ?_;rintro e w4 ⟨a4,n4,c4,rfl,Q4⟩;go_wp2_with fail;refine Calls.mono Q4.out ?_;rintro e w5 ⟨a5,c5,rfl,K5⟩;go_wp2_with fail;refine Calls.mono (H3.out _) ?_;rintro e w6 ⟨rfl,b6⟩;have K6:Hid (Below w.heap.size w w6∧AsksAt w6 (.slice a5 A.length c5) A):=⟨K5.out.1.trans (b6.mono K5.out.1.size),K5.out.2.2.keep b6⟩;clear b6 H2 H3 Q4 K1 K5;go_wp2_with fail;refine (qdl _ _).mono ?_;rintro e w8 ⟨rfl,rfl⟩;go_wp2_with fail;go_loopw [12] (fun i wr=>∃ j:Nat,j≤A.length∧i=.int .i64 j∧Hid (Below w.heap.size w wr∧AsksAt wr (.slice a5 A.length c5) A)) (fun i _=>A.length - (intOf i).toNat)
  case atStart=>exact ⟨0,by omega,rfl,K6⟩
  case round =>
   clear K6;obtain ⟨j,hj,rfl,K6⟩:=hrel;by_cases hlt:j < A.length
   ·obtain ⟨ad2,cp2,e2,h22⟩:=K6.out.2.ex;cases e2;obtain ⟨t1,t2,t3⟩:=HT.out j A[j] (List.getElem?_eq_getElem hlt);obtain ⟨g2,rfl,q1,q2,q3,q4⟩:=h22 j hlt;have hlt':(j:Int) < (A.length:Int):=by omega
    by_cases h1:1 < A[j].nth
    ·obtain ⟨k,v,b,hjk,e1,e2,e3,e4,e5,e6,e7⟩:=t3 h1;have hk:k < A.length:=by omega
     have ek:A[k]=b:=Option.some.inj ((List.getElem?_eq_getElem hk).symm.trans e1);have hkl:k < l.length:=(List.getElem?_eq_some_iff.1 e2).1;have el:l[k]=v:=Option.some.inj ((List.getElem?_eq_getElem hkl).symm.trans e2);obtain ⟨g3,e8,p1,p2,p3,p4⟩:=h22 k hk;cases e8;rw[ek] at p1 p2 p3 p4;obtain ⟨aa,rfl,ab,ac⟩:=HA.out k hkl;rw[el] at ac;have ac2:wr.cell? (aa.add k)=some (.int .i64 v):=by
      have hbl:(aa.add k).block < w.heap.size:=by unfold Addr.add;split<;>exact ab
      rw[K6.out.1.cell hbl];exact ac
     clear ac e1 e2 ek el t3 h22;generalize A[j]=q at *;obtain ⟨word,arg,nth,und⟩:=q;obtain ⟨word',arg',nth',und'⟩:=b;dsimp only at *;subst e4 e5 e6;have hv:¬ (0≤v):=by omega
     have hi0:¬ ((j:Int)=0):=by omega
     have hj00:¬ (j=0):=by omega
     have hb4:decide (0≤v)=false:=by simp;omega
     have hb5:decide (v < 0)=true:=by simp;omega
     have hb0:((j:Int) == 0)=false:=by simp;omega
     have hb1:decide ((j:Int)=0)=false:=by simp;omega
     have hb2:decide (j=0)=false:=by simp;omega
     have hb3:(j == 0)=false:=by simp;omega
     have hkl':(k:Int) < (l.length:Int):=by omega
     have hk':(k:Int) < (A.length:Int):=by omega
     have hn5:nth≤5:=by split at t2<;>omega
     have hw1:IntKind.i64.wrap ((j:Int) - 1)=(k:Int):=by rw[IntKind.wrap_i64];omega
     have hw2:IntKind.i64.wrap ((nth:Int) - 1)=(nth':Int):=by rw[IntKind.wrap_i64];omega
     have hj1:j+1≤A.length:=hlt;clear e7 hjk;cases und'
     all_goals
      simp only[Bool.false_eq_true,if_false,if_true] at t2;go_wp2_with fail
      try dsimp only[List.append]
      go_big_region
      all_goals
       go_wp2_with fail;exact ⟨⟨j+1,hj1,by go_num,K6.out.1.drew,K6.out.2.keep (Below.refl _ _).drew⟩,by simp[intOf];omega⟩
    ·clear t3 h22;generalize A[j]=q at *;obtain ⟨word,arg,nth,und⟩:=q;dsimp only at *;obtain rfl:nth=1:=by omega
     cases und
     all_goals
      go_wp2_with fail;exact ⟨⟨j+1,by omega,by go_num,K6⟩,by simp[intOf];omega⟩
   ·obtain rfl:j=A.length:=by omega
    go_wp2_with fail;go_ret;exact ⟨rfl,K6.out.1⟩
 ·have e2:=qqc (a:=l) hck;have hne:¬ (((Px.check s).1:Int)=0):=fun h=>hck (qqd (by omega))
  simp only[e2] at H2;clear e2 hl2 HA;generalize Px.check s=R at *;obtain ⟨r1,r2⟩:=R;dsimp only at *;go_enter Tryz.func5,Tryz.ntmps5
  go_wp2_with fail;refine Calls.mono HC.out ?_;rintro e w1 ⟨rfl,b1⟩;have K1:Hid (Below w.heap.size w w1):=b1;clear b1 HC;go_wp2_with fail;refine Calls.mono (H2.out _ K1.out) ?_;rintro e w4 ⟨a4,n4,c4,rfl,Q4⟩;go_wp2_with fail;refine Calls.mono Q4.out ?_;rintro e w5 ⟨a5,c5,rfl,K5⟩;go_wp2_with fail;refine Calls.mono (H3.out _) ?_;rintro e w6 ⟨rfl,b6⟩;have K6:Hid (Below w.heap.size w w6):=K5.out.1.trans (b6.mono K5.out.1.size);clear b6;go_wp2_with fail;refine (qdl _ _).mono ?_;rintro e w8 ⟨rfl,rfl⟩;go_wp2_with fail;go_ret;exact ⟨rfl,K6.out⟩
open Go.ChangeShapes Go.WideShapes Go.RowKit
theorem zx3:Tryz.prog.cellsOf 3=1:=by kernel_rfl
theorem bInt8:Tryz.prog.bytesOf 3=8:=by kernel_rfl
theorem zf0 {n:Int} (h:(Lit.int .i64 n).wf=true):Px.R64 n:=by
 simp only[Lit.wf,Bool.and_eq_true,decide_eq_true_eq] at h;have e1:IntKind.i64.min=-9223372036854775808:=by decide
 have e2:IntKind.i64.max=9223372036854775807:=by decide
 rw[e1,e2] at h;exact h
theorem qok {H:Type} {enc:TypeId×Value→H} {W:World} {base:Nat} {v:Value} {d:DataW H} {p:List MemPlace} (hval:Value.okWide Tryz.prog W .any base 22 v)
  (h:DataW.Trod enc Tryz.prog W 0 (fun _=>true) true 22 v d p)
  (hz:∀ elems spare,d=.slice elems spare→(elems.length+spare.length) * Tryz.prog.bytesOf 3≤reachBytes) :
  ∃ ad cap l,v=.slice ad l.length cap∧ArgAt W ad cap l∧∀ W',Below W.heap.size W W'→DataW.Trod enc Tryz.prog W' 0 (fun b=>decide (b < W.heap.size)) true 22 v d p:=by
 obtain ⟨a0,len,cap,rfl⟩:=okWide_slice Tryz.underlying22 hval;obtain ⟨fuel,hf⟩:=h;rcases open_ints Tryz.underlying22 Tryz.underlying3 zx3 hf with ⟨hcs,hx⟩ | ⟨a,len',cap',zs,hcs,_,hl,hm,hzl,hx,hcell,hwz⟩
 ·simp[Value.cells] at hcs;obtain ⟨rfl,rfl,rfl⟩:=hcs;simp only[Prod.mk.injEq] at hx;obtain ⟨rfl,rfl⟩:=hx;exact ⟨none,0,[],rfl,⟨⟨none,0,rfl,Nat.zero_le _,by decide,fun i hi=>absurd hi (Nat.not_lt_zero _)⟩,Nat.le_refl _,Nat.zero_le _,fun x hx=>nomatch hx⟩,fun W' _=>⟨1,by simp[Value.cells,DataW.trod,Tryz.underlying22]⟩⟩
 ·simp[Value.cells] at hcs;obtain ⟨rfl,rfl,rfl⟩:=hcs;simp only[Prod.mk.injEq] at hx;obtain ⟨rfl,rfl⟩:=hx;simp only[if_true] at hzl;have hsz:=hz _ _ rfl;rw[bInt8] at hsz;have hll:(zs.take len).length=len:=by rw[List.length_take];omega
  have hcap:cap * 8≤140737488355328:=by
   have:(lits (H:=H) .i64 (zs.take len)).length+(lits (H:=H) .i64 (zs.drop len)).length=cap:=by simp[lits];omega
   rw[this] at hsz
   have:reachBytes=140737488351232:=by decide
   omega
  have hblk:0 < cap→a.block < W.heap.size:=fun h0=>by
   have h1:=hcell 0 (by omega)
   have h2:a.add 0=a:=by simp[Addr.add]
   rw[h2] at h1;rcases Nat.lt_or_ge a.block W.heap.size with h | h
   ·exact h
   ·exfalso;simp[World.cell?,Array.getElem?_eq_none h] at h1
  refine ⟨some a,cap,zs.take len,by rw[hll],⟨⟨some a,cap,by rw[hll],by omega,by omega,fun i hi=>?_⟩,by omega,hm,fun x hx=>?_⟩,fun W' hb=>⟨2,?_⟩⟩
  ·rw[hll] at hi;refine ⟨a,rfl,hblk (by omega),?_⟩
   rw[hcell i (by omega)]
   simp[List.getD,List.getElem_take,show i < zs.length by omega]
  ·exact zf0 (hwz x (List.mem_of_mem_take hx))
  ·have:=shut_ints (enc:=enc) (P:=Tryz.prog) (w:=W') (base:=0) (spare:=fun b=>decide (b < W.heap.size)) (held:=true) (a:=a) (len:=len) (cap:=cap) (zs:=zs) 0 Tryz.underlying22 Tryz.underlying3 zx3 (Nat.zero_le _) hl hm
    (by
     rcases Nat.eq_zero_or_pos cap with h0 | h0
     ·split<;>omega
     ·simp[hblk h0,hzl])
    (fun i hi=>by
     have hbk:=hblk (by omega)
     rw[World.cell?_of_block (w:=W) (a:=a.add i) (hb.block _ (by rw[block_add];exact hbk))]
     exact hcell i hi) hwz
   simpa [Value.cells] using this
end Lw
end Go.Proofs.YthanmfbakpcigaaGreatDoor
