import Derived.Shelf.Strconv.Clone
import Derived.Test.YtagpnplggopoeaaGreatDoorProg
import Derived.Test.YtagpnplggopoeaaGreatDoorT01
import Derived.Test.YtagpnplggopoeaaGreatDoorT02
import Derived.Test.YtagpnplggopoeaaGreatDoorT04
import Derived.Deep.RegionWith
import Derived.Test.YtagpnplggopoeaaGreatDoorT06
import Derived.Test.YtagpnplggopoeaaGreatDoorT09
import Derived.Test.YtagpnplggopoeaaGreatDoorT15
set_option maxRecDepth 100000
set_option maxHeartbeats 4000000
namespace Go.Proofs.YtagpnplggopoeaaGreatDoor
open Go.RowKit
open Go.Shelf
def cloneLays_ren:Go.Shelf.Ren:=⟨fun | 316=>237 | n=>n,fun | 9=>9 | 3=>3 | 4=>4 | 37=>184 | 0=>0 | 127=>356 | 5=>5 | n=>n,fun | n=>n⟩
theorem cloneLays:Go.Proofs.LaysM.n316 Tryz.prog cloneLays_ren:={
 mixed:=by kernel_rfl
 f316:=Tryz.func237.trans (congrArg some (by kernel_rfl))
 t0:=Tryz.underlying0
 a0:=Tryz.isAgg0
 z0:=Tryz.sizeOf0
 v0:=Tryz.zeroValue0
 t3:=Tryz.underlying3
 a3:=Tryz.isAgg3
 z3:=Tryz.sizeOf3
 v3:=Tryz.zeroValue3
 t4:=Tryz.underlying4
 a4:=Tryz.isAgg4
 z4:=Tryz.sizeOf4
 v4:=Tryz.zeroValue4
 t9:=Tryz.underlying9
 a9:=Tryz.isAgg9
 z9:=Tryz.sizeOf9
 v9:=Tryz.zeroValue9
 t37:=Tryz.underlying184
 a37:=Tryz.isAgg184
 z37:=Tryz.sizeOf184
 v37:=Tryz.zeroValue184
 t127:=Tryz.underlying356
 a127:=Tryz.isAgg356
 z127:=Tryz.sizeOf356
 v127:=Tryz.zeroValue356
 t5:=Tryz.underlying5
 a5:=Tryz.isAgg5
 z5:=Tryz.sizeOf5
 v5:=Tryz.zeroValue5
 i0:=by kernel_rfl
 i3:=by kernel_rfl
 i4:=by kernel_rfl
 i5:=by kernel_rfl
 i9:=by kernel_rfl
 i37:=by kernel_rfl
 i127:=by kernel_rfl }
theorem zdp (s:ByteArray) (w:World) (h:s.size≤10000000) :
  Calls Tryz.prog 237 #[.string s] w fun e w'=>e=.returned (.string s)∧Below w.heap.size w w':=Any.stringslite_Clone cloneLays s w (by omega)
open Go.RowKit
namespace Mk
def strCells (l:List ByteArray):List Value:=l.map Value.string
theorem qsi {w:World} {base:Nat} {va:Option Addr} {vn vc:Nat} {l:List ByteArray} (h:w.ownsRow base 9 1 (.slice va vn vc) l.length (strCells l)):vn=l.length∧l.length≤maxLen∧∀ i (hi:i < l.length),∃ g,va=some ⟨g,0,none⟩∧w.cell? ⟨g,i,none⟩=some (.string l[i]):=by
 rcases h.2 with ⟨h1,h2⟩ | ⟨g,cap,cur,h1,h2,h3,h4,h5,h6,h7⟩
 ·cases h1;exact ⟨h2.symm,by omega,fun i hi=>by omega⟩
 ·cases h1;refine ⟨rfl,by omega,fun i hi=>⟨g,rfl,?_⟩⟩
  have e:cur[i]?=(strCells l)[i]?:=by
   rw[← h7,List.getElem?_take_of_lt (by omega)];simp
  simp only[World.cell?,h3];rw[e];simp[strCells,hi]
theorem retI {k:IntKind} {a b:Int} (h:a=b):Ending.returned (.int k a)=.returned (.int k b):=by rw[h]
def idxI (l:List ByteArray) (x:ByteArray):Int:=if Px.hasW l x then (Px.idxW l x:Int) else -1
theorem qwb {l:List ByteArray} {x:ByteArray} {k:Nat} (h:∀ i (_:i < k) (hl:i < l.length),(l[i].toList == x.toList)=false):Px.hasW l x=Px.hasW (l.drop k) x∧(Px.hasW l x=true→Px.idxW l x=k+Px.idxW (l.drop k) x):=by
 induction k generalizing l with
 | zero=>exact ⟨rfl,fun _=>by simp⟩
 | succ k ih =>
  cases l with
  | nil=>exact ⟨rfl,fun h=>by cases h⟩
  | cons v l =>
   have h0:=h 0 (by omega) (by simp)
   simp only[List.getElem_cons_zero] at h0;obtain ⟨i1,i2⟩:=ih (l:=l) fun i hi hl=>h (i+1) (by omega) (by simpa using hl)
   rw[Px.hasW,h0,Bool.false_or,List.drop_succ_cons,Px.idxW,if_neg (by simp[h0])]
   exact ⟨i1,fun hh=>by rw[i2 hh];omega⟩
theorem qlu (l:List ByteArray) (x:ByteArray) (w:World) (base:Nat) (va:Option Addr) (vn vc:Nat) (h:w.ownsRow base 9 1 (.slice va vn vc) l.length (strCells l)) :
  Calls Tryz.prog 223 #[.slice va vn vc,.string x] w fun e w'=>e=.returned (.int .i64 (idxI l x))∧w'=w:=by
 obtain ⟨rfl,hml,hcell⟩:=qsi h;unfold maxLen at hml;have HC:Hid (_):=hcell;clear h hcell;go_enter Tryz.func223,Tryz.ntmps223
 go_wp2_with fail;go_loop [8] (fun i=>∃ k:Nat,k≤l.length∧i=.int .i64 k∧Hid (∀ i (_:i < k) (hl:i < l.length),(l[i].toList == x.toList)=false)) (fun i=>l.length - (intOf i).toNat)
 case atStart=>exact ⟨0,by omega,rfl,fun i hi _=>by omega⟩
 case round =>
  obtain ⟨k,hk,rfl,hv⟩:=hrel;by_cases hlt:k < l.length
  ·obtain ⟨g,rfl,hc⟩:=HC.out k hlt;have HB:Hid ((x.toList == l[k].toList)=(l[k].toList == x.toList)):=by unfold Hid;rw[Bool.eq_iff_iff,beq_iff_eq,beq_iff_eq];exact eq_comm
   cases hb:(x.toList == l[k].toList)
   ·go_wp2_with fail;refine ⟨⟨k+1,by omega,by go_num,fun i hi hl=>?_⟩,by simp[intOf];omega⟩
    by_cases e:i=k
    ·subst e;rw[← HB.out];exact hb
    ·exact hv.out i (by omega) hl
   ·go_wp2_with fail;go_ret;refine ⟨retI ?_,rfl⟩;obtain ⟨e1,e2⟩:=qwb hv.out;have hd:l.drop k=l[k]::l.drop (k+1):=List.drop_eq_getElem_cons hlt;have hh:Px.hasW l x=true:=by rw[e1,hd,Px.hasW,← HB.out,hb];rfl
    unfold idxI;rw[if_pos hh,e2 hh,hd,Px.idxW,if_pos (by rw[← HB.out];exact hb)]
    simp
  ·go_wp2_with fail;go_ret;refine ⟨retI ?_,rfl⟩;obtain ⟨e1,_⟩:=qwb hv.out;unfold idxI;rw[if_neg];rw[e1,List.drop_of_length_le (by omega)]
   simp[Px.hasW]
theorem zww {W:World} {b:Nat} {p:Value} {t:TypeId} (h:W.heap[b]?=some (.cells #[p] t)):∀ j u,[p][j]?=some u→W.cell? ((⟨b,0,none⟩:Addr).add j)=some u:=by
 intro j u hj;match j,hj with
 | 0,hj=>simp at hj;subst hj;simp[Addr.add,World.cell?,h]
theorem zjb (s:ByteArray) (w:World) (h:s.size≤10000000) :
  Calls Tryz.prog 224 #[.string s] w fun e w'=>e=.returned (.string s)∧Below w.heap.size w w':=by
 go_enter Tryz.func224,Tryz.ntmps224
 go_wp2_with fail;refine (zdp s _ h).mono ?_;rintro e w1 ⟨rfl,h1⟩;have H1:Hid (_):=h1;clear h1;go_wp2_with fail;go_ret;exact ⟨rfl,H1.out⟩
theorem zt3:(Tryz.prog.info? 9).map (fun i=>(i.zero,i.size,i.bytes))=some (some (.string ⟨#[]⟩),1,16):=by kernel_rfl
def qy0 (B c o:Nat) (ws:List ByteArray) (x:ByteArray) (v:Value) (w:World) (e:Ending) (w':World):Prop :=
 e=.returned (.int .i64 (Px.idxW (Px.addW ws x) x:Int)) ∧
  ((Px.hasW ws x=true∧Tch (fun _=>False) w w')∨(Px.hasW ws x=false∧∃ v' w3,w'=w3.setCell ⟨c,o,none⟩ v'∧w3.ownsRow B 9 1 v' (ws.length+1) (strCells (ws++[x]))∧Tch (fun k=>v.ownBlock=some k) w w3∧(v'.ownBlock=v.ownBlock∨∃ n,v'.ownBlock=some n∧w.heap.size≤n∧n < w3.heap.size)))
theorem qd2 (B c o:Nat) (ws:List ByteArray) (x:ByteArray) (w:World) (va:Option Addr) (vn vc:Nat) (hB:B≤w.heap.size) (hx:x.size≤10000000) (hl:ws.length≤10000000) (h0:w.cell? ⟨c,o,none⟩=some (.slice va vn vc)) (hf:w.frozen? ⟨c,o,none⟩=false) (hne:(Value.slice va vn vc).ownBlock≠some c) (h:w.ownsRow B 9 1 (.slice va vn vc) ws.length (strCells ws)) :
  Calls Tryz.prog 191 #[.pointer (some ⟨c,o,none⟩),.string x] w (qy0 B c o ws x (.slice va vn vc) w):=by
 have hcz:c < w.heap.size:=lt_of_cell h0;have H:Hid (w.ownsRow B 9 1 (.slice va vn vc) ws.length (strCells ws)):=h;clear h;cases hh:Px.hasW ws x
 ·obtain ⟨i0,hi,hz0,hz1,hz2⟩:=info_parts zt3;have EI:Hid (idxI ws x=-1):=by unfold Hid idxI;rw[hh];rfl
  have HH:Hid (Px.hasW ws x=false):=hh;clear hh;go_enter Tryz.func191,Tryz.ntmps191
  go_wp2_with fail;refine (qlu ws x _ B _ _ _ H.out).mono ?_;rintro e w' ⟨rfl,rfl⟩;rw[EI.out];have CQ:Hid (∀ w1:World,Below w'.heap.size w' w1 →
    Hid ((w1.alloc (.cells #[.string x] 9)).ownsRow B 9 1 (.slice va vn vc) ws.length (strCells ws))∧Hid (∀ j u,[Value.string x][j]?=some u→(w1.alloc (.cells #[.string x] 9)).cell? ((⟨w1.heap.size,0,none⟩:Addr).add j)=some u)∧Hid (B≤(w1.alloc (.cells #[.string x] 9)).heap.size)∧w1.cell? ⟨c,o,none⟩=some (.slice va vn vc)∧c < w1.heap.size ∧
    Hid (∀ v' w3,w3.ownsRow B 9 1 v' (ws.length+1) (strCells ws++[.string x])→(w1.alloc (.cells #[.string x] 9)).grownBy w3 (Value.slice va vn vc).ownBlock→(v'.ownBlock=(Value.slice va vn vc).ownBlock∨v'.ownBlock=some (w1.alloc (.cells #[.string x] 9)).heap.size) →
     ∃ a1 c1,v'=.slice a1 (ws.length+1) c1∧w3.cell? ⟨c,o,none⟩=some (.slice va vn vc)∧w3.frozen? ⟨c,o,none⟩=false∧Hid (qy0 B c o ws x (.slice va vn vc) w' (.returned (.int .i64 (ws.length:Int))) (w3.setCell ⟨c,o,none⟩ v')))):=by
   intro w1 hb1;have hT0:Tch (fun _=>False) w' w1:=Tch.below (Tch.refl _ _) hb1
   have hT1:Tch (fun _=>False) w' (w1.alloc (.cells #[.string x] 9)):=hT0.alloc _
   have hc1:w1.heap[c]?=w'.heap[c]?:=hT0.block c hcz (fun h=>h)
   refine ⟨qah H.out hT1 (fun _ _ h=>h),?_,by have:=hT1.size;exact Nat.le_trans hB this,(World.cell?_of_block (w:=w') (a:=⟨c,o,none⟩) hc1).trans h0,by have:=hT0.size;omega,?_⟩
   ·refine zww (t:=9) ?_;show (w1.heap.push _)[w1.heap.size]?=_
    rw[Array.getElem?_push,if_pos rfl]
   ·intro v' w3 hown hg hloc;have hT3:Tch (fun k=>(Value.slice va vn vc).ownBlock=some k) w' w3:=(hT1.mono fun _ _ h=>h.elim).grown hg fun k hk=>Or.inl hk
    have hc3:w3.heap[c]?=w'.heap[c]?:=hT3.block c hcz hne;have e1:strCells (ws++[x])=strCells ws++[.string x]:=by simp[strCells]
    have e2:Px.idxW (Px.addW ws x) x=ws.length:=by unfold Px.addW;rw[if_neg (by rw[HH.out];simp)];exact Px.zoc HH.out
    have hloc':v'.ownBlock=(Value.slice va vn vc).ownBlock∨∃ n,v'.ownBlock=some n∧w'.heap.size≤n∧n < w3.heap.size:=by
     rcases hloc with hl | hl
     ·exact Or.inl hl
     ·exact Or.inr ⟨_,hl,hT1.size,(hown.lt _ hl).2⟩
    have hN:qy0 B c o ws x (.slice va vn vc) w' (.returned (.int .i64 (ws.length:Int))) (w3.setCell ⟨c,o,none⟩ v'):=⟨retI (by rw[e2]),Or.inr ⟨HH.out,v',w3,rfl,by rw[e1];exact hown,hT3,hloc'⟩⟩
    rcases hown.2 with ⟨rfl,h2⟩ | ⟨g,cap,cur,rfl,r⟩
    ·omega
    ·exact ⟨_,_,rfl,(World.cell?_of_block (w:=w') (a:=⟨c,o,none⟩) hc3).trans h0,(World.frozen?_of_block (w:=w') (a:=⟨c,o,none⟩) hc3).trans hf,hN⟩
  have O3:Hid (∀ u∈[Value.string x],u.oneCell'=true):=by intro u hu;simp at hu;subst hu;rfl
  have O4:Hid (ws.length+1≤maxLen):=by unfold Hid maxLen;omega
  have O5:Hid ((ws.length+1) * 16≤140737488355328):=by unfold Hid;omega
  go_wp2_with fail;go_region_law (first
   | (refine qbh rfl _ _ 119 rfl B 9 i0 (.string ⟨#[]⟩) 1 16 Tryz.underlying119 hi hz0 hz1 hz2 rfl (Nat.succ_pos 0) _ _ _ rfl O1.out _ 1 1 _ rfl rfl O2.out O3.out O4.out O5.out O6.out ?_;intro v' w3 hown' hgrow hloc;obtain ⟨a1,c1,rfl,hc3,hf3,HN⟩:=AQ.out v' w3 hown' hgrow hloc;clear hown' hgrow hloc)
   | (go_simp;go_wp2_with (go_at_call 224;refine (zjb x _ hx).mono ?_;rintro e w1 ⟨rfl,hb1⟩;obtain ⟨O1,O2,O6,hcc,hcz1,AQ⟩:=CQ.out w1 ⟨hb1.os,hb1.tape,hb1.output,hb1.size,hb1.block⟩;clear hb1)))
  all_goals
   go_wp2_with fail;go_ret;exact HN.out
 ·have EI:Hid (idxI ws x=(Px.idxW ws x:Int)):=by unfold Hid idxI;rw[hh];rfl
  have EJ:Hid (Px.idxW (Px.addW ws x) x=Px.idxW ws x):=by unfold Hid Px.addW;rw[if_pos hh]
  have HH:Hid (Px.hasW ws x=true):=hh;clear hh;go_enter Tryz.func191,Tryz.ntmps191
  go_wp2_with fail;refine (qlu ws x _ B _ _ _ H.out).mono ?_;rintro e w' ⟨rfl,rfl⟩;rw[EI.out];go_wp2_with fail;go_ret;exact ⟨retI (by rw[EJ.out]),Or.inl ⟨HH.out,Tch.refl _ _⟩⟩
open Go.RowKit
def qby (l:List Px.Ins):List Value:=l.flatMap fun i=>[.int .i64 (i.k:Int),.int .i64 (i.a:Int),.int .i64 (i.b:Int)]
theorem qtn (l:List Px.Ins) (i:Px.Ins):qby (l++[i])=qby l++[.int .i64 (i.k:Int),.int .i64 (i.a:Int),.int .i64 (i.b:Int)]:=by simp[qby]
structure MkAt (w:World) (B c:Nat) (L:List Px.Ins) (ws vs:List ByteArray) (vl vw vv:Value):Prop where
 hB:B≤c
 at_:w.heap[c]?=some (.cells #[vl,vw,vv] 133)
 list:w.ownsRow B 190 3 vl L.length (qby L)
 words:w.ownsRow B 9 1 vw ws.length (strCells ws)
 vars:w.ownsRow B 9 1 vv vs.length (strCells vs)
 sep:Sep B c w [vl,vw,vv]
theorem MkAt.lt {w:World} {B c:Nat} {L:List Px.Ins} {ws vs:List ByteArray} {vl vw vv:Value} (h:MkAt w B c L ws vs vl vw vv):c < w.heap.size:=(Array.getElem?_eq_some_iff.1 h.at_).1
theorem cells3 {w:World} {k:Nat} {a b c:Value} {t:TypeId} (hh:w.heap[k]?=some (.cells #[a,b,c] t)) :
  w.cell? ⟨k,0,none⟩=some a∧w.cell? ⟨k,1,none⟩=some b∧w.cell? ⟨k,2,none⟩=some c∧∀ o,w.frozen? ⟨k,o,none⟩=false:=by
 refine ⟨?_,?_,?_,?_⟩<;>simp[World.cell?,World.frozen?,hh]
theorem MkAt.turn {w w3:World} {B c o:Nat} {L:List Px.Ins} {ws vs:List ByteArray} {vl vw vv v v':Value} (h:MkAt w B c L ws vs vl vw vv) (ho:[vl,vw,vv][o]?=some v) (hT:Tch (fun k=>v.ownBlock=some k) w w3) (hloc:v'.ownBlock=v.ownBlock∨∃ n,v'.ownBlock=some n∧w.heap.size≤n∧n < w3.heap.size) :
  (w3.setCell ⟨c,o,none⟩ v').heap[c]?=some (.cells ((#[vl,vw,vv]:Array Value).setIfInBounds o v') 133)∧Below B w (w3.setCell ⟨c,o,none⟩ v')∧Tch (fun k=>v.ownBlock=some k∨k=c) w (w3.setCell ⟨c,o,none⟩ v')∧v'.ownBlock≠some c∧Sep B c (w3.setCell ⟨c,o,none⟩ v') ([vl,vw,vv].set o v'):=by
 have hcne:¬ v.ownBlock=some c:=fun e=>(h.sep.own v (List.mem_of_getElem? ho) c e).2.1 rfl
 have hc3:w3.heap[c]?=w.heap[c]?:=hT.block c h.lt hcne;have hT2:Tch (fun k=>v.ownBlock=some k∨k=c) w (w3.setCell ⟨c,o,none⟩ v'):=Tch.setCell (T:=fun k=>v.ownBlock=some k∨k=c) (hT.mono fun k _ hk=>Or.inl hk) (p:=⟨c,o,none⟩) (Or.inl (Or.inr rfl)) _
 have hBl:Below B w (w3.setCell ⟨c,o,none⟩ v'):=hT2.qbg (by have:=h.lt;have:=h.hB;omega) fun k hk=>by
  rcases hk with hk | rfl
  ·exact (h.sep.own v (List.mem_of_getElem? ho) k hk).1
  ·exact h.hB
 have hloc':v'.ownBlock=v.ownBlock∨v'.ownBlock=none∨∃ n,v'.ownBlock=some n∧w.heap.size≤n∧n < (w3.setCell ⟨c,o,none⟩ v').heap.size:=by
  rcases hloc with hl | ⟨n,hl,h1,h2⟩
  ·exact Or.inl hl
  ·exact Or.inr (Or.inr ⟨n,hl,h1,by simpa [World.setCell] using h2⟩)
 refine ⟨?_,hBl,hT2,?_,?_⟩
 ·rw[Ref.heap_set _ (hc3.trans h.at_)]
 ·intro e;rcases hloc with hl | ⟨n,hl,h1,h2⟩
  ·rw[hl] at e;exact hcne e
  ·rw[hl] at e;cases e;have:=h.lt;omega
 ·have hB:B≤w.heap.size:=by have:=h.lt;have:=h.hB;omega
  match o,ho with
  | 0,ho=>simp at ho;subst ho;exact Sep.turn (A:=[]) (R:=[vw,vv]) h.sep hT2.size hB h.lt hloc'
  | 1,ho=>simp at ho;subst ho;exact Sep.turn (A:=[vl]) (R:=[vv]) h.sep hT2.size hB h.lt hloc'
  | 2,ho=>simp at ho;subst ho;exact Sep.turn (A:=[vl,vw]) (R:=[]) h.sep hT2.size hB h.lt hloc'
  | o+3,ho=>simp at ho
theorem MkAt.other {w:World} {B c o j:Nat} {L:List Px.Ins} {ws vs:List ByteArray} {vl vw vv v u:Value} (h:MkAt w B c L ws vs vl vw vv) (ho:[vl,vw,vv][o]?=some v) (hj:[vl,vw,vv][j]?=some u) (hne:j≠o):∀ k,u.ownBlock=some k→¬ (v.ownBlock=some k∨k=c):=by
 intro k hk hh;rcases hh with hh | rfl
 ·exact h.sep.mem hj ho hne k hk hh
 ·exact (h.sep.own u (List.mem_of_getElem? hj) _ hk).2.1 rfl
theorem MkAt.same {w w':World} {B c:Nat} {L:List Px.Ins} {ws vs:List ByteArray} {vl vw vv:Value} (h:MkAt w B c L ws vs vl vw vv) (hT:Tch (fun _=>False) w w'):MkAt w' B c L ws vs vl vw vv∧Below B w w' :=
 ⟨⟨h.hB,by rw[hT.block c h.lt (fun h=>h)];exact h.at_,qah h.list hT (fun _ _ h=>h),qah h.words hT (fun _ _ h=>h),qah h.vars hT (fun _ _ h=>h),h.sep.world hT.size⟩,hT.qbg (by have:=h.lt;have:=h.hB;omega) fun _ h=>h.elim⟩
def qar (B c:Nat) (L:List Px.Ins) (ws vs:List ByteArray) (w w':World):Prop:=Below B w w'∧∃ vl vw vv,MkAt w' B c L ws vs vl vw vv
theorem qh0 (B c:Nat) (L:List Px.Ins) (ws vs:List ByteArray) (x:ByteArray) (vl vw vv:Value) (w:World) (h:MkAt w B c L ws vs vl vw vv) (hx:x.size≤10000000) (hl:ws.length≤10000000) :
  Calls Tryz.prog 192 #[.pointer (some ⟨c,0,none⟩),.string x] w fun e w'=>e=.returned (.int .i64 (Px.idxW (Px.addW ws x) x:Int))∧qar B c L (Px.addW ws x) vs w w':=by
 obtain ⟨c0,c1,c2,cf⟩:=cells3 h.at_;have hB:B≤w.heap.size:=by have:=h.lt;have:=h.hB;omega
 obtain ⟨a,n,k,rfl⟩:=Ref.qad h.words;have hne:(Value.slice a n k).ownBlock≠some c:=fun e=>(h.sep.own (.slice a n k) (by simp) c e).2.1 rfl
 have H:Hid (_):=h;clear h;go_enter Tryz.func192,Tryz.ntmps192
 go_wp2_with fail;refine (qd2 B c 1 ws x _ a n k hB hx hl c1 (cf 1) hne H.out.words).mono ?_;rintro e w1 ⟨rfl,h1⟩;have H1:Hid (_):=h1;clear h1;go_wp2_with fail;go_ret;refine ⟨rfl,?_⟩;rcases H1.out with ⟨hh,hT⟩ | ⟨hh,v',w3,rfl,hown,hT,hloc⟩
 ·obtain ⟨q1,q2⟩:=H.out.same hT;have e1:Px.addW ws x=ws:=by unfold Px.addW;rw[if_pos hh]
  rw[e1];exact ⟨q2,_,_,_,q1⟩
 ·obtain ⟨t1,t2,t3,t4,t5⟩:=H.out.turn (o:=1) rfl hT hloc;have e1:Px.addW ws x=ws++[x]:=by unfold Px.addW;rw[if_neg (by rw[hh];simp)]
  rw[e1];refine ⟨t2,vl,v',vv,H.out.hB,by rw[t1];rfl,qah H.out.list t3 (H.out.other (o:=1) (j:=0) rfl rfl (by decide)),?_,qah H.out.vars t3 (H.out.other (o:=1) (j:=2) rfl rfl (by decide)),t5⟩
  rw[List.length_append];exact ownsRow_setCell_other hown (a:=⟨c,1,none⟩) t4 _
theorem qce (B c:Nat) (L:List Px.Ins) (ws vs:List ByteArray) (x:ByteArray) (vl vw vv:Value) (w:World) (h:MkAt w B c L ws vs vl vw vv) (hx:x.size≤10000000) (hl:vs.length≤10000000) :
  Calls Tryz.prog 148 #[.pointer (some ⟨c,0,none⟩),.string x] w fun e w'=>e=.returned (.int .i64 (Px.idxW (Px.addW vs x) x:Int))∧qar B c L ws (Px.addW vs x) w w':=by
 obtain ⟨c0,c1,c2,cf⟩:=cells3 h.at_;have hB:B≤w.heap.size:=by have:=h.lt;have:=h.hB;omega
 obtain ⟨a,n,k,rfl⟩:=Ref.qad h.vars;have hne:(Value.slice a n k).ownBlock≠some c:=fun e=>(h.sep.own (.slice a n k) (by simp) c e).2.1 rfl
 have H:Hid (_):=h;clear h;go_enter Tryz.func148,Tryz.ntmps148
 go_wp2_with fail;refine (qd2 B c 2 vs x _ a n k hB hx hl c2 (cf 2) hne H.out.vars).mono ?_;rintro e w1 ⟨rfl,h1⟩;have H1:Hid (_):=h1;clear h1;go_wp2_with fail;go_ret;refine ⟨rfl,?_⟩;rcases H1.out with ⟨hh,hT⟩ | ⟨hh,v',w3,rfl,hown,hT,hloc⟩
 ·obtain ⟨q1,q2⟩:=H.out.same hT;have e1:Px.addW vs x=vs:=by unfold Px.addW;rw[if_pos hh]
  rw[e1];exact ⟨q2,_,_,_,q1⟩
 ·obtain ⟨t1,t2,t3,t4,t5⟩:=H.out.turn (o:=2) rfl hT hloc;have e1:Px.addW vs x=vs++[x]:=by unfold Px.addW;rw[if_neg (by rw[hh];simp)]
  rw[e1];refine ⟨t2,vl,vw,v',H.out.hB,by rw[t1];rfl,qah H.out.list t3 (H.out.other (o:=2) (j:=0) rfl rfl (by decide)),qah H.out.words t3 (H.out.other (o:=2) (j:=1) rfl rfl (by decide)),?_,t5⟩
  rw[List.length_append];exact ownsRow_setCell_other hown (a:=⟨c,2,none⟩) t4 _
open Go.RowKit
theorem zt4:(Tryz.prog.info? 190).map (fun i=>(i.zero,i.size,i.bytes))=some (some (.agg #[.int .i64 0,.int .i64 0,.int .i64 0]),3,24):=by kernel_rfl
theorem qxf:(Tryz.prog.info? 3).map (·.size)=some 1:=by kernel_rfl
theorem qnk (w:World) (c c':Array Value) (t:TypeId):(w.alloc (.cells c t)).setRow w.heap.size c'=w.alloc (.cells c' t):=by
 have:(w.heap.push (.cells c t)).modify w.heap.size (fun
   | .cells _ elem frozen=>.cells c' elem frozen
   | o=>o)=w.heap.push (.cells c' t):=by
  apply Array.ext_getElem?
  intro i;rw[Array.getElem?_modify,Array.getElem?_push,Array.getElem?_push];by_cases h:i=w.heap.size
  ·subst h;simp
  ·rw[if_neg (fun e=>h e.symm),if_neg h,if_neg h]
 exact congrArg (fun h=>({ w with heap:=h }:World)) this
theorem MkAt.zsd {w W:World} {B c:Nat} {L:List Px.Ins} {ws vs:List ByteArray} {vl vw vv:Value} (h:MkAt w B c L ws vs vl vw vv) (i:Px.Ins) (hW:Tch (fun _=>False) w W) :
  ∀ v' w3,w3.ownsRow B 190 3 v' (L.length+1) (qby L++[.int .i64 (i.k:Int),.int .i64 (i.a:Int),.int .i64 (i.b:Int)])→W.grownBy w3 vl.ownBlock→(v'.ownBlock=vl.ownBlock∨v'.ownBlock=some W.heap.size) →
   ∃ a1 n1 c1,v'=.slice a1 n1 c1∧w3.heap[c]?=some (.cells #[vl,vw,vv] 133)∧Hid (qar B c (L++[i]) ws vs w (w3.setCell ⟨c,0,none⟩ v')):=by
 intro v' w3 hown hg hloc;obtain ⟨a1,n1,c1,rfl⟩:=Ref.qad hown;have hT:Tch (fun k=>vl.ownBlock=some k) w w3:=(hW.mono fun _ _ h=>h.elim).grown hg fun k hk=>Or.inl hk
 have hcne:¬ vl.ownBlock=some c:=fun e=>(h.sep.own vl (by simp) c e).2.1 rfl
 have hloc':(Value.slice a1 n1 c1).ownBlock=vl.ownBlock∨∃ n,(Value.slice a1 n1 c1).ownBlock=some n∧w.heap.size≤n∧n < w3.heap.size:=by
  rcases hloc with hl | hl
  ·exact Or.inl hl
  ·exact Or.inr ⟨_,hl,hW.size,(hown.lt _ hl).2⟩
 obtain ⟨t1,t2,t3,t4,t5⟩:=h.turn (o:=0) rfl hT hloc';refine ⟨a1,n1,c1,rfl,(hT.block c h.lt hcne).trans h.at_,t2,.slice a1 n1 c1,vw,vv,h.hB,by rw[t1];rfl,?_,qah h.words t3 (h.other (o:=0) (j:=1) rfl rfl (by decide)),qah h.vars t3 (h.other (o:=0) (j:=2) rfl rfl (by decide)),t5⟩
 rw[List.length_append,qtn];exact ownsRow_setCell_other hown (a:=⟨c,0,none⟩) t4 _
theorem zwx {W:World} {b:Nat} {p q r:Value} {t:TypeId} (h:W.heap[b]?=some (.cells #[p,q,r] t)):∀ j u,[p,q,r][j]?=some u→W.cell? ((⟨b,0,none⟩:Addr).add j)=some u:=by
 intro j u hj;match j,hj with
 | 0,hj=>simp at hj;subst hj;simp[Addr.add,World.cell?,h]
 | 1,hj=>simp at hj;subst hj;simp[Addr.add,World.cell?,h]
 | 2,hj=>simp at hj;subst hj;simp[Addr.add,World.cell?,h]
theorem qsx (B c k x y m:Nat) (sa:Option Addr) (sn sc:Nat) (L:List Px.Ins) (ws vs:List ByteArray) (vl vw vv:Value) (w:World) (h:MkAt w B c L ws vs vl vw vv) (hl:L.length≤10000000)
  (hcp:(Builtin.copy_ #[22,22] 3 #[.slice (some ⟨w.heap.size,1,none⟩) 2 2,.slice sa sn sc]).run Tryz.prog (w.alloc (.cells #[.int .i64 (k:Int),.int .i64 0,.int .i64 0] 190))=.ok (goInt m) (w.alloc (.cells #[.int .i64 (k:Int),.int .i64 (x:Int),.int .i64 (y:Int)] 190))) :
  Calls Tryz.prog 147 #[.pointer (some ⟨c,0,none⟩),.int .i64 (k:Int),.slice sa sn sc] w fun e w'=>e=.returned (.tuple #[])∧qar B c (L++[⟨k,x,y⟩]) ws vs w w':=by
 obtain ⟨c0,c1,c2,cf⟩:=cells3 h.at_;have hB:B≤w.heap.size:=by have:=h.lt;have:=h.hB;omega
 have hcz:=h.lt;obtain ⟨a,n,cp,rfl⟩:=Ref.qad h.list;obtain ⟨i0,hi,hz0,hz1,hz2⟩:=info_parts zt4;generalize hA:(Obj.cells #[.int .i64 (k:Int),.int .i64 (x:Int),.int .i64 (y:Int)] 190)=A;have hW:Tch (fun _=>False) w (((w.alloc A).alloc A).drew):=(((Tch.refl _ _).alloc _).alloc _).drew
 have O1:Hid ((((w.alloc A).alloc A).drew).ownsRow B 190 3 (.slice a n cp) L.length (qby L)):=qah h.list hW (fun _ _ h=>h)
 have O2:Hid (∀ j u,[.int .i64 (k:Int),.int .i64 (x:Int),.int .i64 (y:Int)][j]?=some u→(((w.alloc A).alloc A).drew).cell? ((⟨w.heap.size+1,0,none⟩:Addr).add j)=some u):=zwx (t:=190) (by
  show ((w.heap.push A).push A)[w.heap.size+1]?=_
  rw[Ref.qdu,← hA])
 have O3:Hid (∀ u∈[Value.int .i64 (k:Int),.int .i64 (x:Int),.int .i64 (y:Int)],u.oneCell'=true):=by intro u hu;simp at hu;rcases hu with rfl | rfl | rfl<;>rfl
 have O4:Hid (L.length+1≤maxLen):=by unfold Hid maxLen;omega
 have O5:Hid ((L.length+1) * 24≤140737488355328):=by unfold Hid;omega
 have O6:Hid (B≤(((w.alloc A).alloc A).drew).heap.size):=by
  show B≤((w.heap.push A).push A).size
  simp;omega
 have AQ:Hid (_):=h.zsd ⟨k,x,y⟩ hW;subst hA;clear hW h;go_enter Tryz.func147,Tryz.ntmps147
 go_wp2_with fail;go_region_law (refine qbh rfl _ _ 120 rfl B 190 i0 (.agg #[.int .i64 0,.int .i64 0,.int .i64 0]) 3 24 Tryz.underlying120 hi hz0 hz1 hz2 rfl (Nat.succ_pos 2) _ _ _ rfl O1.out _ 1 1 _ rfl rfl O2.out O3.out O4.out O5.out O6.out ?_;intro v' w3 hown' hgrow hloc;obtain ⟨a1,n1,k1,rfl,hc3,HN⟩:=AQ.out v' w3 hown' hgrow hloc;obtain ⟨e0,e1,e2,ef⟩:=cells3 hc3;clear hown' hgrow hloc hc3)
 all_goals
  go_wp2_with fail;go_end0
  exact ⟨rfl,HN.out⟩
theorem qg5 (B c k:Nat) (L:List Px.Ins) (ws vs:List ByteArray) (vl vw vv:Value) (w:World) (h:MkAt w B c L ws vs vl vw vv) (hl:L.length≤10000000) :
  Calls Tryz.prog 147 #[.pointer (some ⟨c,0,none⟩),.int .i64 (k:Int),.slice none 0 0] w fun e w'=>e=.returned (.tuple #[])∧qar B c (L++[⟨k,0,0⟩]) ws vs w w' :=
 qsx B c k 0 0 0 none 0 0 L ws vs vl vw vv w h hl (run_copy_nil (P:=Tryz.prog) _ _ _ _ 3 _ _ _ Tryz.underlying22 (by rw[qxf];rfl))
theorem zlz (B c k x g:Nat) (L:List Px.Ins) (ws vs:List ByteArray) (vl vw vv:Value) (w:World) (h:MkAt w B c L ws vs vl vw vv) (hl:L.length≤10000000) (hg:w.cell? ⟨g,0,none⟩=some (.int .i64 (x:Int))) :
  Calls Tryz.prog 147 #[.pointer (some ⟨c,0,none⟩),.int .i64 (k:Int),.slice (some ⟨g,0,none⟩) 1 1] w fun e w'=>e=.returned (.tuple #[])∧qar B c (L++[⟨k,x,0⟩]) ws vs w w':=by
 refine qsx B c k x 0 1 _ _ _ L ws vs vl vw vv w h hl ?_;have hgz:g < w.heap.size:=lt_of_cell hg;rw[run_copy_row (P:=Tryz.prog) _ _ _ _ 3 w.heap.size 1 2 2 ⟨g,0,none⟩ 1 1 #[.int .i64 (k:Int),.int .i64 0,.int .i64 0] 190 [.int .i64 (x:Int)] Tryz.underlying22 qxf (by show (w.heap.push _)[w.heap.size]?=_;rw[Array.getElem?_push,if_pos rfl]) rfl ?_ (by simp) (by intro v hv;simp at hv;subst hv;rfl),qnk]
 ·rfl
 ·intro j v hj;match j,hj with
  | 0,hj =>
   simp at hj;subst hj;rw[show (⟨g,0,none⟩:Addr).add 0=⟨g,0,none⟩ from rfl];exact (World.cell?_of_block (w:=w) (a:=⟨g,0,none⟩) (Below.heap_alloc w _ g hgz)).trans hg
theorem zly (B c k x y g:Nat) (L:List Px.Ins) (ws vs:List ByteArray) (vl vw vv:Value) (w:World) (h:MkAt w B c L ws vs vl vw vv) (hl:L.length≤10000000) (hg:w.cell? ⟨g,0,none⟩=some (.int .i64 (x:Int))) (hg1:w.cell? ⟨g,1,none⟩=some (.int .i64 (y:Int))) :
  Calls Tryz.prog 147 #[.pointer (some ⟨c,0,none⟩),.int .i64 (k:Int),.slice (some ⟨g,0,none⟩) 2 2] w fun e w'=>e=.returned (.tuple #[])∧qar B c (L++[⟨k,x,y⟩]) ws vs w w':=by
 refine qsx B c k x y 2 _ _ _ L ws vs vl vw vv w h hl ?_;have hgz:g < w.heap.size:=lt_of_cell hg;rw[run_copy_row (P:=Tryz.prog) _ _ _ _ 3 w.heap.size 1 2 2 ⟨g,0,none⟩ 2 2 #[.int .i64 (k:Int),.int .i64 0,.int .i64 0] 190 [.int .i64 (x:Int),.int .i64 (y:Int)] Tryz.underlying22 qxf (by show (w.heap.push _)[w.heap.size]?=_;rw[Array.getElem?_push,if_pos rfl]) rfl ?_ (by simp) (by intro v hv;simp at hv;rcases hv with rfl | rfl<;>rfl),qnk]
 ·rfl
 ·intro j v hj;match j,hj with
  | 0,hj =>
   simp at hj;subst hj;rw[show (⟨g,0,none⟩:Addr).add 0=⟨g,0,none⟩ from rfl];exact (World.cell?_of_block (w:=w) (a:=⟨g,0,none⟩) (Below.heap_alloc w _ g hgz)).trans hg
  | 1,hj =>
   simp at hj;subst hj;rw[show (⟨g,0,none⟩:Addr).add 1=⟨g,1,none⟩ from rfl];exact (World.cell?_of_block (w:=w) (a:=⟨g,1,none⟩) (Below.heap_alloc w _ g hgz)).trans hg1
open Go.RowKit
theorem MkAt.len {w:World} {B c:Nat} {L:List Px.Ins} {ws vs:List ByteArray} {a:Option Addr} {n k:Nat} {vw vv:Value} (h:MkAt w B c L ws vs (.slice a n k) vw vv):n=L.length:=by
 rcases h.list.2 with ⟨h1,h2⟩ | ⟨g,cap,cur,h1,_⟩
 ·cases h1;exact h2.symm
 ·cases h1;rfl
theorem zay (B c:Nat) (L:List Px.Ins) (ws vs:List ByteArray) (vl vw vv:Value) (w:World) (h:MkAt w B c L ws vs vl vw vv) :
  Calls Tryz.prog 225 #[.pointer (some ⟨c,0,none⟩)] w fun e w'=>e=.returned (.int .i64 (L.length:Int))∧w'=w:=by
 obtain ⟨c0,c1,c2,cf⟩:=cells3 h.at_;obtain ⟨a,n,k,rfl⟩:=Ref.qad h.list;obtain rfl:=h.len;clear h;go_enter Tryz.func225,Tryz.ntmps225
 go_wp2_with fail;go_ret;exact ⟨rfl,rfl⟩
theorem qfi (B c k:Nat) (L:List Px.Ins) (ws vs:List ByteArray) (vl vw vv:Value) (w:World) (h:MkAt w B c L ws vs vl vw vv) (hl:L.length≤10000000) :
  Calls Tryz.prog 193 #[.pointer (some ⟨c,0,none⟩),.int .i64 (k:Int)] w fun e w'=>e=.returned (.int .i64 (L.length:Int))∧qar B c (L++[⟨k,0,0⟩]) ws vs w w':=by
 have H:Hid (_):=h;clear h;go_enter Tryz.func193,Tryz.ntmps193
 go_wp2_with fail;refine (qg5 B c k L ws vs vl vw vv _ H.out hl).mono ?_;rintro e w1 ⟨rfl,b1,vl1,vw1,vv1,h1⟩;have H1:Hid (_∧_):=⟨b1,h1⟩;clear b1 h1;go_wp2_with fail;refine (zay B c _ ws vs vl1 vw1 vv1 _ H1.out.2).mono ?_;rintro e w' ⟨rfl,rfl⟩;have e1:((L++[(⟨k,0,0⟩:Px.Ins)]).length:Int)=(L.length:Int)+1:=by simp
 rw[e1];go_wp2_with fail;go_ret;exact ⟨retI (by omega),H1.out.1,_,_,_,H1.out.2⟩
def qex (L:List Px.Ins) (at_:Nat):List Px.Ins:=L.modify at_ fun i=>{ i with a:=L.length }
theorem qjk (L:List Px.Ins) (at_:Nat):(qex L at_).length=L.length:=by simp[qex]
theorem qv8 (L:List Px.Ins) (n v:Nat) (h:n < L.length):(qby L).set (n * 3+1) (.int .i64 (v:Int))=qby (L.modify n fun i=>{ i with a:=v }):=by
 induction L generalizing n with
 | nil=>simp at h
 | cons i L ih =>
  cases n with
  | zero=>simp[qby]
  | succ n =>
   have e:(n+1) * 3+1=(n * 3+1)+3:=by omega
   have:=ih n (by simpa using h)
   rw[e];show [Value.int .i64 (i.k:Int),.int .i64 (i.a:Int),.int .i64 (i.b:Int)]++(qby L).set (n * 3+1) (.int .i64 (v:Int))=_
   rw[this];rfl
theorem qj6 (B c n:Nat) (L:List Px.Ins) (ws vs:List ByteArray) (vl vw vv:Value) (w:World) (h:MkAt w B c L ws vs vl vw vv) (hn:n < L.length) :
  Calls Tryz.prog 194 #[.pointer (some ⟨c,0,none⟩),.int .i64 (n:Int)] w fun e w'=>e=.returned (.tuple #[])∧qar B c (qex L n) ws vs w w':=by
 obtain ⟨c0,c1,c2,cf⟩:=cells3 h.at_;obtain ⟨h1,h2⟩:=h.list;rcases h2 with ⟨_,h2⟩ | ⟨g,cap,cur,rfl,hg,hh,hnc,hcm,hcs,htk⟩
 ·omega
 ·have hcell:∃ u,w.cell? ⟨g,n * 3+1,none⟩=some u:=by
   have hlt:n * 3+1 < cur.size:=by omega
   exact ⟨cur[n * 3+1],by simp[World.cell?,hh,hlt]⟩
  obtain ⟨u,hcell⟩:=hcell;have hfr:∀ o,w.frozen? ⟨g,o,none⟩=false:=fun o=>by simp[World.frozen?,hh]
  obtain ⟨hd,_⟩:=h.same (Tch.refl (fun _=>False) w).drew
  have hst:=(hd.list.stored (n * 3+1) (.int .i64 (L.length:Int))).1;have hT:Tch (·=g) w (w.drew.setCell ⟨g,n * 3+1,none⟩ (.int .i64 (L.length:Int))):=Tch.setCell (T:=(·=g)) (Tch.refl _ _).drew (p:=⟨g,n * 3+1,none⟩) (Or.inl rfl) _
  have hgo:=h.sep.own (.slice (some ⟨g,0,none⟩) L.length cap) (by simp) g rfl
  have hoth:∀ j u,j≠0→[(.slice (some ⟨g,0,none⟩) L.length cap),vw,vv][j]?=some u→∀ k,u.ownBlock=some k→¬ k=g:=by
   intro j u hj hu k hk e;subst e;exact h.sep.mem hu (show [(.slice (some ⟨k,0,none⟩) L.length cap),vw,vv][0]?=some _ from rfl) hj k hk rfl
  have hM:qar B c (qex L n) ws vs w (w.drew.setCell ⟨g,n * 3+1,none⟩ (.int .i64 (L.length:Int))):=by
   refine ⟨hT.qbg (by have:=h.lt;have:=h.hB;omega) (fun k hk=>by rw[hk];exact hgo.1),_,_,_,h.hB,?_,?_,qah h.words hT (hoth 1 _ (by decide) rfl),qah h.vars hT (hoth 2 _ (by decide) rfl),h.sep.world hT.size⟩
   ·rw[hT.block c h.lt (fun e=>hgo.2.1 e.symm)];exact h.at_
   ·rw[qjk];unfold qex;rw[← qv8 L n L.length hn];exact hst
  have HM:Hid (_∧_):=⟨hM,hd⟩;have hnc3:(L.length:Nat)≤9223372036854775807:=by unfold maxLen at hcm;omega
  clear hM h hd hst hT hgo hoth hh hcs htk h1;go_enter Tryz.func194,Tryz.ntmps194
  go_wp2_with fail;go_region_with (go_at_call 225;refine (zay B c L ws vs _ _ _ _ HM.out.2).mono ?_;rintro e w' ⟨rfl,rfl⟩)
  all_goals
   go_end0
   exact ⟨rfl,HM.out.1⟩
end Mk
open Go.RowKit
namespace Px
theorem zhv {op:Nat}:qdb op=4+Lg.opIx op:=by
 unfold qdb Lg.opIx
 repeat' split
 all_goals rfl
theorem ql1 (x:Ex):coE x≤szE x:=by
 match x with
 | ⟨op,n,word,pl,own,none,r⟩=>rw[coE,szE];omega
 | ⟨op,n,word,pl,own,some l,none⟩ =>
  have:=ql1 l
  rw[coE,szE];omega
 | ⟨op,n,word,pl,own,some l,some r⟩ =>
  have:=ql1 l
  have:=ql1 r
  rw[coE,szE];omega
theorem qke (ws:List ByteArray) (x:ByteArray):(addW ws x).length≤ws.length+1:=by
 unfold addW;split<;>simp
theorem qkk (x:Ex) (vs:List ByteArray):(vsE x vs).length≤vs.length+szE x:=by
 match x with
 | ⟨op,n,word,pl,own,none,r⟩ =>
  have:=qke vs word
  rw[vsE,szE];split<;>omega
 | ⟨op,n,word,pl,own,some l,none⟩ =>
  have:=qkk l vs
  rw[vsE,szE];omega
 | ⟨op,n,word,pl,own,some l,some r⟩ =>
  have h1:=qkk l vs
  have:=qkk r (vsE l vs)
  rw[vsE,szE];omega
end Px
namespace Mk
structure Gk (w:World) (B:Nat):Prop where
 tab:∀ j,j < 7→w.cell? ⟨15,j,none⟩=some (.int .i64 ((4+j:Nat):Int))
 lo:21≤B
theorem Gk.below {w w':World} {B:Nat} (g:Gk w B) (h:Below B w w'):Gk w' B :=
 ⟨fun j hj=>by rw[World.cell?_of_block (w:=w) (a:=⟨15,j,none⟩) (h.block _ (by have:=g.lo;show 15 < B;omega))];exact g.tab j hj,g.lo⟩
theorem quq (v:Value) (w:World):(Instr.typeAssert (.iface 290 v) 251 290 true).run Tryz.prog w=.ok (.tuple #[v,.bool true]) w:=by kernel_rfl
theorem qwz (v:Value) (w:World):(Instr.typeAssert (.iface 300 v) 251 290 true).run Tryz.prog w=.ok (.tuple #[.pointer none,.bool false]) w:=by kernel_rfl
theorem qyv (v:Value) (w:World):(Instr.typeAssert (.iface 300 v) 251 300 true).run Tryz.prog w=.ok (.tuple #[v,.bool true]) w:=by kernel_rfl
theorem qqn (v:Value) (w:World):(Instr.typeAssert (.iface 249 v) 251 290 true).run Tryz.prog w=.ok (.tuple #[.pointer none,.bool false]) w:=by kernel_rfl
theorem qqx (v:Value) (w:World):(Instr.typeAssert (.iface 249 v) 251 300 true).run Tryz.prog w=.ok (.tuple #[.pointer none,.bool false]) w:=by kernel_rfl
theorem qm9 (v:Value) (w:World):(Instr.typeAssert (.iface 249 v) 251 249 true).run Tryz.prog w=.ok (.tuple #[v,.bool true]) w:=by kernel_rfl
theorem zd9 (v:Value) (w:World):(Instr.typeAssert (.iface 303 v) 251 290 true).run Tryz.prog w=.ok (.tuple #[.pointer none,.bool false]) w:=by kernel_rfl
theorem zka (v:Value) (w:World):(Instr.typeAssert (.iface 303 v) 251 300 true).run Tryz.prog w=.ok (.tuple #[.pointer none,.bool false]) w:=by kernel_rfl
theorem qw0 (v:Value) (w:World):(Instr.typeAssert (.iface 303 v) 251 249 true).run Tryz.prog w=.ok (.tuple #[.pointer none,.bool false]) w:=by kernel_rfl
theorem zvl (v:Value) (w:World):(Instr.typeAssert (.iface 303 v) 251 303 true).run Tryz.prog w=.ok (.tuple #[v,.bool true]) w:=by kernel_rfl
theorem qyw (v:Value) (w:World):(Instr.typeAssert (.iface 306 v) 251 290 true).run Tryz.prog w=.ok (.tuple #[.pointer none,.bool false]) w:=by kernel_rfl
theorem zd8 (v:Value) (w:World):(Instr.typeAssert (.iface 306 v) 251 300 true).run Tryz.prog w=.ok (.tuple #[.pointer none,.bool false]) w:=by kernel_rfl
theorem qup (v:Value) (w:World):(Instr.typeAssert (.iface 306 v) 251 249 true).run Tryz.prog w=.ok (.tuple #[.pointer none,.bool false]) w:=by kernel_rfl
theorem zpi (v:Value) (w:World):(Instr.typeAssert (.iface 306 v) 251 303 true).run Tryz.prog w=.ok (.tuple #[.pointer none,.bool false]) w:=by kernel_rfl
theorem zj9 (v:Value) (w:World):(Instr.typeAssert (.iface 306 v) 251 306 true).run Tryz.prog w=.ok (.tuple #[v,.bool true]) w:=by kernel_rfl
theorem qwp {w:World} {k:Nat} {a:Value} {t:TypeId} (hh:w.heap[k]?=some (.cells #[a] t)):w.cell? ⟨k,0,none⟩=some a∧∀ o,w.frozen? ⟨k,o,none⟩=false:=by
 refine ⟨?_,?_⟩<;>simp[World.cell?,World.frozen?,hh]
theorem qfd {w:World} {k:Nat} {a b:Value} {t:TypeId} (hh:w.heap[k]?=some (.cells #[a,b] t)):w.cell? ⟨k,0,none⟩=some a∧w.cell? ⟨k,1,none⟩=some b∧∀ o,w.frozen? ⟨k,o,none⟩=false:=by
 refine ⟨?_,?_,?_⟩<;>simp[World.cell?,World.frozen?,hh]
theorem zqw {w:World} {k:Nat} {a b c d:Value} {t:TypeId} (hh:w.heap[k]?=some (.cells #[a,b,c,d] t)):w.cell? ⟨k,0,none⟩=some a∧w.cell? ⟨k,1,none⟩=some b∧w.cell? ⟨k,2,none⟩=some c∧w.cell? ⟨k,3,none⟩=some d∧∀ o,w.frozen? ⟨k,o,none⟩=false:=by
 refine ⟨?_,?_,?_,?_,?_⟩<;>simp[World.cell?,World.frozen?,hh]
theorem qfu (x:Bool) (w:World):Calls Tryz.prog 101 #[.bool x] w fun e w'=>e=.returned (.int .i64 (if x then 1 else 0))∧w'=w:=by
 cases x
 all_goals
  go_enter Tryz.func101,Tryz.ntmps101
  go_wp2;go_ret;exact ⟨rfl,rfl⟩
theorem qmm (B c k x:Nat) (L:List Px.Ins) (ws vs:List ByteArray) (vl vw vv:Value) (w:World) (h:MkAt w B c L ws vs vl vw vv) (hl:L.length≤10000000) :
  Calls Tryz.prog 147 #[.pointer (some ⟨c,0,none⟩),.int .i64 (k:Int),.slice (some ⟨w.heap.size,0,none⟩) 1 1] (w.alloc (.cells #[.int .i64 (x:Int)] 3)) fun e w'=>e=.returned (.tuple #[])∧qar B c (L++[⟨k,x,0⟩]) ws vs w w':=by
 obtain ⟨h1,b1⟩:=h.same ((Tch.refl (fun _=>False) w).alloc (.cells #[.int .i64 (x:Int)] 3))
 refine (zlz B c k x w.heap.size L ws vs vl vw vv _ h1 hl (qwp Lg.new1).1).mono ?_;rintro e w' ⟨rfl,b2,h2⟩;exact ⟨rfl,b1.trans b2,h2⟩
def ExOk (B c:Nat) (VV:List ByteArray) (x:Px.Ex):Prop:=∀ (w:World) (L:List Px.Ins) (ws vs:List ByteArray) (vl vw vv:Value) (tl ql:Nat),
 Lg.XAt w x (· < B) (.iface tl (Ref.ptr ql))→MkAt w B c L ws vs vl vw vv→Gk w B→Px.vsE x vs <+: VV→L.length+Px.szE x≤10000000→vs.length+Px.szE x≤10000000 →
 Calls Tryz.prog 146 #[.pointer (some ⟨c,0,none⟩),.iface tl (.pointer (some ⟨ql,0,none⟩))] w fun e w'=>e=.returned (.tuple #[])∧qar B c (L++Px.mkE (Px.idxW VV) x) ws (Px.vsE x vs) w w'
theorem qyh (B c n q:Nat) (own:Value) (L:List Px.Ins) (ws vs:List ByteArray) (vl vw vv:Value) (w:World) (hM:MkAt w B c L ws vs vl vw vv) (h4:w.heap[q]?=some (.cells #[.int .i64 (n:Int),own] 299)) (hl:L.length≤10000000) :
  Calls Tryz.prog 146 #[.pointer (some ⟨c,0,none⟩),.iface 290 (.pointer (some ⟨q,0,none⟩))] w fun e w'=>e=.returned (.tuple #[])∧qar B c (L++[⟨0,n,0⟩]) ws vs w w':=by
 have HM:Hid (MkAt w B c L ws vs vl vw vv):=hM;obtain ⟨c0,c1,cf⟩:=qfd h4;have f1:=quq;clear hM h4;go_enter Tryz.func146,Tryz.ntmps146
 go_wp2_with fail;refine (qmm B c 0 n L ws vs vl vw vv w HM.out hl).mono ?_;rintro e w' ⟨rfl,h1⟩;go_wp2_with fail;go_end0
 exact ⟨rfl,h1⟩
theorem zdh (B c q:Nat) (x:Bool) (L:List Px.Ins) (ws vs:List ByteArray) (vl vw vv:Value) (w:World) (hM:MkAt w B c L ws vs vl vw vv) (h4:w.heap[q]?=some (.cells #[.bool x] 302)) (hl:L.length≤10000000) :
  Calls Tryz.prog 146 #[.pointer (some ⟨c,0,none⟩),.iface 300 (.pointer (some ⟨q,0,none⟩))] w fun e w'=>e=.returned (.tuple #[])∧qar B c (L++[⟨0,if x then 1 else 0,0⟩]) ws vs w w':=by
 have HM:Hid (MkAt w B c L ws vs vl vw vv):=hM;obtain ⟨c0,cf⟩:=qwp h4;have f1:=qwz;have f2:=qyv;clear hM h4;cases x
 all_goals
  simp only[if_true,Bool.false_eq_true,if_false];go_enter Tryz.func146,Tryz.ntmps146
  go_wp2_with fail;refine (qfu _ _).mono ?_;rintro e w' ⟨rfl,rfl⟩;simp only[if_true,Bool.false_eq_true,if_false];go_wp2_with fail;refine (qmm B c 0 _ L ws vs vl vw vv _ HM.out hl).mono ?_;rintro e w' ⟨rfl,h1⟩;go_wp2_with fail;go_end0
  exact ⟨rfl,h1⟩
theorem qtv (B c q:Nat) (word:ByteArray) (own:Value) (L:List Px.Ins) (ws vs:List ByteArray) (vl vw vv:Value) (w:World) (hM:MkAt w B c L ws vs vl vw vv) (h4:w.heap[q]?=some (.cells #[.string word,own] 257)) (hl:L.length≤10000000) (hx:word.size≤10000000) (hl2:vs.length≤10000000) :
  Calls Tryz.prog 146 #[.pointer (some ⟨c,0,none⟩),.iface 249 (.pointer (some ⟨q,0,none⟩))] w fun e w'=>e=.returned (.tuple #[])∧qar B c (L++[⟨1,Px.idxW (Px.addW vs word) word,0⟩]) ws (Px.addW vs word) w w':=by
 have HM:Hid (MkAt w B c L ws vs vl vw vv):=hM;obtain ⟨c0,c1,cf⟩:=qfd h4;have f1:=qqn;have f2:=qqx;have f3:=qm9;clear hM h4;go_enter Tryz.func146,Tryz.ntmps146
 go_wp2_with fail;refine (qce B c L ws vs word vl vw vv _ HM.out hx hl2).mono ?_;rintro e w' ⟨rfl,b1,vl1,vw1,vv1,h1⟩;have H1:Hid (_∧_):=⟨b1,h1⟩;clear b1 h1;go_wp2_with fail;refine (qmm B c 1 _ L ws _ vl1 vw1 vv1 _ H1.out.2 hl).mono ?_;rintro e w' ⟨rfl,b2,h2⟩;have H2:Hid (_∧_):=⟨b2,h2⟩;clear b2 h2;go_wp2_with fail;go_end0
 exact ⟨rfl,H1.out.1.trans H2.out.1,H2.out.2⟩
open Go.RowKit
theorem zml (op:Nat):Lg.opIx op < 7:=by
 unfold Lg.opIx
 repeat' split
 all_goals omega
def qw3 (B c:Nat) (VV:List ByteArray) (x:Px.Ex) (tl ql:Nat) (L:List Px.Ins) (ws vs:List ByteArray) (w:World):Prop :=
 Calls Tryz.prog 146 #[.pointer (some ⟨c,0,none⟩),.iface tl (.pointer (some ⟨ql,0,none⟩))] w fun e w'=>e=.returned (.tuple #[])∧qar B c (L++Px.mkE (Px.idxW VV) x) ws (Px.vsE x vs) w w'
theorem zoo (B c q tl ql:Nat) (VV:List ByteArray) (l:Px.Ex) (own:Value) (L:List Px.Ins) (ws vs:List ByteArray) (w:World) (h4:w.heap[q]?=some (.cells #[.iface tl (Ref.ptr ql),own] 305)) (hC:qw3 B c VV l tl ql L ws vs w) (hl:(L++Px.mkE (Px.idxW VV) l).length≤10000000) :
  Calls Tryz.prog 146 #[.pointer (some ⟨c,0,none⟩),.iface 303 (.pointer (some ⟨q,0,none⟩))] w fun e w'=>e=.returned (.tuple #[])∧qar B c (L++(Px.mkE (Px.idxW VV) l++[⟨11,0,0⟩])) ws (Px.vsE l vs) w w':=by
 obtain ⟨c0,c1,cf⟩:=qfd h4;have f1:=zd9;have f2:=zka;have f3:=qw0;have f4:=zvl;have HC:Hid (qw3 B c VV l tl ql L ws vs w):=hC;have HL:Hid (_):=hl;clear h4 hC hl;go_enter Tryz.func146,Tryz.ntmps146
 go_wp2_with fail;refine Calls.mono HC.out ?_;rintro e w' ⟨rfl,b1,vl1,vw1,vv1,h1⟩;have H1:Hid (_∧_):=⟨b1,h1⟩;clear b1 h1;go_wp2_with fail;refine (qg5 B c 11 _ ws _ vl1 vw1 vv1 _ H1.out.2 HL.out).mono ?_;rintro e w' ⟨rfl,b2,h2⟩;have H2:Hid (_∧_):=⟨b2,h2⟩;clear b2 h2;go_wp2_with fail;go_end0
 refine ⟨rfl,H1.out.1.trans H2.out.1,?_⟩;rw[← List.append_assoc];exact H2.out.2
theorem zit (B c q tl ql tr qr op:Nat) (VV:List ByteArray) (l r:Px.Ex) (own:Value) (L:List Px.Ins) (ws vs:List ByteArray) (w:World) (hqB:q < B) (hG:Gk w B) (h4:w.heap[q]?=some (.cells #[.int .i64 (Lg.opIx op:Int),.iface tl (Ref.ptr ql),.iface tr (Ref.ptr qr),own] 309)) (hC:qw3 B c VV l tl ql L ws vs w)
  (hC2:∀ w1,qar B c (L++Px.mkE (Px.idxW VV) l) ws (Px.vsE l vs) w w1→qw3 B c VV r tr qr (L++Px.mkE (Px.idxW VV) l) ws (Px.vsE l vs) w1)
  (hl:(L++Px.mkE (Px.idxW VV) l++Px.mkE (Px.idxW VV) r).length≤10000000) :
  Calls Tryz.prog 146 #[.pointer (some ⟨c,0,none⟩),.iface 306 (.pointer (some ⟨q,0,none⟩))] w fun e w'=>e=.returned (.tuple #[])∧qar B c (L++(Px.mkE (Px.idxW VV) l++Px.mkE (Px.idxW VV) r++[⟨Px.qdb op,0,0⟩])) ws (Px.vsE r (Px.vsE l vs)) w w':=by
 obtain ⟨c0,c1,c2,c3,cf⟩:=zqw h4;have f1:=qyw;have f2:=zd8;have f3:=qup;have f4:=zpi;have f5:=zj9;have hix:Lg.opIx op < 7:=zml op;have CQ:Hid (∀ W,Below B w W→W.cell? ⟨q,0,none⟩=some (.int .i64 (Lg.opIx op:Int))∧W.cell? ⟨q,1,none⟩=some (.iface tl (.pointer (some ⟨ql,0,none⟩)))∧W.cell? ⟨q,2,none⟩=some (.iface tr (.pointer (some ⟨qr,0,none⟩)))∧W.cell? ⟨15,Lg.opIx op,none⟩=some (.int .i64 ((Px.qdb op:Nat):Int))):=by
  intro W hb;obtain ⟨d0,d1,d2,d3,df⟩:=zqw ((hb.block q hqB).trans h4);refine ⟨d0,d1,d2,?_⟩;rw[Px.zhv];exact (hG.below hb).tab _ hix
 have HC:Hid (qw3 B c VV l tl ql L ws vs w):=hC;have HC2:Hid (_):=hC2;have HL:Hid (_):=hl;clear h4 hC hC2 hl hG c3;generalize Lg.opIx op=ix at *;go_enter Tryz.func146,Tryz.ntmps146
 go_wp2_with fail;refine Calls.mono HC.out ?_;rintro e w1 ⟨rfl,h1⟩;have H1:Hid (_):=h1;clear h1;obtain ⟨d0,d1,d2,d3⟩:=CQ.out w1 H1.out.1;go_wp2_with fail;refine Calls.mono (HC2.out w1 H1.out) ?_;rintro e w2 ⟨rfl,b2,vl2,vw2,vv2,h2⟩;have H2:Hid (_∧_):=⟨b2,h2⟩;clear b2 h2;clear c0 c1 c2 d0 d1 d2 d3;obtain ⟨c0,c1,c2,c3⟩:=CQ.out w2 (H1.out.1.trans H2.out.1);go_wp2_with fail;refine (qg5 B c (Px.qdb op) _ ws _ vl2 vw2 vv2 _ H2.out.2 HL.out).mono ?_;rintro e w' ⟨rfl,b3,h3⟩;have H3:Hid (_∧_):=⟨b3,h3⟩;clear b3 h3;go_wp2_with fail;go_end0
 refine ⟨rfl,(H1.out.1.trans H2.out.1).trans H3.out.1,?_⟩;rw[List.append_assoc,List.append_assoc] at H3;rw[List.append_assoc];exact H3.out.2
theorem qih (B c:Nat) (VV:List ByteArray) (x:Px.Ex) (hw:Px.WfE x) (ht:Px.TrE x):ExOk B c VV x:=by
 intro w L ws vs vl vw vv tl ql hX hM hG hV hl hl2;match x,hw,ht with
 | ⟨op,n,word,pl,own,none,none⟩,hw,ht =>
  rw[Px.szE] at hl hl2;obtain ⟨q,hq,⟨h2,h3,h4⟩ | ⟨h2,h3,h4⟩ | ⟨h2,h3,h4⟩⟩:=hX
  ·cases h3;subst h2;rw[Px.mkE,Px.vsE,if_neg (by decide),if_neg (by decide)]
   exact qyh B c n _ _ L ws vs vl vw vv w hM h4 (by omega)
  ·cases h3;subst h2;rw[Px.vsE,if_pos rfl] at hV;rw[Px.mkE,Px.vsE,if_pos rfl,if_pos rfl,Px.qlv (Px.qd3 _ _) hV];exact qtv B c _ word _ L ws vs vl vw vv w hM h4 (by omega) (by omega) (by omega)
  ·cases h3;subst h2;rw[Px.mkE,Px.vsE,if_neg (by decide),if_neg (by decide)]
   have:=zdh B c _ (n == 1) L ws vs vl vw vv w hM h4 (by omega)
   rw[Px.TrE] at ht;have hn:=ht rfl;match n,hn with
   | 0,_=>exact this
   | 1,_=>exact this
 | ⟨op,n,word,pl,own,some l,none⟩,hw,ht =>
  obtain ⟨hop,q,tl',ql',hq,h2,h3,h4⟩:=hX;cases h2;rw[Px.WfE] at hw;rw[Px.TrE] at ht;rw[Px.szE] at hl hl2;rw[Px.vsE] at hV ⊢;rw[Px.mkE];refine zoo B c _ tl' ql' VV l _ L ws vs w h3 (qih B c VV l hw.2 ht w L ws vs vl vw vv tl' ql' h4 hM hG hV (by omega) (by omega)) ?_
  have:=Px.qeo (Px.idxW VV) l
  have:=Px.ql1 l
  simp;omega
 | ⟨op,n,word,pl,own,some l,some r⟩,hw,ht =>
  obtain ⟨q,tl',ql',tr,qr,hq,h2,h3,h4,h5⟩:=hX;cases h2;rw[Px.WfE] at hw;rw[Px.TrE] at ht;rw[Px.szE] at hl hl2;rw[Px.vsE] at hV ⊢;rw[Px.mkE];have e1:=Px.qeo (Px.idxW VV) l;have e2:=Px.ql1 l;have e3:=Px.qeo (Px.idxW VV) r;have e4:=Px.ql1 r;have e5:=Px.qkk l vs;refine zit B c _ tl' ql' tr qr op VV l r _ L ws vs w hq hG h3 (qih B c VV l hw.2.1 ht.1 w L ws vs vl vw vv tl' ql' h4 hM hG ((Px.qme r _).trans hV) (by omega) (by omega)) ?_ (by simp;omega)
  rintro w1 ⟨b1,vl1,vw1,vv1,h1⟩;exact qih B c VV r hw.2.2 ht.2 w1 _ ws _ vl1 vw1 vv1 tr qr (h5.keep fun k hk=>b1.block k hk) h1 (hG.below b1) hV (by simp;omega) (by omega)
end Mk
namespace Px
theorem zhb (iv:ByteArray→Nat) (x:Option Ex):(mkO iv x).length≤szO x+1:=by
 cases x with
 | none=>simp[mkO]
 | some e =>
  have:=qeo iv e
  have:=ql1 e
  show (mkE iv e).length≤szE e+1
  omega
theorem zps (x:Option Ex) (vs:List ByteArray):(vsO x vs).length≤vs.length+szO x:=by
 cases x with
 | none=>simp[vsO]
 | some e=>exact qkk e vs
theorem zw0 (iw iv:ByteArray→Nat) (word:ByteArray) (ex:Option Ex) (asw undo:ByteArray) (n:Nat):(mkC iw iv word ex asw undo n).length≤szO ex+4:=by
 have:=zhb iv ex
 unfold mkC;split<;>simp<;>omega
theorem zqe (iw iv:ByteArray→Nat) (x:Sm) (h1:∀ p,(mkS iw iv x.one p).length≤szS x.one) (h2:∀ p,(mkS iw iv x.two p).length≤szS x.two) (p:Nat):(mkX iw iv x p).length≤szX x:=by
 have e1:=zhb iv x.ex;have e2:=zw0 iw iv x.word x.ex x.asw x.undo x.n;unfold mkX szX;split
 ·simp;omega
 ·split
  ·omega
  ·split
   ·have a1:=h1 (p+(mkO iv x.ex).length+1);have a2:=h2 (p+(mkO iv x.ex).length+1+(mkS iw iv x.one (p+(mkO iv x.ex).length+1)).length+1);dsimp only;split
    ·simp;omega
    ·simp;omega
   ·split
    ·have a1:=h1 (p+1);have a2:=h2 (p+1+(mkS iw iv x.one (p+1)).length+1);simp;omega
    ·split
     ·have a1:=h1 (p+2);simp;omega
     ·simp;omega
theorem qne (iw iv:ByteArray→Nat) (l:List Sm):∀ p,(mkS iw iv l p).length≤szS l:=by
 match l with
 | []=>intro p;rw[qms,qhj];exact Nat.le_refl _
 | ⟨op,word,pl,ex,asw,asPl,undo,n,nPl,one,two⟩::rest =>
  intro p;rw[qh7,qfq,List.length_append]
  have:=zqe iw iv ⟨op,word,pl,ex,asw,asPl,undo,n,nPl,one,two⟩ (qne iw iv one) (qne iw iv two) p
  have:=qne iw iv rest (p+(mkX iw iv ⟨op,word,pl,ex,asw,asPl,undo,n,nPl,one,two⟩ p).length)
  omega
theorem zvw (word undo:ByteArray) (ws:List ByteArray):(wsC word undo ws).length≤ws.length+2:=by
 have:=qke ws word
 have:=qke (addW ws word) undo
 unfold wsC;split<;>omega
theorem zpp (x:Sm) (h1:∀ ws,(wsS x.one ws).length≤ws.length+szS x.one) (h2:∀ ws,(wsS x.two ws).length≤ws.length+szS x.two) (ws:List ByteArray):(wsX x ws).length≤ws.length+szX x:=by
 have a0:=zvw x.word x.undo ws;have a1:=h1 ws;have a2:=h2 (wsS x.one ws);unfold wsX szX
 repeat' split
 all_goals omega
theorem qon (l:List Sm):∀ ws,(wsS l ws).length≤ws.length+szS l:=by
 match l with
 | []=>intro ws;rw[qoo];omega
 | ⟨op,word,pl,ex,asw,asPl,undo,n,nPl,one,two⟩::rest =>
  intro ws;rw[qhz,qfq]
  have:=zpp ⟨op,word,pl,ex,asw,asPl,undo,n,nPl,one,two⟩ (qon one) (qon two) ws
  have:=qon rest (wsX ⟨op,word,pl,ex,asw,asPl,undo,n,nPl,one,two⟩ ws)
  omega
theorem zpr (x:Sm) (h1:∀ ws,(vsS x.one ws).length≤ws.length+szS x.one) (h2:∀ ws,(vsS x.two ws).length≤ws.length+szS x.two) (vs:List ByteArray):(vsX x vs).length≤vs.length+szX x:=by
 have a0:=zps x.ex vs;have a1:=qke (vsO x.ex vs) x.word;have a2:=qke (vsO x.ex vs) x.asw;have b1:=h1 vs;have b2:=h2 (vsS x.one vs);have b3:=h1 (vsO x.ex vs);have b4:=h2 (vsS x.one (vsO x.ex vs));unfold vsX szX
 repeat' split
 all_goals omega
theorem qnc (l:List Sm):∀ vs,(vsS l vs).length≤vs.length+szS l:=by
 match l with
 | []=>intro ws;rw[qsc];omega
 | ⟨op,word,pl,ex,asw,asPl,undo,n,nPl,one,two⟩::rest =>
  intro ws;rw[qjx,qfq]
  have:=zpr ⟨op,word,pl,ex,asw,asPl,undo,n,nPl,one,two⟩ (qnc one) (qnc two) ws
  have:=qnc rest (vsX ⟨op,word,pl,ex,asw,asPl,undo,n,nPl,one,two⟩ ws)
  omega
end Px
namespace Mk
theorem zha (P R:List Px.Ins) (i:Px.Ins) (f:Px.Ins→Px.Ins):(P++(i::R)).modify P.length f=P++(f i::R):=by
 induction P with
 | nil=>rfl
 | cons x P ih=>simp only[List.cons_append,List.length_cons,List.modify_succ_cons,ih]
theorem zak (P R:List Px.Ins) (k:Nat):qex (P++(⟨k,0,0⟩::R)) P.length=P++(⟨k,P.length+1+R.length,0⟩::R):=by
 unfold qex;rw[zha];simp;omega
open Go.RowKit
def BlC (B c:Nat) (v:Value) (L:List Px.Ins) (ws vs:List ByteArray) (w:World):Prop :=
 Calls Tryz.prog 44 #[.pointer (some ⟨c,0,none⟩),v] w fun e w'=>e=.returned (.tuple #[])∧qar B c L ws vs w w'
theorem zky (B c q:Nat) (a1 a2:Option Addr) (n1 n2 k1 k2:Nat) (L L1 L2 L3 L4 L5:List Px.Ins) (ws vs ws1 vs1 ws2 vs2:List ByteArray) (vl vw vv:Value) (w:World) (hqB:q < B) (hM:MkAt w B c L ws vs vl vw vv)
  (h4:w.heap[q]?=some (.cells #[.slice a1 n1 k1,.slice a2 n2 k2] 322)) (e1:L++[⟨15,0,0⟩]=L1) (e3:qex (L2++[⟨16,0,0⟩]) L.length=L3) (e5:qex L4 L2.length=L5)
  (hl1:L.length≤10000000) (hl2:L2.length≤10000000) (hl3:L.length < (L2++[(⟨16,0,0⟩:Px.Ins)]).length) (hl4:L2.length < L4.length)
  (hC1:∀ w1,qar B c L1 ws vs w w1→BlC B c (.slice a1 n1 k1) L2 ws1 vs1 w1)
  (hC2:∀ w1,qar B c L3 ws1 vs1 w w1→BlC B c (.slice a2 n2 k2) L4 ws2 vs2 w1) :
  Calls Tryz.prog 151 #[.pointer (some ⟨c,0,none⟩),.pointer (some ⟨q,0,none⟩)] w fun e w'=>e=.returned (.tuple #[])∧qar B c L5 ws2 vs2 w w':=by
 have CQ:Hid (∀ W,Below B w W→W.cell? ⟨q,0,none⟩=some (.slice a1 n1 k1)∧W.cell? ⟨q,1,none⟩=some (.slice a2 n2 k2)∧∀ o,W.frozen? ⟨q,o,none⟩=false):=fun W hb=>qfd ((hb.block q hqB).trans h4)
 have HM:Hid (MkAt w B c L ws vs vl vw vv):=hM;have HC1:Hid (∀ w1,qar B c L1 ws vs w w1→BlC B c (.slice a1 n1 k1) L2 ws1 vs1 w1):=hC1;have HC2:Hid (∀ w1,qar B c L3 ws1 vs1 w w1→BlC B c (.slice a2 n2 k2) L4 ws2 vs2 w1):=hC2;have HL:Hid (L.length≤10000000∧L2.length≤10000000∧L.length < (L2++[(⟨16,0,0⟩:Px.Ins)]).length∧L2.length < L4.length):=⟨hl1,hl2,hl3,hl4⟩;have E1:Hid (L++[⟨15,0,0⟩]=L1):=e1;have E3:Hid (qex (L2++[⟨16,0,0⟩]) L.length=L3):=e3;have E5:Hid (qex L4 L2.length=L5):=e5;clear hl1 hl2 hl3 hl4 h4 hM hC1 hC2 e1 e3 e5;obtain ⟨c0,c1,cf⟩:=CQ.out w (Below.refl B w);go_enter Tryz.func151,Tryz.ntmps151
 go_wp2_with fail;refine (qfi B c 15 L ws vs vl vw vv w HM.out HL.out.1).mono ?_;rintro e w1 ⟨rfl,h1⟩;rw[E1.out] at h1;have H1:Hid (qar B c L1 ws vs w w1):=h1;clear h1 c0 c1 cf;obtain ⟨c0,c1,cf⟩:=CQ.out w1 H1.out.1;go_wp2_with fail;refine Calls.mono (HC1.out w1 H1.out) ?_;rintro e w2 ⟨rfl,b2,vl2,vw2,vv2,h2⟩;have H2:Hid (Below B w w2∧MkAt w2 B c L2 ws1 vs1 vl2 vw2 vv2):=⟨H1.out.1.trans b2,h2⟩;clear b2 h2 c0 c1 cf H1;go_wp2_with fail;refine (qfi B c 16 L2 _ _ vl2 vw2 vv2 w2 H2.out.2 HL.out.2.1).mono ?_;rintro e w3 ⟨rfl,b3,vl3,vw3,vv3,h3⟩;have H3:Hid (Below B w w3∧MkAt w3 B c (L2++[⟨16,0,0⟩]) ws1 vs1 vl3 vw3 vv3):=⟨H2.out.1.trans b3,h3⟩
 clear b3 h3 H2;go_wp2_with fail;refine (qj6 B c L.length _ _ _ vl3 vw3 vv3 w3 H3.out.2 HL.out.2.2.1).mono ?_;rintro e w4 ⟨rfl,b4,h4⟩;rw[E3.out] at h4;have H4:Hid (qar B c L3 ws1 vs1 w w4):=⟨H3.out.1.trans b4,h4⟩;clear b4 h4 H3;obtain ⟨c0,c1,cf⟩:=CQ.out w4 H4.out.1;go_wp2_with fail;refine Calls.mono (HC2.out w4 H4.out) ?_;rintro e w5 ⟨rfl,b5,vl5,vw5,vv5,h5⟩;have H5:Hid (Below B w w5∧MkAt w5 B c L4 ws2 vs2 vl5 vw5 vv5):=⟨H4.out.1.trans b5,h5⟩;clear b5 h5 c0 c1 cf H4;go_wp2_with fail;refine (qj6 B c L2.length L4 _ _ vl5 vw5 vv5 w5 H5.out.2 HL.out.2.2.2).mono ?_;rintro e w6 ⟨rfl,b6,h6⟩
 rw[E5.out] at h6;have H6:Hid (qar B c L5 ws2 vs2 w w6):=⟨H5.out.1.trans b6,h6⟩;clear b6 h6;go_wp2_with fail;go_end0
 exact ⟨rfl,H6.out⟩
def ExC (B c tl ql:Nat) (L:List Px.Ins) (ws vs:List ByteArray) (w:World):Prop :=
 Calls Tryz.prog 146 #[.pointer (some ⟨c,0,none⟩),.iface tl (.pointer (some ⟨ql,0,none⟩))] w fun e w'=>e=.returned (.tuple #[])∧qar B c L ws vs w w'
theorem qxk (B c q qn n:Nat) (pn:Value) (a1:Option Addr) (n1 k1:Nat) (L L1 L2 L3 L4 L5:List Px.Ins) (ws vs ws1 vs1:List ByteArray) (vl vw vv:Value) (w:World) (hqB:q < B) (hM:MkAt w B c L ws vs vl vw vv)
  (h4:w.heap[q]?=some (.cells #[.pointer (some ⟨qn,0,none⟩),.slice a1 n1 k1] 293)) (h5:w.heap[qn]?=some (.cells #[.int .i64 (n:Int),pn] 299))
  (e1:L++[⟨0,n,0⟩]=L1) (e2:L1++[⟨14,0,0⟩]=L2) (e4:L3++[⟨12,L1.length,0⟩]=L4) (e5:qex L4 L1.length=L5)
  (hl1:L.length≤10000000) (hl2:L1.length≤10000000) (hl3:L3.length≤10000000) (hl4:L1.length < L4.length)
  (hC1:∀ w1,qar B c L2 ws vs w w1→BlC B c (.slice a1 n1 k1) L3 ws1 vs1 w1) :
  Calls Tryz.prog 152 #[.pointer (some ⟨c,0,none⟩),.pointer (some ⟨q,0,none⟩)] w fun e w'=>e=.returned (.tuple #[])∧qar B c L5 ws1 vs1 w w':=by
 have CQ:Hid (∀ W,Below B w W→W.cell? ⟨q,0,none⟩=some (.pointer (some ⟨qn,0,none⟩))∧W.cell? ⟨q,1,none⟩=some (.slice a1 n1 k1)∧∀ o,W.frozen? ⟨q,o,none⟩=false):=fun W hb=>qfd ((hb.block q hqB).trans h4)
 have HM:Hid (MkAt w B c L ws vs vl vw vv):=hM;have HC1:Hid (∀ w1,qar B c L2 ws vs w w1→BlC B c (.slice a1 n1 k1) L3 ws1 vs1 w1):=hC1;have HL:Hid (L.length≤10000000∧L1.length≤10000000∧L3.length≤10000000∧L1.length < L4.length):=⟨hl1,hl2,hl3,hl4⟩;have E1:Hid (L++[⟨0,n,0⟩]=L1):=e1;have E2:Hid (L1++[⟨14,0,0⟩]=L2):=e2;have E4:Hid (L3++[⟨12,L1.length,0⟩]=L4):=e4;have E5:Hid (qex L4 L1.length=L5):=e5;obtain ⟨d0,d1,df⟩:=qfd h5;clear hl1 hl2 hl3 hl4 h4 h5 hM hC1 e1 e2 e4 e5;obtain ⟨c0,c1,cf⟩:=CQ.out w (Below.refl B w);go_enter Tryz.func152,Tryz.ntmps152
 go_wp2_with fail;refine (qmm B c 0 n L ws vs vl vw vv w HM.out HL.out.1).mono ?_;rintro e w1 ⟨rfl,b1,vl1,vw1,vv1,h1⟩;rw[E1.out] at h1;have H1:Hid (Below B w w1∧MkAt w1 B c L1 ws vs vl1 vw1 vv1):=⟨b1,h1⟩;clear b1 h1 c0 c1 cf d0 d1 df;go_wp2_with fail;refine (qfi B c 14 L1 _ _ vl1 vw1 vv1 w1 H1.out.2 HL.out.2.1).mono ?_;rintro e w2 ⟨rfl,b2,h2⟩;rw[E2.out] at h2;have H2:Hid (qar B c L2 ws vs w w2):=⟨H1.out.1.trans b2,h2⟩;clear b2 h2;obtain ⟨c0,c1,cf⟩:=CQ.out w2 H2.out.1;go_wp2_with fail;refine Calls.mono (HC1.out w2 H2.out) ?_;rintro e w3 ⟨rfl,b3,vl3,vw3,vv3,h3⟩;have H3:Hid (Below B w w3∧MkAt w3 B c L3 ws1 vs1 vl3 vw3 vv3):=⟨H2.out.1.trans b3,h3⟩
 clear b3 h3 c0 c1 cf;go_wp2_with fail;refine (qmm B c 12 L1.length L3 _ _ vl3 vw3 vv3 w3 H3.out.2 HL.out.2.2.1).mono ?_;rintro e w4 ⟨rfl,b4,vl4,vw4,vv4,h4⟩;rw[E4.out] at h4;have H4:Hid (Below B w w4∧MkAt w4 B c L4 ws1 vs1 vl4 vw4 vv4):=⟨H3.out.1.trans b4,h4⟩;clear b4 h4;go_wp2_with fail;refine (qj6 B c L1.length L4 _ _ vl4 vw4 vv4 w4 H4.out.2 HL.out.2.2.2).mono ?_;rintro e w6 ⟨rfl,b6,h6⟩;rw[E5.out] at h6;have H6:Hid (qar B c L5 ws1 vs1 w w6):=⟨H4.out.1.trans b6,h6⟩;clear b6 h6;go_wp2_with fail;go_end0
 exact ⟨rfl,H6.out⟩
theorem qwo (B c q qr tl ql:Nat) (pn:Value) (a1 a2:Option Addr) (n1 k1 k2:Nat) (L1 L2 L3 L5:List Px.Ins) (ws vs1 ws2 vs2:List ByteArray) (w:World) (hqB:q < B)
  (h4:w.heap[q]?=some (.cells #[.pointer (some ⟨qr,0,none⟩),.slice a1 n1 k1,.slice a2 0 k2] 319)) (h5:w.heap[qr]?=some (.cells #[.iface tl (.pointer (some ⟨ql,0,none⟩)),pn] 317))
  (e2:L1++[⟨13,0,0⟩]=L2) (e5:qex L3 L1.length=L5)
  (hl1:L1.length≤10000000) (hl4:L1.length < L3.length)
  (hC0:ExC B c tl ql L1 ws vs1 w)
  (hC1:∀ w1,qar B c L2 ws vs1 w w1→BlC B c (.slice a1 n1 k1) L3 ws2 vs2 w1) :
  Calls Tryz.prog 150 #[.pointer (some ⟨c,0,none⟩),.pointer (some ⟨q,0,none⟩)] w fun e w'=>e=.returned (.tuple #[])∧qar B c L5 ws2 vs2 w w':=by
 have CQ:Hid (∀ W,Below B w W→W.cell? ⟨q,0,none⟩=some (.pointer (some ⟨qr,0,none⟩))∧W.cell? ⟨q,1,none⟩=some (.slice a1 n1 k1)∧W.cell? ⟨q,2,none⟩=some (.slice a2 0 k2)∧∀ o,W.frozen? ⟨q,o,none⟩=false):=fun W hb=>cells3 ((hb.block q hqB).trans h4)
 have HC0:Hid (ExC B c tl ql L1 ws vs1 w):=hC0;have HC1:Hid (∀ w1,qar B c L2 ws vs1 w w1→BlC B c (.slice a1 n1 k1) L3 ws2 vs2 w1):=hC1;have HL:Hid (L1.length≤10000000∧L1.length < L3.length):=⟨hl1,hl4⟩;have E2:Hid (L1++[⟨13,0,0⟩]=L2):=e2;have E5:Hid (qex L3 L1.length=L5):=e5;obtain ⟨d0,d1,df⟩:=qfd h5;clear hl1 hl4 h4 h5 hC0 hC1 e2 e5;obtain ⟨c0,c1,c2,cf⟩:=CQ.out w (Below.refl B w);go_enter Tryz.func150,Tryz.ntmps150
 go_wp2_with fail;refine Calls.mono HC0.out ?_;rintro e w1 ⟨rfl,b1,vl1,vw1,vv1,h1⟩;have H1:Hid (Below B w w1∧MkAt w1 B c L1 ws vs1 vl1 vw1 vv1):=⟨b1,h1⟩;clear b1 h1 c0 c1 c2 cf d0 d1 df;go_wp2_with fail;refine (qfi B c 13 L1 _ _ vl1 vw1 vv1 w1 H1.out.2 HL.out.1).mono ?_;rintro e w2 ⟨rfl,b2,h2⟩;rw[E2.out] at h2;have H2:Hid (qar B c L2 ws vs1 w w2):=⟨H1.out.1.trans b2,h2⟩;clear b2 h2;obtain ⟨c0,c1,c2,cf⟩:=CQ.out w2 H2.out.1;go_wp2_with fail;refine Calls.mono (HC1.out w2 H2.out) ?_;rintro e w3 ⟨rfl,b3,vl3,vw3,vv3,h3⟩;have H3:Hid (Below B w w3∧MkAt w3 B c L3 ws2 vs2 vl3 vw3 vv3):=⟨H2.out.1.trans b3,h3⟩
 clear b3 h3 c0 c1 c2 cf;obtain ⟨c0,c1,c2,cf⟩:=CQ.out w3 H3.out.1;go_wp2_with fail;refine (qj6 B c L1.length L3 _ _ vl3 vw3 vv3 w3 H3.out.2 HL.out.2).mono ?_;rintro e w6 ⟨rfl,b6,h6⟩;rw[E5.out] at h6;have H6:Hid (qar B c L5 ws2 vs2 w w6):=⟨H3.out.1.trans b6,h6⟩;clear b6 h6;go_wp2_with fail;go_end0
 exact ⟨rfl,H6.out⟩
theorem qwn (B c q qr tl ql:Nat) (pn:Value) (a1 a2:Option Addr) (n1 n2 k1 k2:Nat) (L1 L2 L3 L5 L6 L7:List Px.Ins) (ws vs1 ws2 vs2 ws3 vs3:List ByteArray) (w:World) (hqB:q < B)
  (h4:w.heap[q]?=some (.cells #[.pointer (some ⟨qr,0,none⟩),.slice a1 n1 k1,.slice a2 n2 k2] 319)) (hn2:0 < n2) (h5:w.heap[qr]?=some (.cells #[.iface tl (.pointer (some ⟨ql,0,none⟩)),pn] 317))
  (e2:L1++[⟨13,0,0⟩]=L2) (e5:qex (L3++[⟨12,0,0⟩]) L1.length=L5) (e7:qex L6 L3.length=L7)
  (hl1:L1.length≤10000000) (hl3:L3.length≤10000000) (hl4:L1.length < (L3++[(⟨12,0,0⟩:Px.Ins)]).length) (hl6:L3.length < L6.length)
  (hC0:ExC B c tl ql L1 ws vs1 w)
  (hC1:∀ w1,qar B c L2 ws vs1 w w1→BlC B c (.slice a1 n1 k1) L3 ws2 vs2 w1)
  (hC2:∀ w1,qar B c L5 ws2 vs2 w w1→BlC B c (.slice a2 n2 k2) L6 ws3 vs3 w1) :
  Calls Tryz.prog 150 #[.pointer (some ⟨c,0,none⟩),.pointer (some ⟨q,0,none⟩)] w fun e w'=>e=.returned (.tuple #[])∧qar B c L7 ws3 vs3 w w':=by
 have CQ:Hid (∀ W,Below B w W→W.cell? ⟨q,0,none⟩=some (.pointer (some ⟨qr,0,none⟩))∧W.cell? ⟨q,1,none⟩=some (.slice a1 n1 k1)∧W.cell? ⟨q,2,none⟩=some (.slice a2 n2 k2)∧∀ o,W.frozen? ⟨q,o,none⟩=false):=fun W hb=>cells3 ((hb.block q hqB).trans h4)
 have HC0:Hid (ExC B c tl ql L1 ws vs1 w):=hC0;have HC1:Hid (∀ w1,qar B c L2 ws vs1 w w1→BlC B c (.slice a1 n1 k1) L3 ws2 vs2 w1):=hC1;have HC2:Hid (∀ w1,qar B c L5 ws2 vs2 w w1→BlC B c (.slice a2 n2 k2) L6 ws3 vs3 w1):=hC2;have HL:Hid (L1.length≤10000000∧L3.length≤10000000∧L1.length < (L3++[(⟨12,0,0⟩:Px.Ins)]).length∧L3.length < L6.length):=⟨hl1,hl3,hl4,hl6⟩;have E2:Hid (L1++[⟨13,0,0⟩]=L2):=e2;have E5:Hid (qex (L3++[⟨12,0,0⟩]) L1.length=L5):=e5;have E7:Hid (qex L6 L3.length=L7):=e7;obtain ⟨d0,d1,df⟩:=qfd h5;clear hl1 hl3 hl4 hl6 h4 h5 hC0 hC1 hC2 e2 e5 e7;obtain ⟨c0,c1,c2,cf⟩:=CQ.out w (Below.refl B w)
 go_enter Tryz.func150,Tryz.ntmps150
 go_wp2_with fail;refine Calls.mono HC0.out ?_;rintro e w1 ⟨rfl,b1,vl1,vw1,vv1,h1⟩;have H1:Hid (Below B w w1∧MkAt w1 B c L1 ws vs1 vl1 vw1 vv1):=⟨b1,h1⟩;clear b1 h1 c0 c1 c2 cf d0 d1 df;go_wp2_with fail;refine (qfi B c 13 L1 _ _ vl1 vw1 vv1 w1 H1.out.2 HL.out.1).mono ?_;rintro e w2 ⟨rfl,b2,h2⟩;rw[E2.out] at h2;have H2:Hid (qar B c L2 ws vs1 w w2):=⟨H1.out.1.trans b2,h2⟩;clear b2 h2;obtain ⟨c0,c1,c2,cf⟩:=CQ.out w2 H2.out.1;go_wp2_with fail;refine Calls.mono (HC1.out w2 H2.out) ?_;rintro e w3 ⟨rfl,b3,vl3,vw3,vv3,h3⟩;have H3:Hid (Below B w w3∧MkAt w3 B c L3 ws2 vs2 vl3 vw3 vv3):=⟨H2.out.1.trans b3,h3⟩
 clear b3 h3 c0 c1 c2 cf;obtain ⟨c0,c1,c2,cf⟩:=CQ.out w3 H3.out.1;go_wp2_with fail;refine (qfi B c 12 L3 _ _ vl3 vw3 vv3 w3 H3.out.2 HL.out.2.1).mono ?_;rintro e w4 ⟨rfl,b4,vl4,vw4,vv4,h4⟩;have H4:Hid (Below B w w4∧MkAt w4 B c (L3++[⟨12,0,0⟩]) ws2 vs2 vl4 vw4 vv4):=⟨H3.out.1.trans b4,h4⟩;clear b4 h4 c0 c1 c2 cf;go_wp2_with fail;refine (qj6 B c L1.length _ _ _ vl4 vw4 vv4 w4 H4.out.2 HL.out.2.2.1).mono ?_;rintro e w5 ⟨rfl,b5,h5⟩;rw[E5.out] at h5;have H5:Hid (qar B c L5 ws2 vs2 w w5):=⟨H4.out.1.trans b5,h5⟩;clear b5 h5;obtain ⟨c0,c1,c2,cf⟩:=CQ.out w5 H5.out.1;go_wp2_with fail;refine Calls.mono (HC2.out w5 H5.out) ?_
 rintro e w6 ⟨rfl,b6,vl6,vw6,vv6,h6⟩;have H6:Hid (Below B w w6∧MkAt w6 B c L6 ws3 vs3 vl6 vw6 vv6):=⟨H5.out.1.trans b6,h6⟩;clear b6 h6 c0 c1 c2 cf;go_wp2_with fail;refine (qj6 B c L3.length L6 _ _ vl6 vw6 vv6 w6 H6.out.2 HL.out.2.2.2).mono ?_;rintro e w7 ⟨rfl,b7,h7⟩;rw[E7.out] at h7;have H7:Hid (qar B c L7 ws3 vs3 w w7):=⟨H6.out.1.trans b7,h7⟩;clear b7 h7;go_wp2_with fail;go_end0
 exact ⟨rfl,H7.out⟩
end Mk
end Go.Proofs.YtagpnplggopoeaaGreatDoor
