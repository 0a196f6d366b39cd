import Derived.Test.YtnhkpbmplefnaaaGreatDoorB37
import Derived.Test.YtnhkpbmplefnaaaGreatDoorB06
import Derived.Test.YtnhkpbmplefnaaaGreatDoorB36
import Derived.Test.YtnhkpbmplefnaaaGreatDoorB04
import Derived.ChangeSlices
import Derived.SizedLaws
import Derived.OpenShut
set_option maxRecDepth 100000
set_option maxHeartbeats 8000000
namespace Go.Proofs.YtnhkpbmplefnaaaGreatDoor
open Go.RowKit
namespace Lw
theorem qoc {w:World} {B:Nat} {v:Value} {l:List Int} (h:w.ownsRow B 3 1 v l.length (Ref.intCells l)):Rn.GivenAt w v l:=by
 obtain ⟨ad,cap,rfl,hc⟩:=qe2 h;refine ⟨ad,cap,rfl,hc,fun i hi=>?_,fun q hq=>?_⟩
 ·obtain ⟨g,cap',e,_,_,_,h1⟩:=qi9 h (by omega)
  cases e;refine ⟨g,0,rfl,?_⟩;rw[Nat.zero_add];exact h1 i _ (by simp[Ref.intCells,hi])
 ·subst hq;exact (h.lt _ rfl).2
theorem qdl (e:Int) (w:World):Calls Tryz.prog 14 #[.int .i64 e] w fun r w'=>r=.returned (.int .i64 e)∧w'=w:=by
 go_enter Tryz.func14,Tryz.ntmps14
 go_wp2_with fail;go_ret;exact ⟨rfl,rfl⟩
theorem AsksAt.keep {w w':World} {v:Value} {l:List Px.Ask} (h:AsksAt w v l) (k:Below w.heap.size w w'):AsksAt w' v l:=by
 obtain ⟨ad,cap,e,h1⟩:=h.ex;refine ⟨ad,cap,e,fun i hi=>?_⟩
 obtain ⟨g,e1,c1,c2,c3,c4⟩:=h1 i hi;have hz:=lt_of_cell c1;exact ⟨g,e1,by rw[k.cell (p:=⟨g,i * 4,none⟩) hz];exact c1,by rw[k.cell (p:=⟨g,i * 4+1,none⟩) hz];exact c2,by rw[k.cell (p:=⟨g,i * 4+2,none⟩) hz];exact c3,by rw[k.cell (p:=⟨g,i * 4+3,none⟩) hz];exact c4⟩
open Go.RowKit
theorem zsc:∀ x∈[(1:Int)],Px.R64 x:=by
 intro x hx;simp at hx;subst hx;unfold Px.R64;omega
theorem qe7 (E F:Nat→Addr) (w:World) (g:Ed.Gr w E F) :
  Calls Tryz.prog 17 #[] w fun e w'=>e=.returned (.bool true)∧Below w.heap.size w w':=by
 have hb0:Below w.heap.size w (w.alloc (.cells #[.int .i64 1] 3)):=(Below.refl _ _).alloc (Nat.le_refl _) _;have hgv:Rn.GivenAt (w.alloc (.cells #[.int .i64 1] 3)) (.slice (some ⟨w.heap.size,0,none⟩) 1 1) [1]:=by
  refine ⟨_,_,rfl,Nat.le_refl _,fun i hi=>⟨w.heap.size,0,rfl,?_⟩,fun q hq=>?_⟩
  ·obtain rfl:i=0:=by simp at hi;exact hi
   simp
  ·cases hq;simp
 have HR:Hid (_):=Ed.qh2 E F Px.qwy [1] (.slice (some ⟨w.heap.size,0,none⟩) 1 1) _ (by unfold maxLen;decide) (g.below hb0) hgv (by simp) zsc
 have HB:Hid (Below w.heap.size w (w.alloc (.cells #[.int .i64 1] 3))):=hb0;clear g hb0 hgv;go_enter Tryz.func17,Tryz.ntmps17
 go_wp2_with fail;refine Calls.mono HR.out ?_;rintro e w1 ⟨b1,va,rfl,ho⟩;have hA:=qm8 ho;rw[Px.qwx] at hA;obtain ⟨ad,cap,rfl,h1⟩:=hA.ex;obtain ⟨g1,rfl,p1,p2,p3,p4⟩:=h1 0 (by simp)
 have K:Hid (Below w.heap.size w w1):=HB.out.trans (b1.mono HB.out.size);rw[Px.qwx];simp at p1 p2 p3 p4;clear b1 ho hA h1 HR;go_wp2_with fail;refine (qdl _ _).mono ?_;rintro e w8 ⟨rfl,rfl⟩;go_wp2_with fail;go_ret;exact ⟨rfl,K.out⟩
open Go.RowKit
structure ArgAt (w:World) (ad:Option Addr) (cap:Nat) (l:List Int):Prop where
 a:Ref.AnsAt w (.slice ad l.length cap) l
 c:l.length≤cap
 m:cap≤maxLen
 r:∀ x∈l,Px.R64 x
def qg0 (s:ByteArray) (l:List Int) (v:Value) (w0 W:World):Prop :=
 Calls Tryz.prog 19 #[v] W fun e w1=>∃ a1 n1 c1,e=.returned (.slice a1 n1 c1) ∧
  Hid (Calls Tryz.prog 18 #[.string s,.slice a1 n1 c1] w1 fun e2 w2=>∃ a2 c2,e2=.returned (.tuple #[.slice a2 (Px.run s l).1.length c2,.int .i64 ((Px.run s l).2.1:Int),.int .i64 ((Px.run s l).2.2.1:Int),.int .i64 ((Px.run s l).2.2.2:Int)]) ∧
   Hid (Below w0.heap.size w0 w2∧Below W.heap.size W w2∧AsksAt w2 (.slice a2 (Px.run s l).1.length c2) (Px.run s l).1))
open Go.RowKit
def zb4 (v:Int):Int:=if v < 0 then -1 - v else v
def told (l:List Int) (n:Nat):List Int:=(l.take n).map zb4
theorem qn0 {l:List Int} {n:Nat} (h:n≤l.length):(told l n).length=n:=by
 unfold told;rw[List.length_map,List.length_take];omega
theorem qu4 {l:List Int} {n:Nat} (h:n < l.length):told l (n+1)=told l n++[zb4 l[n]]:=by
 unfold told;rw[List.take_succ_eq_append_getElem h,List.map_append];rfl
theorem qzd {l:List Int} {n:Nat}:∀ v∈told l n,0≤v:=by
 intro v hv;unfold told at hv;obtain ⟨x,_,rfl⟩:=List.mem_map.1 hv;unfold zb4;split<;>omega
theorem zpx {l:List Int} {n:Nat} (h:∀ x∈l,Px.R64 x):∀ v∈told l n,Px.R64 v:=by
 intro v hv;unfold told at hv;obtain ⟨x,hx,rfl⟩:=List.mem_map.1 hv
 have:=h x (List.mem_of_mem_take hx)
 unfold Px.R64 at *;unfold zb4;split<;>omega
theorem qud (n:Nat):(Px.bT n).length=16 * n:=by
 induction n with
 | zero=>rfl
 | succ n ih=>rw[Px.bT,List.length_append,ih];simp[Px.bX];omega
theorem quc {T:ByteArray} {j:Nat} (h:T.data.toList=Px.bT j):(T++⟨#[99,97,108,108,32]⟩++⟨#[Px.bl j]⟩++⟨#[40,41,117,110,100,111,32,120]⟩++⟨#[Px.bl j]⟩++⟨#[59]⟩).data.toList=Px.bT (j+1):=by
 simp[ByteArray.data_append,h,Px.bT,Px.bX]
theorem ql0 (j:Nat) (hj:j < 9) (W:World):(convert 48 9 (.slice (some ⟨W.heap.size,0,none⟩) 1 1)).run Tryz.prog (W.alloc (.cells #[.int .u8 (97+(j:Int))] 5))=.ok (.string ⟨#[Px.bl j]⟩) (W.alloc (.cells #[.int .u8 (97+(j:Int))] 5)):=by
 have hd:((Px.bl j).toNat:Int)=97+j:=by
  unfold Px.bl;rw[UInt8.toNat_ofNat_of_lt' (by show 97+j < 256;omega)]
  omega
 exact run_convert_bytes_back (P:=Tryz.prog) (W.alloc (.cells #[.int .u8 (97+(j:Int))] 5)) 48 9 5 ⟨W.heap.size,0,none⟩ 1 [Px.bl j] Tryz.underlying48 Tryz.underlying5 Tryz.underlying9 (by
  intro i hi
  have:i=0:=by simpa using hi
  subst this;simp[Addr.add,hd])
theorem zj5 {w:World} {B:Nat} {v:Value} {l:List Int} (h:w.ownsRow B 3 1 v l.length (Ref.intCells l)) (hl:l.length≤1000):Ref.AnsAt w v l:=by
 obtain ⟨ad,cap,rfl,hc⟩:=qe2 h;refine ⟨ad,cap,rfl,by unfold maxLen;omega,by omega,fun i hi=>?_⟩
 obtain ⟨g,cap',e,_,h0,_,h1⟩:=qi9 h (by omega)
 cases e;exact ⟨_,rfl,h0,h.cells rfl i (.int .i64 l[i]) (by simp[Ref.intCells,hi])⟩
theorem qwk {E F:Nat→Addr} {s:ByteArray} {l:List Int} {v:Value} {w0 W:World} (hs:s.size≤maxLen) (g:Ed.Gr w0 E F) (hW:Below w0.heap.size w0 W) (ha:Ref.AnsAt W v l) (hr:∀ x∈l,Px.R64 x):qg0 s l v w0 W:=by
 have hl:l.length≤140737488355328:=by
  obtain ⟨_,_,_,_,h2,_⟩:=ha;omega
 refine (qm4 l v W ha).mono ?_;rintro e w1 ⟨v1,rfl,b1,o1⟩;obtain ⟨a1,n1,c1,rfl⟩:=Ref.qad o1;refine ⟨a1,n1,c1,rfl,?_⟩;have b01:=hW.trans (b1.mono hW.size);refine (Ed.qh2 E F s l (.slice a1 n1 c1) w1 hs (g.below b01) (qoc o1) hl hr).mono ?_;rintro e2 w2 ⟨b2,va,rfl,o2⟩;obtain ⟨a2,c2,rfl,_⟩:=qe2 o2;exact ⟨a2,c2,rfl,b01.trans (b2.mono b01.size),b1.trans (b2.mono b1.size),qm8 o2⟩
theorem zuv {w:World} {a:Addr} {v:Value} (h:w.cell? a=some v):a.block < w.heap.size:=by
 unfold World.cell? at h;cases e:w.heap[a.block]? with
 | none=>rw[e] at h;cases h
 | some o=>exact (Array.getElem?_eq_some_iff.1 e).1
theorem qdk {w:World} {a:Addr} {v:Value} (o:Obj) (h:w.cell? a=some v):(w.alloc o).cell? a=some v:=by
 rw[((Below.refl w.heap.size w).alloc (Nat.le_refl _) o).cell (zuv h)];exact h
theorem zjw {vs:List Int} {n:Nat} (hv:vs.length=n) {j:Nat} (hj:j < n):(Px.bA 0 vs++(Px.bP 0 vs).reverse.map (fun u=>(⟨u.1,u.2,1,true⟩:Px.Ask)))[n+j]?=some ⟨Px.bU (n - 1 - j),vs[n - 1 - j]'(by omega),1,true⟩:=by
 have hl:(Px.bA 0 vs).length=n:=by rw[Px.zjx,hv]
 have hp:∀ (vs:List Int) k i (h:i < vs.length),(Px.bP k vs)[i]?=some (Px.bU (k+i),vs[i]):=by
  intro vs;induction vs with
  | nil=>intro k i h;simp at h
  | cons v vs ih =>
   intro k i h;cases i with
   | zero=>rfl
   | succ i =>
    have:=ih (k+1) i (by simp at h;omega)
    rw[Px.bP,List.getElem?_cons_succ,this];simp;congr 1;omega
 have hpl:(Px.bP 0 vs).length=n:=by
  have:∀ (vs:List Int) k,(Px.bP k vs).length=vs.length:=by
   intro vs;induction vs with
   | nil=>intro k;rfl
   | cons v vs ih=>intro k;simp[Px.bP,ih]
  rw[this,hv]
 rw[List.getElem?_append_right (by omega),hl,Nat.add_sub_cancel_left,List.getElem?_map,List.getElem?_reverse (by omega),hpl,hp vs 0 _ (by omega)]
 simp
theorem zjv (E F:Nat→Addr) (l:List Int) (ad:Option Addr) (cap:Nat) (n:Int) (w:World) (g:Ed.Gr w E F) (ha:ArgAt w ad cap l) (_:Px.R64 n) :
  Calls Tryz.prog 9 #[.int .i64 n,.slice ad l.length cap] w fun e w'=>e=.returned (.bool true)∧Below w.heap.size w w':=by
 have HC:Hid (_):=qe7 E F w g;have hc:=ha.c;have hm:=ha.m;unfold maxLen at hm;have hl8:l.length≤140737488355328:=by
  obtain ⟨_,_,_,_,h2,_⟩:=ha.a;omega
 have HA:Hid (∀ i (hi:i < l.length),∃ a:Addr,ad=some a∧a.block < w.heap.size∧w.cell? (a.add i)=some (.int .i64 l[i])):=by
  obtain ⟨ad',cap',e,_,_,h3⟩:=ha.a;cases e;exact h3
 have H5:Hid (Ed.Gr w E F∧∀ x∈l,Px.R64 x):=⟨g,ha.r⟩;obtain ⟨i0,hi,hz0,hz1,hz2⟩:=info_parts Ref.qtp;clear g ha;have h1:-9 < n.tmod 9:=by
  have:=Int.lt_tmod_of_pos n (show (0:Int) < 9 by decide)
  omega
 have h2:n.tmod 9 < 9:=Int.tmod_lt_of_pos n (by decide)
 generalize hr0:n.tmod 9=r at *;obtain ⟨N,hN,hcase⟩:∃ N:Nat,N≤8∧((r < 0∧r+9=(N:Int))∨(¬ r < 0∧r=(N:Int))):=by
  by_cases h0:r < 0
  ·exact ⟨(r+9).toNat,by omega,Or.inl ⟨h0,by omega⟩⟩
  ·exact ⟨r.toNat,by omega,Or.inr ⟨h0,by omega⟩⟩
 by_cases hsh:l.length < N
 ·have hsh':(l.length:Int) < (N:Int):=by omega
  rcases hcase with ⟨c1,c2⟩ | ⟨c1,c2⟩
  ·have hwr2:wrap64 (r+9)=(N:Int):=by unfold wrap64;omega
   go_enter Tryz.func9,Tryz.ntmps9
   go_wp2_with fail;refine Calls.mono HC.out ?_;rintro e w1 ⟨rfl,b1⟩;have K1:Hid (Below w.heap.size w w1):=b1;clear b1 HC;go_wp2_with fail;go_ret;exact ⟨rfl,K1.out⟩
  ·subst c2;go_enter Tryz.func9,Tryz.ntmps9
   go_wp2_with fail;refine Calls.mono HC.out ?_;rintro e w1 ⟨rfl,b1⟩;have K1:Hid (Below w.heap.size w w1):=b1;clear b1 HC;go_wp2_with fail;go_ret;exact ⟨rfl,K1.out⟩
 ·have hsh':¬ (l.length:Int) < (N:Int):=by omega
  have hNl:N≤l.length:=by omega
  have hwr2:r < 0→wrap64 (r+9)=(N:Int):=by intro h;unfold wrap64;omega
  rcases hcase with ⟨c1,c2⟩ | ⟨c1,c2⟩
  ·have hwr3:=hwr2 c1;clear hwr2;go_enter Tryz.func9,Tryz.ntmps9
   go_wp2_with fail;refine Calls.mono HC.out ?_;rintro e w1 ⟨rfl,b1⟩;have K1:Hid (Below w.heap.size w w1):=b1;clear b1 HC;go_wp2_with fail;go_loopw [6,7,8] (fun tx tv i wr=>∃ (j:Nat) (T:ByteArray),j≤N∧i=.int .i64 j∧tx=.string T∧Hid (T.data.toList=Px.bT j∧Below w.heap.size w wr∧wr.ownsRow w.heap.size 3 1 tv (told l j).length (Ref.intCells (told l j)))) (fun _ _ i _=>N - (intOf i).toNat)
   case atStart=>exact ⟨0,⟨#[]⟩,by omega,rfl,rfl,rfl,K1.out,World.ownsRow_nil _ _ _ _⟩
   case round =>
    obtain ⟨j,T,hj,rfl,rfl,hr⟩:=hrel;have hTs:T.size=16 * j:=by
     have h3:T.data.toList.length=T.size:=by rw[Array.length_toList];rfl
     rw[← h3,hr.out.1,qud]
    by_cases hlt:j < N
    ·obtain ⟨a,rfl,hab,hac⟩:=HA.out j (by omega)
     have hac2:wr.cell? (a.add j)=some (.int .i64 l[j]):=by
      have hbl:(a.add j).block < w.heap.size:=by unfold Addr.add;split<;>exact hab
      rw[hr.out.2.1.cell hbl];exact hac
     have hsz:w.heap.size≤wr.heap.size:=hr.out.2.1.size;have hga:a.block < wr.heap.size:=by omega
     have hac3:(wr.alloc (.cells #[.int .u8 (97+(j:Int))] 5)).cell? (a.add j)=some (.int .i64 l[j]):=by
      have hbl:(a.add j).block < wr.heap.size:=by unfold Addr.add;split<;>exact hga
      rw[((Below.refl wr.heap.size wr).alloc (Nat.le_refl _) _).cell hbl];exact hac2
     have hlt':(j:Int) < (N:Int):=by omega
     have hlt2:(j:Int) < (l.length:Int):=by omega
     have hcv:=ql0 j (by omega) wr
     have htk:=qu4 (l:=l) (n:=j) (by omega)
     have hry:=H5.out.2 l[j] (List.getElem_mem _);generalize l[j]=y at *;obtain ⟨la,ln,lc,rfl⟩:=Ref.qad hr.out.2.2;have hlj:=qn0 (l:=l) (n:=j) (by omega)
     have hT9:T.size≤128:=by omega
     unfold Px.R64 at hry;unfold zb4 at htk;by_cases hy:y < 0
     ·rw[if_pos hy] at htk;have H3:Hid (told l (j+1)=told l j++[-1 - y]):=htk;have hwy:wrap64 (-1 - y)=-1 - y:=by unfold wrap64;omega
      clear hac htk;go_wp2_with (first
       | (at_builtin;refine wpList_append_own_at _ rfl _ _ 33 rfl w.heap.size 3 i0 (.int .i64 0) 1 8 Tryz.underlying33 hi hz0 hz1 hz2 rfl (by decide) _ _ _ rfl ((hr.out.2.2.alloc _).alloc _) ⟨wr.heap.size+1,0,none⟩ 1 1 [.int .i64 (-1 - y)] rfl rfl ?ka1 ?ka2 ?ka3 ?ka4 ?ka5 ?_)
       | fail)
      case ka1 =>
       intro j u hj;match j,hj with
       | 0,hj=>simp at hj;subst hj;simp[Addr.add]
      case ka2=>first | rfl | (intro u hu;simp at hu;subst hu;rfl)
      case ka3=>unfold maxLen;omega
      case ka4=>omega
      case ka5=>first | omega | (simp;omega)
      ·intro v' w4 hown' hgrow _ hloc;have HN:Hid (Below w.heap.size w w4∧w4.ownsRow w.heap.size 3 1 v' (told l (j+1)).length (Ref.intCells (told l (j+1)))):=by
        refine ⟨hr.out.2.1.trans ?_,?_⟩
        ·have hT:Tch (fun k=>(Value.slice la ln lc).ownBlock=some k) wr w4:=(((Tch.refl _ _).alloc _).alloc _).grown hgrow fun k hk=>Or.inl hk
         exact hT.qbg hsz fun k hk=>(hr.out.2.2.lt k hk).1
        ·rw[H3.out,qgs,List.length_append,hlj];exact hown'
       have HT:Hid (_):=quc hr.out.1;clear hown' hgrow hloc hr;go_wp2;exact ⟨⟨j+1,_,by omega,by go_num,rfl,HT.out,HN.out⟩,by simp[intOf];omega⟩
     ·rw[if_neg hy] at htk;have H3:Hid (told l (j+1)=told l j++[y]):=htk;clear hac htk;go_wp2_with (first
       | (at_builtin;refine wpList_append_own_at _ rfl _ _ 33 rfl w.heap.size 3 i0 (.int .i64 0) 1 8 Tryz.underlying33 hi hz0 hz1 hz2 rfl (by decide) _ _ _ rfl ((hr.out.2.2.alloc _).alloc _) ⟨wr.heap.size+1,0,none⟩ 1 1 [.int .i64 (y)] rfl rfl ?kb1 ?kb2 ?kb3 ?kb4 ?kb5 ?_)
       | fail)
      case kb2=>first | rfl | (intro u hu;simp at hu;subst hu;rfl)
      case kb3=>unfold maxLen;omega
      case kb4=>omega
      case kb5=>first | omega | (simp;omega)
      ·intro v' w4 hown' hgrow _ hloc;have HN:Hid (Below w.heap.size w w4∧w4.ownsRow w.heap.size 3 1 v' (told l (j+1)).length (Ref.intCells (told l (j+1)))):=by
        refine ⟨hr.out.2.1.trans ?_,?_⟩
        ·have hT:Tch (fun k=>(Value.slice la ln lc).ownBlock=some k) wr w4:=(((Tch.refl _ _).alloc _).alloc _).grown hgrow fun k hk=>Or.inl hk
         exact hT.qbg hsz fun k hk=>(hr.out.2.2.lt k hk).1
        ·rw[H3.out,qgs,List.length_append,hlj];exact hown'
       have HT:Hid (_):=quc hr.out.1;clear hown' hgrow hloc hr;go_wp2;exact ⟨⟨j+1,_,by omega,by go_num,rfl,HT.out,HN.out⟩,by simp[intOf];omega⟩
    ·obtain rfl:j=N:=by omega
     have hTT:(T++⟨#[102,97,105,108,59]⟩:ByteArray).data.toList=Px.bT j++[102,97,105,108,59]:=by simp[ByteArray.data_append,hr.out.1]
     have H8:Hid (Below w.heap.size w wr):=hr.out.2.1;have HO:Hid (_):=hr.out.2.2;have hlj:=qn0 (l:=l) (n:=j) (by omega)
     have hT9:T.size≤128:=by omega
     have HR:Hid (_):=Px.zbh hN hTT (told l j) qzd hlj;have HL:Hid ((told l j).length=j∧∀ x∈told l j++List.replicate j 0,Px.R64 x):=⟨hlj,fun x hx=>by
      rcases List.mem_append.1 hx with h | h
      ·exact zpx H5.out.2 x h
      ·rw[List.eq_of_mem_replicate h];exact ⟨by decide,by decide⟩⟩
     have hTm:(T++⟨#[102,97,105,108,59]⟩:ByteArray).size≤maxLen:=by
      have h3:(T++⟨#[102,97,105,108,59]⟩:ByteArray).data.toList.length=(T++⟨#[102,97,105,108,59]⟩:ByteArray).size:=by rw[Array.length_toList];rfl
      rw[← h3,hTT,List.length_append,qud];unfold maxLen;simp;omega
     have H9:Hid (_):=hTm;clear hlt hr hTT HA hj hTm hTs;go_wp2_with fail;go_loopw [7,11] (fun tv i wr=>∃ q:Nat,q≤j∧i=.int .i64 q∧Hid (Below w.heap.size w wr∧wr.ownsRow w.heap.size 3 1 tv (told l j++List.replicate q 0).length (Ref.intCells (told l j++List.replicate q 0)))) (fun _ i _=>j - (intOf i).toNat)
     case atStart=>exact ⟨0,by omega,rfl,H8.out,by rw[List.replicate_zero,List.append_nil];exact HO.out⟩
     case round =>
      clear H8 HO;obtain ⟨q,hq,rfl,hr⟩:=hrel;by_cases hlt:q < j
      ·have hsz:w.heap.size≤wr.heap.size:=hr.out.1.size;have hlt':(q:Int) < (j:Int):=by omega
       have hlq:(told l j++List.replicate q 0).length=j+q:=by simp[hlj]
       obtain ⟨la,ln,lc,rfl⟩:=Ref.qad hr.out.2;go_wp2_with (first
        | (at_builtin;refine wpList_append_own_at _ rfl _ _ 33 rfl w.heap.size 3 i0 (.int .i64 0) 1 8 Tryz.underlying33 hi hz0 hz1 hz2 rfl (by decide) _ _ _ rfl (hr.out.2.alloc _) ⟨wr.heap.size,0,none⟩ 1 1 [.int .i64 0] rfl rfl ?kd1 ?kd2 ?kd3 ?kd4 ?kd5 ?_)
        | fail)
       case kd1 =>
        intro j u hj;match j,hj with
        | 0,hj=>simp at hj;subst hj;simp[Addr.add]
       case kd2=>first | rfl | (intro u hu;simp at hu;subst hu;rfl)
       case kd3=>unfold maxLen;omega
       case kd4=>omega
       case kd5=>first | omega | (simp;omega)
       ·intro v' w4 hown' hgrow _ hloc;have HN:Hid (Below w.heap.size w w4∧w4.ownsRow w.heap.size 3 1 v' (told l j++List.replicate (q+1) 0).length (Ref.intCells (told l j++List.replicate (q+1) 0))):=by
         refine ⟨hr.out.1.trans ?_,?_⟩
         ·have hT:Tch (fun k=>(Value.slice la ln lc).ownBlock=some k) wr w4:=((Tch.refl _ _).alloc _).grown hgrow fun k hk=>Or.inl hk
          exact hT.qbg hsz fun k hk=>(hr.out.2.lt k hk).1
         ·rw[List.replicate_succ',← List.append_assoc,qgs,List.length_append,hlq];exact hown'
        clear hown' hgrow hloc hr;go_wp2;exact ⟨⟨q+1,by omega,by go_num,HN.out⟩,by simp[intOf];omega⟩
      ·obtain rfl:q=j:=by omega
       clear hlt;have hlq:(told l q++List.replicate q 0).length=q+q:=by simp[hlj]
       have ha:=zj5 hr.out.2 (by omega)
       have HQ:Hid (_):=qwk H9.out (H5.out.1.below hr.out.1) (Below.refl _ _) ha HL.out.2;unfold qg0 at HQ;rw[HR.out] at HQ;dsimp only at HQ;have HW:Hid (Below w.heap.size w wr):=hr.out.1;obtain ⟨la,lc,rfl,_⟩:=qe2 hr.out.2;have HV:Hid (Ref.AnsAt wr _ _):=ha;have hAl:(Px.bA 0 (told l q)++(Px.bP 0 (told l q)).reverse.map (fun u=>(⟨u.1,u.2,1,true⟩:Px.Ask))).length=q+q:=by
        have h0:=HL.out.1
        have:∀ (vs:List Int) k,(Px.bP k vs).length=vs.length:=by
         intro vs;induction vs with
         | nil=>intro k;rfl
         | cons v vs ih=>intro k;simp[Px.bP,ih]
        rw[List.length_append,List.length_map,List.length_reverse,this,Px.zjx,h0]
       have HB:Hid (∀ j < q,(Px.bA 0 (told l q)++(Px.bP 0 (told l q)).reverse.map (fun u=>(⟨u.1,u.2,1,true⟩:Px.Ask)))[q+j]?=some ⟨Px.bU (q - 1 - j),(told l q++List.replicate q 0)[q - 1 - j]?.getD 0,1,true⟩):=fun j hj=>by
        have h0:=HL.out.1;rw[zjw HL.out.1 hj,List.getElem?_append_left (by omega),List.getElem?_eq_getElem (by omega)]
        rfl
       generalize Px.bA 0 (told l q)++(Px.bP 0 (told l q)).reverse.map (fun u=>(⟨u.1,u.2,1,true⟩:Px.Ask))=A at *
       clear ha hr HR H9 H5 HL hlj;generalize told l q++List.replicate q 0=L at *;rw[hlq] at *;rw[hAl] at *;generalize (T++⟨#[102,97,105,108,59]⟩:ByteArray)=TT at *;clear hT9;go_wp2_with fail;refine Calls.mono HQ.out ?_;rintro e w4 ⟨a4,n4,c4,rfl,Q4⟩;go_wp2_with fail;refine Calls.mono Q4.out ?_;rintro e w5 ⟨a5,c5,rfl,K5⟩;have K6:Hid (Below w.heap.size w w5∧AsksAt w5 (.slice a5 (q+q) c5) A∧Ref.AnsAt w5 (.slice la (q+q) lc) L):=⟨HW.out.trans (K5.out.1.mono HW.out.size),K5.out.2.2,HV.out.keep K5.out.1⟩;clear Q4 K5 HQ HW HV;go_wp2_with fail;refine (qdl _ _).mono ?_;rintro e w9 ⟨rfl,rfl⟩;have hq2:wrap64 (2 * (q:Int))=(q:Int)+(q:Int):=by unfold wrap64;omega
       have hq3:2 * (q:Int)=(q:Int)+(q:Int):=by omega
       go_wp2_with fail;go_loopw [16] (fun i wr=>∃ j:Nat,j≤q∧i=.int .i64 j∧Hid (Below w.heap.size w wr∧AsksAt wr (.slice a5 (q+q) c5) A∧Ref.AnsAt wr (.slice la (q+q) lc) L)) (fun i _=>q - (intOf i).toNat)
       case atStart=>exact ⟨0,by omega,rfl,K6⟩
       case round =>
        clear K6;obtain ⟨j,hj,rfl,hr⟩:=hrel;by_cases hlt:j < q
        ·obtain ⟨ad2,cp2,e2,h22⟩:=hr.out.2.1.ex;obtain ⟨ad3,cp3,e3,_,_,h33⟩:=hr.out.2.2;simp only[Value.slice.injEq] at e2 e3;obtain ⟨rfl,_,rfl⟩:=e2;obtain ⟨rfl,_,rfl⟩:=e3;have hk:q - 1 - j < L.length:=by omega
         have hA:=HB.out j hlt;rw[List.getElem?_eq_getElem (by omega),List.getElem?_eq_getElem hk] at hA
         have hA':=Option.some.inj hA;obtain ⟨g2,rfl,q1,q2,q3,q4⟩:=h22 (q+j) (by omega)
         rw[hA'] at q1 q2 q3 q4;obtain ⟨a3,rfl,_,q5⟩:=h33 (q - 1 - j) hk;dsimp only[Option.getD] at q1 q2 q3 q4 q5;generalize L[q - 1 - j]=y at *;have hkj:(q:Int) - 1 - (j:Int)=((q - 1 - j:Nat):Int):=by omega
         have hk9:q - 1 - j < 9:=by omega
         generalize q - 1 - j=k at *;have hcv:=ql0 k hk9 wr;have r1:=qdk (.cells #[.int .u8 (97+(k:Int))] 5) q1;have r2:=qdk (.cells #[.int .u8 (97+(k:Int))] 5) q2;have r3:=qdk (.cells #[.int .u8 (97+(k:Int))] 5) q3;have r4:=qdk (.cells #[.int .u8 (97+(k:Int))] 5) q4;have r5:=qdk (.cells #[.int .u8 (97+(k:Int))] 5) q5;have HN:Hid (Below w.heap.size w (wr.alloc (.cells #[.int .u8 (97+(k:Int))] 5))∧AsksAt (wr.alloc (.cells #[.int .u8 (97+(k:Int))] 5)) (.slice (some ⟨g2,0,none⟩) (q+q) c5) A∧Ref.AnsAt (wr.alloc (.cells #[.int .u8 (97+(k:Int))] 5)) (.slice (some a3) (q+q) lc) L):=by
          have b:=(Below.refl wr.heap.size wr).alloc (Nat.le_refl _) (.cells #[.int .u8 (97+(k:Int))] 5);exact ⟨hr.out.1.trans (b.mono hr.out.1.size),hr.out.2.1.keep b,hr.out.2.2.keep b⟩
         have hlt':(j:Int) < (q:Int):=by omega
         have hkq:k < q+q:=by omega
         have hkq':(k:Int) < (q:Int)+(q:Int):=by omega
         have hjq':(q:Int)+(j:Int) < (q:Int)+(q:Int):=by omega
         have hbu:(⟨#[120]⟩++⟨#[Px.bl k]⟩:ByteArray)=Px.bU k:=rfl;clear hA hA' h22 h33 hr;go_wp2_with fail;go_region
         all_goals
          go_wp2_with fail;exact ⟨⟨j+1,by omega,by go_num,HN.out.1.drew,HN.out.2.1.keep (Below.refl _ _).drew,HN.out.2.2.keep (Below.refl _ _).drew⟩,by simp[intOf];omega⟩
        ·obtain rfl:j=q:=by omega
         go_wp2_with fail;go_ret;exact ⟨rfl,hr.out.1⟩
  ·subst c2;clear hwr2;go_enter Tryz.func9,Tryz.ntmps9
   go_wp2_with fail;refine Calls.mono HC.out ?_;rintro e w1 ⟨rfl,b1⟩;have K1:Hid (Below w.heap.size w w1):=b1;clear b1 HC;go_wp2_with fail;go_loopw [6,7,8] (fun tx tv i wr=>∃ (j:Nat) (T:ByteArray),j≤N∧i=.int .i64 j∧tx=.string T∧Hid (T.data.toList=Px.bT j∧Below w.heap.size w wr∧wr.ownsRow w.heap.size 3 1 tv (told l j).length (Ref.intCells (told l j)))) (fun _ _ i _=>N - (intOf i).toNat)
   case atStart=>exact ⟨0,⟨#[]⟩,by omega,rfl,rfl,rfl,K1.out,World.ownsRow_nil _ _ _ _⟩
   case round =>
    obtain ⟨j,T,hj,rfl,rfl,hr⟩:=hrel;have hTs:T.size=16 * j:=by
     have h3:T.data.toList.length=T.size:=by rw[Array.length_toList];rfl
     rw[← h3,hr.out.1,qud]
    by_cases hlt:j < N
    ·obtain ⟨a,rfl,hab,hac⟩:=HA.out j (by omega)
     have hac2:wr.cell? (a.add j)=some (.int .i64 l[j]):=by
      have hbl:(a.add j).block < w.heap.size:=by unfold Addr.add;split<;>exact hab
      rw[hr.out.2.1.cell hbl];exact hac
     have hsz:w.heap.size≤wr.heap.size:=hr.out.2.1.size;have hga:a.block < wr.heap.size:=by omega
     have hac3:(wr.alloc (.cells #[.int .u8 (97+(j:Int))] 5)).cell? (a.add j)=some (.int .i64 l[j]):=by
      have hbl:(a.add j).block < wr.heap.size:=by unfold Addr.add;split<;>exact hga
      rw[((Below.refl wr.heap.size wr).alloc (Nat.le_refl _) _).cell hbl];exact hac2
     have hlt':(j:Int) < (N:Int):=by omega
     have hlt2:(j:Int) < (l.length:Int):=by omega
     have hcv:=ql0 j (by omega) wr
     have htk:=qu4 (l:=l) (n:=j) (by omega)
     have hry:=H5.out.2 l[j] (List.getElem_mem _);generalize l[j]=y at *;obtain ⟨la,ln,lc,rfl⟩:=Ref.qad hr.out.2.2;have hlj:=qn0 (l:=l) (n:=j) (by omega)
     have hT9:T.size≤128:=by omega
     unfold Px.R64 at hry;unfold zb4 at htk;by_cases hy:y < 0
     ·rw[if_pos hy] at htk;have H3:Hid (told l (j+1)=told l j++[-1 - y]):=htk;have hwy:wrap64 (-1 - y)=-1 - y:=by unfold wrap64;omega
      clear hac htk;go_wp2_with (first
       | (at_builtin;refine wpList_append_own_at _ rfl _ _ 33 rfl w.heap.size 3 i0 (.int .i64 0) 1 8 Tryz.underlying33 hi hz0 hz1 hz2 rfl (by decide) _ _ _ rfl ((hr.out.2.2.alloc _).alloc _) ⟨wr.heap.size+1,0,none⟩ 1 1 [.int .i64 (-1 - y)] rfl rfl ?ma1 ?ma2 ?ma3 ?ma4 ?ma5 ?_)
       | fail)
      case ma1 =>
       intro j u hj;match j,hj with
       | 0,hj=>simp at hj;subst hj;simp[Addr.add]
      case ma2=>first | rfl | (intro u hu;simp at hu;subst hu;rfl)
      case ma3=>unfold maxLen;omega
      case ma4=>omega
      case ma5=>first | omega | (simp;omega)
      ·intro v' w4 hown' hgrow _ hloc;have HN:Hid (Below w.heap.size w w4∧w4.ownsRow w.heap.size 3 1 v' (told l (j+1)).length (Ref.intCells (told l (j+1)))):=by
        refine ⟨hr.out.2.1.trans ?_,?_⟩
        ·have hT:Tch (fun k=>(Value.slice la ln lc).ownBlock=some k) wr w4:=(((Tch.refl _ _).alloc _).alloc _).grown hgrow fun k hk=>Or.inl hk
         exact hT.qbg hsz fun k hk=>(hr.out.2.2.lt k hk).1
        ·rw[H3.out,qgs,List.length_append,hlj];exact hown'
       have HT:Hid (_):=quc hr.out.1;clear hown' hgrow hloc hr;go_wp2;exact ⟨⟨j+1,_,by omega,by go_num,rfl,HT.out,HN.out⟩,by simp[intOf];omega⟩
     ·rw[if_neg hy] at htk;have H3:Hid (told l (j+1)=told l j++[y]):=htk;clear hac htk;go_wp2_with (first
       | (at_builtin;refine wpList_append_own_at _ rfl _ _ 33 rfl w.heap.size 3 i0 (.int .i64 0) 1 8 Tryz.underlying33 hi hz0 hz1 hz2 rfl (by decide) _ _ _ rfl ((hr.out.2.2.alloc _).alloc _) ⟨wr.heap.size+1,0,none⟩ 1 1 [.int .i64 (y)] rfl rfl ?mb1 ?mb2 ?mb3 ?mb4 ?mb5 ?_)
       | fail)
      case mb2=>first | rfl | (intro u hu;simp at hu;subst hu;rfl)
      case mb3=>unfold maxLen;omega
      case mb4=>omega
      case mb5=>first | omega | (simp;omega)
      ·intro v' w4 hown' hgrow _ hloc;have HN:Hid (Below w.heap.size w w4∧w4.ownsRow w.heap.size 3 1 v' (told l (j+1)).length (Ref.intCells (told l (j+1)))):=by
        refine ⟨hr.out.2.1.trans ?_,?_⟩
        ·have hT:Tch (fun k=>(Value.slice la ln lc).ownBlock=some k) wr w4:=(((Tch.refl _ _).alloc _).alloc _).grown hgrow fun k hk=>Or.inl hk
         exact hT.qbg hsz fun k hk=>(hr.out.2.2.lt k hk).1
        ·rw[H3.out,qgs,List.length_append,hlj];exact hown'
       have HT:Hid (_):=quc hr.out.1;clear hown' hgrow hloc hr;go_wp2;exact ⟨⟨j+1,_,by omega,by go_num,rfl,HT.out,HN.out⟩,by simp[intOf];omega⟩
    ·obtain rfl:j=N:=by omega
     have hTT:(T++⟨#[102,97,105,108,59]⟩:ByteArray).data.toList=Px.bT j++[102,97,105,108,59]:=by simp[ByteArray.data_append,hr.out.1]
     have H8:Hid (Below w.heap.size w wr):=hr.out.2.1;have HO:Hid (_):=hr.out.2.2;have hlj:=qn0 (l:=l) (n:=j) (by omega)
     have hT9:T.size≤128:=by omega
     have HR:Hid (_):=Px.zbh hN hTT (told l j) qzd hlj;have HL:Hid ((told l j).length=j∧∀ x∈told l j++List.replicate j 0,Px.R64 x):=⟨hlj,fun x hx=>by
      rcases List.mem_append.1 hx with h | h
      ·exact zpx H5.out.2 x h
      ·rw[List.eq_of_mem_replicate h];exact ⟨by decide,by decide⟩⟩
     have hTm:(T++⟨#[102,97,105,108,59]⟩:ByteArray).size≤maxLen:=by
      have h3:(T++⟨#[102,97,105,108,59]⟩:ByteArray).data.toList.length=(T++⟨#[102,97,105,108,59]⟩:ByteArray).size:=by rw[Array.length_toList];rfl
      rw[← h3,hTT,List.length_append,qud];unfold maxLen;simp;omega
     have H9:Hid (_):=hTm;clear hlt hr hTT HA hj hTm hTs;go_wp2_with fail;go_loopw [7,11] (fun tv i wr=>∃ q:Nat,q≤j∧i=.int .i64 q∧Hid (Below w.heap.size w wr∧wr.ownsRow w.heap.size 3 1 tv (told l j++List.replicate q 0).length (Ref.intCells (told l j++List.replicate q 0)))) (fun _ i _=>j - (intOf i).toNat)
     case atStart=>exact ⟨0,by omega,rfl,H8.out,by rw[List.replicate_zero,List.append_nil];exact HO.out⟩
     case round =>
      clear H8 HO;obtain ⟨q,hq,rfl,hr⟩:=hrel;by_cases hlt:q < j
      ·have hsz:w.heap.size≤wr.heap.size:=hr.out.1.size;have hlt':(q:Int) < (j:Int):=by omega
       have hlq:(told l j++List.replicate q 0).length=j+q:=by simp[hlj]
       obtain ⟨la,ln,lc,rfl⟩:=Ref.qad hr.out.2;go_wp2_with (first
        | (at_builtin;refine wpList_append_own_at _ rfl _ _ 33 rfl w.heap.size 3 i0 (.int .i64 0) 1 8 Tryz.underlying33 hi hz0 hz1 hz2 rfl (by decide) _ _ _ rfl (hr.out.2.alloc _) ⟨wr.heap.size,0,none⟩ 1 1 [.int .i64 0] rfl rfl ?md1 ?md2 ?md3 ?md4 ?md5 ?_)
        | fail)
       case md1 =>
        intro j u hj;match j,hj with
        | 0,hj=>simp at hj;subst hj;simp[Addr.add]
       case md2=>first | rfl | (intro u hu;simp at hu;subst hu;rfl)
       case md3=>unfold maxLen;omega
       case md4=>omega
       case md5=>first | omega | (simp;omega)
       ·intro v' w4 hown' hgrow _ hloc;have HN:Hid (Below w.heap.size w w4∧w4.ownsRow w.heap.size 3 1 v' (told l j++List.replicate (q+1) 0).length (Ref.intCells (told l j++List.replicate (q+1) 0))):=by
         refine ⟨hr.out.1.trans ?_,?_⟩
         ·have hT:Tch (fun k=>(Value.slice la ln lc).ownBlock=some k) wr w4:=((Tch.refl _ _).alloc _).grown hgrow fun k hk=>Or.inl hk
          exact hT.qbg hsz fun k hk=>(hr.out.2.lt k hk).1
         ·rw[List.replicate_succ',← List.append_assoc,qgs,List.length_append,hlq];exact hown'
        clear hown' hgrow hloc hr;go_wp2;exact ⟨⟨q+1,by omega,by go_num,HN.out⟩,by simp[intOf];omega⟩
      ·obtain rfl:q=j:=by omega
       clear hlt;have hlq:(told l q++List.replicate q 0).length=q+q:=by simp[hlj]
       have ha:=zj5 hr.out.2 (by omega)
       have HQ:Hid (_):=qwk H9.out (H5.out.1.below hr.out.1) (Below.refl _ _) ha HL.out.2;unfold qg0 at HQ;rw[HR.out] at HQ;dsimp only at HQ;have HW:Hid (Below w.heap.size w wr):=hr.out.1;obtain ⟨la,lc,rfl,_⟩:=qe2 hr.out.2;have HV:Hid (Ref.AnsAt wr _ _):=ha;have hAl:(Px.bA 0 (told l q)++(Px.bP 0 (told l q)).reverse.map (fun u=>(⟨u.1,u.2,1,true⟩:Px.Ask))).length=q+q:=by
        have h0:=HL.out.1
        have:∀ (vs:List Int) k,(Px.bP k vs).length=vs.length:=by
         intro vs;induction vs with
         | nil=>intro k;rfl
         | cons v vs ih=>intro k;simp[Px.bP,ih]
        rw[List.length_append,List.length_map,List.length_reverse,this,Px.zjx,h0]
       have HB:Hid (∀ j < q,(Px.bA 0 (told l q)++(Px.bP 0 (told l q)).reverse.map (fun u=>(⟨u.1,u.2,1,true⟩:Px.Ask)))[q+j]?=some ⟨Px.bU (q - 1 - j),(told l q++List.replicate q 0)[q - 1 - j]?.getD 0,1,true⟩):=fun j hj=>by
        have h0:=HL.out.1;rw[zjw HL.out.1 hj,List.getElem?_append_left (by omega),List.getElem?_eq_getElem (by omega)]
        rfl
       generalize Px.bA 0 (told l q)++(Px.bP 0 (told l q)).reverse.map (fun u=>(⟨u.1,u.2,1,true⟩:Px.Ask))=A at *
       clear ha hr HR H9 H5 HL hlj;generalize told l q++List.replicate q 0=L at *;rw[hlq] at *;rw[hAl] at *;generalize (T++⟨#[102,97,105,108,59]⟩:ByteArray)=TT at *;clear hT9;go_wp2_with fail;refine Calls.mono HQ.out ?_;rintro e w4 ⟨a4,n4,c4,rfl,Q4⟩;go_wp2_with fail;refine Calls.mono Q4.out ?_;rintro e w5 ⟨a5,c5,rfl,K5⟩;have K6:Hid (Below w.heap.size w w5∧AsksAt w5 (.slice a5 (q+q) c5) A∧Ref.AnsAt w5 (.slice la (q+q) lc) L):=⟨HW.out.trans (K5.out.1.mono HW.out.size),K5.out.2.2,HV.out.keep K5.out.1⟩;clear Q4 K5 HQ HW HV;go_wp2_with fail;refine (qdl _ _).mono ?_;rintro e w9 ⟨rfl,rfl⟩;have hq2:wrap64 (2 * (q:Int))=(q:Int)+(q:Int):=by unfold wrap64;omega
       have hq3:2 * (q:Int)=(q:Int)+(q:Int):=by omega
       go_wp2_with fail;go_loopw [16] (fun i wr=>∃ j:Nat,j≤q∧i=.int .i64 j∧Hid (Below w.heap.size w wr∧AsksAt wr (.slice a5 (q+q) c5) A∧Ref.AnsAt wr (.slice la (q+q) lc) L)) (fun i _=>q - (intOf i).toNat)
       case atStart=>exact ⟨0,by omega,rfl,K6⟩
       case round =>
        clear K6;obtain ⟨j,hj,rfl,hr⟩:=hrel;by_cases hlt:j < q
        ·obtain ⟨ad2,cp2,e2,h22⟩:=hr.out.2.1.ex;obtain ⟨ad3,cp3,e3,_,_,h33⟩:=hr.out.2.2;simp only[Value.slice.injEq] at e2 e3;obtain ⟨rfl,_,rfl⟩:=e2;obtain ⟨rfl,_,rfl⟩:=e3;have hk:q - 1 - j < L.length:=by omega
         have hA:=HB.out j hlt;rw[List.getElem?_eq_getElem (by omega),List.getElem?_eq_getElem hk] at hA
         have hA':=Option.some.inj hA;obtain ⟨g2,rfl,q1,q2,q3,q4⟩:=h22 (q+j) (by omega)
         rw[hA'] at q1 q2 q3 q4;obtain ⟨a3,rfl,_,q5⟩:=h33 (q - 1 - j) hk;dsimp only[Option.getD] at q1 q2 q3 q4 q5;generalize L[q - 1 - j]=y at *;have hkj:(q:Int) - 1 - (j:Int)=((q - 1 - j:Nat):Int):=by omega
         have hk9:q - 1 - j < 9:=by omega
         generalize q - 1 - j=k at *;have hcv:=ql0 k hk9 wr;have r1:=qdk (.cells #[.int .u8 (97+(k:Int))] 5) q1;have r2:=qdk (.cells #[.int .u8 (97+(k:Int))] 5) q2;have r3:=qdk (.cells #[.int .u8 (97+(k:Int))] 5) q3;have r4:=qdk (.cells #[.int .u8 (97+(k:Int))] 5) q4;have r5:=qdk (.cells #[.int .u8 (97+(k:Int))] 5) q5;have HN:Hid (Below w.heap.size w (wr.alloc (.cells #[.int .u8 (97+(k:Int))] 5))∧AsksAt (wr.alloc (.cells #[.int .u8 (97+(k:Int))] 5)) (.slice (some ⟨g2,0,none⟩) (q+q) c5) A∧Ref.AnsAt (wr.alloc (.cells #[.int .u8 (97+(k:Int))] 5)) (.slice (some a3) (q+q) lc) L):=by
          have b:=(Below.refl wr.heap.size wr).alloc (Nat.le_refl _) (.cells #[.int .u8 (97+(k:Int))] 5);exact ⟨hr.out.1.trans (b.mono hr.out.1.size),hr.out.2.1.keep b,hr.out.2.2.keep b⟩
         have hlt':(j:Int) < (q:Int):=by omega
         have hkq:k < q+q:=by omega
         have hkq':(k:Int) < (q:Int)+(q:Int):=by omega
         have hjq':(q:Int)+(j:Int) < (q:Int)+(q:Int):=by omega
         have hbu:(⟨#[120]⟩++⟨#[Px.bl k]⟩:ByteArray)=Px.bU k:=rfl;clear hA hA' h22 h33 hr;go_wp2_with fail;go_region
         all_goals
          go_wp2_with fail;exact ⟨⟨j+1,by omega,by go_num,HN.out.1.drew,HN.out.2.1.keep (Below.refl _ _).drew,HN.out.2.2.keep (Below.refl _ _).drew⟩,by simp[intOf];omega⟩
        ·obtain rfl:j=q:=by omega
         go_wp2_with fail;go_ret;exact ⟨rfl,hr.out.1⟩
open Go.ChangeShapes Go.WideShapes Go.RowKit
theorem zx3:Tryz.prog.cellsOf 3=1:=by kernel_rfl
theorem bInt8:Tryz.prog.bytesOf 3=8:=by kernel_rfl
theorem zf0 {n:Int} (h:(Lit.int .i64 n).wf=true):Px.R64 n:=by
 simp only[Lit.wf,Bool.and_eq_true,decide_eq_true_eq] at h;have e1:IntKind.i64.min=-9223372036854775808:=by decide
 have e2:IntKind.i64.max=9223372036854775807:=by decide
 rw[e1,e2] at h;exact h
theorem qok {H:Type} {enc:TypeId×Value→H} {W:World} {base:Nat} {v:Value} {d:DataW H} {p:List MemPlace} (hval:Value.okWide Tryz.prog W .any base 33 v)
  (h:DataW.Trod enc Tryz.prog W 0 (fun _=>true) true 33 v d p)
  (hz:∀ elems spare,d=.slice elems spare→(elems.length+spare.length) * Tryz.prog.bytesOf 3≤reachBytes) :
  ∃ ad cap l,v=.slice ad l.length cap∧ArgAt W ad cap l∧∀ W',Below W.heap.size W W'→DataW.Trod enc Tryz.prog W' 0 (fun b=>decide (b < W.heap.size)) true 33 v d p:=by
 obtain ⟨a0,len,cap,rfl⟩:=okWide_slice Tryz.underlying33 hval;obtain ⟨fuel,hf⟩:=h;rcases open_ints Tryz.underlying33 Tryz.underlying3 zx3 hf with ⟨hcs,hx⟩ | ⟨a,len',cap',zs,hcs,_,hl,hm,hzl,hx,hcell,hwz⟩
 ·simp[Value.cells] at hcs;obtain ⟨rfl,rfl,rfl⟩:=hcs;simp only[Prod.mk.injEq] at hx;obtain ⟨rfl,rfl⟩:=hx;exact ⟨none,0,[],rfl,⟨⟨none,0,rfl,Nat.zero_le _,by decide,fun i hi=>absurd hi (Nat.not_lt_zero _)⟩,Nat.le_refl _,Nat.zero_le _,fun x hx=>nomatch hx⟩,fun W' _=>⟨1,by simp[Value.cells,DataW.trod,Tryz.underlying33]⟩⟩
 ·simp[Value.cells] at hcs;obtain ⟨rfl,rfl,rfl⟩:=hcs;simp only[Prod.mk.injEq] at hx;obtain ⟨rfl,rfl⟩:=hx;simp only[if_true] at hzl;have hsz:=hz _ _ rfl;rw[bInt8] at hsz;have hll:(zs.take len).length=len:=by rw[List.length_take];omega
  have hcap:cap * 8≤140737488355328:=by
   have:(lits (H:=H) .i64 (zs.take len)).length+(lits (H:=H) .i64 (zs.drop len)).length=cap:=by simp[lits];omega
   rw[this] at hsz
   have:reachBytes=140737488351232:=by decide
   omega
  have hblk:0 < cap→a.block < W.heap.size:=fun h0=>by
   have h1:=hcell 0 (by omega)
   have h2:a.add 0=a:=by simp[Addr.add]
   rw[h2] at h1;rcases Nat.lt_or_ge a.block W.heap.size with h | h
   ·exact h
   ·exfalso;simp[World.cell?,Array.getElem?_eq_none h] at h1
  refine ⟨some a,cap,zs.take len,by rw[hll],⟨⟨some a,cap,by rw[hll],by omega,by omega,fun i hi=>?_⟩,by omega,hm,fun x hx=>?_⟩,fun W' hb=>⟨2,?_⟩⟩
  ·rw[hll] at hi;refine ⟨a,rfl,hblk (by omega),?_⟩
   rw[hcell i (by omega)]
   simp[List.getD,List.getElem_take,show i < zs.length by omega]
  ·exact zf0 (hwz x (List.mem_of_mem_take hx))
  ·have:=shut_ints (enc:=enc) (P:=Tryz.prog) (w:=W') (base:=0) (spare:=fun b=>decide (b < W.heap.size)) (held:=true) (a:=a) (len:=len) (cap:=cap) (zs:=zs) 0 Tryz.underlying33 Tryz.underlying3 zx3 (Nat.zero_le _) hl hm
    (by
     rcases Nat.eq_zero_or_pos cap with h0 | h0
     ·split<;>omega
     ·simp[hblk h0,hzl])
    (fun i hi=>by
     have hbk:=hblk (by omega)
     rw[World.cell?_of_block (w:=W) (a:=a.add i) (hb.block _ (by rw[block_add];exact hbk))]
     exact hcell i hi) hwz
   simpa [Value.cells] using this
end Lw
end Go.Proofs.YtnhkpbmplefnaaaGreatDoor
