import Derived.Test.YtokkhhekekeokaaGreatDoorH19
import Derived.Test.YtokkhhekekeokaaGreatDoorH02
import Derived.Test.YtokkhhekekeokaaGreatDoorH01
import Derived.ArgAppend
import Derived.Test.YtokkhhekekeokaaGreatDoorH26
import Derived.Test.YtokkhhekekeokaaGreatDoorH27
import Derived.Lib.SlBytesConst
import Derived.Deep.WholeRow
import Derived.Lib.BufferRead
import Derived.Test.YtokkhhekekeokaaGreatDoorH16
import Derived.Test.YtokkhhekekeokaaGreatDoorH24
import Derived.Lib.OthersKept
import Derived.Deep.LoopGhost
import Derived.Laws.RangeString
import Derived.Shelf.Abstract
import Derived.Test.YtokkhhekekeokaaGreatDoorH09
import Derived.Test.YtokkhhekekeokaaGreatDoorProg
set_option maxRecDepth 100000
set_option maxHeartbeats 4000000
namespace Go.Proofs.YtokkhhekekeokaaGreatDoor
open Go.RowKit
namespace Cd
theorem shr8 (n:Nat):((n:Int) >>> 8:Int)=((n / 256:Nat):Int):=by
 rw[Int.shiftRight_eq_div_pow];simp
theorem zjm {n:Nat} (_:n < 65536):((UInt8.ofNat n).toNat:Int)=(n:Int) % 256:=by
 rw[UInt8.toNat_ofNat'];simp
theorem zjn {n:Nat} (h:n < 65536):((UInt8.ofNat (n / 256)).toNat:Int)=((n / 256:Nat):Int):=by
 rw[UInt8.toNat_ofNat']
 have:n / 256 % 256=n / 256:=Nat.mod_eq_of_lt (by omega)
 simp only[Nat.reducePow,this]
structure Step (w:World) (v:Value) (w':World) (v':Value):Prop where
 t:Tch (fun k=>v.ownBlock=some k) w w'
 o:v'.ownBlock=v.ownBlock∨∃ n,v'.ownBlock=some n∧w.heap.size≤n
theorem Step.trans {w w1 w2:World} {v v1 v2:Value} (h:Step w v w1 v1) (k:Step w1 v1 w2 v2):Step w v w2 v2:=by
 refine ⟨⟨k.t.os.trans h.t.os,k.t.tape.trans h.t.tape,k.t.output.trans h.t.output,Nat.le_trans h.t.size k.t.size,fun i hi hn=>?_⟩,?_⟩
 ·rw[k.t.block i (by have:=h.t.size;omega) ?_,h.t.block i hi hn]
  intro e;rcases h.o with h1 | ⟨n,h1,h2⟩
  ·exact hn (h1▸e)
  ·rw[h1] at e;cases e;omega
 ·rcases k.o with h1 | ⟨n,h1,h2⟩
  ·rw[h1];exact h.o
  ·exact Or.inr ⟨n,h1,by have:=h.t.size;omega⟩
theorem Step.keep {w w':World} {v v':Value} (h:Step w v w' v') {b:Nat} (hb:b < w.heap.size) (hn:v.ownBlock≠some b):w'.heap[b]?=w.heap[b]?∧v'.ownBlock≠some b:=by
 refine ⟨h.t.block b hb hn,fun e=>?_⟩
 rcases h.o with h1 | ⟨n,h1,h2⟩
 ·exact hn (h1▸e)
 ·rw[h1] at e;cases e;omega
theorem Step.below {w w':World} {v v':Value} {B e z n:Nat} {cs:List Value} (h:Step w v w' v') (hB:B≤w.heap.size) (ho:w.ownsRow B e z v n cs):Below B w w':=h.t.qbg hB fun k hk=>(ho.lt k hk).1
theorem qd2 (B:Nat) (o:List UInt8) (n:Nat) (hn:n < 65536) (v:Value) (w:World) (hB:B≤w.heap.size) (ho:w.ownsRow B 5 1 v o.length (Lg.qbk o)) (hl:o.length≤10000000) :
  Calls Tryz.prog 25 #[v,.int .i64 (n:Int)] w fun e w'=>∃ v',e=.returned v'∧w'.ownsRow B 5 1 v' (o++Px.b2 n).length (Lg.qbk (o++Px.b2 n))∧Step w v w' v':=by
 obtain ⟨i0,hi,hz0,hz1,hz2⟩:=info_parts Lg.zau;obtain ⟨a0,n0,c0,rfl⟩:=Ref.qad ho;have HO:Hid (w.ownsRow B 5 1 (.slice a0 n0 c0) o.length (Lg.qbk o)):=ho;have h1:=zjm hn;have h2:=zjn hn;have h3:=shr8 n;clear ho;go_enter Tryz.func25,Tryz.ntmps25
 have HE:Hid (Lg.qbk (o++Px.b2 n)=Lg.qbk o++[.int .u8 ((n:Int) / 256),.int .u8 ((n:Int) % 256)]∧(o++Px.b2 n).length=o.length+2):=by
  refine ⟨?_,by simp[Px.b2]⟩
  have e:((n:Int) / 256)=((n / 256:Nat):Int):=by omega
  rw[e,← h2,← h1];simp[Lg.qbk,Px.b2]
 have O3:Hid (∀ u∈[Value.int .u8 ((n:Int) / 256),.int .u8 ((n:Int) % 256)],u.oneCell'=true):=by intro u hu;simp at hu;rcases hu with rfl | rfl<;>rfl
 clear h1 h2 h3;go_wp2_with (first
  | (at_builtin;refine wpList_append_own_at _ rfl _ _ 38 rfl B 5 i0 (.int .u8 0) 1 1 Tryz.underlying38 hi hz0 hz1 hz2 rfl (by decide) _ _ _ rfl (HO.out.alloc _) ⟨w.heap.size,0,none⟩ 2 2 [.int .u8 ((n:Int) / 256),.int .u8 ((n:Int) % 256)] rfl rfl ?c1 O3.out ?c3 ?c4 ?c5 ?_)
  | fail)
 case c1 =>
  intro j u hj;match j,hj with
  | 0,hj=>simp at hj;subst hj;simp[Addr.add]
  | 1,hj=>simp at hj;subst hj;simp[Addr.add]
 case c3=>unfold maxLen;omega
 case c4=>omega
 case c5=>simp;omega
 ·intro v' w4 hown' hgrow _ hloc;have HN:Hid (w4.ownsRow B 5 1 v' (o++Px.b2 n).length (Lg.qbk (o++Px.b2 n))∧Step w (.slice a0 n0 c0) w4 v'):=by
   refine ⟨by rw[HE.out.1,HE.out.2];exact hown',?_⟩
   refine ⟨((Tch.refl _ _).alloc _).grown hgrow fun k hk=>Or.inl hk,?_⟩
   rcases hloc with h | h
   ·exact Or.inl h
   ·exact Or.inr ⟨_,h,by simp⟩
  clear hown' hgrow hloc;go_wp2;go_ret;exact ⟨_,rfl,HN.out⟩
theorem qz5 {w:World} {a b:Nat} {e:TypeId} {z n:Nat} {v:Value} {cs:List Value} (h:w.ownsRow a e z v n cs) (hb:b≤a):w.ownsRow b e z v n cs:=by
 obtain ⟨h1,h2⟩:=h;refine ⟨h1,?_⟩;rcases h2 with h2 | ⟨g,cap,cur,k1,k2,k3⟩
 ·exact Or.inl h2
 ·exact Or.inr ⟨g,cap,cur,k1,Nat.le_trans hb k2,k3⟩
theorem qvt (g:Nat) (o:List UInt8) (n:Nat) (hn:n < 65536) (w:World) (hc:∀ j u,(Lg.qbk o)[j]?=some u→w.cell? ⟨g,j,none⟩=some u) (hl:o.length≤1000) (hg:g < w.heap.size) :
  Calls Tryz.prog 25 #[.slice (some ⟨g,0,none⟩) o.length o.length,.int .i64 (n:Int)] w fun e w'=>∃ v',e=.returned v'∧w'.ownsRow w.heap.size 5 1 v' (o++Px.b2 n).length (Lg.qbk (o++Px.b2 n))∧Tch (fun _=>False) w w':=by
 obtain ⟨i0,hi,hz0,hz1,hz2⟩:=info_parts Lg.zau;have h1:=zjm hn;have h2:=zjn hn;have h3:=shr8 n;have HC:Hid (_):=hc;clear hc;go_enter Tryz.func25,Tryz.ntmps25
 have HE:Hid (Lg.qbk (o++Px.b2 n)=Lg.qbk o++[.int .u8 ((n:Int) / 256),.int .u8 ((n:Int) % 256)]∧(o++Px.b2 n).length=o.length+2):=by
  refine ⟨?_,by simp[Px.b2]⟩
  have e:((n:Int) / 256)=((n / 256:Nat):Int):=by omega
  rw[e,← h2,← h1];simp[Lg.qbk,Px.b2]
 have O3:Hid (∀ u∈[Value.int .u8 ((n:Int) / 256),.int .u8 ((n:Int) % 256)],u.oneCell'=true):=by intro u hu;simp at hu;rcases hu with rfl | rfl<;>rfl
 clear h1 h2 h3;go_wp2_with (first
  | (at_builtin;refine wpList_append_grows _ rfl _ _ 38 rfl 5 i0 (.int .u8 0) 1 1 Tryz.underlying38 hi hz0 hz1 hz2 rfl (by decide) (some ⟨g,0,none⟩) o.length o.length (Lg.qbk o) rfl (fun h=>by cases h) (by rw[Lg.zd2,Nat.mul_one]) ?c0 ⟨w.heap.size,0,none⟩ 2 2 [.int .u8 ((n:Int) / 256),.int .u8 ((n:Int) % 256)] rfl rfl ?c1 O3.out ?c2 ?c3 ?c4 ?_)
  | fail)
 case c0 =>
  intro b hb j u hj;cases hb;rw[Addr.add_lit,Nat.zero_add,World.cell?_of_block (w:=w) (a:=⟨g,j,none⟩) (by exact Below.heap_alloc _ _ _ hg)]
  exact HC.out j u hj
 case c1 =>
  intro j u hj;match j,hj with
  | 0,hj=>simp at hj;subst hj;simp[Addr.add]
  | 1,hj=>simp at hj;subst hj;simp[Addr.add]
 case c2=>omega
 case c3=>unfold maxLen;omega
 case c4=>omega
 ·intro v' w4 hown' hgrow;have HN:Hid (w4.ownsRow w.heap.size 5 1 v' (o++Px.b2 n).length (Lg.qbk (o++Px.b2 n))∧Tch (fun _=>False) w w4):=by
   refine ⟨by rw[HE.out.1,HE.out.2];exact qz5 hown' (by omega),((Tch.refl _ _).alloc _).grown hgrow fun k hk=>by cases hk⟩
  clear hown' hgrow;go_wp2;go_ret;exact ⟨_,rfl,HN.out⟩
open Go.RowKit
theorem zey (n k:Nat) (hk:k < 20):∃ a,(Rn.tabL n)[4 * k]?=some (.slice a (Px.qfb k) (Px.qfb k)):=by
 match k,hk with
 | 0,_=>exact ⟨_,rfl⟩
 | 1,_=>exact ⟨_,rfl⟩
 | 2,_=>exact ⟨_,rfl⟩
 | 3,_=>exact ⟨_,rfl⟩
 | 4,_=>exact ⟨_,rfl⟩
 | 5,_=>exact ⟨_,rfl⟩
 | 6,_=>exact ⟨_,rfl⟩
 | 7,_=>exact ⟨_,rfl⟩
 | 8,_=>exact ⟨_,rfl⟩
 | 9,_=>exact ⟨_,rfl⟩
 | 10,_=>exact ⟨_,rfl⟩
 | 11,_=>exact ⟨_,rfl⟩
 | 12,_=>exact ⟨_,rfl⟩
 | 13,_=>exact ⟨_,rfl⟩
 | 14,_=>exact ⟨_,rfl⟩
 | 15,_=>exact ⟨_,rfl⟩
 | 16,_=>exact ⟨_,rfl⟩
 | 17,_=>exact ⟨_,rfl⟩
 | 18,_=>exact ⟨_,rfl⟩
 | 19,_=>exact ⟨_,rfl⟩
 | k+20,hk=>exact absurd hk (by omega)
def qg3 (i:Px.Ins) (m:Nat):List UInt8:=(if m=0 then [] else Px.b2 i.a)++(if m < 2 then [] else Px.b2 i.b)
theorem zg8 (k:Nat):Px.qfb k≤2:=by
 unfold Px.qfb;split
 ·exact Nat.le_refl _
 ·split<;>omega
theorem zi9 (i:Px.Ins):Px.qgj i=UInt8.ofNat i.k::qg3 i (Px.qfb i.k):=by
 unfold Px.qgj qg3
 have:=zg8 i.k
 congr 2;by_cases h:Px.qfb i.k=2
 ·rw[if_pos h,if_neg (by omega)]
 ·rw[if_neg h,if_pos (by omega)]
theorem zcz (i:Px.Ins) (m:Nat) (hm:m < 2):qg3 i (m+1)=qg3 i m++Px.b2 (if m=0 then i.a else i.b):=by
 match m,hm with
 | 0,_=>simp[qg3]
 | 1,_=>simp[qg3]
theorem zn4 {w:World} {B:Nat} {va:Option Addr} {vn vc:Nat} {l:List Px.Ins} (h:w.ownsRow B 90 3 (.slice va vn vc) l.length (Mk.qby l)) :
  vn=l.length∧∀ i (hi:i < l.length),∃ g,va=some ⟨g,0,none⟩∧w.cell? ⟨g,i * 3,none⟩=some (.int .i64 (l[i].k:Int))∧w.cell? ⟨g,i * 3+1,none⟩=some (.int .i64 (l[i].a:Int))∧w.cell? ⟨g,i * 3+2,none⟩=some (.int .i64 (l[i].b:Int)):=by
 have key:∀ (l:List Px.Ins) (p:Nat) (hp:p < l.length) (o:Nat),o < 3→(Mk.qby l)[p * 3+o]?=([.int .i64 (l[p].k:Int),.int .i64 (l[p].a:Int),.int .i64 (l[p].b:Int)]:List Value)[o]?:=by
  intro l;induction l with
  | nil=>intro p hp;cases hp
  | cons v l ih =>
   intro p hp o ho;have e1:Mk.qby (v::l)=[.int .i64 (v.k:Int),.int .i64 (v.a:Int),.int .i64 (v.b:Int)]++Mk.qby l:=rfl;cases p with
   | zero =>
    rw[e1,List.getElem?_append_left (by simp;omega)]
    simp
   | succ p =>
    rw[e1,List.getElem?_append_right (by simp;omega)]
    have:=ih p (by simpa using hp) o ho
    simpa [show (p+1) * 3+o - 3=p * 3+o by omega] using this
 rcases h.2 with ⟨h1,h2⟩ | ⟨g,cap,cur,h1,hB,hh,hn,hm,hz,ht⟩
 ·cases h1;refine ⟨h2.symm,fun i hi=>absurd hi (by omega)⟩
 ·cases h1;refine ⟨rfl,fun i hi=>⟨g,rfl,?_⟩⟩
  have at_:∀ o,o < 3→w.cell? ⟨g,i * 3+o,none⟩=([.int .i64 (l[i].k:Int),.int .i64 (l[i].a:Int),.int .i64 (l[i].b:Int)]:List Value)[o]?:=fun o ho=>by
   rw[← key l i hi o ho,← ht,List.getElem?_take_of_lt (by omega)]
   simp[World.cell?,hh]
  exact ⟨by simpa using at_ 0 (by omega),by simpa using at_ 1 (by omega),by simpa using at_ 2 (by omega)⟩
def upW (P:Px.Pg) (j:Nat):List UInt8:=Px.qpu++Px.b2 P.nv++Px.b2 P.words.length++(P.words.take j).flatMap Px.qno
def upI (P:Px.Pg) (j:Nat):List UInt8:=upW P P.words.length++(P.ins.take j).flatMap Px.qgj
theorem zeh (P:Px.Pg):upI P P.ins.length=Px.codeOf P:=by
 unfold upI upW Px.codeOf;rw[List.take_length,List.take_length];simp only[List.append_assoc]
theorem qwd {α:Type} (f:α→List UInt8) (l:List α) (j:Nat):((l.take j).flatMap f).length≤(l.flatMap f).length:=by
 have:=congrArg (fun l=>(l.flatMap f).length) (List.take_append_drop j l)
 simp only[List.flatMap_append,List.length_append] at this;omega
theorem zeg (P:Px.Pg) (j:Nat):(upI P j).length≤(Px.codeOf P).length:=by
 rw[← zeh];unfold upI
 have:=qwd Px.qgj P.ins j
 rw[List.take_length];simp only[List.length_append];omega
theorem zq5 (P:Px.Pg) (j:Nat):(upW P j).length≤(Px.codeOf P).length:=by
 refine Nat.le_trans ?_ (zeg P 0);unfold upI upW
 have:=qwd Px.qno P.words j
 rw[List.take_length];simp only[List.length_append];omega
theorem zkq (P:Px.Pg) {j:Nat} (h:j < P.words.length):upW P (j+1)=upW P j++[UInt8.ofNat P.words[j].size]++P.words[j].data.toList:=by
 unfold upW;rw[List.take_succ_eq_append_getElem h,List.flatMap_append];simp[Px.qno]
theorem zkr (P:Px.Pg) {j:Nat} (h:j < P.ins.length):upI P (j+1)=upI P j++[UInt8.ofNat P.ins[j].k]++qg3 P.ins[j] (Px.qfb P.ins[j].k):=by
 unfold upI;rw[List.take_succ_eq_append_getElem h,List.flatMap_append];simp[zi9]
open Go.RowKit
theorem zf9 {w:World} {B e z n b:Nat} {v:Value} {cs:List Value} {c:Array Value} {t:TypeId} {fr:Nat×Nat} (h:w.ownsRow B e z v n cs) (hb:w.heap[b]?=some (.cells c t fr)) (hte:t≠e):v.ownBlock≠some b:=by
 intro e1;rcases h.2 with ⟨rfl,_⟩ | ⟨g,cap,cur,rfl,_,hh,_⟩
 ·cases e1
 ·cases e1;rw[hb] at hh;cases hh;exact hte rfl
theorem zcj {w:World} {B:Nat} {v:Value} {o:List UInt8} (h:w.ownsRow B 5 1 v o.length (Lg.qbk o)):(convert 38 9 v).run Tryz.prog w=.ok (.string ⟨o.toArray⟩) w:=by
 rcases h.2 with ⟨rfl,h2⟩ | ⟨g,cap,cur,rfl,hB,hh,hn,hm,hz,ht⟩
 ·obtain rfl:o=[]:=List.eq_nil_of_length_eq_zero h2;exact Lib.run_convert_nil_bytes w _ _ 5 0 Tryz.underlying38 Tryz.underlying5 Tryz.underlying9
 ·refine run_convert_bytes_back (P:=Tryz.prog) w _ _ 5 ⟨g,0,none⟩ cap o Tryz.underlying38 Tryz.underlying5 Tryz.underlying9 (Lib.bytes_of_row hh ?_);rw[Nat.mul_one] at ht;exact ht
theorem zgv (i:Px.Ins) (m:Nat):(qg3 i m).length≤4:=by
 unfold qg3 Px.b2;rw[List.length_append];have h1:(if m=0 then ([]:List UInt8) else [UInt8.ofNat (i.a / 256),UInt8.ofNat i.a]).length≤2:=by split<;>simp
 have h2:(if m < 2 then ([]:List UInt8) else [UInt8.ofNat (i.b / 256),UInt8.ofNat i.b]).length≤2:=by split<;>simp
 omega
theorem yck (P:Px.Pg):P.ins.length≤(Px.codeOf P).length:=by
 have h:=Px.zoj (l:=P.ins);unfold Px.codeOf;simp only[List.length_append];omega
theorem zz6:Lg.qbk Px.qpu=[.int .u8 101,.int .u8 114,.int .u8 114,.int .u8 97,.int .u8 110,.int .u8 100,.int .u8 32,.int .u8 49,.int .u8 10]:=by rfl
theorem cell9 {w W:World} {C:Array Value} {t:TypeId} {fz:Nat×Nat} (h:W.heap[w.heap.size]?=some (.cells C t fz)) (j:Nat) (u:Value) (hj:C[j]?=some u):W.cell? ⟨w.heap.size,j,none⟩=some u:=by simp[World.cell?,h,hj]
theorem zvx (P:Px.Pg) (N:List ByteArray) (pp B0:Nat) (w:World) (hP:Mk.PgAt w B0 P N pp) (hok:∀ i∈P.ins,Px.OkI i) (hnv:P.nv < 65536) (hnw:P.words.length < 65536) (hL:(Px.codeOf P).length≤1000000) :
  Calls Tryz.prog 13 #[.pointer (some ⟨pp,0,none⟩)] w fun e w'=>e=.returned (.string ⟨(Px.codeOf P).toArray⟩)∧Below w.heap.size w w':=by
 obtain ⟨_,vl,vw,vn,h0,hl,hw,_⟩:=hP;obtain ⟨a1,n1,c1,rfl⟩:=Ref.qad hw;obtain ⟨a2,n2,c2,rfl⟩:=Ref.qad hl;obtain ⟨rfl,_,hW⟩:=Mk.qsi hw;obtain ⟨rfl,hI⟩:=zn4 hl;obtain ⟨i0,hi,hz0,hz1,hz2⟩:=info_parts Lg.zau;have hpz:pp < w.heap.size:=lt_of_block h0;have p0:w.cell? ⟨pp,0,none⟩=some (.slice a1 P.words.length c1):=by simp[World.cell?,h0]
 have p1:w.cell? ⟨pp,1,none⟩=some (.int .i64 (P.nv:Int)):=by simp[World.cell?,h0]
 have p3:w.cell? ⟨pp,3,none⟩=some (.slice a2 P.ins.length c2):=by simp[World.cell?,h0]
 have CP:Hid (∀ W,Below w.heap.size w W→W.cell? ⟨pp,0,none⟩=some (.slice a1 P.words.length c1)∧W.cell? ⟨pp,3,none⟩=some (.slice a2 P.ins.length c2)∧W.cell? ⟨pp,1,none⟩=some (.int .i64 (P.nv:Int))):=fun W hb=>⟨by rw[hb.cell (p:=⟨pp,0,none⟩) hpz];exact p0,by rw[hb.cell (p:=⟨pp,3,none⟩) hpz];exact p3,by rw[hb.cell (p:=⟨pp,1,none⟩) hpz];exact p1⟩
 have HW:Hid (_):=hW;have HI:Hid (_):=hI;have OK:Hid (∀ i∈P.ins,Px.OkI i):=hok;have HL:Hid ((Px.codeOf P).length≤1000000):=hL;have hil:P.ins.length≤1000000:=Nat.le_trans (yck P) hL;have hcv:=Lib.run_convert_bytes_const (P:=Tryz.prog) w 38 5 #[.int .u8 101,.int .u8 114,.int .u8 114,.int .u8 97,.int .u8 110,.int .u8 100,.int .u8 32,.int .u8 49,.int .u8 10] 9 9 Tryz.underlying38 Tryz.underlying5;obtain ⟨W0,hW0⟩:∃ W0,W0=w.alloc (.cells #[.int .u8 101,.int .u8 114,.int .u8 114,.int .u8 97,.int .u8 110,.int .u8 100,.int .u8 32,.int .u8 49,.int .u8 10] 5 (9,10)):=⟨_,rfl⟩;have eW:w.alloc (.cells #[.int .u8 101,.int .u8 114,.int .u8 114,.int .u8 97,.int .u8 110,.int .u8 100,.int .u8 32,.int .u8 49,.int .u8 10] 5 ((#[Value.int .u8 101,.int .u8 114,.int .u8 114,.int .u8 97,.int .u8 110,.int .u8 100,.int .u8 32,.int .u8 49,.int .u8 10]:Array Value).size,(#[Value.int .u8 101,.int .u8 114,.int .u8 114,.int .u8 97,.int .u8 110,.int .u8 100,.int .u8 32,.int .u8 49,.int .u8 10]:Array Value).size+1))=W0:=hW0.symm
 rw[eW] at hcv;have S0:Hid (Below w.heap.size w W0∧w.heap.size < W0.heap.size∧∀ j u,(Lg.qbk Px.qpu)[j]?=some u→W0.cell? ⟨w.heap.size,j,none⟩=some u):=by
  refine ⟨by rw[hW0];exact (Below.refl _ _).alloc (Nat.le_refl _) _,by rw[hW0];simp,fun j u hj=>?_⟩
  exact cell9 (C:=#[.int .u8 101,.int .u8 114,.int .u8 114,.int .u8 97,.int .u8 110,.int .u8 100,.int .u8 32,.int .u8 49,.int .u8 10]) (by rw[hW0];exact Lg.new1) j u (by rw[zz6] at hj;rw[← Array.getElem?_toList];exact hj)
 have q1:=(CP.out W0 S0.out.1).2.2;have hpW:pp < W0.heap.size:=by have:=S0.out.2.1;omega
 clear hl hw hW hI hok hL h0 p0 p1 p3 hW0 eW;go_enter Tryz.func13,Tryz.ntmps13
 go_wp2_with fail;refine Calls.mono (qvt w.heap.size Px.qpu P.nv hnv W0 S0.out.2.2 (by decide) S0.out.2.1) ?_
 rintro e w1 ⟨v1,rfl,o1,s1⟩;have B1:Below w.heap.size w w1:=S0.out.1.trans ((s1.qbg (B:=W0.heap.size) (Nat.le_refl _) (fun k h=>h.elim)).mono (Nat.le_of_lt S0.out.2.1))
 obtain ⟨q0,q3,_⟩:=CP.out w1 B1;obtain ⟨b1,m1,k1,rfl⟩:=Ref.qad o1;have S1:Hid (Below w.heap.size w w1∧w1.ownsRow w.heap.size 5 1 (.slice b1 m1 k1) (Px.qpu++Px.b2 P.nv).length (Lg.qbk (Px.qpu++Px.b2 P.nv))):=⟨B1,qz5 o1 (Nat.le_of_lt S0.out.2.1)⟩;clear o1 s1 B1 q1;go_wp2_with fail;refine Calls.mono (qd2 w.heap.size _ P.words.length hnw _ _ S1.out.1.size S1.out.2 (by simp[Px.qpu,Px.b2])) ?_
 rintro e w2 ⟨v2,rfl,o2,s2⟩;have B2:Below w.heap.size w w2:=S1.out.1.trans (s2.below S1.out.1.size S1.out.2);obtain ⟨r0,r3,_⟩:=CP.out w2 B2;have S2:Hid (Below w.heap.size w w2∧w2.ownsRow w.heap.size 5 1 v2 (upW P 0).length (Lg.qbk (upW P 0))):=by
  refine ⟨B2,?_⟩;have e:upW P 0=Px.qpu++Px.b2 P.nv++Px.b2 P.words.length:=by simp[upW]
  rw[e];exact o2
 clear o2 s2 B2 q0 q3 S1;go_wp2_with fail;go_loopw [3,30] (fun v i wr=>∃ j:Nat,j≤P.words.length∧i=.int .i64 j∧Hid (Below w.heap.size w wr∧wr.ownsRow w.heap.size 5 1 v (upW P j).length (Lg.qbk (upW P j)))) (fun _ i _=>P.words.length - (intOf i).toNat)
 case atStart=>exact ⟨0,by omega,rfl,S2.out⟩
 case round =>
  obtain ⟨j,hj,rfl,hr⟩:=hrel;by_cases hlt:j < P.words.length
  ·obtain ⟨g,rfl,x0⟩:=HW.out j hlt;have hgz:=lt_of_cell x0;have x1:wr.cell? ⟨g,j,none⟩=some (.string P.words[j]):=by rw[hr.out.1.cell (p:=⟨g,j,none⟩) hgz];exact x0
   have HS:Hid (upW P (j+1)=upW P j++[UInt8.ofNat P.words[j].size]++P.words[j].data.toList∧(upW P (j+1)).length≤1000000):=⟨zkq P hlt,Nat.le_trans (zq5 P _) HL.out⟩;generalize P.words[j]=x at *;have hxl:(upW P j).length+1+x.size≤1000000:=by
    have:=HS.out.2
    rw[HS.out.1] at this;simp only[List.length_append,List.length_cons,List.length_nil,Array.length_toList] at this;exact this
   obtain ⟨b3,m3,k3,rfl⟩:=Ref.qad hr.out.2;have hlt':(j:Int) < (P.words.length:Int):=by omega
   have E8:Hid (Value.int .u8 ((x.size:Int) % 256)=.int .u8 (((UInt8.ofNat x.size).toNat:Nat):Int)):=by
    unfold Hid;rw[UInt8.toNat_ofNat'];simp
   have hzr:w.heap.size≤wr.heap.size:=hr.out.1.size;have O1:Hid (∀ u∈[Value.int .u8 ((x.size:Int) % 256)],u.oneCell'=true):=by intro u hu;simp at hu;subst hu;rfl
   generalize hUL:(upW P j).length=UL at *;clear x0 S2;go_wp2_with (first
    | (at_builtin;refine wpList_append_own_at _ rfl _ _ 38 rfl w.heap.size 5 i0 (.int .u8 0) 1 1 Tryz.underlying38 hi hz0 hz1 hz2 rfl (by decide) _ _ _ rfl (hr.out.2.alloc _) ⟨wr.heap.size,0,none⟩ 1 1 [.int .u8 ((x.size:Int) % 256)] rfl rfl ?c1 O1.out ?c3 ?c4 ?c5 ?_)
    | fail)
   case c1 =>
    intro j u hj;match j,hj with
    | 0,hj=>simp at hj;subst hj;simp[Addr.add]
   case c3=>unfold maxLen;omega
   case c4=>omega
   case c5=>simp;omega
   ·intro v4 w4 o4 g4 _ l4;have R4:Hid (Below w.heap.size w w4∧w4.ownsRow w.heap.size 5 1 v4 (UL+1) (Lg.qbk (upW P j)++[.int .u8 ((x.size:Int) % 256)])):=by
     refine ⟨hr.out.1.trans ?_,o4⟩;have hT:Tch (fun k=>(Value.slice b3 m3 k3).ownBlock=some k) wr w4:=((Tch.refl _ _).alloc _).grown g4 fun k hk=>Or.inl hk
     exact hT.qbg hzr fun k hk=>(hr.out.2.lt k hk).1
    obtain ⟨b4,m4,k4,rfl⟩:=Ref.qad o4;have hz4:w.heap.size≤w4.heap.size:=R4.out.1.size;clear o4 g4 l4;go_wp2_with (first
     | (at_builtin;refine Lib.wpList_append_own_string _ rfl _ _ 38 9 rfl w.heap.size 5 i0 Tryz.underlying38 Tryz.underlying9 hi hz0 hz1 hz2 _ _ _ rfl R4.out.2 x rfl ?d1 ?d2 ?d3 ?_)
     | fail)
    case d1=>unfold maxLen;omega
    case d2=>omega
    case d3=>omega
    ·intro v5 w5 o5 g5 _;have R5:Hid (Below w.heap.size w w5∧w5.ownsRow w.heap.size 5 1 v5 (upW P (j+1)).length (Lg.qbk (upW P (j+1)))):=by
      refine ⟨R4.out.1.trans ?_,?_⟩
      ·have hT:Tch (fun k=>(Value.slice b4 m4 k4).ownBlock=some k) w4 w5:=(Tch.refl _ _).grown g5 fun k hk=>Or.inl hk
       exact hT.qbg hz4 fun k hk=>(R4.out.2.lt k hk).1
      ·rw[HS.out.1,Lg.qeu,Lg.qeu];have e1:Lg.qbk [UInt8.ofNat x.size]=[.int .u8 ((x.size:Int) % 256)]:=by rw[E8.out];rfl
       have e2:(upW P j++[UInt8.ofNat x.size]++x.data.toList).length=UL+1+x.size:=by
        simp only[List.length_append,List.length_cons,List.length_nil,Array.length_toList,hUL];rfl
       rw[e1,e2,← Lg.strV,List.append_assoc];exact o5
     clear o5 g5;go_wp2;exact ⟨⟨j+1,by omega,by go_num,R5.out⟩,by simp[intOf];omega⟩
  ·obtain rfl:j=P.words.length:=by omega
   have q3:=(CP.out wr hr.out.1).2.1;obtain ⟨b6,m6,k6,rfl⟩:=Ref.qad hr.out.2;have hne:¬ ((P.words.length:Int) < (P.words.length:Int)):=by omega
   clear S2;go_wp2_with fail;refine Calls.mono (Rn.qnh wr) ?_;rintro e w3 ⟨he,t3,_⟩;obtain ⟨T,hT⟩:∃ T,T=(Rn.tabL wr.heap.size).toArray:=⟨_,rfl⟩;rw[← hT] at he;subst he;have z3:wr.heap.size≤w3.heap.size:=t3.size;have S3:Hid (Below w.heap.size w w3∧w3.ownsRow w.heap.size 5 1 (.slice b6 m6 k6) (upI P 0).length (Lg.qbk (upI P 0))):=by
    refine ⟨hr.out.1.trans (t3.qbg hr.out.1.size fun k h=>h.elim),?_⟩
    have e:upI P 0=upW P P.words.length:=by simp[upI]
    rw[e];exact qah hr.out.2 t3 fun _ _ h=>h
   generalize wr.heap.size=nt at *;have HT:Hid (T=(Rn.tabL nt).toArray):=hT;have hTs:T.size=80:=by rw[hT];rfl
   have hst:=run_storeCells_new (P:=Tryz.prog) w3 85 Tryz.zeroCells85 T (by rw[Rn.qto,hTs]) (by rw[Rn.qw4,hTs]) (by rw[hT];exact Rn.qxb nt)
   have S4:Hid (Below w.heap.size w (w3.alloc (.cells T 85))∧(w3.alloc (.cells T 85)).ownsRow w.heap.size 5 1 (.slice b6 m6 k6) (upI P 0).length (Lg.qbk (upI P 0))):=⟨S3.out.1.alloc S3.out.1.size _,S3.out.2.alloc _⟩;have q3:=(CP.out _ S4.out.1).2.1;have hpz3:pp < w3.heap.size+1:=by have:=S3.out.1.size;omega
   clear t3 hr hT;generalize hbT:w3.heap.size=bT at *;have S5:Hid ((w3.alloc (.cells T 85)).heap[bT]?=some (.cells T 85)):=by rw[← hbT];exact Lg.new1
   go_wp2_with fail;go_loopw [3,50] (fun v i wr=>∃ j:Nat,j≤P.ins.length∧i=.int .i64 j∧Hid (Below w.heap.size w wr∧wr.ownsRow w.heap.size 5 1 v (upI P j).length (Lg.qbk (upI P j))∧wr.heap[bT]?=some (.cells T 85))) (fun _ i _=>P.ins.length - (intOf i).toNat)
   case atStart=>exact ⟨0,by omega,rfl,S4.out.1,S4.out.2,S5.out⟩
   case round =>
    obtain ⟨j,hj,rfl,hr⟩:=hrel;by_cases hlt:j < P.ins.length
    ·obtain ⟨g,rfl,y0,y1,y2⟩:=HI.out j hlt;have hgz:=lt_of_cell y0;have kp:∀ {o:Nat} {x:Value},w.cell? ⟨g,o,none⟩=some x→wr.cell? ⟨g,o,none⟩=some x:=fun {o x} hx=>by rw[hr.out.1.cell (p:=⟨g,o,none⟩) hgz];exact hx
     have y0:=kp y0;have y1:=kp y1;have y2:=kp y2;have hok:=OK.out P.ins[j] (List.getElem_mem hlt);have HS:Hid (upI P (j+1)=upI P j++[UInt8.ofNat P.ins[j].k]++qg3 P.ins[j] (Px.qfb P.ins[j].k)∧(upI P (j+1)).length≤1000000):=⟨zkr P hlt,Nat.le_trans (zeg P _) HL.out⟩;generalize P.ins[j]=ins at *;obtain ⟨k,oa,ob⟩:=ins;dsimp only at *;have hk20:k < 20:=hok.k;have hoa:oa < 65536:=hok.a;have hob:ob < 65536:=hok.b;obtain ⟨ta,hta⟩:=zey nt k hk20;have TC:Hid (∀ W:World,W.heap[bT]?=some (.cells T 85)→W.cell? ⟨bT,k * 4,none⟩=some (.slice ta (Px.qfb k) (Px.qfb k))):=fun W hW=>by
      simp only[World.cell?,hW];show T[k * 4]?=_
      rw[HT.out,List.getElem?_toArray,Nat.mul_comm];exact hta
     obtain ⟨b8,m8,k8,rfl⟩:=Ref.qad hr.out.2.1;have hnd:=zg8 k;have hul:(upI P j).length+1+(qg3 ⟨k,oa,ob⟩ (Px.qfb k)).length≤1000000:=by
      have:=HS.out.2
      rw[HS.out.1] at this;simp only[List.length_append,List.length_cons,List.length_nil] at this;omega
     generalize hUL:(upI P j).length=UL at *;have hlt':(j:Int) < (P.ins.length:Int):=by omega
     have E8:Hid (Value.int .u8 ((k:Int) % 256)=.int .u8 (((UInt8.ofNat k).toNat:Nat):Int)):=by
      unfold Hid;rw[UInt8.toNat_ofNat'];simp
     have hzr:w.heap.size≤wr.heap.size:=hr.out.1.size;have hbz:bT < wr.heap.size:=lt_of_block hr.out.2.2;have O1:Hid (∀ u∈[Value.int .u8 ((k:Int) % 256)],u.oneCell'=true):=by intro u hu;simp at hu;subst hu;rfl
     clear hta hok kp S4 S5;go_wp2_with (first
      | (at_builtin;refine wpList_append_own_at _ rfl _ _ 38 rfl w.heap.size 5 i0 (.int .u8 0) 1 1 Tryz.underlying38 hi hz0 hz1 hz2 rfl (by decide) _ _ _ rfl ((hr.out.2.1.alloc _).alloc _) ⟨wr.heap.size+1,0,none⟩ 1 1 [.int .u8 ((k:Int) % 256)] rfl rfl ?c1 O1.out ?c3 ?c4 ?c5 ?_)
      | fail)
     case c1 =>
      intro j u hj;match j,hj with
      | 0,hj=>simp at hj;subst hj;simp[Addr.add];omega
     case c3=>unfold maxLen;omega
     case c4=>omega
     case c5=>simp;omega
     ·intro v4 w4 o4 g4 _ l4;have R4:Hid (Below w.heap.size w w4∧w4.ownsRow w.heap.size 5 1 v4 (upI P j++[UInt8.ofNat k]++qg3 ⟨k,oa,ob⟩ 0).length (Lg.qbk (upI P j++[UInt8.ofNat k]++qg3 ⟨k,oa,ob⟩ 0))∧w4.heap[bT]?=some (.cells T 85)∧w4.heap[wr.heap.size]?=some (.cells #[.int .i64 (k:Int),.int .i64 (oa:Int),.int .i64 (ob:Int)] 90)):=by
       have hT:Tch (fun k=>(Value.slice b8 m8 k8).ownBlock=some k) wr w4:=(((Tch.refl _ _).alloc _).alloc _).grown g4 fun k hk=>Or.inl hk
       refine ⟨hr.out.1.trans (hT.qbg hzr fun k hk=>(hr.out.2.1.lt k hk).1),?_,?_,?_⟩
       ·have e1:Lg.qbk [UInt8.ofNat k]=[.int .u8 ((k:Int) % 256)]:=by rw[E8.out];rfl
        have e0:qg3 ⟨k,oa,ob⟩ 0=[]:=rfl;rw[e0,List.append_nil,Lg.qeu,e1];simp only[List.length_append,List.length_cons,List.length_nil,hUL];exact o4
       ·rw[hT.block bT hbz (zf9 hr.out.2.1 hr.out.2.2 (by decide))]
        exact hr.out.2.2
       ·have hT2:=(Tch.refl (fun k=>(Value.slice b8 m8 k8).ownBlock=some k) _).grown g4 fun k hk=>Or.inl hk
        rw[hT2.block wr.heap.size (by simp;omega) (fun h=>by have:=(hr.out.2.1.lt _ h).2;omega)]
        exact Ref.qi8
      obtain ⟨b9,m9,k9,rfl⟩:=Ref.qad o4;have tc:=TC.out w4 R4.out.2.2.1;obtain ⟨e0,e1,e2,ef⟩:=Mk.cells3 R4.out.2.2.2;clear o4 g4 l4 y0 y1 y2 O1 hbz hzr;generalize wr.heap.size=bI at *;go_wp2_with fail;go_loopw [3,66] (fun v n wq=>∃ m:Nat,m≤Px.qfb k∧n=.int .i64 m∧Hid (Below w.heap.size w wq∧wq.ownsRow w.heap.size 5 1 v (upI P j++[UInt8.ofNat k]++qg3 ⟨k,oa,ob⟩ m).length (Lg.qbk (upI P j++[UInt8.ofNat k]++qg3 ⟨k,oa,ob⟩ m))∧wq.heap[bT]?=some (.cells T 85)∧wq.heap[bI]?=some (.cells #[.int .i64 (k:Int),.int .i64 (oa:Int),.int .i64 (ob:Int)] 90))) (fun _ n _=>Px.qfb k - (intOf n).toNat)
      case atStart=>exact ⟨0,by omega,rfl,R4.out⟩
      case round =>
       obtain ⟨m,hm,rfl,hq⟩:=hrel;by_cases hmt:m < Px.qfb k
       ·obtain ⟨f0,f1,f2,ff⟩:=Mk.cells3 hq.out.2.2.2;have hm2:m < 2:=by omega
        have hmt':(m:Int) < (Px.qfb k:Int):=by omega
        have HO:Hid (qg3 ⟨k,oa,ob⟩ (m+1)=qg3 ⟨k,oa,ob⟩ m++Px.b2 (if m=0 then oa else ob)):=zcz ⟨k,oa,ob⟩ m hm2
        obtain ⟨x,hx,hxe⟩:∃ x,(if m=0 then oa else ob)=x∧x < 65536:=⟨_,rfl,by split<;>assumption⟩
        have fx:wr.cell? ⟨bI,1+m,none⟩=some (.int .i64 (x:Int)):=by
         match m,hm2 with
         | 0,_=>rw[← hx];exact f1
         | 1,_=>rw[← hx];exact f2
        rw[hx] at HO;obtain ⟨b5,m5,k5,rfl⟩:=Ref.qad hq.out.2.1;have hlo:(upI P j++[UInt8.ofNat k]++qg3 ⟨k,oa,ob⟩ m).length≤10000000:=by
         have h4:(qg3 ⟨k,oa,ob⟩ m).length≤4:=zgv _ _;simp only[List.length_append,List.length_cons,List.length_nil,hUL];omega
        have hwr:bI < wr.heap.size:=lt_of_block hq.out.2.2.2;clear hx;go_wp2_with fail;refine Calls.mono (qd2 w.heap.size _ x hxe _ _ hq.out.1.size hq.out.2.1 hlo) ?_;rintro e w6 ⟨v6,rfl,o6,s6⟩;have R6:Hid (Below w.heap.size w w6∧w6.ownsRow w.heap.size 5 1 v6 (upI P j++[UInt8.ofNat k]++qg3 ⟨k,oa,ob⟩ (m+1)).length (Lg.qbk (upI P j++[UInt8.ofNat k]++qg3 ⟨k,oa,ob⟩ (m+1)))∧w6.heap[bT]?=some (.cells T 85)∧w6.heap[bI]?=some (.cells #[.int .i64 (k:Int),.int .i64 (oa:Int),.int .i64 (ob:Int)] 90)):=by
         refine ⟨hq.out.1.trans (s6.below hq.out.1.size hq.out.2.1),?_,?_,?_⟩
         ·rw[HO.out,← List.append_assoc];exact o6
         ·rw[(s6.keep (lt_of_block hq.out.2.2.1) (zf9 hq.out.2.1 hq.out.2.2.1 (by decide))).1]
          exact hq.out.2.2.1
         ·rw[(s6.keep hwr (zf9 hq.out.2.1 hq.out.2.2.2 (by decide))).1]
          exact hq.out.2.2.2
        clear o6 s6;go_wp2;exact ⟨⟨m+1,by omega,by go_num,R6.out⟩,by simp[intOf];omega⟩
       ·obtain rfl:m=Px.qfb k:=by omega
        obtain ⟨b5,m5,k5,rfl⟩:=Ref.qad hq.out.2.1;have R7:Hid (Below w.heap.size w wr∧wr.ownsRow w.heap.size 5 1 (.slice b5 m5 k5) (upI P (j+1)).length (Lg.qbk (upI P (j+1)))∧wr.heap[bT]?=some (.cells T 85)):=by
         rw[HS.out.1];exact ⟨hq.out.1,hq.out.2.1,hq.out.2.2.1⟩
        have hne2:¬ ((Px.qfb k:Int) < (Px.qfb k:Int)):=by omega
        go_wp2;exact ⟨⟨j+1,by omega,by go_num,R7.out⟩,by simp[intOf];omega⟩
    ·obtain rfl:j=P.ins.length:=by omega
     have hcv:=zcj hr.out.2.1;rw[zeh] at hcv;obtain ⟨b7,m7,k7,rfl⟩:=Ref.qad hr.out.2.1;have hne:¬ ((P.ins.length:Int) < (P.ins.length:Int)):=by omega
     go_wp2_with fail;go_ret;exact ⟨rfl,hr.out.1⟩
end Cd
namespace Px
theorem zzw {l r:List UInt8} {n:Nat} (h:rd2 l=some (n,r)):r.length+2=l.length∧n < 65536:=by
 match l,h with
 | a::b::s,h =>
  simp only[rd2,Option.some.injEq,Prod.mk.injEq] at h;obtain ⟨rfl,rfl⟩:=h
  have:=a.toNat_lt
  have:=b.toNat_lt
  exact ⟨by simp,by omega⟩
theorem yal {l r:List UInt8} {i:Ins} (h:rdI l=some (i,r)):r.length < l.length∧OkI i:=by
 match l,h with
 | k::s,h =>
  rw[rdI] at h;by_cases h20:20≤k.toNat
  ·rw[if_pos h20] at h;cases h
  ·rw[if_neg h20] at h;by_cases h0:qfb k.toNat=0
   ·rw[if_pos h0] at h;cases h;exact ⟨by simp,by show k.toNat < 20;omega,by show 0 < 65536;decide,by show 0 < 65536;decide,fun _=>rfl,fun _=>rfl⟩
   ·rw[if_neg h0] at h;cases h1:rd2 s with
    | none=>rw[h1] at h;cases h
    | some p =>
     obtain ⟨a,r1⟩:=p;rw[h1] at h;simp only at h;obtain ⟨l1,a1⟩:=zzw h1;by_cases hn2:qfb k.toNat=2
     ·rw[if_pos hn2] at h;cases h2:rd2 r1 with
      | none=>rw[h2] at h;cases h
      | some q =>
       obtain ⟨b,r2⟩:=q;rw[h2] at h;simp only at h;cases h;obtain ⟨l2,b2⟩:=zzw h2;exact ⟨by simp;omega,by show k.toNat < 20;omega,a1,b2,fun e=>absurd e h0,fun e=>absurd hn2 e⟩
     ·rw[if_neg hn2] at h;cases h;exact ⟨by simp;omega,by show k.toNat < 20;omega,a1,by show 0 < 65536;decide,fun e=>absurd e h0,fun _=>rfl⟩
theorem yak:∀ (n m:Nat) (r:List UInt8),r.length≤n→r.length≤m→rdIs n r=rdIs m r:=by
 intro n;induction n with
 | zero =>
  intro m r h1 _;obtain rfl:r=[]:=List.eq_nil_of_length_eq_zero (by omega)
  cases m<;>rfl
 | succ n ih =>
  intro m r h1 h2;match r,m,h1,h2 with
  | [],0,_,_=>rfl
  | [],m+1,_,_=>rfl
  | c::t,0,_,h2=>simp at h2
  | c::t,m+1,h1,h2 =>
   rw[rdIs,rdIs]
   ·cases hi:rdI (c::t) with
    | none=>rfl
    | some p =>
     obtain ⟨i,r1⟩:=p;have hl:=(yal hi).1;simp only;rw[ih m r1 (by simp at h1 hl;omega) (by simp at h2 hl;omega)]
   all_goals (intro e;cases e)
theorem yb3 {r r1:List UInt8} {i:Ins} (h:rdI r=some (i,r1)):rdIs r.length r=(rdIs r1.length r1).map (i::·):=by
 match r,h with
 | c::t,h =>
  have hl:=(yal h).1;rw[List.length_cons,rdIs]
  ·rw[h];simp only;rw[yak t.length r1.length r1 (by simp at hl;omega) (Nat.le_refl _)]
   cases rdIs r1.length r1<;>rfl
  ·intro e;cases e
theorem yb4 {r:List UInt8} (hr:r≠[]) (h:rdI r=none):rdIs r.length r=none:=by
 match r,hr,h with
 | c::t,_,h =>
  rw[List.length_cons,rdIs]
  ·rw[h]
  ·intro e;cases e
def good (s:List UInt8):Option Pg :=
 if 65536 < s.length then none else (rdC s).bind fun P=>if verV P=true then some P else none
end Px
open Go.RowKit
namespace Cd
def RrAt (w:World) (b nt:Nat) (l:List UInt8):Prop:=w.heap[b]?=some (.cells (.string ⟨l.toArray⟩::Rn.tabL nt).toArray 108)
theorem RrAt.cell {w:World} {b nt:Nat} {l:List UInt8} (h:RrAt w b nt l):w.cell? ⟨b,0,none⟩=some (.string ⟨l.toArray⟩):=by
 unfold RrAt at h;simp[World.cell?,h]
theorem RrAt.free {w:World} {b nt:Nat} {l:List UInt8} (h:RrAt w b nt l):∀ o,w.frozen? ⟨b,o,none⟩=false:=by
 unfold RrAt at h;intro o;simp[World.frozen?,h]
theorem RrAt.lt {w:World} {b nt:Nat} {l:List UInt8} (h:RrAt w b nt l):b < w.heap.size:=lt_of_block h
theorem RrAt.set {w:World} {b nt:Nat} {l r:List UInt8} (h:RrAt w b nt l):RrAt (w.setCell ⟨b,0,none⟩ (.string ⟨r.toArray⟩)) b nt r:=by
 unfold RrAt at h ⊢;rw[Ref.heap_set _ h];rfl
theorem RrAt.keep {w w':World} {b nt:Nat} {l:List UInt8} (h:RrAt w b nt l) (hk:w'.heap[b]?=w.heap[b]?):RrAt w' b nt l:=hk.trans h
theorem ybm (l:List UInt8) (n:Nat):(⟨l.toArray⟩:ByteArray).extract 0 n=⟨(l.take n).toArray⟩:=by
 apply ByteArray.ext
 simp[ByteArray.data_extract]
theorem ybn (l:List UInt8) (n:Nat):(⟨l.toArray⟩:ByteArray).extract n l.length=⟨(l.drop n).toArray⟩:=by
 apply ByteArray.ext
 simp only[ByteArray.data_extract,List.extract_toArray,List.extract_eq_take_drop];rw[List.take_of_length_le (by simp)]
theorem zzt (l:List UInt8):(⟨l.toArray⟩:ByteArray).size=l.length:=by
 show l.toArray.size=_
 simp
theorem zy3 (b nt n:Nat) (l:List UInt8) (w:World) (h:RrAt w b nt l) (_hl:l.length≤1000000) (hn:n≤1000000) :
  Calls Tryz.prog 90 #[.pointer (some ⟨b,0,none⟩),.int .i64 (n:Int)] w fun e w'=>(l.length < n∧e=.returned (.tuple #[.string ⟨#[]⟩,.bool false])∧w'=w) ∨
   (n≤l.length∧e=.returned (.tuple #[.string ⟨(l.take n).toArray⟩,.bool true])∧RrAt w' b nt (l.drop n)∧Tch (·=b) w w'):=by
 have c0:=h.cell;have cf:=h.free;have hs:=zzt l;have hbz:=h.lt;have H:Hid (_):=h;have e1:=ybm l n;have e2:=ybn l n;generalize hS:(⟨l.toArray⟩:ByteArray)=S at *;clear h;go_enter Tryz.func90,Tryz.ntmps90
 by_cases hlt:l.length < n
 ·have hi:(S.size:Int) < (n:Int):=by omega
  go_wp2_with fail;go_ret2;exact Or.inl ⟨hlt,rfl,rfl⟩
 ·have hi:¬ ((S.size:Int) < (n:Int)):=by omega
  have hi2:(n:Int)≤(S.size:Int):=by omega
  go_wp2_with fail;go_ret2;have h2:RrAt w b nt l:=by unfold RrAt;rw[hS];exact H.out
  first
   | exact Or.inr ⟨by omega,rfl,h2.set,(Tch.refl (·=b) _).setCell (p:=⟨b,0,none⟩) (Or.inl rfl) _⟩
   | exact ⟨by omega,rfl,h2.set,(Tch.refl (·=b) _).setCell (p:=⟨b,0,none⟩) (Or.inl rfl) _⟩
theorem ycc (x:Int):IntKind.i64.wrap x=wrap64 x:=by rw[IntKind.wrap_i64];unfold wrap64;first | rfl | omega
theorem w64 (n:Nat) (h:n < 1000000):wrap64 (n:Int)=(n:Int):=by
 unfold wrap64;omega
theorem yca {x y:Nat} (hx:x < 256) (hy:y < 256):bits .or .i64 (wrap64 (wrap64 (x:Int) * 256)) (wrap64 (y:Int))=((x * 256+y:Nat):Int):=by
 have e1:wrap64 (wrap64 (x:Int) * 256)=((x * 256:Nat):Int):=by
  rw[w64 x (by omega)]
  have:(x:Int) * 256=((x * 256:Nat):Int):=by omega
  rw[this,w64 _ (by omega)]
 rw[e1,w64 y (by omega)]
 have e2:x * 256 ||| y=x * 256+y:=by
  have:=Nat.two_pow_add_eq_or_of_lt (i:=8) (b:=y) (by omega) x
  rw[Nat.mul_comm x 256];exact this.symm
 unfold bits;simp only[BitVec.ofInt_natCast];rw[BitVec.toNat_or,BitVec.toNat_ofNat,BitVec.toNat_ofNat];have e3:(x * 256) % 2 ^ IntKind.i64.bits=x * 256:=Nat.mod_eq_of_lt (Nat.lt_of_lt_of_le (show x * 256 < 2 ^ 16 by omega) (by decide))
 have e4:y % 2 ^ IntKind.i64.bits=y:=Nat.mod_eq_of_lt (Nat.lt_of_lt_of_le (show y < 2 ^ 16 by omega) (by decide))
 rw[e3,e4,e2];have hn:x * 256+y < 65536:=by omega
 clear e1 e2 e3 e4;generalize x * 256+y=n at *;rw[ycc];exact w64 n (by omega)
theorem zy0 (b nt:Nat) (l:List UInt8) (w:World) (h:RrAt w b nt l) (hl:l.length≤1000000) :
  Calls Tryz.prog 33 #[.pointer (some ⟨b,0,none⟩)] w fun e w'=>(Px.rd2 l=none∧e=.returned (.tuple #[.int .i64 0,.bool false])∧w'=w) ∨
   (∃ n r,Px.rd2 l=some (n,r)∧n < 65536∧e=.returned (.tuple #[.int .i64 (n:Int),.bool true])∧RrAt w' b nt r∧Tch (·=b) w w'):=by
 have HB:Hid (_):=zy3 b nt 2 l w h hl (by decide)
 clear h;go_enter Tryz.func33,Tryz.ntmps33
 go_wp2_with fail;refine Calls.mono HB.out ?_;rintro e w1 (⟨hlt,rfl,rfl⟩ | ⟨hle,rfl,hR⟩)
 ·have hn:Px.rd2 l=none:=by
   match l,hlt with
   | [],_=>rfl
   | [_],_=>rfl
  go_wp2_with fail;go_ret2;exact Or.inl ⟨hn,rfl,rfl⟩
 ·obtain ⟨x,y,r,rfl⟩:∃ x y r,l=x::y::r:=by
   match l,hle with
   | x::y::r,_=>exact ⟨x,y,r,rfl⟩
  have HR:Hid (_):=hR;clear hR HB hl;have hb:=yca (x:=x.toNat) (y:=y.toNat) x.toNat_lt y.toNat_lt;have hn:x.toNat * 256+y.toNat < 65536:=by have:=x.toNat_lt;have:=y.toNat_lt;omega
  go_wp2_with fail;go_region
  go_wp2_with fail;go_ret2;exact Or.inr ⟨x.toNat * 256+y.toNat,r,rfl,hn,by rw[← hb];rfl,HR.out.1,HR.out.2.drew⟩
open Go.RowKit
def zyw (x:Nat):Bool:=decide (x < 97) || decide (122 < x)
theorem ybh (x:Nat) (w:World):Calls Tryz.prog 131 #[.int .i32 (x:Int)] w fun e w'=>e=.returned (.bool (zyw x))∧w'=w:=by
 go_enter Tryz.func131,Tryz.ntmps131
 by_cases h1:x < 97
 ·have t1:(x:Int) < 97:=by omega
  go_wp2_with fail;go_ret;exact ⟨by simp[zyw,h1],rfl⟩
 ·have t1:¬ (x:Int) < 97:=by omega
  by_cases h2:122 < x
  ·have t2:(122:Int) < (x:Int):=by omega
   go_wp2_with fail;go_ret;exact ⟨by simp[zyw,h2],rfl⟩
  ·have t2:¬ (122:Int) < (x:Int):=by omega
   go_wp2_with fail;go_ret;exact ⟨by simp[zyw,h1,h2],rfl⟩
theorem ycm {s:ByteArray} {i:Nat} (h:(s.get! i).toNat < 128):Utf8.decode s i=((s.get! i).toNat,1):=by
 unfold Utf8.decode;simp only[Nat.add_zero];rw[if_pos h]
theorem ycn {s:ByteArray} {i:Nat} (h:¬ (s.get! i).toNat < 128):128≤(Utf8.decode s i).1:=by
 unfold Utf8.decode;simp only[Nat.add_zero];rw[if_neg h];have he:128≤Utf8.runeError:=by decide
 split
 ·split
  ·rename_i h1;simpa using h1
  ·exact he
 ·split
  ·split
   ·rename_i h1;simp only[ge_iff_le,Bool.and_eq_true,decide_eq_true_eq] at h1;show 128≤_;omega
   ·exact he
  ·split
   ·split
    ·rename_i h1;simp only[ge_iff_le,Bool.and_eq_true,decide_eq_true_eq] at h1;show 128≤_;omega
    ·exact he
   ·exact he
theorem zzj {s:ByteArray} (h:∀ j,j < s.size→zyw (s.get! j).toNat=false):Px.letters s.data.toList=true:=by
 unfold Px.letters;rw[List.all_eq_true];intro c hc;obtain ⟨j,hj,rfl⟩:=List.getElem_of_mem hc;have hj':j < s.size:=by simpa using hj
 have:=h j hj'
 have e:s.get! j=s.data.toList[j]:=by
  show s.data[j]! =_
  simp[hj']
 rw[e] at this;simp only[zyw,Bool.or_eq_false_iff,decide_eq_false_iff_not] at this;simp only[Bool.and_eq_true,decide_eq_true_eq];omega
theorem zzq {s:ByteArray} {j:Nat} (hj:j < s.size) (h:zyw (s.get! j).toNat=true):Px.letters s.data.toList=false:=by
 unfold Px.letters;rw[List.all_eq_false];have e:s.get! j=s.data.toList[j]'(by simpa using hj):=by
  show s.data[j]! =_
  have:j < s.data.size:=hj
  rw[getElem!_pos s.data j this];simp
 refine ⟨_,List.getElem_mem (by simpa using hj),?_⟩
 rw[← e];simp only[zyw,Bool.or_eq_true,decide_eq_true_eq] at h;simp only[Bool.not_eq_true,Bool.and_eq_false_iff,decide_eq_false_iff_not];omega
theorem zzr (s:ByteArray) (w:World) :
  Calls Tryz.prog 182 #[.string s,.func (.func 131) #[] #[],.bool true] w fun e w'=>∃ i:Int,e=.returned (.int .i64 i)∧Hid ((Px.letters s.data.toList=true→i=-1)∧(Px.letters s.data.toList=false→0≤i))∧Below w.heap.size w w':=by
 go_enter Tryz.func182,Tryz.ntmps182
 go_wp2;go_loopg [] s.size (fun gf wx=>∃ pos:Nat,wx.heap[w.heap.size]?=some (.stringIter s pos)∧Below w.heap.size w wx∧Hid (∀ j,j < pos→zyw (s.get! j).toNat=false)∧s.size≤pos+gf)
 case atStart=>exact ⟨0,World.iter_heap w s 0,(Below.refl _ w).alloc (Nat.le_refl _) _,fun j hj=>absurd hj (Nat.not_lt_zero _),by omega⟩
 case round =>
  obtain ⟨pos,hit,hbw,hall,hfu⟩:=hrel;by_cases hps:pos < s.size
  ·obtain ⟨g',rfl⟩:∃ g',gk=g'+1:=⟨gk - 1,by omega⟩
   have hnx:∀ ty,(Instr.next (.pointer (some ⟨w.heap.size,0,none⟩)) true ty).run Tryz.prog wr=_:=fun ty=>Lib.run_next_any_at wr w.heap.size s pos ty hit hps
   obtain ⟨R,hR⟩:∃ R,(Utf8.decode s pos).1=R:=⟨_,rfl⟩;obtain ⟨K,hK⟩:∃ K,(Utf8.decode s pos).2=K:=⟨_,rfl⟩;have HD:Hid (zyw R=zyw (s.get! pos).toNat∧(zyw R=false→K=1)):=by
    by_cases hlo:(s.get! pos).toNat < 128
    ·rw[ycm hlo] at hR hK;exact ⟨by rw[← hR],fun _=>hK.symm⟩
    ·have h1:=ycn hlo;rw[hR] at h1;have e1:zyw R=true:=by simp[zyw];omega
     have e2:zyw (s.get! pos).toNat=true:=by simp[zyw];omega
     exact ⟨by rw[e1,e2],fun h=>by rw[e1] at h;cases h⟩
   rw[hR,hK] at hnx;have hit2:=Lib.iterAt_heap wr w.heap.size s pos (pos+K) hit;have hbw2:=Lib.below_iterAt hbw (k:=w.heap.size) (Nat.le_refl _) s (pos+K);obtain ⟨W,hWd⟩:∃ W,wr.iterAt w.heap.size s (pos+K)=W:=⟨_,rfl⟩;rw[hWd] at hnx hit2 hbw2;have cS:=ybh R W;have KK:Hid (W.heap[w.heap.size]?=some (.stringIter s (pos+K))∧Below w.heap.size w W):=⟨hit2,hbw2⟩;clear hit2 hbw2 hbw hWd hR hK;cases hsp:zyw R
   ·rw[hsp] at cS;go_wp2_with fail;refine Calls.mono cS ?_;rintro e W' ⟨rfl,rfl⟩;go_wp2_with fail;go_roundg g'
    case measure=>omega
    case rel =>
     have hk:=HD.out.2 hsp;refine ⟨pos+K,KK.out.1,KK.out.2,fun j hj=>?_,by omega⟩
     by_cases hjp:j < pos
     ·exact hall.out j hjp
     ·obtain rfl:j=pos:=by omega
      rw[← HD.out.1,hsp]
   ·rw[hsp] at cS;go_wp2_with fail;refine Calls.mono cS ?_;rintro e W' ⟨rfl,rfl⟩;go_wp2_with fail;go_ret;exact ⟨_,rfl,⟨fun h=>absurd (h.symm.trans (zzq hps (by rw[← HD.out.1,hsp]))) (by decide),fun _=>Int.natCast_nonneg _⟩,KK.out.2⟩
  ·have hnx:∀ ty,(Instr.next (.pointer (some ⟨w.heap.size,0,none⟩)) true ty).run Tryz.prog wr=_:=fun ty=>Lib.run_next_end_at wr w.heap.size s pos ty hit hps
   have HB:Hid (_):=hbw;clear hbw;go_wp2;go_ret;exact ⟨_,rfl,⟨fun _=>rfl,fun h=>absurd (h.symm.trans (zzj fun j hj=>hall.out j (by omega))) (by decide)⟩,HB.out⟩
theorem zza (s:ByteArray) (w:World) :
  Calls Tryz.prog 130 #[.string s,.func (.func 131) #[] #[]] w fun e w'=>e=.returned (.bool (!Px.letters s.data.toList))∧Below w.heap.size w w':=by
 have H1:Hid (Calls Tryz.prog 163 #[.string s,.func (.func 131) #[] #[]] w fun e w'=>∃ i:Int,e=.returned (.int .i64 i)∧Hid ((Px.letters s.data.toList=true→i=-1)∧(Px.letters s.data.toList=false→0≤i))∧Below w.heap.size w w'):=by
  have H0:Hid (_):=zzr s w;unfold Hid;go_enter Tryz.func163,Tryz.ntmps163
  go_wp2_with fail;refine Calls.mono H0.out ?_;rintro e w1 ⟨i,rfl,h1,h2⟩;have HH:Hid (_∧_):=⟨h1,h2⟩;clear h1 h2;go_wp2_with fail;go_ret;exact ⟨i,rfl,HH.out⟩
 go_enter Tryz.func130,Tryz.ntmps130
 go_wp2_with fail;refine Calls.mono H1.out ?_;rintro e w1 ⟨i,rfl,h1,h2⟩;have HB:Hid (_):=h2;cases hl:Px.letters s.data.toList
 ·have t1:(0:Int)≤i:=h1.out.2 hl;clear h1 h2;go_wp2_with fail;go_ret;exact ⟨by rw[hl];rfl,HB.out⟩
 ·have t1:¬ (0:Int)≤i:=by rw[h1.out.1 hl];decide
  clear h1 h2;go_wp2_with fail;go_ret;have hd:decide (0≤i)=false:=decide_eq_false (by omega)
  exact ⟨by rw[hl];show _=Ending.returned (.bool false);rw[← hd];rfl,HB.out⟩
open Go.RowKit
theorem zjb (s:ByteArray) (w:World) (h:s.size≤10000000):Calls Tryz.prog 132 #[.string s] w fun e w'=>e=.returned (.string s)∧Below w.heap.size w w':=by
 have H:Hid (_):=zdp s w h;clear h;go_enter Tryz.func132,Tryz.ntmps132
 go_wp2_with fail;refine Calls.mono H.out ?_;rintro e w1 ⟨rfl,hb⟩;have HB:Hid (_):=hb;clear hb;go_wp2_with fail;go_ret;exact ⟨rfl,HB.out⟩
def GotW (b nt:Nat) (w:World) (g:Option (ByteArray×List UInt8)) (e:Ending) (w':World):Prop :=
 Tch (·=b) w w'∧((g=none∧e=.returned (.tuple #[.string ⟨#[]⟩,.bool false]))∨(∃ x r,g=some (x,r)∧e=.returned (.tuple #[.string x,.bool true])∧RrAt w' b nt r))
theorem ybt (b nt:Nat) (l:List UInt8) (w:World) (h:RrAt w b nt l) (hl:l.length≤1000000) :
  Calls Tryz.prog 91 #[.pointer (some ⟨b,0,none⟩)] w (GotW b nt w (Px.rdW l)):=by
 have HB:Hid (_):=zy3 b nt 1 l w h hl (by decide)
 clear h;go_enter Tryz.func91,Tryz.ntmps91
 go_wp2_with fail;refine Calls.mono HB.out ?_;rintro e w1 (⟨hlt,rfl,rfl⟩ | ⟨hle,rfl,hR⟩)
 ·obtain rfl:l=[]:=List.eq_nil_of_length_eq_zero (by omega)
  go_wp2_with fail;go_ret2;exact ⟨Tch.refl _ _,Or.inl ⟨rfl,rfl⟩⟩
 ·obtain ⟨n,r,rfl⟩:∃ n r,l=n::r:=by
   match l,hle with
   | n::r,_=>exact ⟨n,r,rfl⟩
  have HR:Hid (RrAt w1 b nt r∧Tch (·=b) w w1):=hR
  have hrl:r.length≤1000000:=by simp at hl;omega
  clear hR HB hl hle;have hn256:=n.toNat_lt;have g0:(⟨#[n]⟩:ByteArray)[0]'(by show 0 < 1;decide)=n:=rfl
  by_cases h0:n.toNat=0
  ·have t0:((n.toNat:Int) == 0)=true:=by rw[h0];rfl
   have hn:Px.rdW (n::r)=none:=by simp[Px.rdW,h0]
   go_wp2_with fail;go_ret2;exact ⟨HR.out.2,Or.inl ⟨hn,rfl⟩⟩
  ·have t0:((n.toNat:Int) == 0)=false:=by rw[beq_eq_false_iff_ne];omega
   by_cases h8:8 < n.toNat
   ·have t8:(8:Int) < (n.toNat:Int):=by omega
    have hn:Px.rdW (n::r)=none:=by simp[Px.rdW,h8]
    go_wp2_with fail;go_ret2;exact ⟨HR.out.2,Or.inl ⟨hn,rfl⟩⟩
   ·have t8:¬ (8:Int) < (n.toNat:Int):=by omega
    have H2:Hid (_):=zy3 b nt n.toNat r w1 HR.out.1 hrl (by omega)
    go_wp2_with fail;refine Calls.mono H2.out ?_;rintro e w2 (⟨hlt,rfl,rfl⟩ | ⟨hle,rfl,hR2⟩)
    ·have hn:Px.rdW (n::r)=none:=by simp[Px.rdW,hlt]
     clear H2;go_wp2_with fail;go_ret2;exact ⟨HR.out.2,Or.inl ⟨hn,rfl⟩⟩
    ·have HC:Hid (_):=zza ⟨(r.take n.toNat).toArray⟩ w2;have HR2:Hid (RrAt w2 b nt (r.drop n.toNat)∧Tch (·=b) w w2):=⟨hR2.1,HR.out.2.trans hR2.2⟩
     clear H2 hR2;go_wp2_with fail;refine Calls.mono HC.out ?_;rintro e w3 ⟨rfl,hb3⟩;have HR3:Hid (RrAt w3 b nt (r.drop n.toNat)∧Tch (·=b) w w3):=⟨HR2.out.1.keep (hb3.block b HR2.out.1.lt),HR2.out.2.below hb3⟩
     clear hb3 HC;cases hlt:Px.letters (r.take n.toNat)
     ·have hn:Px.rdW (n::r)=none:=by simp[Px.rdW,hlt]
      go_wp2_with fail;go_ret2;exact ⟨HR3.out.2,Or.inl ⟨hn,rfl⟩⟩
     ·have hn:Px.rdW (n::r)=some (⟨(r.take n.toNat).toArray⟩,r.drop n.toNat):=by
       have h3:¬ (n.toNat=0∨8 < n.toNat∨r.length < n.toNat):=by omega
       simp only[Px.rdW];rw[if_neg h3,if_pos hlt]
      have HK:Hid (_):=zjb ⟨(r.take n.toNat).toArray⟩ w3 (by rw[zzt];simp;omega)
      go_wp2_with fail;refine Calls.mono HK.out ?_;rintro e w4 ⟨rfl,hb4⟩;have HR4:Hid (RrAt w4 b nt (r.drop n.toNat)∧Tch (·=b) w w4):=⟨HR3.out.1.keep (hb4.block b HR3.out.1.lt),HR3.out.2.below hb4⟩
      clear hb4 HK;go_wp2_with fail;go_ret2;exact ⟨HR4.out.2,Or.inr ⟨_,_,hn,rfl,HR4.out.1⟩⟩
theorem yah {n:Nat} {l r:List UInt8} {x:ByteArray} (h:Px.rdW l=some (x,r)):Px.rdWs (n+1) l=(Px.rdWs n r).map fun p=>(x::p.1,p.2):=by
 rw[Px.rdWs,h];simp only;cases Px.rdWs n r with
 | none=>rfl
 | some p=>rfl
theorem yai {n:Nat} {l:List UInt8} (h:Px.rdW l=none):Px.rdWs (n+1) l=none:=by rw[Px.rdWs,h]
def GotWs (b nt B:Nat) (w:World) (g:Option (List ByteArray×List UInt8)) (e:Ending) (w':World):Prop :=
 Tch (·=b) w w'∧((g=none∧e=.returned (.tuple #[.slice none 0 0,.bool false]))∨(∃ ws r v,g=some (ws,r)∧e=.returned (.tuple #[v,.bool true])∧RrAt w' b nt r∧w'.ownsRow B 9 1 v ws.length (Mk.strCells ws)))
def rdN (l:List UInt8):Option (List ByteArray×List UInt8) :=
 match Px.rd2 l with
 | none=>none
 | some (n,r)=>Px.rdWs n r
theorem yaj {l r:List UInt8} {x:ByteArray} (h:Px.rdW l=some (x,r)):r.length < l.length:=by
 match l,h with
 | n::s,h =>
  simp only[Px.rdW] at h;split at h
  ·cases h
  ·split at h
   ·cases h;simp;omega
   ·cases h
theorem zzo {l r:List UInt8} {n:Nat} (h:Px.rd2 l=some (n,r)):r.length < l.length:=by
 match l,h with
 | a::b::s,h =>
  simp only[Px.rd2] at h;cases h;simp;omega
theorem ya4 (b nt:Nat) (l:List UInt8) (w:World) (h:RrAt w b nt l) (hl:l.length≤1000000) :
  Calls Tryz.prog 34 #[.pointer (some ⟨b,0,none⟩)] w (GotWs b nt w.heap.size w (rdN l)):=by
 have HB:Hid (_):=zy0 b nt l w h hl;have hbz:=h.lt;obtain ⟨i0,hi,hz0,hz1,hz2⟩:=info_parts Mk.zt3;have HL:Hid (l.length≤1000000):=hl;clear h hl;go_enter Tryz.func34,Tryz.ntmps34
 go_wp2_with fail;refine Calls.mono HB.out ?_;rintro e w1 (⟨hn,rfl,rfl⟩ | ⟨n,r,hn,hn16,rfl,hR,hT⟩)
 ·have hg:rdN l=none:=by unfold rdN;rw[hn]
  clear HB;go_wp2_with fail;go_ret2;exact ⟨Tch.refl _ _,Or.inl ⟨hg,rfl⟩⟩
 ·have hg:rdN l=Px.rdWs n r:=by unfold rdN;rw[hn]
  have S0:Hid (RrAt w1 b nt r∧Tch (·=b) w w1∧r.length≤1000000):=⟨hR,hT,by have:=zzo hn;have:=HL.out;omega⟩
  have HG:Hid (rdN l=Px.rdWs n r):=hg;clear HB hR hT hg;go_wp2_with fail;go_loopw [6,17] (fun v i wr=>∃ (j:Nat) (ws:List ByteArray) (s:List UInt8),j≤n∧i=.int .i64 j∧Hid (Tch (·=b) w wr∧RrAt wr b nt s∧s.length≤1000000∧ws.length=j∧wr.ownsRow w.heap.size 9 1 v ws.length (Mk.strCells ws)∧Px.rdWs n r=(Px.rdWs (n - j) s).map fun p=>(ws++p.1,p.2))) (fun _ i _=>n - (intOf i).toNat)
  case atStart =>
   refine ⟨0,[],r,by omega,rfl,S0.out.2.1,S0.out.1,S0.out.2.2,rfl,World.ownsRow_nil _ _ _ _,?_⟩
   rw[Nat.sub_zero];cases Px.rdWs n r with
   | none=>rfl
   | some p=>rfl
  case round =>
   obtain ⟨j,ws,s,hj,rfl,hr⟩:=hrel;by_cases hlt:j < n
   ·have hlt':(j:Int) < (n:Int):=by omega
    have HW:Hid (_):=ybt b nt s wr hr.out.2.1 hr.out.2.2.1;obtain ⟨va,vn,vc,rfl⟩:=Ref.qad hr.out.2.2.2.2.1;clear S0;go_wp2_with fail;refine Calls.mono HW.out ?_;rintro e w2 ⟨t2,⟨hw,rfl⟩ | ⟨x,s2,hw,rfl,r2⟩⟩
    ·have HF:Hid (Tch (·=b) w w2∧rdN l=none):=by
      refine ⟨hr.out.1.trans t2,?_⟩;rw[HG.out,hr.out.2.2.2.2.2,show n - j=(n - j - 1)+1 by omega,yai hw]
      rfl
     clear t2 HW;go_wp2_with fail;go_ret2;exact ⟨HF.out.1,Or.inl ⟨HF.out.2,rfl⟩⟩
    ·have hob:∀ k,(Value.slice va vn vc).ownBlock=some k→k≠b:=fun k hk=>by have:=(hr.out.2.2.2.2.1.lt k hk).1;omega
     have R2:Hid (Tch (·=b) w w2∧RrAt w2 b nt s2∧s2.length≤1000000∧w2.ownsRow w.heap.size 9 1 (.slice va vn vc) ws.length (Mk.strCells ws)∧Px.rdWs n r=(Px.rdWs (n - (j+1)) s2).map fun p=>(ws++[x]++p.1,p.2)):=by
      refine ⟨hr.out.1.trans t2,r2,by have:=yaj hw;have:=hr.out.2.2.1;omega,qah hr.out.2.2.2.2.1 t2 hob,?_⟩
      rw[hr.out.2.2.2.2.2,show n - j=(n - (j+1))+1 by omega,yah hw]
      cases Px.rdWs (n - (j+1)) s2 with
      | none=>rfl
      | some p=>simp
     have hwl:ws.length=j:=hr.out.2.2.2.1;have hz2':w.heap.size≤w2.heap.size:=R2.out.1.size;have O1:Hid (∀ u∈[Value.string x],u.oneCell'=true):=by intro u hu;simp at hu;subst hu;rfl
     clear t2 r2 HW hr;go_wp2_with (first
      | (at_builtin;refine wpList_append_own_at _ rfl _ _ 77 rfl w.heap.size 9 i0 (.string ⟨#[]⟩) 1 16 Tryz.underlying77 hi hz0 hz1 hz2 rfl (by decide) _ _ _ rfl (R2.out.2.2.2.1.alloc _) ⟨w2.heap.size,0,none⟩ 1 1 [.string x] rfl rfl ?c1 O1.out ?c3 ?c4 ?c5 ?_)
      | fail)
     case c1 =>
      intro j u hj;match j,hj with
      | 0,hj=>simp at hj;subst hj;simp[Addr.add]
     case c3=>unfold maxLen;omega
     case c4=>omega
     case c5=>simp;omega
     ·intro v4 w4 o4 g4 _ l4;have R4:Hid (Tch (·=b) w w4∧RrAt w4 b nt s2∧s2.length≤1000000∧(ws++[x]).length=j+1∧w4.ownsRow w.heap.size 9 1 v4 (ws++[x]).length (Mk.strCells (ws++[x]))∧Px.rdWs n r=(Px.rdWs (n - (j+1)) s2).map fun p=>(ws++[x]++p.1,p.2)):=by
       have hT:Tch (fun k=>(Value.slice va vn vc).ownBlock=some k) w2 w4:=((Tch.refl _ _).alloc _).grown g4 fun k hk=>Or.inl hk
       have hb2:w4.heap[b]?=w2.heap[b]?:=hT.block b R2.out.2.1.lt fun h=>(hob b h) rfl
       refine ⟨⟨hT.os.trans R2.out.1.os,hT.tape.trans R2.out.1.tape,hT.output.trans R2.out.1.output,Nat.le_trans R2.out.1.size hT.size,fun k hk hn=>?_⟩,R2.out.2.1.keep hb2,R2.out.2.2.1,by simp[hwl],?_,R2.out.2.2.2.2⟩
       ·rw[hT.block k (by have:=R2.out.1.size;omega) fun h=>by have:=(R2.out.2.2.2.1.lt k h).1;omega]
        exact R2.out.1.block k hk hn
       ·have e1:Mk.strCells (ws++[x])=Mk.strCells ws++[.string x]:=by simp[Mk.strCells]
        rw[e1,List.length_append,hwl];exact o4
      clear o4 g4 l4;go_wp2;exact ⟨⟨j+1,ws++[x],s2,by omega,by go_num,R4.out⟩,by simp[intOf];omega⟩
   ·obtain rfl:j=n:=by omega
    have hne:¬ ((j:Int) < (j:Int)):=by omega
    have HF:Hid (_):=hr.out;clear hr S0;go_wp2_with fail;go_ret2;refine ⟨HF.out.1,Or.inr ⟨ws,s,_,?_,rfl,HF.out.2.1,HF.out.2.2.2.2.1⟩⟩;rw[HG.out,HF.out.2.2.2.2.2,Nat.sub_self,Px.rdWs];simp
open Go.RowKit
def zy7 (k:Nat):Nat→Nat→Nat→Nat→List UInt8→Option (Px.Ins×List UInt8)
 | 0,_,a,b,s=>some (⟨k,a,b⟩,s)
 | j+1,m,a,b,s =>
  match Px.rd2 s with
  | none=>none
  | some (x,r)=>if m=0 then zy7 k j 1 x b r else zy7 k j (m+1) a x r
theorem yb5 {k:UInt8} {r:List UInt8} (h:k.toNat < 20):Px.rdI (k::r)=zy7 k.toNat (Px.qfb k.toNat) 0 0 0 r:=by
 have hn:=zg8 k.toNat;rw[Px.rdI,if_neg (by omega)]
 match hh:Px.qfb k.toNat,hn with
 | 0,_=>rfl
 | 1,_ =>
  rw[if_neg (by decide)]
  simp only[zy7];cases Px.rd2 r with
  | none=>rfl
  | some p=>rfl
 | 2,_ =>
  rw[if_neg (by decide)]
  simp only[zy7];cases Px.rd2 r with
  | none=>rfl
  | some p =>
   simp only[if_true];cases Px.rd2 p.2 with
   | none=>rfl
   | some q=>rfl
theorem tch3 {b:Nat} {w w1:World} (h:Tch (·=b) w w1) (x y z:Value):Tch (·=b) w (((w1.setCell ⟨w.heap.size,0,none⟩ x).setCell ⟨w.heap.size,1,none⟩ y).setCell ⟨w.heap.size,2,none⟩ z) :=
 ((h.setCell (p:=⟨w.heap.size,0,none⟩) (Or.inr (Nat.le_refl _)) x).setCell (p:=⟨w.heap.size,1,none⟩) (Or.inr (Nat.le_refl _)) y).setCell (p:=⟨w.heap.size,2,none⟩) (Or.inr (Nat.le_refl _)) z
structure InsL (b nt bI:Nat) (w:World) (n:UInt8) (r:List UInt8) (m a c:Nat) (s:List UInt8) (wr:World):Prop where
 t:Tch (·=b) w wr
 rr:RrAt wr b nt s
 l:s.length≤1000000
 z:wr.heap[w.heap.size]?=some (.cells #[.int .i64 0,.int .i64 0,.int .i64 0] 90)
 i:wr.heap[bI]?=some (.cells #[.int .i64 (n.toNat:Int),.int .i64 (a:Int),.int .i64 (c:Int)] 90)
 e:Px.rdI (n::r)=zy7 n.toNat (Px.qfb n.toNat - m) m a c s
def GotI (b nt:Nat) (w:World) (g:Option (Px.Ins×List UInt8)) (e:Ending) (w':World):Prop :=
 Tch (·=b) w w'∧((g=none∧e=.returned (.tuple #[.agg #[.int .i64 0,.int .i64 0,.int .i64 0],.bool false]))∨(∃ i r,g=some (i,r)∧e=.returned (.tuple #[.agg #[.int .i64 (i.k:Int),.int .i64 (i.a:Int),.int .i64 (i.b:Int)],.bool true])∧RrAt w' b nt r))
theorem ycj (b nt:Nat) (l:List UInt8) (w:World) (h:RrAt w b nt l) (hl:l.length≤1000000) :
  Calls Tryz.prog 35 #[.pointer (some ⟨b,0,none⟩)] w (GotI b nt w (Px.rdI l)):=by
 have hbz:=h.lt;have HB:Hid (∀ o,Calls Tryz.prog 90 #[.pointer (some ⟨b,0,none⟩),.int .i64 1] (w.alloc o) _):=fun o=>zy3 b nt 1 l (w.alloc o) (h.keep (Below.heap_alloc _ _ _ hbz)) hl (by decide)
 clear h;go_enter Tryz.func35,Tryz.ntmps35
 go_wp2_with fail;refine Calls.mono (HB.out _) ?_;rintro e w1 (⟨hlt,rfl,rfl⟩ | ⟨hle,rfl,hR⟩)
 ·obtain rfl:l=[]:=List.eq_nil_of_length_eq_zero (by omega)
  go_wp2_with fail;exact bodyPost_ret (v:=.tuple #[.agg #[.int .i64 0,.int .i64 0,.int .i64 0],.bool false]) (by simp[results,Tryz.results35,go_sem]) rfl ⟨(Tch.refl _ _).alloc _,Or.inl ⟨rfl,rfl⟩⟩
 ·obtain ⟨n,r,rfl⟩:∃ n r,l=n::r:=by
   match l,hle with
   | n::r,_=>exact ⟨n,r,rfl⟩
  have hrl:r.length≤1000000:=by simp at hl;omega
  have HR:Hid (RrAt w1 b nt r∧Tch (·=b) w w1∧w1.heap[w.heap.size]?=some (.cells #[.int .i64 0,.int .i64 0,.int .i64 0] 90)):=by
   refine ⟨hR.1,((Tch.refl _ _).alloc _).trans hR.2,?_⟩;rw[hR.2.block w.heap.size (by simp) (by omega)]
   exact Lg.new1
  clear hR HB hl hle;have hn256:=n.toNat_lt;have g0:(⟨#[n]⟩:ByteArray)[0]'(by show 0 < 1;decide)=n:=rfl
  obtain ⟨z0,z1,z2,zf⟩:=Mk.cells3 HR.out.2.2;have hwz:w.heap.size < w1.heap.size:=lt_of_block HR.out.2.2;by_cases h20:20≤n.toNat
  ·have t20:(20:Int)≤(n.toNat:Int):=by omega
   have hg:Px.rdI (n::r)=none:=by rw[Px.rdI,if_pos h20]
   go_wp2_with fail;exact bodyPost_ret (v:=.tuple #[.agg #[.int .i64 0,.int .i64 0,.int .i64 0],.bool false]) (by simp[results,Tryz.results35,go_sem, *]) rfl ⟨tch3 HR.out.2.1 _ _ _,Or.inl ⟨hg,rfl⟩⟩
  ·have t20:¬ (20:Int)≤(n.toNat:Int):=by omega
   have HG:Hid (Px.rdI (n::r)=zy7 n.toNat (Px.qfb n.toNat) 0 0 0 r):=yb5 (by omega)
   obtain ⟨ta,hta⟩:=zey nt n.toNat (by omega)
   have TC:Hid (∀ W,RrAt W b nt r→W.cell? ⟨b,1+n.toNat * 4,none⟩=some (.slice ta (Px.qfb n.toNat) (Px.qfb n.toNat))):=fun W hW=>by
    unfold RrAt at hW;simp only[World.cell?,hW];show (List.toArray _)[1+n.toNat * 4]?=_
    rw[List.getElem?_toArray,Nat.add_comm 1,List.getElem?_cons_succ,Nat.mul_comm];exact hta
   have tc:=TC.out (w1.alloc (.cells #[.int .i64 (n.toNat:Int),.int .i64 0,.int .i64 0] 90)) (HR.out.1.keep (Below.heap_alloc _ _ _ HR.out.1.lt));have S0:Hid (InsL b nt w1.heap.size w n r 0 0 0 r (w1.alloc (.cells #[.int .i64 (n.toNat:Int),.int .i64 0,.int .i64 0] 90)).drew) :=
    ⟨(HR.out.2.1.alloc _).drew,HR.out.1.keep (Below.heap_alloc _ _ _ HR.out.1.lt),hrl,(Below.heap_alloc _ _ _ hwz).trans HR.out.2.2,Lg.new1,HG.out⟩
   have hnd:=zg8 n.toNat;have hlt20:(n.toNat:Int) < 20:=by omega
   go_wp2_with fail;go_region
   go_wp2_with fail;generalize w1.heap.size=bI at *;have hbb:b≠bI:=by omega
   go_loopw [35] (fun i wr=>∃ (m a c:Nat) (s:List UInt8),m≤Px.qfb n.toNat∧i=.int .i64 m∧Hid (InsL b nt bI w n r m a c s wr)) (fun i _=>Px.qfb n.toNat - (intOf i).toNat)
   case atStart=>exact ⟨0,0,0,r,by omega,rfl,S0.out⟩
   case round =>
    obtain ⟨m,a,c,s,hm,rfl,hr⟩:=hrel;have hbr:bI < wr.heap.size:=lt_of_block hr.out.i;by_cases hlt:m < Px.qfb n.toNat
    ·have hlt':(m:Int) < (Px.qfb n.toNat:Int):=by omega
     rcases (show m=0∨m=1 by omega) with rfl | rfl
     ·
      obtain ⟨f0,f1,f2,ff⟩:=Mk.cells3 hr.out.i;have HN:Hid (_):=zy0 b nt s wr hr.out.rr hr.out.l;go_wp2_with fail;refine Calls.mono HN.out ?_;rintro e w3 (⟨hx,rfl,rfl⟩ | ⟨x,s2,hx,hx16,rfl,hR3,hT3⟩)
      ·obtain ⟨y0,y1,y2,yf⟩:=Mk.cells3 hr.out.z;have HF:Hid (Px.rdI (n::r)=none):=by
        unfold Hid;rw[hr.out.e,show Px.qfb n.toNat - 0=(Px.qfb n.toNat - 1)+1 by omega,zy7,hx]
       have hzI:bI≠w.heap.size:=by omega
       clear HN S0;go_wp2_with fail;exact bodyPost_ret (v:=.tuple #[.agg #[.int .i64 0,.int .i64 0,.int .i64 0],.bool false]) (by simp[results,Tryz.results35,go_sem, *]) rfl ⟨tch3 (hr.out.t.setCell (p:=⟨bI,1,none⟩) (Or.inr (by show w.heap.size≤bI;omega)) _) _ _ _,Or.inl ⟨HF.out,rfl⟩⟩
      ·have I3:Hid (InsL b nt bI w n r 0 a c s2 w3∨True):=Or.inr trivial;have hi3:w3.heap[bI]?=some (.cells #[.int .i64 (n.toNat:Int),.int .i64 (a:Int),.int .i64 (c:Int)] 90):=by rw[hT3.block bI hbr (by omega)];exact hr.out.i
       have hz3:w3.heap[w.heap.size]?=some (.cells #[.int .i64 0,.int .i64 0,.int .i64 0] 90):=by rw[hT3.block w.heap.size (by omega) (by omega)];exact hr.out.z
       obtain ⟨y0,y1,y2,yf⟩:=Mk.cells3 hi3;have L3:Hid (InsL b nt bI w n r 1 x c s2 (w3.setCell ⟨bI,1,none⟩ (.int .i64 (x:Int)))):=by
        refine ⟨(hr.out.t.trans hT3).setCell (p:=⟨bI,1,none⟩) (Or.inr (by show w.heap.size≤bI;omega)) _,hR3.keep (Ref.qag _ (by omega)),by have:=zzo hx;have:=hr.out.l;omega,(Ref.qag _ (by omega)).trans hz3,?_,?_⟩
        ·rw[Ref.heap_set _ hi3];rfl
        ·rw[hr.out.e,show Px.qfb n.toNat - 0=(Px.qfb n.toNat - 1)+1 by omega,zy7,hx]
         rfl
       clear HN S0 hR3 hT3 hi3 hz3 I3;go_wp2;exact ⟨⟨1,x,c,s2,by omega,by go_num,L3.out⟩,by simp[intOf];omega⟩
     ·
      obtain ⟨f0,f1,f2,ff⟩:=Mk.cells3 hr.out.i;have HN:Hid (_):=zy0 b nt s wr hr.out.rr hr.out.l;go_wp2_with fail;refine Calls.mono HN.out ?_;rintro e w3 (⟨hx,rfl,rfl⟩ | ⟨x,s2,hx,hx16,rfl,hR3,hT3⟩)
      ·obtain ⟨y0,y1,y2,yf⟩:=Mk.cells3 hr.out.z;have HF:Hid (Px.rdI (n::r)=none):=by
        unfold Hid;rw[hr.out.e,show Px.qfb n.toNat - 1=(Px.qfb n.toNat - 2)+1 by omega,zy7,hx]
       have hzI:bI≠w.heap.size:=by omega
       clear HN S0;go_wp2_with fail;exact bodyPost_ret (v:=.tuple #[.agg #[.int .i64 0,.int .i64 0,.int .i64 0],.bool false]) (by simp[results,Tryz.results35,go_sem, *]) rfl ⟨tch3 (hr.out.t.setCell (p:=⟨bI,2,none⟩) (Or.inr (by show w.heap.size≤bI;omega)) _) _ _ _,Or.inl ⟨HF.out,rfl⟩⟩
      ·have I3:Hid (InsL b nt bI w n r 1 a c s2 w3∨True):=Or.inr trivial;have hi3:w3.heap[bI]?=some (.cells #[.int .i64 (n.toNat:Int),.int .i64 (a:Int),.int .i64 (c:Int)] 90):=by rw[hT3.block bI hbr (by omega)];exact hr.out.i
       have hz3:w3.heap[w.heap.size]?=some (.cells #[.int .i64 0,.int .i64 0,.int .i64 0] 90):=by rw[hT3.block w.heap.size (by omega) (by omega)];exact hr.out.z
       obtain ⟨y0,y1,y2,yf⟩:=Mk.cells3 hi3;have L3:Hid (InsL b nt bI w n r 2 a x s2 (w3.setCell ⟨bI,2,none⟩ (.int .i64 (x:Int)))):=by
        refine ⟨(hr.out.t.trans hT3).setCell (p:=⟨bI,2,none⟩) (Or.inr (by show w.heap.size≤bI;omega)) _,hR3.keep (Ref.qag _ (by omega)),by have:=zzo hx;have:=hr.out.l;omega,(Ref.qag _ (by omega)).trans hz3,?_,?_⟩
        ·rw[Ref.heap_set _ hi3];rfl
        ·rw[hr.out.e,show Px.qfb n.toNat - 1=(Px.qfb n.toNat - 2)+1 by omega,zy7,hx]
         rfl
       clear HN S0 hR3 hT3 hi3 hz3 I3;go_wp2;exact ⟨⟨2,a,x,s2,by omega,by go_num,L3.out⟩,by simp[intOf];omega⟩
    ·obtain rfl:m=Px.qfb n.toNat:=by omega
     have hne:¬ ((Px.qfb n.toNat:Int) < (Px.qfb n.toNat:Int)):=by omega
     obtain ⟨f0,f1,f2,ff⟩:=Mk.cells3 hr.out.i;obtain ⟨y0,y1,y2,yf⟩:=Mk.cells3 hr.out.z;have hzI:w.heap.size≠bI:=by omega
     have HF:Hid (Px.rdI (n::r)=some (⟨n.toNat,a,c⟩,s)):=by
      unfold Hid;rw[hr.out.e,Nat.sub_self,zy7]
     clear S0;go_wp2_with fail;exact bodyPost_ret (v:=.tuple #[.agg #[.int .i64 (n.toNat:Int),.int .i64 (a:Int),.int .i64 (c:Int)],.bool true]) (by simp[results,Tryz.results35,go_sem, *]) rfl ⟨tch3 hr.out.t _ _ _,Or.inr ⟨_,s,HF.out,rfl,hr.out.rr.keep (((Ref.qag _ (by omega)).trans (Ref.qag _ (by omega))).trans (Ref.qag _ (by omega)))⟩⟩
open Go.RowKit
theorem yb2:∀ (n:Nat) {r r':List UInt8} {ws:List ByteArray},Px.rdWs n r=some (ws,r')→ws.length=n∧r'.length≤r.length:=by
 intro n;induction n with
 | zero =>
  intro r r' ws h;simp only[Px.rdWs,Option.some.injEq,Prod.mk.injEq] at h;obtain ⟨rfl,rfl⟩:=h;exact ⟨rfl,Nat.le_refl _⟩
 | succ n ih =>
  intro r r' ws h;cases hw:Px.rdW r with
  | none=>rw[yai hw] at h;cases h
  | some p =>
   obtain ⟨x,r1⟩:=p;rw[yah hw] at h;cases h1:Px.rdWs n r1 with
   | none=>rw[h1] at h;cases h
   | some q =>
    obtain ⟨ws1,r2⟩:=q;rw[h1] at h;simp only[Option.map_some,Option.some.injEq,Prod.mk.injEq] at h;obtain ⟨rfl,rfl⟩:=h;obtain ⟨e1,e2⟩:=ih h1
    have:=yaj hw
    exact ⟨by simp[e1],by omega⟩
theorem ycf {r r':List UInt8} {ws:List ByteArray} (h:rdN r=some (ws,r')):ws.length < 65536∧r'.length≤r.length:=by
 unfold rdN at h;cases h2:Px.rd2 r with
 | none=>rw[h2] at h;cases h
 | some p =>
  obtain ⟨n,r1⟩:=p;rw[h2] at h;obtain ⟨e1,e2⟩:=yb2 n h;obtain ⟨e3,e4⟩:=Px.zzw h2;exact ⟨by omega,by omega⟩
theorem yat {c:List UInt8} (h:65536 < c.length):Px.good c=none:=by unfold Px.good;rw[if_pos h]
theorem zy9 {c:List UInt8} (h:¬ 65536 < c.length):Px.good c=(Px.rdC c).bind fun P=>if Px.verV P=true then some P else none:=by unfold Px.good;rw[if_neg h]
theorem yav {c:List UInt8} (h:¬ 65536 < c.length) (h1:¬ c.take Px.qpu.length=Px.qpu):Px.good c=none:=by
 have e:Px.rdC c=none:=by unfold Px.rdC;exact if_neg h1
 rw[zy9 h,e];rfl
theorem ybk {c:List UInt8} (h:¬ 65536 < c.length) (h1:c.take Px.qpu.length=Px.qpu) (h2:Px.rd2 (c.drop Px.qpu.length)=none):Px.good c=none:=by
 have h1':c.take 9=Px.qpu:=h1;have h2':Px.rd2 (c.drop 9)=none:=h2;have e:Px.rdC c=none:=by unfold Px.rdC;rw[if_pos h1',h2']
 rw[zy9 h,e];rfl
theorem yam {c r1:List UInt8} {nv:Nat} (h1:c.take Px.qpu.length=Px.qpu) (h2:Px.rd2 (c.drop Px.qpu.length)=some (nv,r1)):Px.rdC c=(match rdN r1 with
  | none=>none
  | some (ws,r3)=>(match Px.rdIs r3.length r3 with
   | none=>none
   | some l=>some ⟨ws,nv,l⟩)):=by
 have h1':c.take 9=Px.qpu:=h1;have h2':Px.rd2 (c.drop 9)=some (nv,r1):=h2;unfold Px.rdC;rw[if_pos h1',h2'];unfold rdN;simp only;cases h3:Px.rd2 r1 with
 | none=>simp only
 | some p =>
  simp only;cases Px.rdWs p.1 p.2 with
  | none=>rfl
  | some q =>
   obtain ⟨ws,r3⟩:=q;simp only;cases Px.rdIs r3.length r3<;>rfl
theorem zz7 {c r1:List UInt8} {nv:Nat} (h:¬ 65536 < c.length) (h1:c.take Px.qpu.length=Px.qpu) (h2:Px.rd2 (c.drop Px.qpu.length)=some (nv,r1)) (h3:rdN r1=none):Px.good c=none:=by
 have e:Px.rdC c=none:=by rw[yam h1 h2,h3]
 rw[zy9 h,e];rfl
theorem yau {c r1 r3:List UInt8} {nv:Nat} {ws:List ByteArray} (h:¬ 65536 < c.length) (h1:c.take Px.qpu.length=Px.qpu) (h2:Px.rd2 (c.drop Px.qpu.length)=some (nv,r1)) (h3:rdN r1=some (ws,r3)) (h4:Px.rdIs r3.length r3=none):Px.good c=none:=by
 have e:Px.rdC c=none:=by
  rw[yam h1 h2,h3];simp only;rw[h4]
 rw[zy9 h,e];rfl
theorem ybj {c r1 r3:List UInt8} {nv:Nat} {ws:List ByteArray} {l:List Px.Ins} (h:¬ 65536 < c.length) (h1:c.take Px.qpu.length=Px.qpu) (h2:Px.rd2 (c.drop Px.qpu.length)=some (nv,r1)) (h3:rdN r1=some (ws,r3)) (h4:Px.rdIs r3.length r3=some l):Px.good c=if Px.verV ⟨ws,nv,l⟩=true then some ⟨ws,nv,l⟩ else none:=by
 have e:Px.rdC c=some ⟨ws,nv,l⟩:=by
  rw[yam h1 h2,h3];simp only;rw[h4]
 rw[zy9 h,e];rfl
structure Rdy (P:Px.Pg):Prop where
 ver:Px.verV P=true
 ok:∀ i∈P.ins,Px.OkI i
 li:P.ins.length≤65536
 lw:P.words.length < 65536
 nv:P.nv < 65536
open Go.RowKit
theorem ya0 (l:List UInt8) (n m:Nat):(⟨l.toArray⟩:ByteArray).extract n m=⟨((l.drop n).take (m - n)).toArray⟩:=by
 apply ByteArray.ext
 simp[ByteArray.data_extract,List.extract_eq_take_drop]
theorem zyu (l:List UInt8):(⟨l.toArray⟩:ByteArray).size=l.length:=by
 show l.toArray.size=_
 simp
theorem ybi (l p:List UInt8) (w:World) (_hl:l.length≤1000000) (_hp:p.length≤1000) :
  Calls Tryz.prog 129 #[.string ⟨l.toArray⟩,.string ⟨p.toArray⟩] w fun e w'=>e=.returned (.bool (decide (l.take p.length=p)))∧w'=w:=by
 have e1:=zyu l;have e2:=zyu p;have e3:(⟨l.toArray⟩:ByteArray).extract 0 p.length=⟨(l.take p.length).toArray⟩:=by rw[ya0];rfl
 by_cases hlt:p.length≤l.length
 ·have hi:(p.length:Int)≤(l.length:Int):=by omega
  by_cases he:l.take p.length=p
  ·have hd:decide (l.take p.length=p)=true:=decide_eq_true he;rw[hd];rw[he] at e3;clear hd he;generalize (⟨l.toArray⟩:ByteArray)=S at *;generalize (⟨p.toArray⟩:ByteArray)=Q at *;have hi2:(Q.size:Int)≤(S.size:Int):=by omega
   go_enter Tryz.func129,Tryz.ntmps129
   go_wp2_with fail;go_ret;exact ⟨rfl,rfl⟩
  ·have hd:decide (l.take p.length=p)=false:=decide_eq_false he;rw[hd];have hne:((⟨(l.take p.length).toArray⟩:ByteArray).toList == (⟨p.toArray⟩:ByteArray).toList)=false:=by
    rw[beq_eq_false_iff_ne];intro h;rw[ByteArray.toList_eq,ByteArray.toList_eq] at h;exact he h
   clear hd he;generalize (⟨(l.take p.length).toArray⟩:ByteArray)=X at *;generalize (⟨l.toArray⟩:ByteArray)=S at *;generalize (⟨p.toArray⟩:ByteArray)=Q at *;have hi2:(Q.size:Int)≤(S.size:Int):=by omega
   go_enter Tryz.func129,Tryz.ntmps129
   go_wp2_with fail;go_ret;exact ⟨rfl,rfl⟩
 ·have hd:decide (l.take p.length=p)=false:=decide_eq_false fun h=>hlt (by have:=congrArg List.length h;rw[List.length_take] at this;omega)
  rw[hd];clear hd e3;generalize (⟨l.toArray⟩:ByteArray)=S at *;generalize (⟨p.toArray⟩:ByteArray)=Q at *;have hi:¬ ((Q.size:Int)≤(S.size:Int)):=by omega
  go_enter Tryz.func129,Tryz.ntmps129
  go_wp2_with fail;go_ret;exact ⟨rfl,rfl⟩
def cutV (l p:List UInt8):Value:=if l.take p.length=p then .tuple #[.string ⟨(l.drop p.length).toArray⟩,.bool true] else .tuple #[.string ⟨l.toArray⟩,.bool false]
theorem ybp (l p:List UInt8) (w:World) (hl:l.length≤1000000) (hp:p.length≤1000) :
  Calls Tryz.prog 89 #[.string ⟨l.toArray⟩,.string ⟨p.toArray⟩] w fun e w'=>e=.returned (cutV l p)∧w'=w:=by
 have HP:Hid (_):=ybi l p w hl hp;have e1:=zyu l;have e2:=zyu p;have e3:(⟨l.toArray⟩:ByteArray).extract p.length l.length=⟨(l.drop p.length).toArray⟩:=by rw[ya0,List.take_of_length_le (by simp)]
 by_cases he:l.take p.length=p
 ·have hd:decide (l.take p.length=p)=true:=decide_eq_true he;have hlt:p.length≤l.length:=by have:=congrArg List.length he;rw[List.length_take] at this;omega
  have hc:cutV l p=.tuple #[.string ⟨(l.drop p.length).toArray⟩,.bool true]:=if_pos he;rw[hc];rw[hd] at HP;clear hd he hc;generalize (⟨(l.drop p.length).toArray⟩:ByteArray)=X at *;generalize (⟨l.toArray⟩:ByteArray)=S at *;generalize (⟨p.toArray⟩:ByteArray)=Q at *;have hi2:(Q.size:Int)≤(S.size:Int):=by omega
  go_enter Tryz.func89,Tryz.ntmps89
  go_wp2_with fail;refine Calls.mono HP.out ?_;rintro e w1 ⟨rfl,rfl⟩;go_wp2_with fail;go_ret2;exact ⟨rfl,rfl⟩
 ·have hd:decide (l.take p.length=p)=false:=decide_eq_false he;have hc:cutV l p=.tuple #[.string ⟨l.toArray⟩,.bool false]:=if_neg he;rw[hc];rw[hd] at HP;clear hd he hc e3;generalize (⟨l.toArray⟩:ByteArray)=S at *;generalize (⟨p.toArray⟩:ByteArray)=Q at *;go_enter Tryz.func89,Tryz.ntmps89
  go_wp2_with fail;refine Calls.mono HP.out ?_;rintro e w1 ⟨rfl,rfl⟩;go_wp2_with fail;go_ret2;exact ⟨rfl,rfl⟩
theorem zuu (l p:List UInt8) (w:World) (hl:l.length≤1000000) (hp:p.length≤1000) :
  Calls Tryz.prog 32 #[.string ⟨l.toArray⟩,.string ⟨p.toArray⟩] w fun e w'=>e=.returned (cutV l p)∧w'=w:=by
 have HP:Hid (_):=ybp l p w hl hp;by_cases he:l.take p.length=p
 ·have hc:cutV l p=.tuple #[.string ⟨(l.drop p.length).toArray⟩,.bool true]:=if_pos he;rw[hc] at HP ⊢;generalize (⟨(l.drop p.length).toArray⟩:ByteArray)=X at *;generalize (⟨l.toArray⟩:ByteArray)=S at *;generalize (⟨p.toArray⟩:ByteArray)=Q at *;go_enter Tryz.func32,Tryz.ntmps32
  go_wp2_with fail;refine Calls.mono HP.out ?_;rintro e w1 ⟨rfl,rfl⟩;go_wp2_with fail;go_ret2;exact ⟨rfl,rfl⟩
 ·have hc:cutV l p=.tuple #[.string ⟨l.toArray⟩,.bool false]:=if_neg he;rw[hc] at HP ⊢;generalize (⟨l.toArray⟩:ByteArray)=S at *;generalize (⟨p.toArray⟩:ByteArray)=Q at *;go_enter Tryz.func32,Tryz.ntmps32
  go_wp2_with fail;refine Calls.mono HP.out ?_;rintro e w1 ⟨rfl,rfl⟩;go_wp2_with fail;go_ret2;exact ⟨rfl,rfl⟩
open Go.RowKit
def Verd (P:Px.Pg) (w:World) (e:Ending) (w':World):Prop :=
 Tch (fun _=>False) w w'∧((Px.verV P=true∧e=.returned .nilIface)∨(Px.verV P=false∧∃ f,e=.returned (.iface 101 (.pointer (some ⟨f,0,none⟩)))))
open Go.RowKit
theorem zzd {T:Array Value} (hT:T.size=80) (cs:Array Value):(Array.foldl (fun (cs:Array Value) (x:Value×Nat)=>cs.setIfInBounds (1+x.2) x.1) cs T.zipIdx 0 80).size=cs.size:=by
 have hz:T.zipIdx.size=80:=by simp[hT]
 have h:(Array.foldl (fun (cs:Array Value) (x:Value×Nat)=>cs.setIfInBounds (1+x.2) x.1) cs T.zipIdx 0 T.zipIdx.size).size=cs.size:=by
  refine Array.foldl_induction (motive:=fun _ (b:Array Value)=>b.size=cs.size) rfl ?_
  intro i b hb
  simpa using hb
 rw[hz] at h;exact h
open Go.RowKit
structure RdL (w0:World) (br bp nt nv:Nat) (ws:List ByteArray) (L:List Px.Ins) (s:List UInt8) (vw vl:Value) (wr:World):Prop where
 b:Below w0.heap.size w0 wr
 rr:RrAt wr br nt s
 pg:wr.heap[bp]?=some (.cells #[vw,.int .i64 (nv:Int),.slice none 0 0,vl] 80)
 r0:w0.heap.size≤br
 p0:w0.heap.size≤bp
 ne:br≠bp
 w:wr.ownsRow w0.heap.size 9 1 vw ws.length (Mk.strCells ws)
 l:wr.ownsRow w0.heap.size 90 3 vl L.length (Mk.qby L)
theorem qau {w:World} {k:Nat} {a b c d:Value} {t:TypeId} (hh:w.heap[k]?=some (.cells #[a,b,c,d] t)) :
  w.cell? ⟨k,0,none⟩=some a∧w.cell? ⟨k,1,none⟩=some b∧w.cell? ⟨k,2,none⟩=some c∧w.cell? ⟨k,3,none⟩=some d∧(∀ o,w.frozen? ⟨k,o,none⟩=false)∧k < w.heap.size:=by
 refine ⟨?_,?_,?_,?_,?_,lt_of_block hh⟩<;>simp[World.cell?,World.frozen?,hh]
theorem RdL.wb {w0 wr:World} {br bp nt nv:Nat} {ws:List ByteArray} {L:List Px.Ins} {s:List UInt8} {vw vl:Value} (h:RdL w0 br bp nt nv ws L s vw vl wr):vw.ownBlock≠some br∧vw.ownBlock≠some bp:=⟨zf9 h.w h.rr (by decide),zf9 h.w h.pg (by decide)⟩
theorem RdL.lb {w0 wr:World} {br bp nt nv:Nat} {ws:List ByteArray} {L:List Px.Ins} {s:List UInt8} {vw vl:Value} (h:RdL w0 br bp nt nv ws L s vw vl wr):vl.ownBlock≠some br∧vl.ownBlock≠some bp:=⟨zf9 h.l h.rr (by decide),zf9 h.l h.pg (by decide)⟩
theorem yb6 {w:World} {B e1 z1 n1 e2 z2 n2 b:Nat} {v1 v2:Value} {c1 c2:List Value} (h1:w.ownsRow B e1 z1 v1 n1 c1) (h2:w.ownsRow B e2 z2 v2 n2 c2) (hne:e1≠e2) (hb:v1.ownBlock=some b):v2.ownBlock≠some b:=by
 rcases h1.2 with ⟨rfl,_⟩ | ⟨g,cap,cur,rfl,_,hh,_⟩
 ·cases hb
 ·cases hb;exact zf9 h2 hh hne
theorem RdL.read {w0 wr w':World} {br bp nt nv:Nat} {ws:List ByteArray} {L:List Px.Ins} {s s':List UInt8} {vw vl:Value} (h:RdL w0 br bp nt nv ws L s vw vl wr) (t:Tch (·=br) wr w') (hr:RrAt w' br nt s'):RdL w0 br bp nt nv ws L s' vw vl w':=by
 have hb:=t.qbg h.b.size (fun k e=>by subst e;exact h.r0)
 exact ⟨h.b.trans hb,hr,(t.block bp (lt_of_block h.pg) h.ne.symm).trans h.pg,h.r0,h.p0,h.ne,qah h.w t (fun k hk e=>by subst e;exact h.wb.1 hk),qah h.l t (fun k hk e=>by subst e;exact h.lb.1 hk)⟩
theorem RdL.broke {w0 wr w':World} {br bp nt nv:Nat} {ws:List ByteArray} {L:List Px.Ins} {s:List UInt8} {vw vl:Value} (h:RdL w0 br bp nt nv ws L s vw vl wr) (t:Tch (·=br) wr w'):Below w0.heap.size w0 w'∧w'.heap[bp]?=some (.cells #[vw,.int .i64 (nv:Int),.slice none 0 0,vl] 80) :=
 ⟨h.b.trans (t.qbg h.b.size (fun k e=>by subst e;exact h.r0)),(t.block bp (lt_of_block h.pg) h.ne.symm).trans h.pg⟩
theorem RdL.setN {w0 wr:World} {br bp nt nv:Nat} {ws:List ByteArray} {L:List Px.Ins} {s:List UInt8} {vw vl:Value} (h:RdL w0 br bp nt nv ws L s vw vl wr) (n:Nat):RdL w0 br bp nt n ws L s vw vl (wr.setCell ⟨bp,1,none⟩ (.int .i64 (n:Int))):=by
 refine ⟨h.b.setCell (p:=⟨bp,1,none⟩) h.p0 _,h.rr.keep (Ref.qag _ h.ne),?_,h.r0,h.p0,h.ne,ownsRow_setCell_other h.w (a:=⟨bp,1,none⟩) h.wb.2 _,ownsRow_setCell_other h.l (a:=⟨bp,1,none⟩) h.lb.2 _⟩;rw[Ref.heap_set _ h.pg];rfl
theorem RdL.setW {w0 wr:World} {br bp nt nv:Nat} {ws ws':List ByteArray} {L:List Px.Ins} {s:List UInt8} {vw vl vw':Value} (h:RdL w0 br bp nt nv ws L s vw vl wr) (hw:wr.ownsRow w0.heap.size 9 1 vw' ws'.length (Mk.strCells ws')):RdL w0 br bp nt nv ws' L s vw' vl (wr.setCell ⟨bp,0,none⟩ vw'):=by
 refine ⟨h.b.setCell (p:=⟨bp,0,none⟩) h.p0 _,h.rr.keep (Ref.qag _ h.ne),?_,h.r0,h.p0,h.ne,ownsRow_setCell_other hw (a:=⟨bp,0,none⟩) (zf9 hw h.pg (by decide)) _,ownsRow_setCell_other h.l (a:=⟨bp,0,none⟩) h.lb.2 _⟩
 rw[Ref.heap_set _ h.pg];rfl
theorem RdL.tch {w0 wr w':World} {br bp nt nv:Nat} {ws:List ByteArray} {L:List Px.Ins} {s:List UInt8} {vw vl:Value} (h:RdL w0 br bp nt nv ws L s vw vl wr) (t:Tch (fun _=>False) wr w'):RdL w0 br bp nt nv ws L s vw vl w' :=
 h.read (t.mono fun _ _ h=>h.elim) (h.rr.keep (t.block br h.rr.lt fun h=>h))
theorem RdL.put {w0 wr W:World} {br bp nt nv:Nat} {ws:List ByteArray} {L:List Px.Ins} {s:List UInt8} {vw vl:Value} (h:RdL w0 br bp nt nv ws L s vw vl wr) (i:Px.Ins) (hW:Tch (fun _=>False) wr W) :
  ∀ v' w3,w3.ownsRow w0.heap.size 90 3 v' (L.length+1) (Mk.qby L++[.int .i64 (i.k:Int),.int .i64 (i.a:Int),.int .i64 (i.b:Int)])→W.grownBy w3 vl.ownBlock →
   ∃ a1 n1 c1,v'=.slice a1 n1 c1∧w3.heap[bp]?=some (.cells #[vw,.int .i64 (nv:Int),.slice none 0 0,vl] 80)∧Hid (RdL w0 br bp nt nv ws (L++[i]) s vw v' (w3.setCell ⟨bp,3,none⟩ v')):=by
 intro v' w3 hown hg;obtain ⟨a1,n1,c1,rfl⟩:=Ref.qad hown;have h1:=h.tch hW;have hT:Tch (fun k=>vl.ownBlock=some k) W w3:=(Tch.refl _ W).grown hg fun k hk=>Or.inl hk
 have hp3:w3.heap[bp]?=some (.cells #[vw,.int .i64 (nv:Int),.slice none 0 0,vl] 80):=(hT.block bp (lt_of_block h1.pg) h1.lb.2).trans h1.pg;have hb:Below w0.heap.size w0 w3:=h1.b.trans (hT.qbg h1.b.size fun k hk=>(h1.l.lt k hk).1)
 have hw3:w3.ownsRow w0.heap.size 9 1 vw ws.length (Mk.strCells ws):=qah h1.w hT (fun k hk e=>yb6 h1.w h1.l (by decide) hk e)
 refine ⟨a1,n1,c1,rfl,hp3,hb.setCell (p:=⟨bp,3,none⟩) h.p0 _,(h1.rr.keep (hT.block br h1.rr.lt h1.lb.1)).keep (Ref.qag _ h.ne),?_,h.r0,h.p0,h.ne,ownsRow_setCell_other hw3 (a:=⟨bp,3,none⟩) (zf9 hw3 hp3 (by decide)) _,?_⟩
 ·rw[Ref.heap_set _ hp3];rfl
 ·rw[List.length_append,Mk.qtn];exact ownsRow_setCell_other hown (a:=⟨bp,3,none⟩) (zf9 hown hp3 (by decide)) _
theorem zz4 (m:Nat) (v:Value):Array.foldl (fun (cs:Array Value) (x:Value×Nat)=>cs.setIfInBounds (1+x.2) x.1) (Tryz.zeroCells108.setIfInBounds 0 v) (Rn.tabL m).toArray.zipIdx 0 80=(v::Rn.tabL m).toArray:=by kernel_rfl
theorem yag {w0 w2:World} {T:Array Value} {nt:Nat} {R:List UInt8} (h:T=(Rn.tabL nt).toArray∧Tch (fun _=>False) w0 w2) :
  RdL w0 w2.heap.size (w2.heap.size+1) nt 0 [] [] R (.slice none 0 0) (.slice none 0 0) ((w2.alloc (.cells (Array.foldl (fun (cs:Array Value) (x:Value×Nat)=>cs.setIfInBounds (1+x.2) x.1) (Tryz.zeroCells108.setIfInBounds 0 (.string ⟨R.toArray⟩)) T.zipIdx 0 80) 108)).alloc (.cells #[.slice none 0 0,.int .i64 0,.slice none 0 0,.slice none 0 0] 80)):=by
 obtain ⟨rfl,hT⟩:=h;rw[zz4];have hz:=hT.size;refine ⟨((hT.alloc _).alloc _).qbg (Nat.le_refl _) (fun _ h=>h.elim),?_,Lg.new2,hz,by omega,by omega,World.ownsRow_nil _ _ _ _,World.ownsRow_nil _ _ _ _⟩
 exact (((Tch.refl (fun _=>False) (w2.alloc _)).alloc _).block w2.heap.size (by simp) fun h=>h).trans Lg.new1
end Cd
end Go.Proofs.YtokkhhekekeokaaGreatDoor
