import Derived.Test.YtokkhhekekeokaaGreatDoorC24
import Derived.Test.YtokkhhekekeokaaGreatDoorC31
import Derived.Test.YtokkhhekekeokaaGreatDoorC32
import Derived.Lib.SlBytesConst
import Derived.Deep.WholeRow
import Derived.Lib.BufferRead
set_option maxRecDepth 100000
set_option maxHeartbeats 4000000
namespace Go.Proofs.YtokkhhekekeokaaGreatDoor
open Go.RowKit Tryz
namespace Cd
open Lg Mk Px Ref Rn
theorem Kv (n:Nat):((n:Int) >>> 8:Int)=((n / 256:Nat):Int):=by
 rw[Int.shiftRight_eq_div_pow];simp
variable {B b e j n z:Nat}
theorem Zr (_:n < 65536):((UInt8.ofNat n).toNat:Int)=(n:Int) % 256:=by
 rw[UInt8.toNat_ofNat'];simp
theorem Zt (h:n < 65536):((UInt8.ofNat (n / 256)).toNat:Int)=((n / 256:Nat):Int):=by
 rw[UInt8.toNat_ofNat']
 have:n / 256 % 256=n / 256:=Nat.mod_eq_of_lt (by omega)
 simp only[Nat.reducePow,this]
structure Step (w:fu)(v:fC)(w':fu)(v':fC):Prop where
 t:fO (fun k=>v.ownBlock=some k) w w'
 o:v'.ownBlock=v.ownBlock\/∃ n,v'.ownBlock=some n/\w.heap.size<=n
theorem Step.trans {w w1 w2:fu}{v v1 v2:fC}(h:Step w v w1 v1)(k:Step w1 v1 w2 v2):Step w v w2 v2:=by
 refine ⟨⟨k.t.os.trans h.t.os,k.t.tape.trans h.t.tape,k.t.output.trans h.t.output,aP h.t.size k.t.size,fun i hi hn=>?_⟩,?_⟩
 ·rw[k.t.block i (by have:=h.t.size;omega) ?_,h.t.block i hi hn]
  intro e;rcases h.o with h1 | ⟨n,h1,h2⟩
  ·exact hn (h1▸e)
  ·rw[h1] at e;cases e;omega
 ·rcases k.o with h1 | ⟨n,h1,h2⟩
  ·rw[h1];exact h.o
  ·exact ah ⟨n,h1,by have:=h.t.size;omega⟩
variable {w w':fu}{v v':fC}
theorem Step.keep (h:Step w v w' v')(hb:b < w.heap.size)(hn:v.ownBlock≠some b):w'.heap[b]?=w.heap[b]?/\v'.ownBlock≠some b:=by
 refine ⟨h.t.block b hb hn,fun e=>?_⟩
 rcases h.o with h1 | ⟨n,h1,h2⟩
 ·exact hn (h1▸e)
 ·rw[h1] at e;cases e;omega
variable {cs:List fC}
theorem Step.below (h:Step w v w' v')(hB:B<=w.heap.size)(ho:w.ownsRow B e z v n cs):Below B w w':=h.t.mY hB fun k hk=>(ho.lt k hk).1
theorem Af (B:Nat)(o:List UInt8)(n:Nat)(hn:n < 65536)(v:fC)(w:fu)(hB:B<=w.heap.size)(ho:w.ownsRow B 5 1 v o.length (lX o))(hl:o.length<=10000000) :
  Calls prog 25 #[v,.int .i64 (n:Int)] w fun e w'=>∃ v',e=.returned v'/\w'.ownsRow B 5 1 v' (o++Px.b2 n).length (lX (o++Px.b2 n))/\Step w v w' v':=by
 obtain ⟨i0,hi,hz0,hz1,hz2⟩:=info_parts Ry;obtain ⟨a0,n0,c0,rfl⟩:=jm ho;have HO:Hid (w.ownsRow B 5 1 (.slice a0 n0 c0) o.length (lX o)):=ho;have h1:=Zr hn;have h2:=Zt hn;have h3:=Kv n;clear ho;go_enter func25,ntmps25
 have HE:Hid (lX (o++Px.b2 n)=lX o++[.int .u8 ((n:Int) / 256),.int .u8 ((n:Int) % 256)]/\(o++Px.b2 n).length=o.length+2):=by
  refine ⟨?_,by simp[Px.b2]⟩
  have e:((n:Int) / 256)=((n / 256:Nat):Int):=by omega
  rw[e,<- h2,<- h1];simp[lX,Px.b2]
 have O3:Hid (∀ u∈[Value.int .u8 ((n:Int) / 256),.int .u8 ((n:Int) % 256)],u.oneCell'=true):=by intro u hu;simp at hu;rcases hu with rfl | rfl<;>rfl
 clear h1 h2 h3;go_wp2_with (first
  | (at_builtin;refine wpList_append_own_at _ rfl _ _ 38 rfl B 5 i0 (.int .u8 0) 1 1 underlying38 hi hz0 hz1 hz2 rfl (by decide) _ _ _ rfl (HO.o.alloc _) ⟨w.heap.size,0,none⟩ 2 2 [.int .u8 ((n:Int) / 256),.int .u8 ((n:Int) % 256)] rfl rfl ?c1 O3.o ?c3 ?c4 ?c5 ?_)
  | fail)
 case c1 =>
  intro j u hj;match j,hj with
  | 0,hj=>simp at hj;subst hj;simp[Addr.add]
  | 1,hj=>simp at hj;subst hj;simp[Addr.add]
 case c3=>unfold maxLen;omega
 case c4=>omega
 case c5=>simp;omega
 ·intro v' w4 hown' hgrow _ hloc;have HN:Hid (w4.ownsRow B 5 1 v' (o++Px.b2 n).length (lX (o++Px.b2 n))/\Step w (.slice a0 n0 c0) w4 v'):=by
   refine ⟨by rw[HE.o.1,HE.o.2];exact hown',?_⟩
   refine ⟨((fO.refl _ _).alloc _).grown hgrow fun k hk=>ak hk,?_⟩
   rcases hloc with h | h
   ·exact ak h
   ·exact ah ⟨_,h,by simp⟩
  clear hown' hgrow hloc;go_wp2;go_ret;exact ⟨_,rfl,HN.o⟩
theorem TM {a:Nat}{e:TypeId}(h:w.ownsRow a e z v n cs)(hb:b<=a):w.ownsRow b e z v n cs:=by
 obtain ⟨h1,h2⟩:=h;refine ⟨h1,?_⟩;rcases h2 with h2 | ⟨g,cap,cur,k1,k2,k3⟩
 ·exact ak h2
 ·exact ah ⟨g,cap,cur,k1,aP hb k2,k3⟩
theorem qvt (g:Nat)(o:List UInt8)(n:Nat)(hn:n < 65536)(w:fu)(hc:∀ j u,(lX o)[j]?=some u->w.cell? ⟨g,j,none⟩=some u)(hl:o.length<=1000)(hg:g < w.heap.size) :
  Calls prog 25 #[.slice (some ⟨g,0,none⟩) o.length o.length,.int .i64 (n:Int)] w fun e w'=>∃ v',e=.returned v'/\w'.ownsRow w.heap.size 5 1 v' (o++Px.b2 n).length (lX (o++Px.b2 n))/\fO (fun _=>False) w w':=by
 obtain ⟨i0,hi,hz0,hz1,hz2⟩:=info_parts Ry;have h1:=Zr hn;have h2:=Zt hn;have h3:=Kv n;have HC:Hid (_):=hc;clear hc;go_enter func25,ntmps25
 have HE:Hid (lX (o++Px.b2 n)=lX o++[.int .u8 ((n:Int) / 256),.int .u8 ((n:Int) % 256)]/\(o++Px.b2 n).length=o.length+2):=by
  refine ⟨?_,by simp[Px.b2]⟩
  have e:((n:Int) / 256)=((n / 256:Nat):Int):=by omega
  rw[e,<- h2,<- h1];simp[lX,Px.b2]
 have O3:Hid (∀ u∈[Value.int .u8 ((n:Int) / 256),.int .u8 ((n:Int) % 256)],u.oneCell'=true):=by intro u hu;simp at hu;rcases hu with rfl | rfl<;>rfl
 clear h1 h2 h3;go_wp2_with (first
  | (at_builtin;refine wpList_append_grows _ rfl _ _ 38 rfl 5 i0 (.int .u8 0) 1 1 underlying38 hi hz0 hz1 hz2 rfl (by decide) (some ⟨g,0,none⟩) o.length o.length (lX o) rfl (fun h=>by cases h) (by rw[zd2,Nat.mul_one]) ?c0 ⟨w.heap.size,0,none⟩ 2 2 [.int .u8 ((n:Int) / 256),.int .u8 ((n:Int) % 256)] rfl rfl ?c1 O3.o ?c2 ?c3 ?c4 ?_)
  | fail)
 case c0 =>
  intro b hb j u hj;cases hb;rw[Addr.add_lit,bX,aF (w:=w) (a:=⟨g,j,none⟩) (by exact aD _ _ _ hg)]
  exact HC.o j u hj
 case c1 =>
  intro j u hj;match j,hj with
  | 0,hj=>simp at hj;subst hj;simp[Addr.add]
  | 1,hj=>simp at hj;subst hj;simp[Addr.add]
 case c2=>omega
 case c3=>unfold maxLen;omega
 case c4=>omega
 ·intro v' w4 hown' hgrow;have HN:Hid (w4.ownsRow w.heap.size 5 1 v' (o++Px.b2 n).length (lX (o++Px.b2 n))/\fO (fun _=>False) w w4):=by
   refine ⟨by rw[HE.o.1,HE.o.2];exact TM hown' (by omega),((fO.refl _ _).alloc _).grown hgrow fun k hk=>by cases hk⟩
  clear hown' hgrow;go_wp2;go_ret;exact ⟨_,rfl,HN.o⟩
theorem Zu (n k:Nat)(hk:k < 20):∃ a,(iQ n)[4 * k]?=some (.slice a (iD k) (iD k)):=by
 match k,hk with
 | 0,_=>exact ⟨_,rfl⟩
 | 1,_=>exact ⟨_,rfl⟩
 | 2,_=>exact ⟨_,rfl⟩
 | 3,_=>exact ⟨_,rfl⟩
 | 4,_=>exact ⟨_,rfl⟩
 | 5,_=>exact ⟨_,rfl⟩
 | 6,_=>exact ⟨_,rfl⟩
 | 7,_=>exact ⟨_,rfl⟩
 | 8,_=>exact ⟨_,rfl⟩
 | 9,_=>exact ⟨_,rfl⟩
 | 10,_=>exact ⟨_,rfl⟩
 | 11,_=>exact ⟨_,rfl⟩
 | 12,_=>exact ⟨_,rfl⟩
 | 13,_=>exact ⟨_,rfl⟩
 | 14,_=>exact ⟨_,rfl⟩
 | 15,_=>exact ⟨_,rfl⟩
 | 16,_=>exact ⟨_,rfl⟩
 | 17,_=>exact ⟨_,rfl⟩
 | 18,_=>exact ⟨_,rfl⟩
 | 19,_=>exact ⟨_,rfl⟩
 | k+20,hk=>exact absurd hk (by omega)
def qQ (i:Px.Ins)(m:Nat):List UInt8:=(if m=0 then [] else Px.b2 i.a)++(if m < 2 then [] else Px.b2 i.b)
theorem Kw (k:Nat):iD k<=2:=by
 unfold iD;split
 ·exact aj _
 ·split<;>omega
theorem zi9 (i:Px.Ins):qm i=UInt8.ofNat i.k::qQ i (iD i.k):=by
 unfold qm qQ
 have:=Kw i.k
 congr 2;by_cases h:iD i.k=2
 ·rw[if_pos h,if_neg (by omega)]
 ·rw[if_neg h,if_pos (by omega)]
theorem zcz (i:Px.Ins)(m:Nat)(hm:m < 2):qQ i (m+1)=qQ i m++Px.b2 (if m=0 then i.a else i.b):=by
 match m,hm with
 | 0,_=>simp[qQ]
 | 1,_=>simp[qQ]
theorem Zv {va:Option Addr}{vn vc:Nat}{l:List Px.Ins}(h:w.ownsRow B 90 3 (.slice va vn vc) l.length (qO l)) :
  vn=l.length/\∀ i (hi:i < l.length),∃ g,va=some ⟨g,0,none⟩/\w.cell? ⟨g,i * 3,none⟩=some (.int .i64 (l[i].k:Int))/\w.cell? ⟨g,i * 3+1,none⟩=some (.int .i64 (l[i].a:Int))/\w.cell? ⟨g,i * 3+2,none⟩=some (.int .i64 (l[i].b:Int)):=by
 have key:∀ (l:List Px.Ins) (p:Nat) (hp:p < l.length) (o:Nat),o < 3->(qO l)[p * 3+o]?=([.int .i64 (l[p].k:Int),.int .i64 (l[p].a:Int),.int .i64 (l[p].b:Int)]:List fC)[o]?:=by
  intro l;induction l with
  | nil=>intro p hp;cases hp
  | cons v l ih =>
   intro p hp o ho;have e1:qO (v::l)=[.int .i64 (v.k:Int),.int .i64 (v.a:Int),.int .i64 (v.b:Int)]++qO l:=rfl;cases p with
   | zero =>
    rw[e1,aQ (by simp;omega)]
    simp
   | succ p =>
    rw[e1,aJ (by simp;omega)]
    have:=ih p (by simpa using hp) o ho
    simpa [show (p+1) * 3+o - 3=p * 3+o by omega] using this
 rcases h.2 with ⟨h1,h2⟩ | ⟨g,cap,cur,h1,hB,hh,hn,hm,hz,ht⟩
 ·cases h1;refine ⟨h2.symm,fun i hi=>absurd hi (by omega)⟩
 ·cases h1;refine ⟨rfl,fun i hi=>⟨g,rfl,?_⟩⟩
  have at_:∀ o,o < 3->w.cell? ⟨g,i * 3+o,none⟩=([.int .i64 (l[i].k:Int),.int .i64 (l[i].a:Int),.int .i64 (l[i].b:Int)]:List fC)[o]?:=fun o ho=>by
   rw[<- key l i hi o ho,<- ht,bC (by omega)]
   simp[World.cell?,hh]
  exact ⟨by simpa using at_ 0 (by omega),by simpa using at_ 1 (by omega),by simpa using at_ 2 (by omega)⟩
def qH (P:Pg)(j:Nat):List UInt8:=lN++Px.b2 P.nv++Px.b2 P.fT.length++(P.fT.take j).flatMap Px.wU
def nZ (P:Pg)(j:Nat):List UInt8:=qH P P.fT.length++(P.ins.take j).flatMap qm
theorem Zw (P:Pg):nZ P P.ins.length=Px.codeOf P:=by
 unfold nZ qH Px.codeOf;rw[cK,cK];simp only[aI]
theorem Zx {α:Type}(f:α->List UInt8)(l:List α)(j:Nat):((l.take j).flatMap f).length<=(l.flatMap f).length:=by
 have:=congrArg (fun l=>(l.flatMap f).length) (List.take_append_drop j l)
 simp only[dZ,ay] at this;omega
theorem Zy (P:Pg)(j:Nat):(nZ P j).length<=(Px.codeOf P).length:=by
 rw[<- Zw];unfold nZ
 have:=Zx qm P.ins j
 rw[cK];simp only[ay];omega
theorem zq5 (P:Pg)(j:Nat):(qH P j).length<=(Px.codeOf P).length:=by
 refine aP ?_ (Zy P 0);unfold nZ qH
 have:=Zx Px.wU P.fT j
 rw[cK];simp only[ay];omega
theorem zkq (P:Pg)(h:j < P.fT.length):qH P (j+1)=qH P j++[UInt8.ofNat P.fT[j].size]++P.fT[j].data.toList:=by
 unfold qH;rw[bg h,dZ];simp[Px.wU]
theorem zkr (P:Pg)(h:j < P.ins.length):nZ P (j+1)=nZ P j++[UInt8.ofNat P.ins[j].k]++qQ P.ins[j] (iD P.ins[j].k):=by
 unfold nZ;rw[bg h,dZ];simp[zi9]
variable {t:TypeId}
theorem yR {c:Array fC}{fr:Nat×Nat}(h:w.ownsRow B e z v n cs)(hb:w.heap[b]?=some (.cells c t fr))(hte:t≠e):v.ownBlock≠some b:=by
 intro e1;rcases h.2 with ⟨rfl,_⟩ | ⟨g,cap,cur,rfl,_,hh,_⟩
 ·cases e1
 ·cases e1;rw[hb] at hh;cases hh;exact hte rfl
theorem zcj {o:List UInt8}(h:w.ownsRow B 5 1 v o.length (lX o)):(convert 38 9 v).run prog w=.ok (.string ⟨o.toArray⟩) w:=by
 rcases h.2 with ⟨rfl,h2⟩ | ⟨g,cap,cur,rfl,hB,hh,hn,hm,hz,ht⟩
 ·obtain rfl:o=[]:=dJ h2;exact Lib.run_convert_nil_bytes w _ _ 5 0 underlying38 underlying5 underlying9
 ·refine run_convert_bytes_back (P:=prog) w _ _ 5 ⟨g,0,none⟩ cap o underlying38 underlying5 underlying9 (Lib.bytes_of_row hh ?_);rw[Nat.mul_one] at ht;exact ht
theorem zgv (i:Px.Ins)(m:Nat):(qQ i m).length<=4:=by
 unfold qQ Px.b2;rw[ay];have h1:(if m=0 then ([]:List UInt8) else [UInt8.ofNat (i.a / 256),UInt8.ofNat i.a]).length<=2:=by split<;>simp
 have h2:(if m < 2 then ([]:List UInt8) else [UInt8.ofNat (i.b / 256),UInt8.ofNat i.b]).length<=2:=by split<;>simp
 omega
theorem yck (P:Pg):P.ins.length<=(Px.codeOf P).length:=by
 have h:=Vx (l:=P.ins);unfold Px.codeOf;simp only[ay];omega
theorem zz6:lX lN=[.int .u8 101,.int .u8 114,.int .u8 114,.int .u8 97,.int .u8 110,.int .u8 100,.int .u8 32,.int .u8 49,.int .u8 10]:=by rfl
theorem Ky {W:fu}{C:Array fC}{fz:Nat×Nat}(h:W.heap[w.heap.size]?=some (.cells C t fz))(j:Nat)(u:fC)(hj:C[j]?=some u):W.cell? ⟨w.heap.size,j,none⟩=some u:=by simp[World.cell?,h,hj]
theorem zvx (P:Pg)(N:List fq)(pp B0:Nat)(w:fu)(hP:sJ w B0 P N pp)(hok:∀ i∈P.ins,ni i)(Bh:P.nv < 65536)(hnw:P.fT.length < 65536)(hL:(Px.codeOf P).length<=1000000) :
  Calls prog 13 #[.pointer (some ⟨pp,0,none⟩)] w fun e w'=>e=.returned (.string ⟨(Px.codeOf P).toArray⟩)/\Below w.heap.size w w':=by
 obtain ⟨_,vl,vw,vn,h0,hl,hw,_⟩:=hP;obtain ⟨a1,n1,c1,rfl⟩:=jm hw;obtain ⟨a2,n2,c2,rfl⟩:=jm hl;obtain ⟨rfl,_,hW⟩:=NA hw;obtain ⟨rfl,hI⟩:=Zv hl;obtain ⟨i0,hi,hz0,hz1,hz2⟩:=info_parts Ry;have hpz:pp < w.heap.size:=lt_of_block h0;have p0:w.cell? ⟨pp,0,none⟩=some (.slice a1 P.fT.length c1):=by simp[World.cell?,h0]
 have p1:w.cell? ⟨pp,1,none⟩=some (.int .i64 (P.nv:Int)):=by simp[World.cell?,h0]
 have p3:w.cell? ⟨pp,3,none⟩=some (.slice a2 P.ins.length c2):=by simp[World.cell?,h0]
 have CP:Hid (∀ W,Below w.heap.size w W->W.cell? ⟨pp,0,none⟩=some (.slice a1 P.fT.length c1)/\W.cell? ⟨pp,3,none⟩=some (.slice a2 P.ins.length c2)/\W.cell? ⟨pp,1,none⟩=some (.int .i64 (P.nv:Int))):=fun W hb=>⟨by rw[hb.cell (p:=⟨pp,0,none⟩) hpz];exact p0,by rw[hb.cell (p:=⟨pp,3,none⟩) hpz];exact p3,by rw[hb.cell (p:=⟨pp,1,none⟩) hpz];exact p1⟩
 have HW:Hid (_):=hW;have HI:Hid (_):=hI;have OK:Hid (∀ i∈P.ins,ni i):=hok;have HL:Hid ((Px.codeOf P).length<=1000000):=hL;have hil:P.ins.length<=1000000:=aP (yck P) hL;have hcv:=Lib.run_convert_bytes_const (P:=prog) w 38 5 #[.int .u8 101,.int .u8 114,.int .u8 114,.int .u8 97,.int .u8 110,.int .u8 100,.int .u8 32,.int .u8 49,.int .u8 10] 9 9 underlying38 underlying5;obtain ⟨W0,hW0⟩:∃ W0,W0=w.alloc (.cells #[.int .u8 101,.int .u8 114,.int .u8 114,.int .u8 97,.int .u8 110,.int .u8 100,.int .u8 32,.int .u8 49,.int .u8 10] 5 (9,10)):=⟨_,rfl⟩;have eW:w.alloc (.cells #[.int .u8 101,.int .u8 114,.int .u8 114,.int .u8 97,.int .u8 110,.int .u8 100,.int .u8 32,.int .u8 49,.int .u8 10] 5 ((#[Value.int .u8 101,.int .u8 114,.int .u8 114,.int .u8 97,.int .u8 110,.int .u8 100,.int .u8 32,.int .u8 49,.int .u8 10]:Array fC).size,(#[Value.int .u8 101,.int .u8 114,.int .u8 114,.int .u8 97,.int .u8 110,.int .u8 100,.int .u8 32,.int .u8 49,.int .u8 10]:Array fC).size+1))=W0:=hW0.symm
 rw[eW] at hcv;have S0:Hid (Below w.heap.size w W0/\w.heap.size < W0.heap.size/\∀ j u,(lX lN)[j]?=some u->W0.cell? ⟨w.heap.size,j,none⟩=some u):=by
  refine ⟨by rw[hW0];exact (aH _ _).alloc (aj _) _,by rw[hW0];simp,fun j u hj=>?_⟩
  exact Ky (C:=#[.int .u8 101,.int .u8 114,.int .u8 114,.int .u8 97,.int .u8 110,.int .u8 100,.int .u8 32,.int .u8 49,.int .u8 10]) (by rw[hW0];exact Lg.new1) j u (by rw[zz6] at hj;rw[<- Array.getElem?_toList];exact hj)
 have q1:=(CP.o W0 S0.o.1).2.2;have hpW:pp < W0.heap.size:=by have:=S0.o.2.1;omega
 clear hl hw hW hI hok hL h0 p0 p1 p3 hW0 eW;go_enter func13,ntmps13
 go_wp2_with fail;refine aA (qvt w.heap.size lN P.nv Bh W0 S0.o.2.2 (by decide) S0.o.2.1) ?_
 rintro e w1 ⟨v1,rfl,o1,s1⟩;have B1:Below w.heap.size w w1:=S0.o.1.trans ((s1.mY (B:=W0.heap.size) (aj _) (fun k h=>h.elim)).mono (bN S0.o.2.1))
 obtain ⟨q0,q3,_⟩:=CP.o w1 B1;obtain ⟨b1,m1,k1,rfl⟩:=jm o1;have S1:Hid (Below w.heap.size w w1/\w1.ownsRow w.heap.size 5 1 (.slice b1 m1 k1) (lN++Px.b2 P.nv).length (lX (lN++Px.b2 P.nv))):=⟨B1,TM o1 (bN S0.o.2.1)⟩;clear o1 s1 B1 q1;go_wp2_with fail;refine aA (Af w.heap.size _ P.fT.length hnw _ _ S1.o.1.size S1.o.2 (by simp[lN,Px.b2])) ?_
 rintro e w2 ⟨v2,rfl,o2,s2⟩;have B2:Below w.heap.size w w2:=S1.o.1.trans (s2.below S1.o.1.size S1.o.2);obtain ⟨r0,r3,_⟩:=CP.o w2 B2;have S2:Hid (Below w.heap.size w w2/\w2.ownsRow w.heap.size 5 1 v2 (qH P 0).length (lX (qH P 0))):=by
  refine ⟨B2,?_⟩;have e:qH P 0=lN++Px.b2 P.nv++Px.b2 P.fT.length:=by simp[qH]
  rw[e];exact o2
 clear o2 s2 B2 q0 q3 S1;go_wp2_with fail;go_loopw [3,30] (fun v i wr=>∃ j:Nat,j<=P.fT.length/\i=.int .i64 j/\Hid (Below w.heap.size w wr/\wr.ownsRow w.heap.size 5 1 v (qH P j).length (lX (qH P j)))) (fun _ i _=>P.fT.length - (intOf i).toNat)
 case atStart=>exact ⟨0,by omega,rfl,S2.o⟩
 case round =>
  obtain ⟨j,hj,rfl,hr⟩:=hrel;by_cases hlt:j < P.fT.length
  ·obtain ⟨g,rfl,x0⟩:=HW.o j hlt;have hgz:=lt_of_cell x0;have x1:wr.cell? ⟨g,j,none⟩=some (.string P.fT[j]):=by rw[hr.o.1.cell (p:=⟨g,j,none⟩) hgz];exact x0
   have HS:Hid (qH P (j+1)=qH P j++[UInt8.ofNat P.fT[j].size]++P.fT[j].data.toList/\(qH P (j+1)).length<=1000000):=⟨zkq P hlt,aP (zq5 P _) HL.o⟩;generalize P.fT[j]=x at *;have hxl:(qH P j).length+1+x.size<=1000000:=by
    have:=HS.o.2
    rw[HS.o.1] at this;simp only[ay,aC,aL,eD] at this;exact this
   obtain ⟨b3,m3,k3,rfl⟩:=jm hr.o.2;have hlt':(j:Int) < (P.fT.length:Int):=by omega
   have E8:Hid (Value.int .u8 ((x.size:Int) % 256)=.int .u8 (((UInt8.ofNat x.size).toNat:Nat):Int)):=by
    unfold Hid;rw[UInt8.toNat_ofNat'];simp
   have NQ:w.heap.size<=wr.heap.size:=hr.o.1.size;have O1:Hid (∀ u∈[Value.int .u8 ((x.size:Int) % 256)],u.oneCell'=true):=by intro u hu;simp at hu;subst hu;rfl
   generalize NR:(qH P j).length=UL at *;clear x0 S2;go_wp2_with (first
    | (at_builtin;refine wpList_append_own_at _ rfl _ _ 38 rfl w.heap.size 5 i0 (.int .u8 0) 1 1 underlying38 hi hz0 hz1 hz2 rfl (by decide) _ _ _ rfl (hr.o.2.alloc _) ⟨wr.heap.size,0,none⟩ 1 1 [.int .u8 ((x.size:Int) % 256)] rfl rfl ?c1 O1.o ?c3 ?c4 ?c5 ?_)
    | fail)
   case c1 =>
    intro j u hj;match j,hj with
    | 0,hj=>simp at hj;subst hj;simp[Addr.add]
   case c3=>unfold maxLen;omega
   case c4=>omega
   case c5=>simp;omega
   ·intro v4 w4 o4 g4 _ l4;have R4:Hid (Below w.heap.size w w4/\w4.ownsRow w.heap.size 5 1 v4 (UL+1) (lX (qH P j)++[.int .u8 ((x.size:Int) % 256)])):=by
     refine ⟨hr.o.1.trans ?_,o4⟩;have hT:fO (fun k=>(Value.slice b3 m3 k3).ownBlock=some k) wr w4:=((fO.refl _ _).alloc _).grown g4 fun k hk=>ak hk
     exact hT.mY NQ fun k hk=>(hr.o.2.lt k hk).1
    obtain ⟨b4,m4,k4,rfl⟩:=jm o4;have hz4:w.heap.size<=w4.heap.size:=R4.o.1.size;clear o4 g4 l4;go_wp2_with (first
     | (at_builtin;refine Lib.wpList_append_own_string _ rfl _ _ 38 9 rfl w.heap.size 5 i0 underlying38 underlying9 hi hz0 hz1 hz2 _ _ _ rfl R4.o.2 x rfl ?d1 ?d2 ?d3 ?_)
     | fail)
    case d1=>unfold maxLen;omega
    case d2=>omega
    case d3=>omega
    ·intro v5 w5 o5 g5 _;have R5:Hid (Below w.heap.size w w5/\w5.ownsRow w.heap.size 5 1 v5 (qH P (j+1)).length (lX (qH P (j+1)))):=by
      refine ⟨R4.o.1.trans ?_,?_⟩
      ·have hT:fO (fun k=>(Value.slice b4 m4 k4).ownBlock=some k) w4 w5:=(fO.refl _ _).grown g5 fun k hk=>ak hk
       exact hT.mY hz4 fun k hk=>(R4.o.2.lt k hk).1
      ·rw[HS.o.1,Rz,Rz];have e1:lX [UInt8.ofNat x.size]=[.int .u8 ((x.size:Int) % 256)]:=by rw[E8.o];rfl
       have e2:(qH P j++[UInt8.ofNat x.size]++x.data.toList).length=UL+1+x.size:=by
        simp only[ay,aC,aL,eD,NR];rfl
       rw[e1,e2,<- RB,aI];exact o5
     clear o5 g5;go_wp2;exact ⟨⟨j+1,by omega,by go_num,R5.o⟩,by simp[intOf];omega⟩
  ·obtain rfl:j=P.fT.length:=by omega
   have q3:=(CP.o wr hr.o.1).2.1;obtain ⟨b6,m6,k6,rfl⟩:=jm hr.o.2;have hne:¬ ((P.fT.length:Int) < (P.fT.length:Int)):=by omega
   clear S2;go_wp2_with fail;refine aA (SI wr) ?_;rintro e w3 ⟨he,t3,_⟩;obtain ⟨T,hT⟩:∃ T,T=(iQ wr.heap.size).toArray:=⟨_,rfl⟩;rw[<- hT] at he;subst he;have z3:wr.heap.size<=w3.heap.size:=t3.size;have S3:Hid (Below w.heap.size w w3/\w3.ownsRow w.heap.size 5 1 (.slice b6 m6 k6) (nZ P 0).length (lX (nZ P 0))):=by
    refine ⟨hr.o.1.trans (t3.mY hr.o.1.size fun k h=>h.elim),?_⟩
    have e:nZ P 0=qH P P.fT.length:=by simp[nZ]
    rw[e];exact gZ hr.o.2 t3 fun _ _ h=>h
   generalize wr.heap.size=nt at *;have HT:Hid (T=(iQ nt).toArray):=hT;have hTs:T.size=80:=by rw[hT];rfl
   have hst:=run_storeCells_new (P:=prog) w3 85 zeroCells85 T (by rw[SG,hTs]) (by rw[JU,hTs]) (by rw[hT];exact Y8 nt)
   have S4:Hid (Below w.heap.size w (w3.alloc (.cells T 85))/\(w3.alloc (.cells T 85)).ownsRow w.heap.size 5 1 (.slice b6 m6 k6) (nZ P 0).length (lX (nZ P 0))):=⟨S3.o.1.alloc S3.o.1.size _,S3.o.2.alloc _⟩;have q3:=(CP.o _ S4.o.1).2.1;have hpz3:pp < w3.heap.size+1:=by have:=S3.o.1.size;omega
   clear t3 hr hT;generalize hbT:w3.heap.size=bT at *;have S5:Hid ((w3.alloc (.cells T 85)).heap[bT]?=some (.cells T 85)):=by rw[<- hbT];exact Lg.new1
   go_wp2_with fail;go_loopw [3,50] (fun v i wr=>∃ j:Nat,j<=P.ins.length/\i=.int .i64 j/\Hid (Below w.heap.size w wr/\wr.ownsRow w.heap.size 5 1 v (nZ P j).length (lX (nZ P j))/\wr.heap[bT]?=some (.cells T 85))) (fun _ i _=>P.ins.length - (intOf i).toNat)
   case atStart=>exact ⟨0,by omega,rfl,S4.o.1,S4.o.2,S5.o⟩
   case round =>
    obtain ⟨j,hj,rfl,hr⟩:=hrel;by_cases hlt:j < P.ins.length
    ·obtain ⟨g,rfl,y0,y1,y2⟩:=HI.o j hlt;have hgz:=lt_of_cell y0;have kp:∀ {o:Nat} {x:fC},w.cell? ⟨g,o,none⟩=some x->wr.cell? ⟨g,o,none⟩=some x:=fun {o x} hx=>by rw[hr.o.1.cell (p:=⟨g,o,none⟩) hgz];exact hx
     have y0:=kp y0;have y1:=kp y1;have y2:=kp y2;have hok:=OK.o P.ins[j] (dV hlt);have HS:Hid (nZ P (j+1)=nZ P j++[UInt8.ofNat P.ins[j].k]++qQ P.ins[j] (iD P.ins[j].k)/\(nZ P (j+1)).length<=1000000):=⟨zkr P hlt,aP (Zy P _) HL.o⟩;generalize P.ins[j]=ins at *;obtain ⟨k,oa,ob⟩:=ins;dsimp only at *;have TN:k < 20:=hok.k;have hoa:oa < 65536:=hok.a;have oP:ob < 65536:=hok.b;obtain ⟨ta,I5⟩:=Zu nt k TN;have TC:Hid (∀ W:fu,W.heap[bT]?=some (.cells T 85)->W.cell? ⟨bT,k * 4,none⟩=some (.slice ta (iD k) (iD k))):=fun W hW=>by
      simp only[World.cell?,hW];show T[k * 4]?=_
      rw[HT.o,dO,Nat.mul_comm];exact I5
     obtain ⟨b8,m8,k8,rfl⟩:=jm hr.o.2.1;have hnd:=Kw k;have hul:(nZ P j).length+1+(qQ ⟨k,oa,ob⟩ (iD k)).length<=1000000:=by
      have:=HS.o.2
      rw[HS.o.1] at this;simp only[ay,aC,aL] at this;omega
     generalize NR:(nZ P j).length=UL at *;have hlt':(j:Int) < (P.ins.length:Int):=by omega
     have E8:Hid (Value.int .u8 ((k:Int) % 256)=.int .u8 (((UInt8.ofNat k).toNat:Nat):Int)):=by
      unfold Hid;rw[UInt8.toNat_ofNat'];simp
     have NQ:w.heap.size<=wr.heap.size:=hr.o.1.size;have hbz:bT < wr.heap.size:=lt_of_block hr.o.2.2;have O1:Hid (∀ u∈[Value.int .u8 ((k:Int) % 256)],u.oneCell'=true):=by intro u hu;simp at hu;subst hu;rfl
     clear I5 hok kp S4 S5;go_wp2_with (first
      | (at_builtin;refine wpList_append_own_at _ rfl _ _ 38 rfl w.heap.size 5 i0 (.int .u8 0) 1 1 underlying38 hi hz0 hz1 hz2 rfl (by decide) _ _ _ rfl ((hr.o.2.1.alloc _).alloc _) ⟨wr.heap.size+1,0,none⟩ 1 1 [.int .u8 ((k:Int) % 256)] rfl rfl ?c1 O1.o ?c3 ?c4 ?c5 ?_)
      | fail)
     case c1 =>
      intro j u hj;match j,hj with
      | 0,hj=>simp at hj;subst hj;simp[Addr.add];omega
     case c3=>unfold maxLen;omega
     case c4=>omega
     case c5=>simp;omega
     ·intro v4 w4 o4 g4 _ l4;have R4:Hid (Below w.heap.size w w4/\w4.ownsRow w.heap.size 5 1 v4 (nZ P j++[UInt8.ofNat k]++qQ ⟨k,oa,ob⟩ 0).length (lX (nZ P j++[UInt8.ofNat k]++qQ ⟨k,oa,ob⟩ 0))/\w4.heap[bT]?=some (.cells T 85)/\w4.heap[wr.heap.size]?=some (.cells #[.int .i64 (k:Int),.int .i64 (oa:Int),.int .i64 (ob:Int)] 90)):=by
       have hT:fO (fun k=>(Value.slice b8 m8 k8).ownBlock=some k) wr w4:=(((fO.refl _ _).alloc _).alloc _).grown g4 fun k hk=>ak hk
       refine ⟨hr.o.1.trans (hT.mY NQ fun k hk=>(hr.o.2.1.lt k hk).1),?_,?_,?_⟩
       ·have e1:lX [UInt8.ofNat k]=[.int .u8 ((k:Int) % 256)]:=by rw[E8.o];rfl
        have e0:qQ ⟨k,oa,ob⟩ 0=[]:=rfl;rw[e0,dG,Rz,e1];simp only[ay,aC,aL,NR];exact o4
       ·rw[hT.block bT hbz (yR hr.o.2.1 hr.o.2.2 (by decide))]
        exact hr.o.2.2
       ·have oZ:=(fO.refl (fun k=>(Value.slice b8 m8 k8).ownBlock=some k) _).grown g4 fun k hk=>ak hk
        rw[oZ.block wr.heap.size (by simp;omega) (fun h=>by have:=(hr.o.2.1.lt _ h).2;omega)]
        exact G6
      obtain ⟨b9,m9,k9,rfl⟩:=jm o4;have tc:=TC.o w4 R4.o.2.2.1;obtain ⟨e0,e1,e2,ef⟩:=Mk.cells3 R4.o.2.2.2;clear o4 g4 l4 y0 y1 y2 O1 hbz NQ;generalize wr.heap.size=bI at *;go_wp2_with fail;go_loopw [3,66] (fun v n wq=>∃ m:Nat,m<=iD k/\n=.int .i64 m/\Hid (Below w.heap.size w wq/\wq.ownsRow w.heap.size 5 1 v (nZ P j++[UInt8.ofNat k]++qQ ⟨k,oa,ob⟩ m).length (lX (nZ P j++[UInt8.ofNat k]++qQ ⟨k,oa,ob⟩ m))/\wq.heap[bT]?=some (.cells T 85)/\wq.heap[bI]?=some (.cells #[.int .i64 (k:Int),.int .i64 (oa:Int),.int .i64 (ob:Int)] 90))) (fun _ n _=>iD k - (intOf n).toNat)
      case atStart=>exact ⟨0,by omega,rfl,R4.o⟩
      case round =>
       obtain ⟨m,hm,rfl,hq⟩:=hrel;by_cases hmt:m < iD k
       ·obtain ⟨f0,f1,f2,ff⟩:=Mk.cells3 hq.o.2.2.2;have hm2:m < 2:=by omega
        have hmt':(m:Int) < (iD k:Int):=by omega
        have HO:Hid (qQ ⟨k,oa,ob⟩ (m+1)=qQ ⟨k,oa,ob⟩ m++Px.b2 (if m=0 then oa else ob)):=zcz ⟨k,oa,ob⟩ m hm2
        obtain ⟨x,hx,hxe⟩:∃ x,(if m=0 then oa else ob)=x/\x < 65536:=⟨_,rfl,by split<;>assumption⟩
        have fx:wr.cell? ⟨bI,1+m,none⟩=some (.int .i64 (x:Int)):=by
         match m,hm2 with
         | 0,_=>rw[<- hx];exact f1
         | 1,_=>rw[<- hx];exact f2
        rw[hx] at HO;obtain ⟨b5,m5,k5,rfl⟩:=jm hq.o.2.1;have hlo:(nZ P j++[UInt8.ofNat k]++qQ ⟨k,oa,ob⟩ m).length<=10000000:=by
         have h4:(qQ ⟨k,oa,ob⟩ m).length<=4:=zgv _ _;simp only[ay,aC,aL,NR];omega
        have hwr:bI < wr.heap.size:=lt_of_block hq.o.2.2.2;clear hx;go_wp2_with fail;refine aA (Af w.heap.size _ x hxe _ _ hq.o.1.size hq.o.2.1 hlo) ?_;rintro e w6 ⟨v6,rfl,o6,s6⟩;have R6:Hid (Below w.heap.size w w6/\w6.ownsRow w.heap.size 5 1 v6 (nZ P j++[UInt8.ofNat k]++qQ ⟨k,oa,ob⟩ (m+1)).length (lX (nZ P j++[UInt8.ofNat k]++qQ ⟨k,oa,ob⟩ (m+1)))/\w6.heap[bT]?=some (.cells T 85)/\w6.heap[bI]?=some (.cells #[.int .i64 (k:Int),.int .i64 (oa:Int),.int .i64 (ob:Int)] 90)):=by
         refine ⟨hq.o.1.trans (s6.below hq.o.1.size hq.o.2.1),?_,?_,?_⟩
         ·rw[HO.o,<- aI];exact o6
         ·rw[(s6.keep (lt_of_block hq.o.2.2.1) (yR hq.o.2.1 hq.o.2.2.1 (by decide))).1]
          exact hq.o.2.2.1
         ·rw[(s6.keep hwr (yR hq.o.2.1 hq.o.2.2.2 (by decide))).1]
          exact hq.o.2.2.2
        clear o6 s6;go_wp2;exact ⟨⟨m+1,by omega,by go_num,R6.o⟩,by simp[intOf];omega⟩
       ·obtain rfl:m=iD k:=by omega
        obtain ⟨b5,m5,k5,rfl⟩:=jm hq.o.2.1;have R7:Hid (Below w.heap.size w wr/\wr.ownsRow w.heap.size 5 1 (.slice b5 m5 k5) (nZ P (j+1)).length (lX (nZ P (j+1)))/\wr.heap[bT]?=some (.cells T 85)):=by
         rw[HS.o.1];exact ⟨hq.o.1,hq.o.2.1,hq.o.2.2.1⟩
        have hne2:¬ ((iD k:Int) < (iD k:Int)):=by omega
        go_wp2;exact ⟨⟨j+1,by omega,by go_num,R7.o⟩,by simp[intOf];omega⟩
    ·obtain rfl:j=P.ins.length:=by omega
     have hcv:=zcj hr.o.2.1;rw[Zw] at hcv;obtain ⟨b7,m7,k7,rfl⟩:=jm hr.o.2.1;have hne:¬ ((P.ins.length:Int) < (P.ins.length:Int)):=by omega
     go_wp2_with fail;go_ret;exact ⟨rfl,hr.o.1⟩
end Cd
namespace Px
variable {l r:List UInt8}
theorem NS {n:Nat}(h:oH l=some (n,r)):r.length+2=l.length/\n < 65536:=by
 match l,h with
 | a::b::s,h =>
  simp only[oH,Option.some.injEq,Prod.mk.injEq] at h;obtain ⟨rfl,rfl⟩:=h
  have:=a.toNat_lt
  have:=b.toNat_lt
  exact ⟨by simp,by omega⟩
variable {i:Ins}
theorem TP (h:sj l=some (i,r)):r.length < l.length/\ni i:=by
 match l,h with
 | k::s,h =>
  rw[sj] at h;by_cases h20:20<=k.toNat
  ·rw[if_pos h20] at h;cases h
  ·rw[if_neg h20] at h;by_cases h0:iD k.toNat=0
   ·rw[if_pos h0] at h;cases h;exact ⟨by simp,by show k.toNat < 20;omega,by show 0 < 65536;decide,by show 0 < 65536;decide,fun _=>rfl,fun _=>rfl⟩
   ·rw[if_neg h0] at h;cases h1:oH s with
    | none=>rw[h1] at h;cases h
    | some p =>
     obtain ⟨a,r1⟩:=p;rw[h1] at h;simp only at h;obtain ⟨l1,a1⟩:=NS h1;by_cases hn2:iD k.toNat=2
     ·rw[if_pos hn2] at h;cases h2:oH r1 with
      | none=>rw[h2] at h;cases h
      | some q =>
       obtain ⟨b,r2⟩:=q;rw[h2] at h;simp only at h;cases h;obtain ⟨l2,b2⟩:=NS h2;exact ⟨by simp;omega,by show k.toNat < 20;omega,a1,b2,fun e=>absurd e h0,fun e=>absurd hn2 e⟩
     ·rw[if_neg hn2] at h;cases h;exact ⟨by simp;omega,by show k.toNat < 20;omega,a1,by show 0 < 65536;decide,fun e=>absurd e h0,fun _=>rfl⟩
theorem yak:∀ (n m:Nat) (r:List UInt8),r.length<=n->r.length<=m->jH n r=jH m r:=by
 intro n;induction n with
 | zero =>
  intro m r h1 _;obtain rfl:r=[]:=dJ (by omega)
  cases m<;>rfl
 | succ n ih =>
  intro m r h1 h2;match r,m,h1,h2 with
  | [],0,_,_=>rfl
  | [],m+1,_,_=>rfl
  | c::t,0,_,h2=>simp at h2
  | c::t,m+1,h1,h2 =>
   rw[jH,jH]
   ·cases hi:sj (c::t) with
    | none=>rfl
    | some p =>
     obtain ⟨i,r1⟩:=p;have hl:=(TP hi).1;simp only;rw[ih m r1 (by simp at h1 hl;omega) (by simp at h2 hl;omega)]
   all_goals (intro e;cases e)
theorem yb3 {r1:List UInt8}(h:sj r=some (i,r1)):jH r.length r=(jH r1.length r1).map (i::·):=by
 match r,h with
 | c::t,h =>
  have hl:=(TP h).1;rw[aC,jH]
  ·rw[h];simp only;rw[yak t.length r1.length r1 (by simp at hl;omega) (aj _)]
   cases jH r1.length r1<;>rfl
  ·intro e;cases e
theorem yb4 (hr:r≠[])(h:sj r=none):jH r.length r=none:=by
 match r,hr,h with
 | c::t,_,h =>
  rw[aC,jH]
  ·rw[h]
  ·intro e;cases e
def good (s:List UInt8):Option Pg :=
 if 65536 < s.length then none else (vC s).bind fun P=>if lF P=true then some P else none
end Px
namespace Cd
open Mk Px Ref Rn
def iJ (w:fu)(b nt:Nat)(l:List UInt8):Prop:=w.heap[b]?=some (.cells (.string ⟨l.toArray⟩::iQ nt).toArray 108)
theorem iJ.cell {w:fu}{b nt:Nat}{l:List UInt8}(h:iJ w b nt l):w.cell? ⟨b,0,none⟩=some (.string ⟨l.toArray⟩):=by
 unfold iJ at h;simp[World.cell?,h]
variable {w w' w0 wr:fu}{b bp br i n nt nv:Nat}{c l r r1 r3 s:List UInt8}
theorem iJ.free (h:iJ w b nt l):∀ o,w.frozen? ⟨b,o,none⟩=false:=by
 unfold iJ at h;intro o;simp[World.frozen?,h]
theorem iJ.lt (h:iJ w b nt l):b < w.heap.size:=lt_of_block h
theorem iJ.set (h:iJ w b nt l):iJ (w.setCell ⟨b,0,none⟩ (.string ⟨r.toArray⟩)) b nt r:=by
 unfold iJ at h |-;rw[Ref.heap_set _ h];rfl
theorem iJ.keep (h:iJ w b nt l)(hk:w'.heap[b]?=w.heap[b]?):iJ w' b nt l:=hk.trans h
theorem ybm (l:List UInt8)(n:Nat):(⟨l.toArray⟩:fq).extract 0 n=⟨(l.take n).toArray⟩:=by
 apply ByteArray.ext
 simp[ByteArray.data_extract]
theorem ybn (l:List UInt8)(n:Nat):(⟨l.toArray⟩:fq).extract n l.length=⟨(l.drop n).toArray⟩:=by
 apply ByteArray.ext
 simp only[ByteArray.data_extract,List.extract_toArray,List.extract_eq_take_drop];rw[eU (by simp)]
theorem Zz (l:List UInt8):(⟨l.toArray⟩:fq).size=l.length:=by
 show l.toArray.size=_
 simp
theorem NT (b nt n:Nat)(l:List UInt8)(w:fu)(h:iJ w b nt l)(_hl:l.length<=1000000)(hn:n<=1000000) :
  Calls prog 90 #[.pointer (some ⟨b,0,none⟩),.int .i64 (n:Int)] w fun e w'=>(l.length < n/\e=.returned (.tuple #[.string ⟨#[]⟩,.bool false])/\w'=w) \/
   (n<=l.length/\e=.returned (.tuple #[.string ⟨(l.take n).toArray⟩,.bool true])/\iJ w' b nt (l.drop n)/\fO (·=b) w w'):=by
 have c0:=h.cell;have cf:=h.free;have hs:=Zz l;have hbz:=h.lt;have H:Hid (_):=h;have e1:=ybm l n;have e2:=ybn l n;generalize hS:(⟨l.toArray⟩:fq)=S at *;clear h;go_enter func90,ntmps90
 by_cases hlt:l.length < n
 ·have hi:(S.size:Int) < (n:Int):=by omega
  go_wp2_with fail;go_ret2;exact ak ⟨hlt,rfl,rfl⟩
 ·have hi:¬ ((S.size:Int) < (n:Int)):=by omega
  have hi2:(n:Int)<=(S.size:Int):=by omega
  go_wp2_with fail;go_ret2;have h2:iJ w b nt l:=by unfold iJ;rw[hS];exact H.o
  first
   | exact ah ⟨by omega,rfl,h2.set,(fO.refl (·=b) _).setCell (p:=⟨b,0,none⟩) (ak rfl) _⟩
   | exact ⟨by omega,rfl,h2.set,(fO.refl (·=b) _).setCell (p:=⟨b,0,none⟩) (ak rfl) _⟩
theorem ycc (x:Int):IntKind.i64.wrap x=wrap64 x:=by rw[IntKind.wrap_i64];unfold wrap64;first | rfl | omega
theorem NU (n:Nat)(h:n < 1000000):wrap64 (n:Int)=(n:Int):=by
 unfold wrap64;omega
theorem yca {x y:Nat}(hx:x < 256)(hy:y < 256):bits .or .i64 (wrap64 (wrap64 (x:Int) * 256)) (wrap64 (y:Int))=((x * 256+y:Nat):Int):=by
 have e1:wrap64 (wrap64 (x:Int) * 256)=((x * 256:Nat):Int):=by
  rw[NU x (by omega)]
  have:(x:Int) * 256=((x * 256:Nat):Int):=by omega
  rw[this,NU _ (by omega)]
 rw[e1,NU y (by omega)]
 have e2:x * 256 ||| y=x * 256+y:=by
  have:=Nat.two_pow_add_eq_or_of_lt (i:=8) (b:=y) (by omega) x
  rw[Nat.mul_comm x 256];exact this.symm
 unfold bits;simp only[BitVec.ofInt_natCast];rw[BitVec.toNat_or,BitVec.toNat_ofNat,BitVec.toNat_ofNat];have e3:(x * 256) % 2 ^ IntKind.i64.bits=x * 256:=Nat.mod_eq_of_lt (aV (show x * 256 < 2 ^ 16 by omega) (by decide))
 have e4:y % 2 ^ IntKind.i64.bits=y:=Nat.mod_eq_of_lt (aV (show y < 2 ^ 16 by omega) (by decide))
 rw[e3,e4,e2];have hn:x * 256+y < 65536:=by omega
 clear e1 e2 e3 e4;generalize x * 256+y=n at *;rw[ycc];exact NU n (by omega)
theorem NV (b nt:Nat)(l:List UInt8)(w:fu)(h:iJ w b nt l)(hl:l.length<=1000000) :
  Calls prog 33 #[.pointer (some ⟨b,0,none⟩)] w fun e w'=>(oH l=none/\e=.returned (.tuple #[.int .i64 0,.bool false])/\w'=w) \/
   (∃ n r,oH l=some (n,r)/\n < 65536/\e=.returned (.tuple #[.int .i64 (n:Int),.bool true])/\iJ w' b nt r/\fO (·=b) w w'):=by
 have HB:Hid (_):=NT b nt 2 l w h hl (by decide)
 clear h;go_enter func33,ntmps33
 go_wp2_with fail;refine aA HB.o ?_;rintro e w1 (⟨hlt,rfl,rfl⟩ | ⟨hle,rfl,hR⟩)
 ·have hn:oH l=none:=by
   match l,hlt with
   | [],_=>rfl
   | [_],_=>rfl
  go_wp2_with fail;go_ret2;exact ak ⟨hn,rfl,rfl⟩
 ·obtain ⟨x,y,r,rfl⟩:∃ x y r,l=x::y::r:=by
   match l,hle with
   | x::y::r,_=>exact ⟨x,y,r,rfl⟩
  have HR:Hid (_):=hR;clear hR HB hl;have hb:=yca (x:=x.toNat) (y:=y.toNat) x.toNat_lt y.toNat_lt;have hn:x.toNat * 256+y.toNat < 65536:=by have:=x.toNat_lt;have:=y.toNat_lt;omega
  go_wp2_with fail;go_region
  go_wp2_with fail;go_ret2;exact ah ⟨x.toNat * 256+y.toNat,r,rfl,hn,by rw[<- hb];rfl,HR.o.1,HR.o.2.drew⟩
def ug (x:Nat):Bool:=decide (x < 97) || decide (122 < x)
theorem ybh (x:Nat)(w:fu):Calls prog 131 #[.int .i32 (x:Int)] w fun e w'=>e=.returned (.bool (ug x))/\w'=w:=by
 go_enter func131,ntmps131
 by_cases h1:x < 97
 ·have t1:(x:Int) < 97:=by omega
  go_wp2_with fail;go_ret;exact ⟨by simp[ug,h1],rfl⟩
 ·have t1:¬ (x:Int) < 97:=by omega
  by_cases h2:122 < x
  ·have t2:(122:Int) < (x:Int):=by omega
   go_wp2_with fail;go_ret;exact ⟨by simp[ug,h2],rfl⟩
  ·have t2:¬ (122:Int) < (x:Int):=by omega
   go_wp2_with fail;go_ret;exact ⟨by simp[ug,h1,h2],rfl⟩
theorem ycm {s:fq}(h:(s.get! i).toNat < 128):Utf8.decode s i=((s.get! i).toNat,1):=by
 unfold Utf8.decode;simp only[dU];rw[if_pos h]
theorem ycn {s:fq}(h:¬ (s.get! i).toNat < 128):128<=(Utf8.decode s i).1:=by
 unfold Utf8.decode;simp only[dU];rw[if_neg h];have he:128<=Utf8.runeError:=by decide
 split
 ·split
  ·rename_i h1;simpa using h1
  ·exact he
 ·split
  ·split
   ·rename_i h1;simp only[ge_iff_le,aZ,decide_eq_true_eq] at h1;show 128<=_;omega
   ·exact he
  ·split
   ·split
    ·rename_i h1;simp only[ge_iff_le,aZ,decide_eq_true_eq] at h1;show 128<=_;omega
    ·exact he
   ·exact he
theorem zzj {s:fq}(h:∀ j,j < s.size->ug (s.get! j).toNat=false):Px.letters s.data.toList=true:=by
 unfold Px.letters;rw[dW];intro c hc;obtain ⟨j,hj,rfl⟩:=dY hc;have hj':j < s.size:=by simpa using hj
 have:=h j hj'
 have e:s.get! j=s.data.toList[j]:=by
  show (s.data[j]!)=_
  simp[hj']
 rw[e] at this;simp only[ug,dS,decide_eq_false_iff_not] at this;simp only[aZ,decide_eq_true_eq];omega
theorem zzq {s:fq}{j:Nat}(hj:j < s.size)(h:ug (s.get! j).toNat=true):Px.letters s.data.toList=false:=by
 unfold Px.letters;rw[List.all_eq_false];have e:s.get! j=s.data.toList[j]'(by simpa using hj):=by
  show (s.data[j]!)=_
  have:j < s.data.size:=hj
  rw[getElem!_pos s.data j this];simp
 refine ⟨_,dV (by simpa using hj),?_⟩
 rw[<- e];simp only[ug,dx,decide_eq_true_eq] at h;simp only[Bool.not_eq_true,Bool.and_eq_false_iff,decide_eq_false_iff_not];omega
theorem zzr (s:fq)(w:fu) :
  Calls prog 182 #[.string s,.func (.func 131) #[] #[],.bool true] w fun e w'=>∃ i:Int,e=.returned (.int .i64 i)/\Hid ((Px.letters s.data.toList=true->i=-1)/\(Px.letters s.data.toList=false->0<=i))/\Below w.heap.size w w':=by
 go_enter func182,ntmps182
 go_wp2;go_loopg [] s.size (fun gf wx=>∃ pos:Nat,wx.heap[w.heap.size]?=some (.stringIter s pos)/\Below w.heap.size w wx/\Hid (∀ j,j < pos->ug (s.get! j).toNat=false)/\s.size<=pos+gf)
 case atStart=>exact ⟨0,World.iter_heap w s 0,(aH _ w).alloc (aj _) _,fun j hj=>absurd hj (bO _),by omega⟩
 case round =>
  obtain ⟨pos,hit,hbw,hall,hfu⟩:=hrel;by_cases hps:pos < s.size
  ·obtain ⟨g',rfl⟩:∃ g',gk=g'+1:=⟨gk - 1,by omega⟩
   have hnx:∀ ty,(Instr.next (.pointer (some ⟨w.heap.size,0,none⟩)) true ty).run prog wr=_:=fun ty=>Lib.run_next_any_at wr w.heap.size s pos ty hit hps
   obtain ⟨R,hR⟩:∃ R,(Utf8.decode s pos).1=R:=⟨_,rfl⟩;obtain ⟨K,hK⟩:∃ K,(Utf8.decode s pos).2=K:=⟨_,rfl⟩;have HD:Hid (ug R=ug (s.get! pos).toNat/\(ug R=false->K=1)):=by
    by_cases hlo:(s.get! pos).toNat < 128
    ·rw[ycm hlo] at hR hK;exact ⟨by rw[<- hR],fun _=>hK.symm⟩
    ·have h1:=ycn hlo;rw[hR] at h1;have e1:ug R=true:=by simp[ug];omega
     have e2:ug (s.get! pos).toNat=true:=by simp[ug];omega
     exact ⟨by rw[e1,e2],fun h=>by rw[e1] at h;cases h⟩
   rw[hR,hK] at hnx;have hit2:=Lib.iterAt_heap wr w.heap.size s pos (pos+K) hit;have hbw2:=Lib.below_iterAt hbw (k:=w.heap.size) (aj _) s (pos+K);obtain ⟨W,hWd⟩:∃ W,wr.iterAt w.heap.size s (pos+K)=W:=⟨_,rfl⟩;rw[hWd] at hnx hit2 hbw2;have cS:=ybh R W;have KK:Hid (W.heap[w.heap.size]?=some (.stringIter s (pos+K))/\Below w.heap.size w W):=⟨hit2,hbw2⟩;clear hit2 hbw2 hbw hWd hR hK;cases hsp:ug R
   ·rw[hsp] at cS;go_wp2_with fail;refine aA cS ?_;rintro e W' ⟨rfl,rfl⟩;go_wp2_with fail;go_roundg g'
    case measure=>omega
    case rel =>
     have hk:=HD.o.2 hsp;refine ⟨pos+K,KK.o.1,KK.o.2,fun j hj=>?_,by omega⟩
     by_cases hjp:j < pos
     ·exact hall.o j hjp
     ·obtain rfl:j=pos:=by omega
      rw[<- HD.o.1,hsp]
   ·rw[hsp] at cS;go_wp2_with fail;refine aA cS ?_;rintro e W' ⟨rfl,rfl⟩;go_wp2_with fail;go_ret;exact ⟨_,rfl,⟨fun h=>absurd (h.symm.trans (zzq hps (by rw[<- HD.o.1,hsp]))) (by decide),fun _=>Int.natCast_nonneg _⟩,KK.o.2⟩
  ·have hnx:∀ ty,(Instr.next (.pointer (some ⟨w.heap.size,0,none⟩)) true ty).run prog wr=_:=fun ty=>Lib.run_next_end_at wr w.heap.size s pos ty hit hps
   have HB:Hid (_):=hbw;clear hbw;go_wp2;go_ret;exact ⟨_,rfl,⟨fun _=>rfl,fun h=>absurd (h.symm.trans (zzj fun j hj=>hall.o j (by omega))) (by decide)⟩,HB.o⟩
theorem zza (s:fq)(w:fu) :
  Calls prog 130 #[.string s,.func (.func 131) #[] #[]] w fun e w'=>e=.returned (.bool (!Px.letters s.data.toList))/\Below w.heap.size w w':=by
 have H1:Hid (Calls prog 163 #[.string s,.func (.func 131) #[] #[]] w fun e w'=>∃ i:Int,e=.returned (.int .i64 i)/\Hid ((Px.letters s.data.toList=true->i=-1)/\(Px.letters s.data.toList=false->0<=i))/\Below w.heap.size w w'):=by
  have H0:Hid (_):=zzr s w;unfold Hid;go_enter func163,ntmps163
  go_wp2_with fail;refine aA H0.o ?_;rintro e w1 ⟨i,rfl,h1,h2⟩;have HH:Hid (_/\_):=⟨h1,h2⟩;clear h1 h2;go_wp2_with fail;go_ret;exact ⟨i,rfl,HH.o⟩
 go_enter func130,ntmps130
 go_wp2_with fail;refine aA H1.o ?_;rintro e w1 ⟨i,rfl,h1,h2⟩;have HB:Hid (_):=h2;cases hl:Px.letters s.data.toList
 ·have t1:(0:Int)<=i:=h1.o.2 hl;clear h1 h2;go_wp2_with fail;go_ret;exact ⟨by rw[hl];rfl,HB.o⟩
 ·have t1:¬ (0:Int)<=i:=by rw[h1.o.1 hl];decide
  clear h1 h2;go_wp2_with fail;go_ret;have hd:decide (0<=i)=false:=decide_eq_false (by omega)
  exact ⟨by rw[hl];show _=Ending.returned (.bool false);rw[<- hd];rfl,HB.o⟩
theorem Sb (s:fq)(w:fu)(h:s.size<=10000000):Calls prog 132 #[.string s] w fun e w'=>e=.returned (.string s)/\Below w.heap.size w w':=by
 have H:Hid (_):=YH s w h;clear h;go_enter func132,ntmps132
 go_wp2_with fail;refine aA H.o ?_;rintro e w1 ⟨rfl,hb⟩;have HB:Hid (_):=hb;clear hb;go_wp2_with fail;go_ret;exact ⟨rfl,HB.o⟩
def TQ (b nt:Nat)(w:fu)(g:Option (fq×List UInt8))(e:Ending)(w':fu):Prop :=
 fO (·=b) w w'/\((g=none/\e=.returned (.tuple #[.string ⟨#[]⟩,.bool false]))\/(∃ x r,g=some (x,r)/\e=.returned (.tuple #[.string x,.bool true])/\iJ w' b nt r))
theorem ybt (b nt:Nat)(l:List UInt8)(w:fu)(h:iJ w b nt l)(hl:l.length<=1000000) :
  Calls prog 91 #[.pointer (some ⟨b,0,none⟩)] w (TQ b nt w (r9 l)):=by
 have HB:Hid (_):=NT b nt 1 l w h hl (by decide)
 clear h;go_enter func91,ntmps91
 go_wp2_with fail;refine aA HB.o ?_;rintro e w1 (⟨hlt,rfl,rfl⟩ | ⟨hle,rfl,hR⟩)
 ·obtain rfl:l=[]:=dJ (by omega)
  go_wp2_with fail;go_ret2;exact ⟨fO.refl _ _,ak ⟨rfl,rfl⟩⟩
 ·obtain ⟨n,r,rfl⟩:∃ n r,l=n::r:=by
   match l,hle with
   | n::r,_=>exact ⟨n,r,rfl⟩
  have HR:Hid (iJ w1 b nt r/\fO (·=b) w w1):=hR
  have hrl:r.length<=1000000:=by simp at hl;omega
  clear hR HB hl hle;have Kz:=n.toNat_lt;have g0:(⟨#[n]⟩:fq)[0]'(by show 0 < 1;decide)=n:=rfl
  by_cases h0:n.toNat=0
  ·have t0:((n.toNat:Int) == 0)=true:=by rw[h0];rfl
   have hn:r9 (n::r)=none:=by simp[r9,h0]
   go_wp2_with fail;go_ret2;exact ⟨HR.o.2,ak ⟨hn,rfl⟩⟩
  ·have t0:((n.toNat:Int) == 0)=false:=by rw[beq_eq_false_iff_ne];omega
   by_cases h8:8 < n.toNat
   ·have t8:(8:Int) < (n.toNat:Int):=by omega
    have hn:r9 (n::r)=none:=by simp[r9,h8]
    go_wp2_with fail;go_ret2;exact ⟨HR.o.2,ak ⟨hn,rfl⟩⟩
   ·have t8:¬ (8:Int) < (n.toNat:Int):=by omega
    have H2:Hid (_):=NT b nt n.toNat r w1 HR.o.1 hrl (by omega)
    go_wp2_with fail;refine aA H2.o ?_;rintro e w2 (⟨hlt,rfl,rfl⟩ | ⟨hle,rfl,hR2⟩)
    ·have hn:r9 (n::r)=none:=by simp[r9,hlt]
     clear H2;go_wp2_with fail;go_ret2;exact ⟨HR.o.2,ak ⟨hn,rfl⟩⟩
    ·have HC:Hid (_):=zza ⟨(r.take n.toNat).toArray⟩ w2;have HR2:Hid (iJ w2 b nt (r.drop n.toNat)/\fO (·=b) w w2):=⟨hR2.1,HR.o.2.trans hR2.2⟩
     clear H2 hR2;go_wp2_with fail;refine aA HC.o ?_;rintro e w3 ⟨rfl,hb3⟩;have HR3:Hid (iJ w3 b nt (r.drop n.toNat)/\fO (·=b) w w3):=⟨HR2.o.1.keep (hb3.block b HR2.o.1.lt),HR2.o.2.below hb3⟩
     clear hb3 HC;cases hlt:Px.letters (r.take n.toNat)
     ·have hn:r9 (n::r)=none:=by simp[r9,hlt]
      go_wp2_with fail;go_ret2;exact ⟨HR3.o.2,ak ⟨hn,rfl⟩⟩
     ·have hn:r9 (n::r)=some (⟨(r.take n.toNat).toArray⟩,r.drop n.toNat):=by
       have h3:¬ (n.toNat=0\/8 < n.toNat\/r.length < n.toNat):=by omega
       simp only[r9];rw[if_neg h3,if_pos hlt]
      have HK:Hid (_):=Sb ⟨(r.take n.toNat).toArray⟩ w3 (by rw[Zz];simp;omega)
      go_wp2_with fail;refine aA HK.o ?_;rintro e w4 ⟨rfl,hb4⟩;have HR4:Hid (iJ w4 b nt (r.drop n.toNat)/\fO (·=b) w w4):=⟨HR3.o.1.keep (hb4.block b HR3.o.1.lt),HR3.o.2.below hb4⟩
      clear hb4 HK;go_wp2_with fail;go_ret2;exact ⟨HR4.o.2,ah ⟨_,_,hn,rfl,HR4.o.1⟩⟩
variable {x:fq}
theorem ZA (h:r9 l=some (x,r)):jP (n+1) l=(jP n r).map fun p=>(x::p.1,p.2):=by
 rw[jP,h];simp only;cases jP n r with
 | none=>rfl
 | some p=>rfl
theorem ZB (h:r9 l=none):jP (n+1) l=none:=by rw[jP,h]
def KA (b nt B:Nat)(w:fu)(g:Option (List fq×List UInt8))(e:Ending)(w':fu):Prop :=
 fO (·=b) w w'/\((g=none/\e=.returned (.tuple #[.slice none 0 0,.bool false]))\/(∃ ws r v,g=some (ws,r)/\e=.returned (.tuple #[v,.bool true])/\iJ w' b nt r/\w'.ownsRow B 9 1 v ws.length (Mk.strCells ws)))
def vP (l:List UInt8):Option (List fq×List UInt8) :=
 match oH l with
 | none=>none
 | some (n,r)=>jP n r
theorem ZC (h:r9 l=some (x,r)):r.length < l.length:=by
 match l,h with
 | n::s,h =>
  simp only[r9] at h;split at h
  ·cases h
  ·split at h
   ·cases h;simp;omega
   ·cases h
theorem TR (h:oH l=some (n,r)):r.length < l.length:=by
 match l,h with
 | a::b::s,h =>
  simp only[oH] at h;cases h;simp;omega
theorem ya4 (b nt:Nat)(l:List UInt8)(w:fu)(h:iJ w b nt l)(hl:l.length<=1000000) :
  Calls prog 34 #[.pointer (some ⟨b,0,none⟩)] w (KA b nt w.heap.size w (vP l)):=by
 have HB:Hid (_):=NV b nt l w h hl;have hbz:=h.lt;obtain ⟨i0,hi,hz0,hz1,hz2⟩:=info_parts YK;have HL:Hid (l.length<=1000000):=hl;clear h hl;go_enter func34,ntmps34
 go_wp2_with fail;refine aA HB.o ?_;rintro e w1 (⟨hn,rfl,rfl⟩ | ⟨n,r,hn,hn16,rfl,hR,hT⟩)
 ·have hg:vP l=none:=by unfold vP;rw[hn]
  clear HB;go_wp2_with fail;go_ret2;exact ⟨fO.refl _ _,ak ⟨hg,rfl⟩⟩
 ·have hg:vP l=jP n r:=by unfold vP;rw[hn]
  have S0:Hid (iJ w1 b nt r/\fO (·=b) w w1/\r.length<=1000000):=⟨hR,hT,by have:=TR hn;have:=HL.o;omega⟩
  have HG:Hid (vP l=jP n r):=hg;clear HB hR hT hg;go_wp2_with fail;go_loopw [6,17] (fun v i wr=>∃ (j:Nat) (ws:List fq) (s:List UInt8),j<=n/\i=.int .i64 j/\Hid (fO (·=b) w wr/\iJ wr b nt s/\s.length<=1000000/\ws.length=j/\wr.ownsRow w.heap.size 9 1 v ws.length (Mk.strCells ws)/\jP n r=(jP (n - j) s).map fun p=>(ws++p.1,p.2))) (fun _ i _=>n - (intOf i).toNat)
  case atStart =>
   refine ⟨0,[],r,by omega,rfl,S0.o.2.1,S0.o.1,S0.o.2.2,rfl,aT _ _ _ _,?_⟩
   rw[Nat.sub_zero];cases jP n r with
   | none=>rfl
   | some p=>rfl
  case round =>
   obtain ⟨j,ws,s,hj,rfl,hr⟩:=hrel;by_cases hlt:j < n
   ·have hlt':(j:Int) < (n:Int):=by omega
    have HW:Hid (_):=ybt b nt s wr hr.o.2.1 hr.o.2.2.1;obtain ⟨va,vn,vc,rfl⟩:=jm hr.o.2.2.2.2.1;clear S0;go_wp2_with fail;refine aA HW.o ?_;rintro e w2 ⟨t2,⟨hw,rfl⟩ | ⟨x,s2,hw,rfl,r2⟩⟩
    ·have HF:Hid (fO (·=b) w w2/\vP l=none):=by
      refine ⟨hr.o.1.trans t2,?_⟩;rw[HG.o,hr.o.2.2.2.2.2,show n - j=(n - j - 1)+1 by omega,ZB hw]
      rfl
     clear t2 HW;go_wp2_with fail;go_ret2;exact ⟨HF.o.1,ak ⟨HF.o.2,rfl⟩⟩
    ·have oP:∀ k,(Value.slice va vn vc).ownBlock=some k->k≠b:=fun k hk=>by have:=(hr.o.2.2.2.2.1.lt k hk).1;omega
     have R2:Hid (fO (·=b) w w2/\iJ w2 b nt s2/\s2.length<=1000000/\w2.ownsRow w.heap.size 9 1 (.slice va vn vc) ws.length (Mk.strCells ws)/\jP n r=(jP (n - (j+1)) s2).map fun p=>(ws++[x]++p.1,p.2)):=by
      refine ⟨hr.o.1.trans t2,r2,by have:=ZC hw;have:=hr.o.2.2.1;omega,gZ hr.o.2.2.2.2.1 t2 oP,?_⟩
      rw[hr.o.2.2.2.2.2,show n - j=(n - (j+1))+1 by omega,ZA hw]
      cases jP (n - (j+1)) s2 with
      | none=>rfl
      | some p=>simp
     have hwl:ws.length=j:=hr.o.2.2.2.1;have hz2':w.heap.size<=w2.heap.size:=R2.o.1.size;have O1:Hid (∀ u∈[Value.string x],u.oneCell'=true):=by intro u hu;simp at hu;subst hu;rfl
     clear t2 r2 HW hr;go_wp2_with (first
      | (at_builtin;refine wpList_append_own_at _ rfl _ _ 77 rfl w.heap.size 9 i0 (.string ⟨#[]⟩) 1 16 underlying77 hi hz0 hz1 hz2 rfl (by decide) _ _ _ rfl (R2.o.2.2.2.1.alloc _) ⟨w2.heap.size,0,none⟩ 1 1 [.string x] rfl rfl ?c1 O1.o ?c3 ?c4 ?c5 ?_)
      | fail)
     case c1 =>
      intro j u hj;match j,hj with
      | 0,hj=>simp at hj;subst hj;simp[Addr.add]
     case c3=>unfold maxLen;omega
     case c4=>omega
     case c5=>simp;omega
     ·intro v4 w4 o4 g4 _ l4;have R4:Hid (fO (·=b) w w4/\iJ w4 b nt s2/\s2.length<=1000000/\(ws++[x]).length=j+1/\w4.ownsRow w.heap.size 9 1 v4 (ws++[x]).length (Mk.strCells (ws++[x]))/\jP n r=(jP (n - (j+1)) s2).map fun p=>(ws++[x]++p.1,p.2)):=by
       have hT:fO (fun k=>(Value.slice va vn vc).ownBlock=some k) w2 w4:=((fO.refl _ _).alloc _).grown g4 fun k hk=>ak hk
       have hb2:w4.heap[b]?=w2.heap[b]?:=hT.block b R2.o.2.1.lt fun h=>(oP b h) rfl
       refine ⟨⟨hT.os.trans R2.o.1.os,hT.tape.trans R2.o.1.tape,hT.output.trans R2.o.1.output,aP R2.o.1.size hT.size,fun k hk hn=>?_⟩,R2.o.2.1.keep hb2,R2.o.2.2.1,by simp[hwl],?_,R2.o.2.2.2.2⟩
       ·rw[hT.block k (by have:=R2.o.1.size;omega) fun h=>by have:=(R2.o.2.2.2.1.lt k h).1;omega]
        exact R2.o.1.block k hk hn
       ·have e1:Mk.strCells (ws++[x])=Mk.strCells ws++[.string x]:=by simp[Mk.strCells]
        rw[e1,ay,hwl];exact o4
      clear o4 g4 l4;go_wp2;exact ⟨⟨j+1,ws++[x],s2,by omega,by go_num,R4.o⟩,by simp[intOf];omega⟩
   ·obtain rfl:j=n:=by omega
    have hne:¬ ((j:Int) < (j:Int)):=by omega
    have HF:Hid (_):=hr.o;clear hr S0;go_wp2_with fail;go_ret2;refine ⟨HF.o.1,ah ⟨ws,s,_,?_,rfl,HF.o.2.1,HF.o.2.2.2.2.1⟩⟩;rw[HG.o,HF.o.2.2.2.2.2,eP,jP];simp
def xO (k:Nat):Nat->Nat->Nat->Nat->List UInt8->Option (Px.Ins×List UInt8)
 | 0,_,a,b,s=>some (⟨k,a,b⟩,s)
 | j+1,m,a,b,s =>
  match oH s with
  | none=>none
  | some (x,r)=>if m=0 then xO k j 1 x b r else xO k j (m+1) a x r
theorem yb5 {k:UInt8}(h:k.toNat < 20):sj (k::r)=xO k.toNat (iD k.toNat) 0 0 0 r:=by
 have hn:=Kw k.toNat;rw[sj,if_neg (by omega)]
 match hh:iD k.toNat,hn with
 | 0,_=>rfl
 | 1,_ =>
  rw[if_neg (by decide)]
  simp only[xO];cases oH r with
  | none=>rfl
  | some p=>rfl
 | 2,_ =>
  rw[if_neg (by decide)]
  simp only[xO];cases oH r with
  | none=>rfl
  | some p =>
   simp only[if_true];cases oH p.2 with
   | none=>rfl
   | some q=>rfl
theorem A8 {w1:fu}(h:fO (·=b) w w1)(x y z:fC):fO (·=b) w (((w1.setCell ⟨w.heap.size,0,none⟩ x).setCell ⟨w.heap.size,1,none⟩ y).setCell ⟨w.heap.size,2,none⟩ z) :=
 ((h.setCell (p:=⟨w.heap.size,0,none⟩) (ah (aj _)) x).setCell (p:=⟨w.heap.size,1,none⟩) (ah (aj _)) y).setCell (p:=⟨w.heap.size,2,none⟩) (ah (aj _)) z
structure wN (b nt bI:Nat)(w:fu)(n:UInt8)(r:List UInt8)(m a c:Nat)(s:List UInt8)(wr:fu):Prop where
 t:fO (·=b) w wr
 rr:iJ wr b nt s
 l:s.length<=1000000
 z:wr.heap[w.heap.size]?=some (.cells #[.int .i64 0,.int .i64 0,.int .i64 0] 90)
 i:wr.heap[bI]?=some (.cells #[.int .i64 (n.toNat:Int),.int .i64 (a:Int),.int .i64 (c:Int)] 90)
 e:sj (n::r)=xO n.toNat (iD n.toNat - m) m a c s
def TS (b nt:Nat)(w:fu)(g:Option (Px.Ins×List UInt8))(e:Ending)(w':fu):Prop :=
 fO (·=b) w w'/\((g=none/\e=.returned (.tuple #[.agg #[.int .i64 0,.int .i64 0,.int .i64 0],.bool false]))\/(∃ i r,g=some (i,r)/\e=.returned (.tuple #[.agg #[.int .i64 (i.k:Int),.int .i64 (i.a:Int),.int .i64 (i.b:Int)],.bool true])/\iJ w' b nt r))
theorem ycj (b nt:Nat)(l:List UInt8)(w:fu)(h:iJ w b nt l)(hl:l.length<=1000000) :
  Calls prog 35 #[.pointer (some ⟨b,0,none⟩)] w (TS b nt w (sj l)):=by
 have hbz:=h.lt;have HB:Hid (∀ o,Calls prog 90 #[.pointer (some ⟨b,0,none⟩),.int .i64 1] (w.alloc o) _):=fun o=>NT b nt 1 l (w.alloc o) (h.keep (aD _ _ _ hbz)) hl (by decide)
 clear h;go_enter func35,ntmps35
 go_wp2_with fail;refine aA (HB.o _) ?_;rintro e w1 (⟨hlt,rfl,rfl⟩ | ⟨hle,rfl,hR⟩)
 ·obtain rfl:l=[]:=dJ (by omega)
  go_wp2_with fail;exact bodyPost_ret (v:=.tuple #[.agg #[.int .i64 0,.int .i64 0,.int .i64 0],.bool false]) (by simp[results,results35,go_sem]) rfl ⟨(fO.refl _ _).alloc _,ak ⟨rfl,rfl⟩⟩
 ·obtain ⟨n,r,rfl⟩:∃ n r,l=n::r:=by
   match l,hle with
   | n::r,_=>exact ⟨n,r,rfl⟩
  have hrl:r.length<=1000000:=by simp at hl;omega
  have HR:Hid (iJ w1 b nt r/\fO (·=b) w w1/\w1.heap[w.heap.size]?=some (.cells #[.int .i64 0,.int .i64 0,.int .i64 0] 90)):=by
   refine ⟨hR.1,((fO.refl _ _).alloc _).trans hR.2,?_⟩;rw[hR.2.block w.heap.size (by simp) (by omega)]
   exact Lg.new1
  clear hR HB hl hle;have Kz:=n.toNat_lt;have g0:(⟨#[n]⟩:fq)[0]'(by show 0 < 1;decide)=n:=rfl
  obtain ⟨z0,z1,z2,zf⟩:=Mk.cells3 HR.o.2.2;have hwz:w.heap.size < w1.heap.size:=lt_of_block HR.o.2.2;by_cases h20:20<=n.toNat
  ·have t20:(20:Int)<=(n.toNat:Int):=by omega
   have hg:sj (n::r)=none:=by rw[sj,if_pos h20]
   go_wp2_with fail;exact bodyPost_ret (v:=.tuple #[.agg #[.int .i64 0,.int .i64 0,.int .i64 0],.bool false]) (by simp[results,results35,go_sem, *]) rfl ⟨A8 HR.o.2.1 _ _ _,ak ⟨hg,rfl⟩⟩
  ·have t20:¬ (20:Int)<=(n.toNat:Int):=by omega
   have HG:Hid (sj (n::r)=xO n.toNat (iD n.toNat) 0 0 0 r):=yb5 (by omega)
   obtain ⟨ta,I5⟩:=Zu nt n.toNat (by omega)
   have TC:Hid (∀ W,iJ W b nt r->W.cell? ⟨b,1+n.toNat * 4,none⟩=some (.slice ta (iD n.toNat) (iD n.toNat))):=fun W hW=>by
    unfold iJ at hW;simp only[World.cell?,hW];show (List.toArray _)[1+n.toNat * 4]?=_
    rw[dO,Nat.add_comm 1,aM,Nat.mul_comm];exact I5
   have tc:=TC.o (w1.alloc (.cells #[.int .i64 (n.toNat:Int),.int .i64 0,.int .i64 0] 90)) (HR.o.1.keep (aD _ _ _ HR.o.1.lt));have S0:Hid (wN b nt w1.heap.size w n r 0 0 0 r (w1.alloc (.cells #[.int .i64 (n.toNat:Int),.int .i64 0,.int .i64 0] 90)).drew) :=
    ⟨(HR.o.2.1.alloc _).drew,HR.o.1.keep (aD _ _ _ HR.o.1.lt),hrl,(aD _ _ _ hwz).trans HR.o.2.2,Lg.new1,HG.o⟩
   have hnd:=Kw n.toNat;have ZE:(n.toNat:Int) < 20:=by omega
   go_wp2_with fail;go_region
   go_wp2_with fail;generalize w1.heap.size=bI at *;have hbb:b≠bI:=by omega
   go_loopw [35] (fun i wr=>∃ (m a c:Nat) (s:List UInt8),m<=iD n.toNat/\i=.int .i64 m/\Hid (wN b nt bI w n r m a c s wr)) (fun i _=>iD n.toNat - (intOf i).toNat)
   case atStart=>exact ⟨0,0,0,r,by omega,rfl,S0.o⟩
   case round =>
    obtain ⟨m,a,c,s,hm,rfl,hr⟩:=hrel;have hbr:bI < wr.heap.size:=lt_of_block hr.o.i;by_cases hlt:m < iD n.toNat
    ·have hlt':(m:Int) < (iD n.toNat:Int):=by omega
     rcases (show m=0\/m=1 by omega) with rfl | rfl
     ·
      obtain ⟨f0,f1,f2,ff⟩:=Mk.cells3 hr.o.i;have HN:Hid (_):=NV b nt s wr hr.o.rr hr.o.l;go_wp2_with fail;refine aA HN.o ?_;rintro e w3 (⟨hx,rfl,rfl⟩ | ⟨x,s2,hx,hx16,rfl,Cj,mH⟩)
      ·obtain ⟨y0,y1,y2,yf⟩:=Mk.cells3 hr.o.z;have HF:Hid (sj (n::r)=none):=by
        unfold Hid;rw[hr.o.e,show iD n.toNat - 0=(iD n.toNat - 1)+1 by omega,xO,hx]
       have ZF:bI≠w.heap.size:=by omega
       clear HN S0;go_wp2_with fail;exact bodyPost_ret (v:=.tuple #[.agg #[.int .i64 0,.int .i64 0,.int .i64 0],.bool false]) (by simp[results,results35,go_sem, *]) rfl ⟨A8 (hr.o.t.setCell (p:=⟨bI,1,none⟩) (ah (by show w.heap.size<=bI;omega)) _) _ _ _,ak ⟨HF.o,rfl⟩⟩
      ·have I3:Hid (wN b nt bI w n r 0 a c s2 w3\/True):=ah trivial;have hi3:w3.heap[bI]?=some (.cells #[.int .i64 (n.toNat:Int),.int .i64 (a:Int),.int .i64 (c:Int)] 90):=by rw[mH.block bI hbr (by omega)];exact hr.o.i
       have hz3:w3.heap[w.heap.size]?=some (.cells #[.int .i64 0,.int .i64 0,.int .i64 0] 90):=by rw[mH.block w.heap.size (by omega) (by omega)];exact hr.o.z
       obtain ⟨y0,y1,y2,yf⟩:=Mk.cells3 hi3;have L3:Hid (wN b nt bI w n r 1 x c s2 (w3.setCell ⟨bI,1,none⟩ (.int .i64 (x:Int)))):=by
        refine ⟨(hr.o.t.trans mH).setCell (p:=⟨bI,1,none⟩) (ah (by show w.heap.size<=bI;omega)) _,Cj.keep (jr _ (by omega)),by have:=TR hx;have:=hr.o.l;omega,(jr _ (by omega)).trans hz3,?_,?_⟩
        ·rw[Ref.heap_set _ hi3];rfl
        ·rw[hr.o.e,show iD n.toNat - 0=(iD n.toNat - 1)+1 by omega,xO,hx]
         rfl
       clear HN S0 Cj mH hi3 hz3 I3;go_wp2;exact ⟨⟨1,x,c,s2,by omega,by go_num,L3.o⟩,by simp[intOf];omega⟩
     ·
      obtain ⟨f0,f1,f2,ff⟩:=Mk.cells3 hr.o.i;have HN:Hid (_):=NV b nt s wr hr.o.rr hr.o.l;go_wp2_with fail;refine aA HN.o ?_;rintro e w3 (⟨hx,rfl,rfl⟩ | ⟨x,s2,hx,hx16,rfl,Cj,mH⟩)
      ·obtain ⟨y0,y1,y2,yf⟩:=Mk.cells3 hr.o.z;have HF:Hid (sj (n::r)=none):=by
        unfold Hid;rw[hr.o.e,show iD n.toNat - 1=(iD n.toNat - 2)+1 by omega,xO,hx]
       have ZF:bI≠w.heap.size:=by omega
       clear HN S0;go_wp2_with fail;exact bodyPost_ret (v:=.tuple #[.agg #[.int .i64 0,.int .i64 0,.int .i64 0],.bool false]) (by simp[results,results35,go_sem, *]) rfl ⟨A8 (hr.o.t.setCell (p:=⟨bI,2,none⟩) (ah (by show w.heap.size<=bI;omega)) _) _ _ _,ak ⟨HF.o,rfl⟩⟩
      ·have I3:Hid (wN b nt bI w n r 1 a c s2 w3\/True):=ah trivial;have hi3:w3.heap[bI]?=some (.cells #[.int .i64 (n.toNat:Int),.int .i64 (a:Int),.int .i64 (c:Int)] 90):=by rw[mH.block bI hbr (by omega)];exact hr.o.i
       have hz3:w3.heap[w.heap.size]?=some (.cells #[.int .i64 0,.int .i64 0,.int .i64 0] 90):=by rw[mH.block w.heap.size (by omega) (by omega)];exact hr.o.z
       obtain ⟨y0,y1,y2,yf⟩:=Mk.cells3 hi3;have L3:Hid (wN b nt bI w n r 2 a x s2 (w3.setCell ⟨bI,2,none⟩ (.int .i64 (x:Int)))):=by
        refine ⟨(hr.o.t.trans mH).setCell (p:=⟨bI,2,none⟩) (ah (by show w.heap.size<=bI;omega)) _,Cj.keep (jr _ (by omega)),by have:=TR hx;have:=hr.o.l;omega,(jr _ (by omega)).trans hz3,?_,?_⟩
        ·rw[Ref.heap_set _ hi3];rfl
        ·rw[hr.o.e,show iD n.toNat - 1=(iD n.toNat - 2)+1 by omega,xO,hx]
         rfl
       clear HN S0 Cj mH hi3 hz3 I3;go_wp2;exact ⟨⟨2,a,x,s2,by omega,by go_num,L3.o⟩,by simp[intOf];omega⟩
    ·obtain rfl:m=iD n.toNat:=by omega
     have hne:¬ ((iD n.toNat:Int) < (iD n.toNat:Int)):=by omega
     obtain ⟨f0,f1,f2,ff⟩:=Mk.cells3 hr.o.i;obtain ⟨y0,y1,y2,yf⟩:=Mk.cells3 hr.o.z;have ZF:w.heap.size≠bI:=by omega
     have HF:Hid (sj (n::r)=some (⟨n.toNat,a,c⟩,s)):=by
      unfold Hid;rw[hr.o.e,eP,xO]
     clear S0;go_wp2_with fail;exact bodyPost_ret (v:=.tuple #[.agg #[.int .i64 (n.toNat:Int),.int .i64 (a:Int),.int .i64 (c:Int)],.bool true]) (by simp[results,results35,go_sem, *]) rfl ⟨A8 hr.o.t _ _ _,ah ⟨_,s,HF.o,rfl,hr.o.rr.keep (((jr _ (by omega)).trans (jr _ (by omega))).trans (jr _ (by omega)))⟩⟩
theorem yb2:∀ (n:Nat) {r r':List UInt8} {ws:List fq},jP n r=some (ws,r')->ws.length=n/\r'.length<=r.length:=by
 intro n;induction n with
 | zero =>
  intro r r' ws h;simp only[jP,Option.some.injEq,Prod.mk.injEq] at h;obtain ⟨rfl,rfl⟩:=h;exact ⟨rfl,aj _⟩
 | succ n ih =>
  intro r r' ws h;cases hw:r9 r with
  | none=>rw[ZB hw] at h;cases h
  | some p =>
   obtain ⟨x,r1⟩:=p;rw[ZA hw] at h;cases h1:jP n r1 with
   | none=>rw[h1] at h;cases h
   | some q =>
    obtain ⟨sI,r2⟩:=q;rw[h1] at h;simp only[Option.map_some,Option.some.injEq,Prod.mk.injEq] at h;obtain ⟨rfl,rfl⟩:=h;obtain ⟨e1,e2⟩:=ih h1
    have:=ZC hw
    exact ⟨by simp[e1],by omega⟩
variable {ws:List fq}
theorem ycf {r':List UInt8}(h:vP r=some (ws,r')):ws.length < 65536/\r'.length<=r.length:=by
 unfold vP at h;cases h2:oH r with
 | none=>rw[h2] at h;cases h
 | some p =>
  obtain ⟨n,r1⟩:=p;rw[h2] at h;obtain ⟨e1,e2⟩:=yb2 n h;obtain ⟨e3,e4⟩:=NS h2;exact ⟨by omega,by omega⟩
theorem yat (h:65536 < c.length):Px.good c=none:=by unfold Px.good;rw[if_pos h]
theorem KC (h:¬ 65536 < c.length):Px.good c=(vC c).bind fun P=>if lF P=true then some P else none:=by unfold Px.good;rw[if_neg h]
theorem yav (h:¬ 65536 < c.length)(h1:¬ c.take lN.length=lN):Px.good c=none:=by
 have e:vC c=none:=by unfold vC;exact if_neg h1
 rw[KC h,e];rfl
theorem ybk (h:¬ 65536 < c.length)(h1:c.take lN.length=lN)(h2:oH (c.drop lN.length)=none):Px.good c=none:=by
 have h1':c.take 9=lN:=h1;have h2':oH (c.drop 9)=none:=h2;have e:vC c=none:=by unfold vC;rw[if_pos h1',h2']
 rw[KC h,e];rfl
theorem TU (h1:c.take lN.length=lN)(h2:oH (c.drop lN.length)=some (nv,r1)):vC c=(match vP r1 with
  | none=>none
  | some (ws,r3)=>(match jH r3.length r3 with
   | none=>none
   | some l=>some ⟨ws,nv,l⟩)):=by
 have h1':c.take 9=lN:=h1;have h2':oH (c.drop 9)=some (nv,r1):=h2;unfold vC;rw[if_pos h1',h2'];unfold vP;simp only;cases h3:oH r1 with
 | none=>simp only
 | some p =>
  simp only;cases jP p.1 p.2 with
  | none=>rfl
  | some q =>
   obtain ⟨ws,r3⟩:=q;simp only;cases jH r3.length r3<;>rfl
theorem zz7 (h:¬ 65536 < c.length)(h1:c.take lN.length=lN)(h2:oH (c.drop lN.length)=some (nv,r1))(h3:vP r1=none):Px.good c=none:=by
 have e:vC c=none:=by rw[TU h1 h2,h3]
 rw[KC h,e];rfl
theorem yau (h:¬ 65536 < c.length)(h1:c.take lN.length=lN)(h2:oH (c.drop lN.length)=some (nv,r1))(h3:vP r1=some (ws,r3))(h4:jH r3.length r3=none):Px.good c=none:=by
 have e:vC c=none:=by
  rw[TU h1 h2,h3];simp only;rw[h4]
 rw[KC h,e];rfl
theorem ybj {l:List Px.Ins}(h:¬ 65536 < c.length)(h1:c.take lN.length=lN)(h2:oH (c.drop lN.length)=some (nv,r1))(h3:vP r1=some (ws,r3))(h4:jH r3.length r3=some l):Px.good c=if lF ⟨ws,nv,l⟩=true then some ⟨ws,nv,l⟩ else none:=by
 have e:vC c=some ⟨ws,nv,l⟩:=by
  rw[TU h1 h2,h3];simp only;rw[h4]
 rw[KC h,e];rfl
structure Rdy (P:Pg):Prop where
 ver:lF P=true
 ok:∀ i∈P.ins,ni i
 li:P.ins.length<=65536
 lw:P.fT.length < 65536
 nv:P.nv < 65536
theorem ZG (l:List UInt8)(n m:Nat):(⟨l.toArray⟩:fq).extract n m=⟨((l.drop n).take (m - n)).toArray⟩:=by
 apply ByteArray.ext
 simp[ByteArray.data_extract,List.extract_eq_take_drop]
theorem Gg (l:List UInt8):(⟨l.toArray⟩:fq).size=l.length:=by
 show l.toArray.size=_
 simp
theorem ybi (l p:List UInt8)(w:fu)(_hl:l.length<=1000000)(_hp:p.length<=1000) :
  Calls prog 129 #[.string ⟨l.toArray⟩,.string ⟨p.toArray⟩] w fun e w'=>e=.returned (.bool (decide (l.take p.length=p)))/\w'=w:=by
 have e1:=Gg l;have e2:=Gg p;have e3:(⟨l.toArray⟩:fq).extract 0 p.length=⟨(l.take p.length).toArray⟩:=by rw[ZG];rfl
 by_cases hlt:p.length<=l.length
 ·have hi:(p.length:Int)<=(l.length:Int):=by omega
  by_cases he:l.take p.length=p
  ·have hd:decide (l.take p.length=p)=true:=decide_eq_true he;rw[hd];rw[he] at e3;clear hd he;generalize (⟨l.toArray⟩:fq)=S at *;generalize (⟨p.toArray⟩:fq)=Q at *;have hi2:(Q.size:Int)<=(S.size:Int):=by omega
   go_enter func129,ntmps129
   go_wp2_with fail;go_ret;exact ⟨rfl,rfl⟩
  ·have hd:decide (l.take p.length=p)=false:=decide_eq_false he;rw[hd];have hne:((⟨(l.take p.length).toArray⟩:fq).toList == (⟨p.toArray⟩:fq).toList)=false:=by
    rw[beq_eq_false_iff_ne];intro h;rw[aN,aN] at h;exact he h
   clear hd he;generalize (⟨(l.take p.length).toArray⟩:fq)=X at *;generalize (⟨l.toArray⟩:fq)=S at *;generalize (⟨p.toArray⟩:fq)=Q at *;have hi2:(Q.size:Int)<=(S.size:Int):=by omega
   go_enter func129,ntmps129
   go_wp2_with fail;go_ret;exact ⟨rfl,rfl⟩
 ·have hd:decide (l.take p.length=p)=false:=decide_eq_false fun h=>hlt (by have:=congrArg List.length h;rw[bU] at this;omega)
  rw[hd];clear hd e3;generalize (⟨l.toArray⟩:fq)=S at *;generalize (⟨p.toArray⟩:fq)=Q at *;have hi:¬ ((Q.size:Int)<=(S.size:Int)):=by omega
  go_enter func129,ntmps129
  go_wp2_with fail;go_ret;exact ⟨rfl,rfl⟩
def cutV (l p:List UInt8):fC:=if l.take p.length=p then .tuple #[.string ⟨(l.drop p.length).toArray⟩,.bool true] else .tuple #[.string ⟨l.toArray⟩,.bool false]
theorem ybp (l p:List UInt8)(w:fu)(hl:l.length<=1000000)(hp:p.length<=1000) :
  Calls prog 89 #[.string ⟨l.toArray⟩,.string ⟨p.toArray⟩] w fun e w'=>e=.returned (cutV l p)/\w'=w:=by
 have HP:Hid (_):=ybi l p w hl hp;have e1:=Gg l;have e2:=Gg p;have e3:(⟨l.toArray⟩:fq).extract p.length l.length=⟨(l.drop p.length).toArray⟩:=by rw[ZG,eU (by simp)]
 by_cases he:l.take p.length=p
 ·have hd:decide (l.take p.length=p)=true:=decide_eq_true he;have hlt:p.length<=l.length:=by have:=congrArg List.length he;rw[bU] at this;omega
  have hc:cutV l p=.tuple #[.string ⟨(l.drop p.length).toArray⟩,.bool true]:=if_pos he;rw[hc];rw[hd] at HP;clear hd he hc;generalize (⟨(l.drop p.length).toArray⟩:fq)=X at *;generalize (⟨l.toArray⟩:fq)=S at *;generalize (⟨p.toArray⟩:fq)=Q at *;have hi2:(Q.size:Int)<=(S.size:Int):=by omega
  go_enter func89,ntmps89
  go_wp2_with fail;refine aA HP.o ?_;rintro e w1 ⟨rfl,rfl⟩;go_wp2_with fail;go_ret2;exact ⟨rfl,rfl⟩
 ·have hd:decide (l.take p.length=p)=false:=decide_eq_false he;have hc:cutV l p=.tuple #[.string ⟨l.toArray⟩,.bool false]:=if_neg he;rw[hc];rw[hd] at HP;clear hd he hc e3;generalize (⟨l.toArray⟩:fq)=S at *;generalize (⟨p.toArray⟩:fq)=Q at *;go_enter func89,ntmps89
  go_wp2_with fail;refine aA HP.o ?_;rintro e w1 ⟨rfl,rfl⟩;go_wp2_with fail;go_ret2;exact ⟨rfl,rfl⟩
theorem SX (l p:List UInt8)(w:fu)(hl:l.length<=1000000)(hp:p.length<=1000) :
  Calls prog 32 #[.string ⟨l.toArray⟩,.string ⟨p.toArray⟩] w fun e w'=>e=.returned (cutV l p)/\w'=w:=by
 have HP:Hid (_):=ybp l p w hl hp;by_cases he:l.take p.length=p
 ·have hc:cutV l p=.tuple #[.string ⟨(l.drop p.length).toArray⟩,.bool true]:=if_pos he;rw[hc] at HP |-;generalize (⟨(l.drop p.length).toArray⟩:fq)=X at *;generalize (⟨l.toArray⟩:fq)=S at *;generalize (⟨p.toArray⟩:fq)=Q at *;go_enter func32,ntmps32
  go_wp2_with fail;refine aA HP.o ?_;rintro e w1 ⟨rfl,rfl⟩;go_wp2_with fail;go_ret2;exact ⟨rfl,rfl⟩
 ·have hc:cutV l p=.tuple #[.string ⟨l.toArray⟩,.bool false]:=if_neg he;rw[hc] at HP |-;generalize (⟨l.toArray⟩:fq)=S at *;generalize (⟨p.toArray⟩:fq)=Q at *;go_enter func32,ntmps32
  go_wp2_with fail;refine aA HP.o ?_;rintro e w1 ⟨rfl,rfl⟩;go_wp2_with fail;go_ret2;exact ⟨rfl,rfl⟩
def KD (P:Pg)(w:fu)(e:Ending)(w':fu):Prop :=
 fO (fun _=>False) w w'/\((lF P=true/\e=.returned .nilIface)\/(lF P=false/\∃ f,e=.returned (.iface 101 (.pointer (some ⟨f,0,none⟩)))))
variable {T:Array fC}
theorem ZH (hT:T.size=80)(cs:Array fC):(Array.foldl (fun (cs:Array fC) (x:fC×Nat)=>cs.setIfInBounds (1+x.2) x.1) cs T.zipIdx 0 80).size=cs.size:=by
 have hz:T.zipIdx.size=80:=by simp[hT]
 have h:(Array.foldl (fun (cs:Array fC) (x:fC×Nat)=>cs.setIfInBounds (1+x.2) x.1) cs T.zipIdx 0 T.zipIdx.size).size=cs.size:=by
  refine Array.foldl_induction (motive:=fun _ (b:Array fC)=>b.size=cs.size) rfl ?_
  intro i b hb
  simpa using hb
 rw[hz] at h;exact h
structure qI (w0:fu)(br bp nt nv:Nat)(ws:List fq)(L:List Px.Ins)(s:List UInt8)(vw vl:fC)(wr:fu):Prop where
 b:Below w0.heap.size w0 wr
 rr:iJ wr br nt s
 pg:wr.heap[bp]?=some (.cells #[vw,.int .i64 (nv:Int),.slice none 0 0,vl] 80)
 r0:w0.heap.size<=br
 p0:w0.heap.size<=bp
 ne:br≠bp
 w:wr.ownsRow w0.heap.size 9 1 vw ws.length (Mk.strCells ws)
 l:wr.ownsRow w0.heap.size 90 3 vl L.length (qO L)
theorem pq {k:Nat}{a b c d:fC}{t:TypeId}(hh:w.heap[k]?=some (.cells #[a,b,c,d] t)) :
  w.cell? ⟨k,0,none⟩=some a/\w.cell? ⟨k,1,none⟩=some b/\w.cell? ⟨k,2,none⟩=some c/\w.cell? ⟨k,3,none⟩=some d/\(∀ o,w.frozen? ⟨k,o,none⟩=false)/\k < w.heap.size:=by
 refine ⟨?_,?_,?_,?_,?_,lt_of_block hh⟩<;>simp[World.cell?,World.frozen?,hh]
variable {L:List Px.Ins}{vl vw:fC}
theorem qI.wb (h:qI w0 br bp nt nv ws L s vw vl wr):vw.ownBlock≠some br/\vw.ownBlock≠some bp:=⟨yR h.w h.rr (by decide),yR h.w h.pg (by decide)⟩
theorem qI.lb (h:qI w0 br bp nt nv ws L s vw vl wr):vl.ownBlock≠some br/\vl.ownBlock≠some bp:=⟨yR h.l h.rr (by decide),yR h.l h.pg (by decide)⟩
theorem yb6 {B e1 z1 n1 e2 z2 n2:Nat}{v1 v2:fC}{c1 c2:List fC}(h1:w.ownsRow B e1 z1 v1 n1 c1)(h2:w.ownsRow B e2 z2 v2 n2 c2)(hne:e1≠e2)(hb:v1.ownBlock=some b):v2.ownBlock≠some b:=by
 rcases h1.2 with ⟨rfl,_⟩ | ⟨g,cap,cur,rfl,_,hh,_⟩
 ·cases hb
 ·cases hb;exact yR h2 hh hne
theorem qI.read {s':List UInt8}(h:qI w0 br bp nt nv ws L s vw vl wr)(t:fO (·=br) wr w')(hr:iJ w' br nt s'):qI w0 br bp nt nv ws L s' vw vl w':=by
 have hb:=t.mY h.b.size (fun k e=>by subst e;exact h.r0)
 exact ⟨h.b.trans hb,hr,(t.block bp (lt_of_block h.pg) h.ne.symm).trans h.pg,h.r0,h.p0,h.ne,gZ h.w t (fun k hk e=>by subst e;exact h.wb.1 hk),gZ h.l t (fun k hk e=>by subst e;exact h.lb.1 hk)⟩
theorem qI.broke (h:qI w0 br bp nt nv ws L s vw vl wr)(t:fO (·=br) wr w'):Below w0.heap.size w0 w'/\w'.heap[bp]?=some (.cells #[vw,.int .i64 (nv:Int),.slice none 0 0,vl] 80) :=
 ⟨h.b.trans (t.mY h.b.size (fun k e=>by subst e;exact h.r0)),(t.block bp (lt_of_block h.pg) h.ne.symm).trans h.pg⟩
theorem qI.gI (h:qI w0 br bp nt nv ws L s vw vl wr)(n:Nat):qI w0 br bp nt n ws L s vw vl (wr.setCell ⟨bp,1,none⟩ (.int .i64 (n:Int))):=by
 refine ⟨h.b.setCell (p:=⟨bp,1,none⟩) h.p0 _,h.rr.keep (jr _ h.ne),?_,h.r0,h.p0,h.ne,ownsRow_setCell_other h.w (a:=⟨bp,1,none⟩) h.wb.2 _,ownsRow_setCell_other h.l (a:=⟨bp,1,none⟩) h.lb.2 _⟩;rw[Ref.heap_set _ h.pg];rfl
theorem qI.setW {ws':List fq}{JK:fC}(h:qI w0 br bp nt nv ws L s vw vl wr)(hw:wr.ownsRow w0.heap.size 9 1 JK ws'.length (Mk.strCells ws')):qI w0 br bp nt nv ws' L s JK vl (wr.setCell ⟨bp,0,none⟩ JK):=by
 refine ⟨h.b.setCell (p:=⟨bp,0,none⟩) h.p0 _,h.rr.keep (jr _ h.ne),?_,h.r0,h.p0,h.ne,ownsRow_setCell_other hw (a:=⟨bp,0,none⟩) (yR hw h.pg (by decide)) _,ownsRow_setCell_other h.l (a:=⟨bp,0,none⟩) h.lb.2 _⟩
 rw[Ref.heap_set _ h.pg];rfl
theorem qI.jG (h:qI w0 br bp nt nv ws L s vw vl wr)(t:fO (fun _=>False) wr w'):qI w0 br bp nt nv ws L s vw vl w' :=
 h.read (t.mono fun _ _ h=>h.elim) (h.rr.keep (t.block br h.rr.lt fun h=>h))
theorem qI.put {W:fu}(h:qI w0 br bp nt nv ws L s vw vl wr)(i:Px.Ins)(hW:fO (fun _=>False) wr W) :
  ∀ v' w3,w3.ownsRow w0.heap.size 90 3 v' (L.length+1) (qO L++[.int .i64 (i.k:Int),.int .i64 (i.a:Int),.int .i64 (i.b:Int)])->W.grownBy w3 vl.ownBlock ->
   ∃ a1 n1 c1,v'=.slice a1 n1 c1/\w3.heap[bp]?=some (.cells #[vw,.int .i64 (nv:Int),.slice none 0 0,vl] 80)/\Hid (qI w0 br bp nt nv ws (L++[i]) s vw v' (w3.setCell ⟨bp,3,none⟩ v')):=by
 intro v' w3 hown hg;obtain ⟨a1,n1,c1,rfl⟩:=jm hown;have h1:=h.jG hW;have hT:fO (fun k=>vl.ownBlock=some k) W w3:=(fO.refl _ W).grown hg fun k hk=>ak hk
 have hp3:w3.heap[bp]?=some (.cells #[vw,.int .i64 (nv:Int),.slice none 0 0,vl] 80):=(hT.block bp (lt_of_block h1.pg) h1.lb.2).trans h1.pg;have hb:Below w0.heap.size w0 w3:=h1.b.trans (hT.mY h1.b.size fun k hk=>(h1.l.lt k hk).1)
 have hw3:w3.ownsRow w0.heap.size 9 1 vw ws.length (Mk.strCells ws):=gZ h1.w hT (fun k hk e=>yb6 h1.w h1.l (by decide) hk e)
 refine ⟨a1,n1,c1,rfl,hp3,hb.setCell (p:=⟨bp,3,none⟩) h.p0 _,(h1.rr.keep (hT.block br h1.rr.lt h1.lb.1)).keep (jr _ h.ne),?_,h.r0,h.p0,h.ne,ownsRow_setCell_other hw3 (a:=⟨bp,3,none⟩) (yR hw3 hp3 (by decide)) _,?_⟩
 ·rw[Ref.heap_set _ hp3];rfl
 ·rw[ay,YL];exact ownsRow_setCell_other hown (a:=⟨bp,3,none⟩) (yR hown hp3 (by decide)) _
theorem zz4 (m:Nat)(v:fC):Array.foldl (fun (cs:Array fC) (x:fC×Nat)=>cs.setIfInBounds (1+x.2) x.1) (zeroCells108.setIfInBounds 0 v) (iQ m).toArray.zipIdx 0 80=(v::iQ m).toArray:=by kernel_rfl
theorem yag {w2:fu}{R:List UInt8}(h:T=(iQ nt).toArray/\fO (fun _=>False) w0 w2) :
  qI w0 w2.heap.size (w2.heap.size+1) nt 0 [] [] R (.slice none 0 0) (.slice none 0 0) ((w2.alloc (.cells (Array.foldl (fun (cs:Array fC) (x:fC×Nat)=>cs.setIfInBounds (1+x.2) x.1) (zeroCells108.setIfInBounds 0 (.string ⟨R.toArray⟩)) T.zipIdx 0 80) 108)).alloc (.cells #[.slice none 0 0,.int .i64 0,.slice none 0 0,.slice none 0 0] 80)):=by
 obtain ⟨rfl,hT⟩:=h;rw[zz4];have hz:=hT.size;refine ⟨((hT.alloc _).alloc _).mY (aj _) (fun _ h=>h.elim),?_,Lg.new2,hz,by omega,by omega,aT _ _ _ _,aT _ _ _ _⟩
 exact (((fO.refl (fun _=>False) (w2.alloc _)).alloc _).block w2.heap.size (by simp) fun h=>h).trans Lg.new1
