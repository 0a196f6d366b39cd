import Derived.Test.YtokkhhekekeokaaGreatDoorH39
import Derived.Test.YtokkhhekekeokaaGreatDoorH35
import Derived.Lib.ConvBytes
set_option maxRecDepth 100000
set_option maxHeartbeats 4000000
namespace Go.Proofs.YtokkhhekekeokaaGreatDoor
open Go.RowKit
namespace Lw
theorem yba {s:ByteArray} {r:Nat×Nat} (h:Px.read s=.error r):r.1≠0:=by
 unfold Px.read at h;split at h
 ·cases h;dsimp only;omega
 ·split at h
  ·cases h;dsimp only;omega
  ·split at h
   ·cases h;dsimp only;omega
   ·cases h
theorem qrx {s:ByteArray} (h:(Px.check s).1=0):Px.check s=(0,0):=by
 cases hr:Px.read s with
 | error r=>rw[Px.qf4 hr] at h;exact absurd h (yba hr)
 | ok l =>
  unfold Px.check at h ⊢;rw[hr] at h ⊢;dsimp only at h ⊢;split at h
  ·rename_i hh;rw[if_pos hh]
  ·rename_i hh;exact absurd h hh
theorem yaw {s:ByteArray} {l:List Px.Sm} (hr:Px.read s=.ok l):Px.good (Px.codeOf (Px.pgOf l))=some (Px.pgOf l):=by
 unfold Px.good;rw[if_neg (by have:=Px.zy8 hr;omega),Px.zx0 hr]
 exact if_pos (Px.zm5 l)
theorem zzm {s:ByteArray} {l:List Px.Sm} (hr:Px.read s=.ok l) (h:Px.check s=(0,0)) (a:List Int):Ed.zys (Px.codeOf (Px.pgOf l)) a=(0,(Px.run s a).2.1,(Px.run s a).1):=by
 obtain ⟨h1,h2,h3⟩:=Ed.zm8 hr h a;unfold Ed.zys;rw[yaw hr];dsimp only;rw[if_neg (by omega),h1,h2]
def upS:ByteArray:=⟨#[99,97,108,108,32,97,40,41,59]⟩
def upX:Px.Sm:=⟨99,⟨#[97]⟩,0,none,Px.nowt,0,Px.nowt,1,0,[],[]⟩
theorem up_x:∃ x:Px.Sm,Px.read upS=.ok [x]∧x.op=99∧x.word=⟨#[97]⟩∧x.ex=none∧x.asw=Px.nowt∧x.undo=Px.nowt∧x.n=1 :=
 ⟨(match Px.read upS with
  | .ok [x]=>x
  | _=>upX),by kernel_rfl,by kernel_rfl,by kernel_rfl,by kernel_rfl,by kernel_rfl,by kernel_rfl,by kernel_rfl⟩
theorem ybw {x:Px.Sm} (h1:x.op=99) (h3:x.ex=none) (h4:x.asw=Px.nowt) (h6:x.n=1):Px.qap [x] ⟨[],0,0⟩=⟨[],0,0⟩:=by
 rw[Px.qdi,Px.qhu];unfold Px.qcc;rw[if_neg (by rw[h1];decide),if_pos (by rw[h1])]
 have e1:x.asw.toList.isEmpty=true:=by rw[h4,ByteArray.toList_eq];rfl
 have e2:¬ (x.n < 1∨5 < x.n):=by rw[h6];decide
 dsimp only;rw[if_neg e2,if_pos e1,h3];rfl
theorem zz9:Px.check upS=(0,0)∧(Px.run upS []).2.1=0∧(Px.run upS []).1.length=1:=by
 obtain ⟨x,hr,h1,h2,h3,h4,h5,h6⟩:=up_x;have hl:=ybw h1 h3 h4 h6;have hc:Px.check upS=(0,0):=by
  unfold Px.check;rw[hr];simp only;rw[hl];rfl
 have e:Px.run upS []=((Px.play [] [x] []).asks,(Px.play [] [x] []).over,0,0):=by
  rw[Ed.qpa hr hc,hl]
 have r:Px.runX [] x ⟨List.replicate ([]:Px.Vs).length 0,[],[],[[]],0,false,false⟩=⟨[],[],[⟨⟨#[97]⟩,0,1,false⟩],[[]],0,true,false⟩:=by
  obtain ⟨op,word,pl,ex,asw,asPl,undo,n,nPl,one,two⟩:=x;dsimp only at h1 h2 h3 h4 h5 h6;subst h1 h2 h3 h4 h5 h6;rfl
 have g:(⟨List.replicate ([]:Px.Vs).length 0,[],[],[[]],0,false,false⟩:Px.Rs).going=true:=rfl;refine ⟨hc,?_,?_⟩
 ·rw[e];unfold Px.play;rw[Px.qci,Px.qdy,g,if_pos rfl,r];rfl
 ·rw[e];unfold Px.play;rw[Px.qci,Px.qdy,g,if_pos rfl,r];rfl
theorem zze:Px.check upS=(0,0):=zz9.1
theorem ybx:∃ c,Ed.zy2 upS=⟨c.toArray⟩∧c.length≤65536∧(Ed.zys c []).1=0∧(Ed.zys c []).2.1=0∧(Ed.zys c []).2.2.length=1:=by
 obtain ⟨l,hr,hc⟩:=Ed.ya1 zze;have e:=zzm hr zze [];refine ⟨_,hc,Px.zy8 hr,?_,?_,?_⟩
 ·rw[e]
 ·rw[e];exact zz9.2.1
 ·rw[e];exact zz9.2.2
theorem zzx (c:List UInt8) (a:List Int):(Ed.zys c a).1=0∨Ed.zys c a=(7,0,[]):=by
 unfold Ed.zys;cases Px.good c with
 | none=>exact Or.inr rfl
 | some P=>exact Or.inl rfl
open Go.RowKit
theorem qoc {w:World} {B:Nat} {v:Value} {l:List Int} (h:w.ownsRow B 3 1 v l.length (Ref.intCells l)):Rn.GivenAt w v l:=by
 obtain ⟨ad,cap,rfl,hc⟩:=qe2 h;refine ⟨ad,cap,rfl,hc,fun i hi=>?_,fun q hq=>?_⟩
 ·obtain ⟨g,cap',e,_,_,_,h1⟩:=qi9 h (by omega)
  cases e;refine ⟨g,0,rfl,?_⟩;rw[Nat.zero_add];exact h1 i _ (by simp[Ref.intCells,hi])
 ·subst hq;exact (h.lt _ rfl).2
theorem qdl (e:Int) (w:World):Calls Tryz.prog 7 #[.int .i64 e] w fun r w'=>r=.returned (.int .i64 e)∧w'=w:=by
 go_enter Tryz.func7,Tryz.ntmps7
 go_wp2_with fail;go_ret;exact ⟨rfl,rfl⟩
open Go.RowKit
theorem zz8 (c:ByteArray):∃ cl:List UInt8,c=⟨cl.toArray⟩∧c.size=cl.length:=⟨c.data.toList,by cases c;simp,by simp⟩
theorem yax (w:World):Rn.GivenAt w (.slice none 0 0) []:=⟨none,0,rfl,Nat.le_refl _,fun i hi=>absurd hi (Nat.not_lt_zero _),fun q hq=>by cases hq⟩
theorem ya9 (w:World) (e:TypeId) (c:List UInt8):(∀ q (hq:q < c.length),(Lib.bytesWorld w e ⟨c.toArray⟩).cell? ⟨w.heap.size,q,none⟩=some (.int .u8 (c[q].toNat:Int))∧(Lib.bytesWorld w e ⟨c.toArray⟩).frozen? ⟨w.heap.size,q,none⟩=false)∧(Lib.bytesWorld w e ⟨c.toArray⟩).heap.size=w.heap.size+1∧Below w.heap.size w (Lib.bytesWorld w e ⟨c.toArray⟩):=by
 refine ⟨fun q hq=>⟨?_,?_⟩,Lib.bytesWorld_size w e _,rfl,rfl,rfl,by rw[Lib.bytesWorld_size];omega,fun k hk=>Lib.bytesWorld_at_old w e _ k hk⟩
 ·rw[Lib.bytesWorld_cell w e ⟨c.toArray⟩ q (by rw[Cd.zyu];exact hq)]
  simp[hq]
 ·have hs:q < (Lib.bytesCells w e ⟨c.toArray⟩).size:=by
   unfold Lib.bytesCells;simp;omega
  simp only[World.frozen?,Lib.bytesWorld_at_new];simp;omega
theorem yci (p:Int) (n:Nat) (_hp:Px.R64 p) (hn:0 < n) (hl:n≤65536):(∃ q:Nat,q < n∧p.tmod (n:Int)=(q:Int))∨(p.tmod (n:Int) < 0∧∃ q:Nat,q < n∧wrap64 (p.tmod (n:Int)+(n:Int))=(q:Int)):=by
 have h1:p.tmod (n:Int) < (n:Int):=Int.tmod_lt_of_pos p (by omega)
 have h2:-(n:Int) < p.tmod (n:Int):=by
  have:=Int.tmod_lt_of_pos (-p) (b:=(n:Int)) (by omega)
  rw[Int.neg_tmod] at this;omega
 by_cases h:p.tmod (n:Int) < 0
 ·refine Or.inr ⟨h,(p.tmod (n:Int)+n).toNat,by omega,?_⟩
  unfold wrap64;omega
 ·exact Or.inl ⟨(p.tmod (n:Int)).toNat,by omega,by omega⟩
theorem ya3 (x y:Int):∃ z:UInt8,bits .xor .u8 x y=(z.toNat:Int):=by
 unfold bits;simp only[IntKind.wrap_u8];refine ⟨UInt8.ofNat (BitVec.ofInt IntKind.u8.bits x ^^^ BitVec.ofInt IntKind.u8.bits y).toNat,?_⟩;rw[UInt8.toNat_ofNat'];omega
theorem ya2 (x:UInt8):bits .xor .u8 (x.toNat:Int) 0=(x.toNat:Int):=by
 have hx:=x.toNat_lt;unfold bits;simp only[IntKind.wrap_u8];have e:(BitVec.ofInt IntKind.u8.bits (x.toNat:Int) ^^^ BitVec.ofInt IntKind.u8.bits 0).toNat=x.toNat:=by
  rw[BitVec.ofInt_natCast];simp;exact Nat.mod_eq_of_lt hx
 rw[e];omega
def RowB (g:Nat) (c:List UInt8) (W:World):Prop:=∀ j (hj:j < c.length),W.cell? ⟨g,j,none⟩=some (.int .u8 (c[j].toNat:Int))
theorem RowB.conv {g cap:Nat} {c:List UInt8} {W:World} (h:RowB g c W) {n:Nat} (hn:n=c.length):(convert 38 9 (.slice (some ⟨g,0,none⟩) n cap)).run Tryz.prog W=.ok (.string ⟨c.toArray⟩) W:=by
 subst hn;refine run_convert_bytes_back (P:=Tryz.prog) W _ _ 5 ⟨g,0,none⟩ cap c Tryz.underlying38 Tryz.underlying5 Tryz.underlying9 fun j hj=>?_
 have:=h j hj
 cases j with
 | zero=>simpa [Addr.add] using this
 | succ j=>simpa [Addr.add] using this
theorem RowB.keep {g:Nat} {c:List UInt8} {W W':World} (h:RowB g c W) (k:Below W.heap.size W W'):RowB g c W':=fun j hj=>by
 rw[k.cell (p:=⟨g,j,none⟩) (lt_of_cell (h j hj))];exact h j hj
theorem RowB.set {g q:Nat} {c:List UInt8} {W:World} {z:UInt8} (h:RowB g c W) (_hq:q < c.length):RowB g (c.set q z) (W.setCell ⟨g,q,none⟩ (.int .u8 (z.toNat:Int))):=fun j hj=>by
 rw[List.length_set] at hj;rw[List.getElem_set];by_cases e:q=j
 ·subst e;rw[if_pos rfl];have hc:=h q hj;exact Rn.ql3 hc
 ·rw[if_neg e,Rn.qb4 (fun h=>e (congrArg Addr.off h))]
  exact h j hj
theorem zz2 {w w':World} {v:Value} {l:List Int} (h:Ref.AnsAt w v l) (k:Below w.heap.size w w'):Ref.AnsAt w' v l:=by
 obtain ⟨ad,cap,e,h1,h2,h3⟩:=h;refine ⟨ad,cap,e,h1,h2,fun i hi=>?_⟩
 obtain ⟨a,e1,hb,hc⟩:=h3 i hi;have hbl:(a.add i).block < w.heap.size:=by unfold Addr.add;split<;>exact hb
 exact ⟨a,e1,Nat.lt_of_lt_of_le hb k.size,by rw[k.cell hbl];exact hc⟩
theorem zzl (E F:Nat→Addr) (c t:ByteArray) (p b:Int) (l:List Int) (av:Value) (w:World) (hc:c.size≤maxLen) (ht:t.size≤maxLen) (hp:Px.R64 p) (_hb:Px.R64 b) (g:Ed.Gr w E F) (ha:Ref.AnsAt w av l) (hr:∀ x∈l,Px.R64 x) :
  Calls Tryz.prog 4 #[.string c,.string t,.int .i64 p,.int .i64 b,av] w fun e w'=>e=.returned (.bool true)∧Below w.heap.size w w':=by
 obtain ⟨c0,hc0,hl0,u1,u2,u3⟩:=ybx;have HC0:Hid (Calls Tryz.prog 5 #[.string ⟨#[99,97,108,108,32,97,40,41,59]⟩] w fun e w'=>Below w.heap.size w w'∧e=.returned (.tuple #[.string ⟨c0.toArray⟩,.int .i64 0,.int .i64 0])):=by
  refine (Ed.zzz E F upS w (by decide) g).mono ?_
  rintro e w' ⟨b1,rfl⟩;rw[hc0,zze];exact ⟨b1,rfl⟩
 have G0:Hid (Ed.Gr w E F∧Ref.AnsAt w av l∧(∀ x∈l,Px.R64 x)∧l.length≤140737488355328∧t.size≤maxLen):=by
  obtain ⟨ad,cap,e,h1,h2,h3⟩:=id ha;exact ⟨g,ha,hr,by omega,ht⟩
 obtain ⟨ad,cap,rfl,_⟩:=id ha;obtain ⟨cl,rfl,hcl⟩:=zz8 c;have HCL:Hid (cl.length≤maxLen):=by unfold Hid;omega
 have HX0:Hid (∀ W,Below w.heap.size w W→Calls Tryz.prog 8 #[.string ⟨c0.toArray⟩,.slice none 0 0] W fun e w'=>Below w.heap.size w w'∧∃ a1 k1,e=.returned (.tuple #[.slice a1 1 k1,.int .i64 0,.int .i64 0])):=fun W hW=>by
  refine (Ed.zzy E F c0 [] (.slice none 0 0) W (by unfold maxLen;omega) (g.below hW) (yax W) (by decide) (fun x hx=>by cases hx)).mono ?_
  rintro e w' ⟨b1,va,rfl,ho⟩;rw[u1,u2];rw[u3] at ho;obtain ⟨a1,k1,rfl,_⟩:=qe2 ho;exact ⟨hW.trans (b1.mono hW.size),a1,k1,rfl⟩
 have HCP:Hid (∀ W,Below w.heap.size w W→Calls Tryz.prog 9 #[.slice ad l.length cap] W fun e w'=>∃ a2 n2 c2,e=.returned (.slice a2 n2 c2)∧Hid (Below w.heap.size w w'∧Rn.GivenAt w' (.slice a2 n2 c2) l)):=fun W hW=>by
  refine (qm4 l _ W (zz2 G0.out.2.1 hW)).mono ?_;rintro e w' ⟨v',rfl,b1,o1⟩;obtain ⟨a2,n2,c2,rfl⟩:=Ref.qad o1;exact ⟨a2,n2,c2,rfl,hW.trans (b1.mono hW.size),qoc o1⟩
 have HEX:Hid (∀ W (cc:List UInt8) sv,cc.length≤maxLen→Below w.heap.size w W→Rn.GivenAt W sv l→Calls Tryz.prog 8 #[.string ⟨cc.toArray⟩,sv] W fun e w'=>∃ a1 k1,e=.returned (.tuple #[.slice a1 (Ed.zys cc l).2.2.length k1,.int .i64 ((Ed.zys cc l).2.1:Int),.int .i64 ((Ed.zys cc l).1:Int)])∧Hid (Below w.heap.size w w')):=fun W cc sv hcc hW hsv=>by
  refine (Ed.zzy E F cc l sv W hcc (G0.out.1.below hW) hsv G0.out.2.2.2.1 G0.out.2.2.1).mono ?_;rintro e w' ⟨b1,va,rfl,ho⟩;obtain ⟨a1,k1,rfl,_⟩:=qe2 ho;exact ⟨a1,k1,rfl,hW.trans (b1.mono hW.size)⟩
 have HCD:Hid (∀ W,Below w.heap.size w W→Calls Tryz.prog 5 #[.string t] W fun e w'=>e=.returned (.tuple #[.string (Ed.zy2 t),.int .i64 ((Px.check t).1:Int),.int .i64 ((Px.check t).2:Int)])∧Hid (Below w.heap.size w w')):=fun W hW=>by
  refine (Ed.zzz E F t W G0.out.2.2.2.2 (G0.out.1.below hW)).mono ?_;rintro e w' ⟨b1,rfl⟩;exact ⟨rfl,hW.trans (b1.mono hW.size)⟩
 have HXC:Hid (∀ W sv,Below w.heap.size w W→Rn.GivenAt W sv l→Calls Tryz.prog 8 #[.string ⟨cl.toArray⟩,sv] W fun e w'=>∃ a1 k1,e=.returned (.tuple #[.slice a1 (Ed.zys cl l).2.2.length k1,.int .i64 ((Ed.zys cl l).2.1:Int),.int .i64 ((Ed.zys cl l).1:Int)])∧Hid (Below w.heap.size w w')):=fun W sv hW hsv=>HEX.out W cl sv HCL.out hW hsv
 have h2:=zzx cl l;generalize Ed.zys cl l=R at *;obtain ⟨r1,r2,r3⟩:=R;dsimp only at h2;clear g ha hr hc ht hc0 u1 u2 u3 hl0 hcl;generalize (⟨c0.toArray⟩:ByteArray)=C0 at *;generalize (⟨cl.toArray⟩:ByteArray)=CL at *;go_enter Tryz.func4,Tryz.ntmps4
 go_wp2_with fail;refine Calls.mono HC0.out ?_;rintro e w1 ⟨b1,rfl⟩;have B1:Hid (Below w.heap.size w w1):=b1;clear HC0 b1;go_wp2_with fail;refine Calls.mono (HX0.out w1 B1.out) ?_;rintro e w2 ⟨b2,a1,k1,rfl⟩;have B2:Hid (Below w.heap.size w w2):=b2;clear HX0 b2 B1;go_wp2_with fail;refine (qdl _ _).mono ?_;rintro e w3 ⟨rfl,rfl⟩;go_wp2_with fail;refine Calls.mono (HCP.out _ B2.out) ?_;rintro e w4 ⟨a4,n4,c4,rfl,H4⟩;clear B2;go_wp2_with fail;refine Calls.mono (HXC.out _ _ H4.out.1 H4.out.2) ?_;rintro e w5 ⟨a5,k5,rfl,H5⟩;clear H4 HXC;dsimp only;have hck:Hid (((Px.check t).1≠0∧Ed.zy2 t=⟨#[]⟩)∨((Px.check t).1=0∧∃ c1:List UInt8,Ed.zy2 t=⟨c1.toArray⟩∧c1.length≤65536∧0 < c1.length∧(Ed.zys c1 l).1=0)):=by
  by_cases h:(Px.check t).1=0
  ·refine Or.inr ⟨h,?_⟩;obtain ⟨m,hr,hc⟩:=Ed.ya1 (qrx h);exact ⟨_,hc,Px.zy8 hr,by unfold Px.codeOf Px.qpu;simp,by rw[zzm hr (qrx h)]⟩
  ·exact Or.inl ⟨h,Ed.zzh (fun e=>h (congrArg Prod.fst e))⟩
 generalize Ed.zy2 t=CT at *;generalize (Px.check t).1=ct at *;generalize (Px.check t).2=cp at *;refine Or.elim h2 ?ga ?gb
 case' ga =>
  clear h2;rintro rfl;go_wp2_with fail;refine (qdl _ _).mono ?_;rintro e w6 ⟨rfl,rfl⟩;go_wp2_with fail
 case' gb =>
  clear h2;intro h2;obtain ⟨rfl,rfl,rfl⟩:r1=7∧r2=0∧r3=[]:=by simpa using h2
  clear h2;go_wp2_with fail;refine (qdl _ _).mono ?_;rintro e w6 ⟨rfl,rfl⟩;go_wp2_with fail;refine (qdl _ _).mono ?_;rintro e w6 ⟨rfl,rfl⟩;go_wp2_with fail
 all_goals
  refine Calls.mono (HCD.out _ H5.out) ?_;rintro e w7 ⟨rfl,H7⟩;rcases hck.out with ⟨hct,rfl⟩ | ⟨rfl,c1,rfl,hl1,hp1,hx1⟩
  ·have hct2:((ct:Int) != 0)=true:=by rw[bne_iff_ne];omega
   clear hck;go_wp2_with fail;refine (qdl _ _).mono ?_;rintro e w8 ⟨rfl,rfl⟩;go_wp2_with fail;go_ret;exact ⟨rfl,H7.out⟩
  ·have hz1:=Cd.zyu c1;have hcv:∀ W:World,(convert 9 38 (.string ⟨c1.toArray⟩)).run Tryz.prog W=.ok (.slice (some ⟨W.heap.size,0,none⟩) (⟨c1.toArray⟩:ByteArray).size (grownCap W (⟨c1.toArray⟩:ByteArray).size 0 5)) (Lib.bytesWorld W 5 ⟨c1.toArray⟩):=fun W=>Lib.run_convert_string_bytes (P:=Tryz.prog) W 9 38 5 ⟨c1.toArray⟩ Tryz.underlying9 Tryz.underlying38 Tryz.underlying5
   clear hck;have hrm:=fun W=>ya9 W 5 c1
   generalize (⟨c1.toArray⟩:ByteArray)=C1 at *;have hp2:(0:Int) < (C1.size:Int):=by omega
   go_wp2_with fail;refine (qdl _ _).mono ?_;rintro e w8 ⟨rfl,rfl⟩;obtain ⟨RM1,RM2,RM3⟩:=hrm w8;have HB8:Hid (_):=RM3;have HMA:=yci p c1.length hp hp1 hl1;clear RM3 hrm;rcases HMA with ⟨q,hq,hmq⟩ | ⟨hneg,q,hq,hmq⟩
   all_goals
    obtain ⟨m1,m2⟩:=RM1 q hq;have hq':(q:Int) < (c1.length:Int):=by omega
    have hqw:w8.heap.size < (Lib.bytesWorld w8 5 C1).heap.size:=by omega
    have HR1:Hid (RowB w8.heap.size c1 (Lib.bytesWorld w8 5 C1)):=fun j hj=>(RM1 j hj).1
    clear RM1;obtain ⟨z,hz⟩:=ya3 (c1[q].toNat:Int) (bits .and .i64 b 255 % 256);have HZ:Hid (bits .and .i64 b 255=0→c1.set q z=c1):=fun h=>by
     rw[h] at hz;have e:z=c1[q]:=by
      have e2:=(ya2 c1[q]).symm.trans hz
      apply UInt8.toNat_inj.1
      omega
     rw[e];exact List.set_getElem_self hq
    go_wp2_with fail;have HRB:Hid (RowB w8.heap.size (c1.set q z) ((Lib.bytesWorld w8 5 C1).setCell ⟨w8.heap.size,q,none⟩ (.int .u8 (z.toNat:Int)))):=HR1.out.set hq;have HBB:Hid (Below w.heap.size w ((Lib.bytesWorld w8 5 C1).setCell ⟨w8.heap.size,q,none⟩ (.int .u8 (z.toNat:Int)))):=(H7.out.trans (HB8.out.mono H7.out.size)).setCell (p:=⟨w8.heap.size,q,none⟩) H7.out.size _;generalize (Lib.bytesWorld w8 5 C1).setCell ⟨w8.heap.size,q,none⟩ (.int .u8 (z.toNat:Int))=W9 at *;generalize grownCap w8 c1.length 0 5=gc at *;have hl2:(c1.set q z).length=c1.length:=List.length_set;have HLM:Hid ((c1.set q z).length≤maxLen):=by unfold Hid maxLen;omega
    have HPC:Hid (∀ W,Below w.heap.size w W→RowB w8.heap.size (c1.set q z) W→Calls Tryz.prog 9 #[.slice ad l.length cap] W fun e w'=>∃ a2 n2 c2,e=.returned (.slice a2 n2 c2)∧(convert 38 9 (.slice (some ⟨w8.heap.size,0,none⟩) c1.length gc)).run Tryz.prog w'=.ok (.string ⟨(c1.set q z).toArray⟩) w'∧Hid (Below w.heap.size w w'∧Rn.GivenAt w' (.slice a2 n2 c2) l)):=fun W hW hrow=>by
     refine (qm4 l _ W (zz2 G0.out.2.1 hW)).mono ?_;rintro e w' ⟨v',rfl,b1,o1⟩;obtain ⟨a2,n2,c2,rfl⟩:=Ref.qad o1;exact ⟨a2,n2,c2,rfl,(hrow.keep b1).conv hl2.symm,hW.trans (b1.mono hW.size),qoc o1⟩
    have kc:(convert 38 9 (.slice (some ⟨w8.heap.size,0,none⟩) c1.length gc)).run Tryz.prog W9.drew=.ok (.string ⟨(c1.set q z).toArray⟩) W9.drew:=RowB.conv (W:=W9.drew) HRB.out hl2.symm;have HXC:Hid (∀ W sv,Below w.heap.size w W→Rn.GivenAt W sv l→Calls Tryz.prog 8 #[.string ⟨(c1.set q z).toArray⟩,sv] W fun e w'=>∃ a1 k1,e=.returned (.tuple #[.slice a1 (Ed.zys (c1.set q z) l).2.2.length k1,.int .i64 ((Ed.zys (c1.set q z) l).2.1:Int),.int .i64 ((Ed.zys (c1.set q z) l).1:Int)])∧Hid (Below w.heap.size w w')):=fun W sv hW hsv=>HEX.out W _ sv HLM.out hW hsv
    have h2:=zzx (c1.set q z) l;have he4:=Ed.ybo (c1.set q z) l;have HNZ:Hid (bits .and .i64 b 255=0→(Ed.zys (c1.set q z) l).1=0):=fun h=>by rw[HZ.out h];exact hx1
    clear HEX HLM HZ HB8 H7 HR1 m1 m2 hz;generalize Ed.zys (c1.set q z) l=R2 at *;obtain ⟨y1,y2,y3⟩:=R2;dsimp only at h2 he4;generalize (⟨(c1.set q z).toArray⟩:ByteArray)=C2 at *;go_region_with (first
     | (go_at_call 9;refine Calls.mono (HPC.out _ HBB.out.drew HRB.out) ?_;rintro e w10 ⟨a10,n10,c10,rfl,kd,H10⟩)
     | (go_at_call 8;refine Calls.mono (HXC.out _ _ H10.out.1 H10.out.2) ?_;rintro e w11 ⟨a11,k11,rfl,H11⟩))
    all_goals go_wp2_with fail
    all_goals
     rcases h2 with rfl | h2
     ·have he5:(y2:Int)≤4:=by omega
      refine (qdl _ _).mono ?_;rintro e w12 ⟨rfl,rfl⟩;go_wp2_with fail;go_ret;exact ⟨rfl,H11.out⟩
     ·obtain ⟨rfl,rfl,rfl⟩:y1=7∧y2=0∧y3=[]:=by simpa using h2
      have hnb:(bits .and .i64 b 255 != 0)=true:=by
       rw[bne_iff_ne];intro h;exact absurd (HNZ.out h) (by decide)
      clear h2;refine (qdl _ _).mono ?_;rintro e w12 ⟨rfl,rfl⟩;go_wp2_with fail;refine (qdl _ _).mono ?_;rintro e w13 ⟨rfl,rfl⟩;go_wp2_with fail;go_ret;exact ⟨rfl,H11.out⟩
end Lw
end Go.Proofs.YtokkhhekekeokaaGreatDoor
