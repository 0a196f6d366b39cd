import Derived.Test.YthanmfbakpcigaaGreatDoorO39
import Derived.Test.YthanmfbakpcigaaGreatDoorO08
import Derived.Test.YthanmfbakpcigaaGreatDoorO38
import Derived.Test.YthanmfbakpcigaaGreatDoorO04
import Derived.ChangeSlices
import Derived.SizedLaws
import Derived.OpenShut
set_option maxRecDepth 100000
set_option maxHeartbeats 4000000
namespace Go.Proofs.YthanmfbakpcigaaGreatDoor
open Go.RowKit
namespace Lw
theorem qoc {w:World} {B:Nat} {v:Value} {l:List Int} (h:w.ownsRow B 3 1 v l.length (Ref.intCells l)):Rn.GivenAt w v l:=by
 obtain ⟨ad,cap,rfl,hc⟩:=qe2 h;refine ⟨ad,cap,rfl,hc,fun i hi=>?_,fun q hq=>?_⟩
 ·obtain ⟨g,cap',e,_,_,_,h1⟩:=qi9 h (by omega)
  cases e;refine ⟨g,0,rfl,?_⟩;rw[Nat.zero_add];exact h1 i _ (by simp[Ref.intCells,hi])
 ·subst hq;exact (h.lt _ rfl).2
theorem qdl (e:Int) (w:World):Calls Tryz.prog 11 #[.int .i64 e] w fun r w'=>r=.returned (.int .i64 e)∧w'=w:=by
 go_enter Tryz.func11,Tryz.ntmps11
 go_wp2_with fail;go_ret;exact ⟨rfl,rfl⟩
theorem qpb (s:ByteArray) (a:List Int):(Px.run s a).1.length≤4000000:=by
 by_cases h:Px.check s=(0,0)
 ·cases hr:Px.read s with
  | error r=>rw[Px.qf4 hr] at h;subst h;unfold Px.run;rw[hr];simp
  | ok l=>rw[Ed.qpa hr h a];exact Ref.qz1 hr h a
 ·rw[Ed.qsn h a];simp
theorem AsksAt.keep {w w':World} {v:Value} {l:List Px.Ask} (h:AsksAt w v l) (k:Below w.heap.size w w'):AsksAt w' v l:=by
 obtain ⟨ad,cap,e,h1⟩:=h.ex;refine ⟨ad,cap,e,fun i hi=>?_⟩
 obtain ⟨g,e1,c1,c2,c3,c4⟩:=h1 i hi;have hz:=lt_of_cell c1;exact ⟨g,e1,by rw[k.cell (p:=⟨g,i * 4,none⟩) hz];exact c1,by rw[k.cell (p:=⟨g,i * 4+1,none⟩) hz];exact c2,by rw[k.cell (p:=⟨g,i * 4+2,none⟩) hz];exact c3,by rw[k.cell (p:=⟨g,i * 4+3,none⟩) hz];exact c4⟩
open Go.RowKit
theorem zsc:∀ x∈[(1:Int)],Px.R64 x:=by
 intro x hx;simp at hx;subst hx;unfold Px.R64;omega
theorem qe7 (E F:Nat→Addr) (w:World) (g:Ed.Gr w E F) :
  Calls Tryz.prog 12 #[] w fun e w'=>e=.returned (.bool true)∧Below w.heap.size w w':=by
 have hb0:Below w.heap.size w (w.alloc (.cells #[.int .i64 1] 3)):=(Below.refl _ _).alloc (Nat.le_refl _) _;have hgv:Rn.GivenAt (w.alloc (.cells #[.int .i64 1] 3)) (.slice (some ⟨w.heap.size,0,none⟩) 1 1) [1]:=by
  refine ⟨_,_,rfl,Nat.le_refl _,fun i hi=>⟨w.heap.size,0,rfl,?_⟩,fun q hq=>?_⟩
  ·obtain rfl:i=0:=by simp at hi;exact hi
   simp
  ·cases hq;simp
 have HR:Hid (_):=Ed.qh2 E F Px.qwy [1] (.slice (some ⟨w.heap.size,0,none⟩) 1 1) _ (by unfold maxLen;decide) (g.below hb0) hgv (by simp) zsc
 have HB:Hid (Below w.heap.size w (w.alloc (.cells #[.int .i64 1] 3))):=hb0;clear g hb0 hgv;go_enter Tryz.func12,Tryz.ntmps12
 go_wp2_with fail;refine Calls.mono HR.out ?_;rintro e w1 ⟨b1,va,rfl,ho⟩;have hA:=qm8 ho;rw[Px.qwx] at hA;obtain ⟨ad,cap,rfl,h1⟩:=hA.ex;obtain ⟨g1,rfl,p1,p2,p3,p4⟩:=h1 0 (by simp)
 have K:Hid (Below w.heap.size w w1):=HB.out.trans (b1.mono HB.out.size);rw[Px.qwx];simp at p1 p2 p3 p4;clear b1 ho hA h1 HR;go_wp2_with fail;refine (qdl _ _).mono ?_;rintro e w8 ⟨rfl,rfl⟩;go_wp2_with fail;go_ret;exact ⟨rfl,K.out⟩
open Go.RowKit
structure ArgAt (w:World) (ad:Option Addr) (cap:Nat) (l:List Int):Prop where
 a:Ref.AnsAt w (.slice ad l.length cap) l
 c:l.length≤cap
 m:cap≤maxLen
 r:∀ x∈l,Px.R64 x
theorem ArgAt.take {w:World} {ad:Option Addr} {cap:Nat} {l:List Int} (h:ArgAt w ad cap l) {N:Nat} (hN:N≤l.length):ArgAt w ad cap (l.take N)∧(l.take N).length=N:=by
 have hl:(l.take N).length=N:=by rw[List.length_take];omega
 obtain ⟨ad',cap',e,h1,h2,h3⟩:=h.a;cases e;refine ⟨⟨⟨ad,cap,rfl,by omega,by omega,fun i hi=>?_⟩,by have:=h.c;omega,h.m,fun x hx=>h.r x (List.mem_of_mem_take hx)⟩,hl⟩
 obtain ⟨a,e1,e2,e3⟩:=h3 i (by omega)
 exact ⟨a,e1,e2,by rw[List.getElem_take];exact e3⟩
theorem qkp {s:ByteArray} {r:Nat×Nat} (h:Px.read s=.error r):r≠(0,0):=by
 by_cases hz:300 < s.size
 ·unfold Px.read at h;rw[if_pos hz] at h;cases h;decide
 ·obtain ⟨c,p⟩:=r;rcases Px.qsw (by omega) h with rfl | rfl
  ·intro e;cases e
  ·intro e;cases e
structure zyi (s:ByteArray) (l:List Int) (N:Nat) (A1 A2:List Px.Ask) (x y:Nat):Prop where
 r1:Px.run s (l.take N)=(A1,x,0,0)
 r2:Px.run s l=(A2,y,0,0)
 pre:∀ i (h:i < A1.length),∃ h2:i < A2.length,A2[i]=A1[i]
 le:A1.length≤A2.length
 hx:x=0↔N < A1.length
 hy:y=0↔l.length < A2.length
 hxy:x≠0→y=x∧A2.length=A1.length
theorem zwq {s:ByteArray} {l:List Int} {N:Nat} (hN:N≤l.length) (hc:Px.check s=(0,0)):∃ A1 A2 x y,zyi s l N A1 A2 x y:=by
 cases hr:Px.read s with
 | error r =>
  have:=qkp hr
  rw[Px.qf4 hr] at hc;exact absurd hc this
 | ok t =>
  have l1:=Px.qkq hr hc (Px.qap t ⟨[],0,0⟩).vars (l.take N);have l2:=Px.qkq hr hc (Px.qap t ⟨[],0,0⟩).vars l;have hm:=Px.zf3 (Px.qap t ⟨[],0,0⟩).vars t (l.take N) (l.drop N);rw[List.take_append_drop] at hm;have hl:(l.take N).length=N:=by rw[List.length_take];omega
  have w1:=l1.waits;rw[hl] at w1;refine ⟨_,_,_,_,Ed.qpa hr hc _,Ed.qpa hr hc _,fun i h=>?_,hm.1.length_le,w1,l2.waits,fun hx=>?_⟩
  ·obtain ⟨q,hq⟩:=hm.1;have hle:=hm.1.length_le;refine ⟨by omega,?_⟩
   have e:=congrArg (fun L=>L[i]?) hq
   simp only[List.getElem?_append_left h] at e;rw[List.getElem?_eq_getElem h,List.getElem?_eq_getElem (by omega)] at e
   exact (Option.some.inj e).symm
  ·obtain ⟨e1,e2⟩:=hm.2 hx;exact ⟨e2,by rw[e1]⟩
theorem qqc {s:ByteArray} {a:List Int} (h:Px.check s≠(0,0)):Px.run s a=([],0,Px.check s):=Ed.qsn h a
theorem qqd {s:ByteArray} (h:(Px.check s).1=0):Px.check s=(0,0):=by
 unfold Px.check at h ⊢;cases hr:Px.read s with
 | error r =>
  exfalso;rw[hr] at h;simp only at h;by_cases hz:300 < s.size
  ·unfold Px.read at hr;rw[if_pos hz] at hr;cases hr;cases h
  ·obtain ⟨c,p⟩:=r;rcases Px.qsw (by omega) hr with rfl | rfl
   ·cases h
   ·cases h
 | ok l =>
  rw[hr] at h;simp only at h ⊢;split
  ·rfl
  ·rename_i hn;rw[if_neg hn] at h;exact absurd h hn
def qg0 (s:ByteArray) (l:List Int) (v:Value) (w0 W:World):Prop :=
 Calls Tryz.prog 6 #[v] W fun e w1=>∃ a1 n1 c1,e=.returned (.slice a1 n1 c1) ∧
  Hid (Calls Tryz.prog 7 #[.string s,.slice a1 n1 c1] w1 fun e2 w2=>∃ a2 c2,e2=.returned (.tuple #[.slice a2 (Px.run s l).1.length c2,.int .i64 ((Px.run s l).2.1:Int),.int .i64 ((Px.run s l).2.2.1:Int),.int .i64 ((Px.run s l).2.2.2:Int)]) ∧
   Hid (Below w0.heap.size w0 w2∧Below W.heap.size W w2∧AsksAt w2 (.slice a2 (Px.run s l).1.length c2) (Px.run s l).1))
theorem qog {E F:Nat→Addr} {s:ByteArray} {l:List Int} {ad:Option Addr} {cap:Nat} {w0:World} (hs:s.size≤maxLen) (g:Ed.Gr w0 E F) (ha:ArgAt w0 ad cap l) (W:World) (hW:Below w0.heap.size w0 W):qg0 s l (.slice ad l.length cap) w0 W:=by
 have hl:l.length≤140737488355328:=by
  obtain ⟨_,_,_,_,h2,_⟩:=ha.a;omega
 refine (qm4 l (.slice ad l.length cap) W (ha.a.keep hW)).mono ?_;rintro e w1 ⟨v1,rfl,b1,o1⟩;obtain ⟨a1,n1,c1,rfl⟩:=Ref.qad o1;refine ⟨a1,n1,c1,rfl,?_⟩;have b01:=hW.trans (b1.mono hW.size);refine (Ed.qh2 E F s l (.slice a1 n1 c1) w1 hs (g.below b01) (qoc o1) hl ha.r).mono ?_;rintro e2 w2 ⟨b2,va,rfl,o2⟩;obtain ⟨a2,c2,rfl,_⟩:=qe2 o2;exact ⟨a2,c2,rfl,b01.trans (b2.mono b01.size),b1.trans (b2.mono b1.size),qm8 o2⟩
theorem qx0 (E F:Nat→Addr) (s:ByteArray) (l:List Int) (ad:Option Addr) (cap:Nat) (n:Int) (w:World) (hs:s.size≤maxLen) (g:Ed.Gr w E F) (ha:ArgAt w ad cap l) (hn:Px.R64 n) :
  Calls Tryz.prog 4 #[.string s,.slice ad l.length cap,.int .i64 n] w fun e w'=>e=.returned (.bool true)∧Below w.heap.size w w':=by
 obtain ⟨N,hN,hcase⟩:∃ N:Nat,N≤l.length∧((n < 0∧l.length=N)∨(¬ n < 0∧(l.length:Int) < n∧l.length=N)∨(n=(N:Int)∧¬ (N:Int) < 0∧¬ (l.length:Int) < (N:Int))):=by
  by_cases h0:n < 0
  ·exact ⟨l.length,Nat.le_refl _,Or.inl ⟨h0,rfl⟩⟩
  ·by_cases h1:(l.length:Int) < n
   ·exact ⟨l.length,Nat.le_refl _,Or.inr (Or.inl ⟨h0,h1,rfl⟩)⟩
   ·exact ⟨n.toNat,by omega,Or.inr (Or.inr ⟨by omega,by omega,by omega⟩)⟩
 have HC:Hid (_):=qe7 E F w g;have hc:=ha.c;have hm:=ha.m;unfold maxLen at hm;obtain ⟨t1,t2⟩:=ha.take hN;have H1:Hid (∀ W,Below w.heap.size w W→qg0 s (l.take N) (.slice ad N cap) w W):=fun W hW=>by
  have:=qog hs g t1 W hW
  rw[t2] at this;exact this
 have H2:Hid (∀ W,Below w.heap.size w W→qg0 s l (.slice ad l.length cap) w W):=fun W hW=>qog hs g ha W hW
 have H3:Hid (∀ W,Calls Tryz.prog 13 #[.string s] W fun e w'=>e=.returned (.tuple #[.int .i64 ((Px.check s).1:Int),.int .i64 ((Px.check s).2:Int)])∧Below W.heap.size W w'):=fun W=>Ref.qhx s W hs
 have hl1:=qpb s (l.take N);have hl2:=qpb s l;have H4:Hid (Px.check s=(0,0)→∃ A1 A2 x y,zyi s l N A1 A2 x y):=fun h=>zwq hN h
 generalize hL:l.length=L at *;clear g hs ha t1 t2;unfold qg0 at H1 H2;by_cases hck:Px.check s=(0,0)
 ·obtain ⟨A1,A2,x,y,O⟩:=H4.out hck;simp only[O.r1,O.r2] at H1 H2 hl1 hl2;simp only[hck] at H3;have hle:=O.le;have hx:=O.hx;have hy:=O.hy;have hxy:=O.hxy;rw[hL] at hy;have HP:Hid (∀ i (h:i < A1.length),∃ h2:i < A2.length,A2[i]=A1[i]):=O.pre;have HF:Hid ((x=0↔N < A1.length)∧(y=0↔L < A2.length)∧(x≠0→y=x∧A2.length=A1.length)):=⟨hx,hy,hxy⟩;have hgt:¬ (A2.length:Int) < (A1.length:Int):=by omega
  clear O H4 hx hy hxy hle;rcases hcase with ⟨h0,rfl⟩ | ⟨h0,h1,rfl⟩ | ⟨rfl,h0,h1⟩
  all_goals
   go_enter Tryz.func4,Tryz.ntmps4
   go_wp2_with fail;refine Calls.mono HC.out ?_;rintro e w1 ⟨rfl,b1⟩;have K1:Hid (Below w.heap.size w w1):=b1;clear b1 HC;go_wp2_with fail;refine Calls.mono (H1.out _ K1.out) ?_;rintro e w2 ⟨a2,n2,c2,rfl,Q2⟩;go_wp2_with fail;refine Calls.mono Q2.out ?_;rintro e w3 ⟨a3,c3,rfl,K3⟩;go_wp2_with fail;refine Calls.mono (H2.out _ K3.out.1) ?_;rintro e w4 ⟨a4,n4,c4,rfl,Q4⟩;go_wp2_with fail;refine Calls.mono Q4.out ?_;rintro e w5 ⟨a5,c5,rfl,K5⟩;go_wp2_with fail;refine Calls.mono (H3.out _) ?_;rintro e w6 ⟨rfl,b6⟩;have K6:Hid (Below w.heap.size w w6∧AsksAt w6 (.slice a3 A1.length c3) A1∧AsksAt w6 (.slice a5 A2.length c5) A2):=⟨K5.out.1.trans (b6.mono K5.out.1.size),(K3.out.2.2.keep K5.out.2.1).keep b6,K5.out.2.2.keep b6⟩
   clear b6 H1 H2 H3 Q2 Q4 K1 K3 K5;go_wp2_with fail;refine (qdl _ _).mono ?_;rintro e w8 ⟨rfl,rfl⟩;go_wp2_with fail;refine (qdl _ _).mono ?_;rintro e w8 ⟨rfl,rfl⟩;go_wp2_with fail;go_loopw [18] (fun i wr=>∃ j:Nat,j≤A1.length∧i=.int .i64 j∧Hid (Below w.heap.size w wr∧AsksAt wr (.slice a3 A1.length c3) A1∧AsksAt wr (.slice a5 A2.length c5) A2)) (fun i _=>A1.length - (intOf i).toNat)
   case atStart=>exact ⟨0,by omega,rfl,K6.out⟩
   case round =>
    obtain ⟨j,hj,rfl,hr⟩:=hrel;by_cases hlt:j < A1.length
    ·obtain ⟨ad1,cp1,e1,h11⟩:=hr.out.2.1.ex;obtain ⟨ad2,cp2,e2,h22⟩:=hr.out.2.2.ex;cases e1;cases e2;obtain ⟨hlt2,he⟩:=HP.out j hlt;obtain ⟨g1,rfl,p1,p2,p3,p4⟩:=h11 j hlt;obtain ⟨g2,rfl,q1,q2,q3,q4⟩:=h22 j hlt2;rw[he] at q1 q2 q3 q4;have hlt':(j:Int) < (A1.length:Int):=by omega
     have hlt2':(j:Int) < (A2.length:Int):=by omega
     generalize A1[j]=a at *;obtain ⟨word,arg,nth,und⟩:=a;dsimp only at *;generalize (nth:Int)=m at *;clear h11 h22 he;cases und
     all_goals
      go_wp2_with fail;go_region
      all_goals
       go_wp2_with fail;exact ⟨⟨j+1,by omega,by go_num,hr.out.1.drew,hr.out.2.1.keep (Below.refl _ _).drew,hr.out.2.2.keep (Below.refl _ _).drew⟩,by simp[intOf];omega⟩
    ·obtain rfl:j=A1.length:=by omega
     obtain ⟨f1,f2,f3⟩:=HF.out;by_cases x0:x=0
     ·have g1:=f1.1 x0;subst x0;by_cases y0:y=0
      ·have g2:=f2.1 y0;subst y0;clear f1 f2 f3 HF;go_wp2_with fail
       all_goals
        go_ret;exact ⟨rfl,hr.out.1⟩
      ·have g2:¬ L < A2.length:=fun h=>y0 (f2.2 h)
       have y0':¬ (y:Int)=0:=by omega
       clear f1 f2 f3 HF;go_wp2_with fail
       all_goals
        go_ret;exact ⟨rfl,hr.out.1⟩
     ·have g1:=mt f1.2 x0;obtain ⟨rfl,g3⟩:=f3 x0;have g2:¬ L < A2.length:=fun h=>x0 (f2.2 h)
      have x0':¬ (y:Int)=0:=by omega
      have g4:¬ L < A1.length:=by omega
      clear f1 f2 f3 HF;go_wp2_with fail
      all_goals
       go_ret;exact ⟨rfl,hr.out.1⟩
 ·have e1:=qqc (a:=l.take N) hck;have e2:=qqc (a:=l) hck;have hne:¬ (((Px.check s).1:Int)=0):=fun h=>hck (qqd (by omega))
  simp only[e1,e2] at H1 H2;clear e1 e2 H4 hl1 hl2;generalize Px.check s=R at *;obtain ⟨r1,r2⟩:=R;dsimp only at *;rcases hcase with ⟨h0,rfl⟩ | ⟨h0,h1,rfl⟩ | ⟨rfl,h0,h1⟩
  all_goals
   go_enter Tryz.func4,Tryz.ntmps4
   go_wp2_with fail;refine Calls.mono HC.out ?_;rintro e w1 ⟨rfl,b1⟩;have K1:Hid (Below w.heap.size w w1):=b1;clear b1 HC;go_wp2_with fail;refine Calls.mono (H1.out _ K1.out) ?_;rintro e w2 ⟨a2,n2,c2,rfl,Q2⟩;go_wp2_with fail;refine Calls.mono Q2.out ?_;rintro e w3 ⟨a3,c3,rfl,K3⟩;go_wp2_with fail;refine Calls.mono (H2.out _ K3.out.1) ?_;rintro e w4 ⟨a4,n4,c4,rfl,Q4⟩;go_wp2_with fail;refine Calls.mono Q4.out ?_;rintro e w5 ⟨a5,c5,rfl,K5⟩;go_wp2_with fail;refine Calls.mono (H3.out _) ?_;rintro e w6 ⟨rfl,b6⟩;have K6:Hid (Below w.heap.size w w6):=K5.out.1.trans (b6.mono K5.out.1.size);clear b6;go_wp2_with fail
   refine (qdl _ _).mono ?_;rintro e w8 ⟨rfl,rfl⟩;go_wp2_with fail;refine (qdl _ _).mono ?_;rintro e w8 ⟨rfl,rfl⟩;go_wp2_with fail;go_ret;exact ⟨rfl,K6.out⟩
open Go.ChangeShapes Go.WideShapes Go.RowKit
theorem zx3:Tryz.prog.cellsOf 3=1:=by kernel_rfl
theorem bInt8:Tryz.prog.bytesOf 3=8:=by kernel_rfl
theorem zf0 {n:Int} (h:(Lit.int .i64 n).wf=true):Px.R64 n:=by
 simp only[Lit.wf,Bool.and_eq_true,decide_eq_true_eq] at h;have e1:IntKind.i64.min=-9223372036854775808:=by decide
 have e2:IntKind.i64.max=9223372036854775807:=by decide
 rw[e1,e2] at h;exact h
theorem qok {H:Type} {enc:TypeId×Value→H} {W:World} {base:Nat} {v:Value} {d:DataW H} {p:List MemPlace} (hval:Value.okWide Tryz.prog W .any base 22 v)
  (h:DataW.Trod enc Tryz.prog W 0 (fun _=>true) true 22 v d p)
  (hz:∀ elems spare,d=.slice elems spare→(elems.length+spare.length) * Tryz.prog.bytesOf 3≤reachBytes) :
  ∃ ad cap l,v=.slice ad l.length cap∧ArgAt W ad cap l∧∀ W',Below W.heap.size W W'→DataW.Trod enc Tryz.prog W' 0 (fun b=>decide (b < W.heap.size)) true 22 v d p:=by
 obtain ⟨a0,len,cap,rfl⟩:=okWide_slice Tryz.underlying22 hval;obtain ⟨fuel,hf⟩:=h;rcases open_ints Tryz.underlying22 Tryz.underlying3 zx3 hf with ⟨hcs,hx⟩ | ⟨a,len',cap',zs,hcs,_,hl,hm,hzl,hx,hcell,hwz⟩
 ·simp[Value.cells] at hcs;obtain ⟨rfl,rfl,rfl⟩:=hcs;simp only[Prod.mk.injEq] at hx;obtain ⟨rfl,rfl⟩:=hx;exact ⟨none,0,[],rfl,⟨⟨none,0,rfl,Nat.zero_le _,by decide,fun i hi=>absurd hi (Nat.not_lt_zero _)⟩,Nat.le_refl _,Nat.zero_le _,fun x hx=>nomatch hx⟩,fun W' _=>⟨1,by simp[Value.cells,DataW.trod,Tryz.underlying22]⟩⟩
 ·simp[Value.cells] at hcs;obtain ⟨rfl,rfl,rfl⟩:=hcs;simp only[Prod.mk.injEq] at hx;obtain ⟨rfl,rfl⟩:=hx;simp only[if_true] at hzl;have hsz:=hz _ _ rfl;rw[bInt8] at hsz;have hll:(zs.take len).length=len:=by rw[List.length_take];omega
  have hcap:cap * 8≤140737488355328:=by
   have:(lits (H:=H) .i64 (zs.take len)).length+(lits (H:=H) .i64 (zs.drop len)).length=cap:=by simp[lits];omega
   rw[this] at hsz
   have:reachBytes=140737488351232:=by decide
   omega
  have hblk:0 < cap→a.block < W.heap.size:=fun h0=>by
   have h1:=hcell 0 (by omega)
   have h2:a.add 0=a:=by simp[Addr.add]
   rw[h2] at h1;rcases Nat.lt_or_ge a.block W.heap.size with h | h
   ·exact h
   ·exfalso;simp[World.cell?,Array.getElem?_eq_none h] at h1
  refine ⟨some a,cap,zs.take len,by rw[hll],⟨⟨some a,cap,by rw[hll],by omega,by omega,fun i hi=>?_⟩,by omega,hm,fun x hx=>?_⟩,fun W' hb=>⟨2,?_⟩⟩
  ·rw[hll] at hi;refine ⟨a,rfl,hblk (by omega),?_⟩
   rw[hcell i (by omega)]
   simp[List.getD,List.getElem_take,show i < zs.length by omega]
  ·exact zf0 (hwz x (List.mem_of_mem_take hx))
  ·have:=shut_ints (enc:=enc) (P:=Tryz.prog) (w:=W') (base:=0) (spare:=fun b=>decide (b < W.heap.size)) (held:=true) (a:=a) (len:=len) (cap:=cap) (zs:=zs) 0 Tryz.underlying22 Tryz.underlying3 zx3 (Nat.zero_le _) hl hm
    (by
     rcases Nat.eq_zero_or_pos cap with h0 | h0
     ·split<;>omega
     ·simp[hblk h0,hzl])
    (fun i hi=>by
     have hbk:=hblk (by omega)
     rw[World.cell?_of_block (w:=W) (a:=a.add i) (hb.block _ (by rw[block_add];exact hbk))]
     exact hcell i hi) hwz
   simpa [Value.cells] using this
end Lw
end Go.Proofs.YthanmfbakpcigaaGreatDoor
