import Derived.Test.YthanmfbakpcigaaGreatDoorT39
import Derived.Test.YthanmfbakpcigaaGreatDoorT08
import Derived.Test.YthanmfbakpcigaaGreatDoorT38
import Derived.Test.YthanmfbakpcigaaGreatDoorT04
set_option maxRecDepth 100000
set_option maxHeartbeats 4000000
namespace Go.Proofs.YthanmfbakpcigaaGreatDoor
open Go.RowKit
namespace Lw
theorem qoc {w:World} {B:Nat} {v:Value} {l:List Int} (h:w.ownsRow B 3 1 v l.length (Ref.intCells l)):Rn.GivenAt w v l:=by
 obtain ⟨ad,cap,rfl,hc⟩:=qe2 h;refine ⟨ad,cap,rfl,hc,fun i hi=>?_,fun q hq=>?_⟩
 ·obtain ⟨g,cap',e,_,_,_,h1⟩:=qi9 h (by omega)
  cases e;refine ⟨g,0,rfl,?_⟩;rw[Nat.zero_add];exact h1 i _ (by simp[Ref.intCells,hi])
 ·subst hq;exact (h.lt _ rfl).2
theorem qdl (e:Int) (w:World):Calls Tryz.prog 11 #[.int .i64 e] w fun r w'=>r=.returned (.int .i64 e)∧w'=w:=by
 go_enter Tryz.func11,Tryz.ntmps11
 go_wp2_with fail;go_ret;exact ⟨rfl,rfl⟩
theorem qpb (s:ByteArray) (a:List Int):(Px.run s a).1.length≤4000000:=by
 by_cases h:Px.check s=(0,0)
 ·cases hr:Px.read s with
  | error r=>rw[Px.qf4 hr] at h;subst h;unfold Px.run;rw[hr];simp
  | ok l=>rw[Ed.qpa hr h a];exact Ref.qz1 hr h a
 ·rw[Ed.qsn h a];simp
theorem AsksAt.keep {w w':World} {v:Value} {l:List Px.Ask} (h:AsksAt w v l) (k:Below w.heap.size w w'):AsksAt w' v l:=by
 obtain ⟨ad,cap,e,h1⟩:=h.ex;refine ⟨ad,cap,e,fun i hi=>?_⟩
 obtain ⟨g,e1,c1,c2,c3,c4⟩:=h1 i hi;have hz:=lt_of_cell c1;exact ⟨g,e1,by rw[k.cell (p:=⟨g,i * 4,none⟩) hz];exact c1,by rw[k.cell (p:=⟨g,i * 4+1,none⟩) hz];exact c2,by rw[k.cell (p:=⟨g,i * 4+2,none⟩) hz];exact c3,by rw[k.cell (p:=⟨g,i * 4+3,none⟩) hz];exact c4⟩
open Go.RowKit
theorem zsc:∀ x∈[(1:Int)],Px.R64 x:=by
 intro x hx;simp at hx;subst hx;unfold Px.R64;omega
theorem qe7 (E F:Nat→Addr) (w:World) (g:Ed.Gr w E F) :
  Calls Tryz.prog 12 #[] w fun e w'=>e=.returned (.bool true)∧Below w.heap.size w w':=by
 have hb0:Below w.heap.size w (w.alloc (.cells #[.int .i64 1] 3)):=(Below.refl _ _).alloc (Nat.le_refl _) _;have hgv:Rn.GivenAt (w.alloc (.cells #[.int .i64 1] 3)) (.slice (some ⟨w.heap.size,0,none⟩) 1 1) [1]:=by
  refine ⟨_,_,rfl,Nat.le_refl _,fun i hi=>⟨w.heap.size,0,rfl,?_⟩,fun q hq=>?_⟩
  ·obtain rfl:i=0:=by simp at hi;exact hi
   simp
  ·cases hq;simp
 have HR:Hid (_):=Ed.qh2 E F Px.qwy [1] (.slice (some ⟨w.heap.size,0,none⟩) 1 1) _ (by unfold maxLen;decide) (g.below hb0) hgv (by simp) zsc
 have HB:Hid (Below w.heap.size w (w.alloc (.cells #[.int .i64 1] 3))):=hb0;clear g hb0 hgv;go_enter Tryz.func12,Tryz.ntmps12
 go_wp2_with fail;refine Calls.mono HR.out ?_;rintro e w1 ⟨b1,va,rfl,ho⟩;have hA:=qm8 ho;rw[Px.qwx] at hA;obtain ⟨ad,cap,rfl,h1⟩:=hA.ex;obtain ⟨g1,rfl,p1,p2,p3,p4⟩:=h1 0 (by simp)
 have K:Hid (Below w.heap.size w w1):=HB.out.trans (b1.mono HB.out.size);rw[Px.qwx];simp at p1 p2 p3 p4;clear b1 ho hA h1 HR;go_wp2_with fail;refine (qdl _ _).mono ?_;rintro e w8 ⟨rfl,rfl⟩;go_wp2_with fail;go_ret;exact ⟨rfl,K.out⟩
open Go.RowKit
structure ArgAt (w:World) (ad:Option Addr) (cap:Nat) (l:List Int):Prop where
 a:Ref.AnsAt w (.slice ad l.length cap) l
 c:l.length≤cap
 m:cap≤maxLen
 r:∀ x∈l,Px.R64 x
theorem qkp {s:ByteArray} {r:Nat×Nat} (h:Px.read s=.error r):r≠(0,0):=by
 by_cases hz:300 < s.size
 ·unfold Px.read at h;rw[if_pos hz] at h;cases h;decide
 ·obtain ⟨c,p⟩:=r;rcases Px.qsw (by omega) h with rfl | rfl
  ·intro e;cases e
  ·intro e;cases e
theorem qqc {s:ByteArray} {a:List Int} (h:Px.check s≠(0,0)):Px.run s a=([],0,Px.check s):=Ed.qsn h a
theorem qqd {s:ByteArray} (h:(Px.check s).1=0):Px.check s=(0,0):=by
 unfold Px.check at h ⊢;cases hr:Px.read s with
 | error r =>
  exfalso;rw[hr] at h;simp only at h;by_cases hz:300 < s.size
  ·unfold Px.read at hr;rw[if_pos hz] at hr;cases hr;cases h
  ·obtain ⟨c,p⟩:=r;rcases Px.qsw (by omega) hr with rfl | rfl
   ·cases h
   ·cases h
 | ok l =>
  rw[hr] at h;simp only at h ⊢;split
  ·rfl
  ·rename_i hn;rw[if_neg hn] at h;exact absurd h hn
def qg0 (s:ByteArray) (l:List Int) (v:Value) (w0 W:World):Prop :=
 Calls Tryz.prog 6 #[v] W fun e w1=>∃ a1 n1 c1,e=.returned (.slice a1 n1 c1) ∧
  Hid (Calls Tryz.prog 7 #[.string s,.slice a1 n1 c1] w1 fun e2 w2=>∃ a2 c2,e2=.returned (.tuple #[.slice a2 (Px.run s l).1.length c2,.int .i64 ((Px.run s l).2.1:Int),.int .i64 ((Px.run s l).2.2.1:Int),.int .i64 ((Px.run s l).2.2.2:Int)]) ∧
   Hid (Below w0.heap.size w0 w2∧Below W.heap.size W w2∧AsksAt w2 (.slice a2 (Px.run s l).1.length c2) (Px.run s l).1))
theorem qog {E F:Nat→Addr} {s:ByteArray} {l:List Int} {ad:Option Addr} {cap:Nat} {w0:World} (hs:s.size≤maxLen) (g:Ed.Gr w0 E F) (ha:ArgAt w0 ad cap l) (W:World) (hW:Below w0.heap.size w0 W):qg0 s l (.slice ad l.length cap) w0 W:=by
 have hl:l.length≤140737488355328:=by
  obtain ⟨_,_,_,_,h2,_⟩:=ha.a;omega
 refine (qm4 l (.slice ad l.length cap) W (ha.a.keep hW)).mono ?_;rintro e w1 ⟨v1,rfl,b1,o1⟩;obtain ⟨a1,n1,c1,rfl⟩:=Ref.qad o1;refine ⟨a1,n1,c1,rfl,?_⟩;have b01:=hW.trans (b1.mono hW.size);refine (Ed.qh2 E F s l (.slice a1 n1 c1) w1 hs (g.below b01) (qoc o1) hl ha.r).mono ?_;rintro e2 w2 ⟨b2,va,rfl,o2⟩;obtain ⟨a2,c2,rfl,_⟩:=qe2 o2;exact ⟨a2,c2,rfl,b01.trans (b2.mono b01.size),b1.trans (b2.mono b1.size),qm8 o2⟩
end Lw
end Go.Proofs.YthanmfbakpcigaaGreatDoor
