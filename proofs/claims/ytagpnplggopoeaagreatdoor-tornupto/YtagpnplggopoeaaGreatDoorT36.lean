import Derived.Test.YtagpnplggopoeaaGreatDoorT35
import Derived.Test.YtagpnplggopoeaaGreatDoorT34
import Derived.Test.YtagpnplggopoeaaGreatDoorT12
import Derived.Lib.ItoaLen
import Derived.Maps.AppendAt
import Derived.ArgAppend
import Derived.Test.YtagpnplggopoeaaGreatDoorT17
import Derived.Test.YtagpnplggopoeaaGreatDoorT25
import Derived.Test.YtagpnplggopoeaaGreatDoorT27
import Derived.Test.YtagpnplggopoeaaGreatDoorT31
import Derived.Test.YtagpnplggopoeaaGreatDoorT16
import Derived.Test.YtagpnplggopoeaaGreatDoorT15
import Derived.Lib.SmallJoins
import Derived.Test.YtagpnplggopoeaaGreatDoorT07
import Derived.Test.YtagpnplggopoeaaGreatDoorRows
import Derived.ChangeSlices
import Derived.SizedLaws
import Derived.OpenShut
set_option maxRecDepth 100000
set_option maxHeartbeats 4000000
namespace Go.Proofs.YtagpnplggopoeaaGreatDoor
open Go.RowKit
namespace Jn
def qju (E:Nat→Addr) (D:Nat) (w:World) (e:Ending) (w':World):Prop:=Below w.heap.size w w' ∧
 ((∃ d:ByteArray,d.size≤D∧e=.returned (.tuple #[.string d,.nilIface])) ∨
  (∃ f,e=.returned (.tuple #[.string ⟨#[]⟩,.iface 98 (.pointer (some ⟨f,0,none⟩))])∧FJ w' f (.iface 359 (.pointer (some (E 9))))))
theorem yc4 (E:Nat→Addr) (B b D jl:Nat) (v:Value) (Q:List (Nat×ByteArray)) (sz:Int) (vs:Value) (wd:ByteArray) (ar tr:Int) (un:Bool) (w:World) (h:Fi.FsAt w B b D v Q) (hb:w.heap[jl]?=some (jObj b sz vs wd ar tr un)) (g:Lg.Snt w E) :
  Calls Tryz.prog 48 #[.pointer (some ⟨jl,0,none⟩)] w (qju E D w):=by
 have HR:Hid (_):=Fi.qj0 B b D v Q jN w h;have G:Hid (Lg.Snt w E∧w.heap[jl]?=some (jObj b sz vs wd ar tr un)):=⟨g,hb⟩;obtain ⟨c0,c1,c2,c3,c4,c5,c6,cf,cl⟩:=Rn.ycu hb;clear h g hb;go_enter Tryz.func48,Tryz.ntmps48
 go_wp2_with fail;refine Calls.mono HR.out ?_;rintro e w1 ⟨⟨d,ok,hd,rfl⟩,hb1⟩;obtain ⟨d0,d1,_⟩:=Rn.ycu ((hb1.block jl cl).trans G.out.2);have v9:=(G.out.1.below hb1).v9;have B1:Hid (_):=hb1;clear hb1 HR c0 c1 c2 c3 c4 c5 c6 cf;by_cases hz:(d.size:Int)=sz
 ·go_wp2_with fail
  all_goals (try go_region)
  all_goals (try go_wp2_with fail)
  all_goals
   go_ret2
   first
    | exact ⟨B1.out,Or.inl ⟨d,hd,rfl⟩⟩
    | exact ⟨B1.out.drew,Or.inl ⟨d,hd,rfl⟩⟩
    | exact ⟨B1.out.drew.drew,Or.inl ⟨d,hd,rfl⟩⟩
 ·go_wp2_with fail
  all_goals (try go_region)
  all_goals (try go_wp2_with fail)
  all_goals (try go_region)
  all_goals (try go_wp2_with fail)
  all_goals
   go_ret2;have hb2:=(B1.out.alloc B1.out.size (.cells #[.string ⟨#[116,104,101,32,106,111,117,114,110,97,108]⟩,.iface 359 (.pointer (some (E 9)))] 100)).drew;exact ⟨hb2,Or.inr ⟨w1.heap.size,rfl,_,ycy⟩⟩
def JF (B b D jl:Nat) (v:Value) (Q:List (Nat×ByteArray)) (vs:Value) (wd:ByteArray) (ar tr:Int) (un:Bool) (w w':World):Prop :=
 (∃ sz,w'.heap[jl]?=some (jObj b sz vs wd ar tr un))∧Fi.FsAt w' B b D v Q∧Tch (fun k=>k=jl∨Fi.FT b Q k) w w'
theorem JF.new {B b D jl n:Nat} {v:Value} {Q:List (Nat×ByteArray)} {vs:Value} {wd:ByteArray} {ar tr:Int} {un:Bool} {w w1 w2:World} (h:JF B b D jl v Q vs wd ar tr un w w1) (t:Tch (·=n) w1 w2) (hn:w.heap.size≤n) (hO:¬ FO b v Q n) (hj:n≠jl):JF B b D jl v Q vs wd ar tr un w w2:=by
 obtain ⟨⟨sz,hs⟩,h2,h3⟩:=h;exact ⟨⟨sz,(t.block jl (lt_of_block hs) fun e=>hj e.symm).trans hs⟩,FsAt.away h2 t fun k hk=>by rw[hk];exact hO,Tch.new h3 t fun k hk e=>absurd hk (by rw[e];omega)⟩
theorem JF.pre {B b D jl:Nat} {v:Value} {Q:List (Nat×ByteArray)} {vs:Value} {wd:ByteArray} {ar tr:Int} {un:Bool} {w w1 w2:World} (h:JF B b D jl v Q vs wd ar tr un w1 w2) (hb:Below w.heap.size w w1):JF B b D jl v Q vs wd ar tr un w w2 :=
 ⟨h.1,h.2.1,(((Tch.refl (fun _=>False) w).below hb).mono fun _ _ h=>h.elim).trans h.2.2⟩
theorem JF.start {B b D D' jl:Nat} {v:Value} {Q:List (Nat×ByteArray)} {sz:Int} {vs:Value} {wd:ByteArray} {ar tr:Int} {un:Bool} {w w1:World} (h:Fi.FsAt w B b D v Q) (hD:D≤D') (hs:w.heap[jl]?=some (jObj b sz vs wd ar tr un)) (hb:Below w.heap.size w w1):JF B b D' jl v Q vs wd ar tr un w w1 :=
 ⟨⟨sz,(hb.block jl (lt_of_block hs)).trans hs⟩,(FsAt.up h hD).below hb,((Tch.refl (fun _=>False) w).below hb).mono fun _ _ h=>h.elim⟩
theorem ycp {n:Nat} {T:Nat→Prop} {w w1 w2:World} (h:Below n w w1) (t:Tch T w1 w2) (hn:n≤w.heap.size) (hT:∀ k,T k→n≤k):Below n w w2 :=
 ⟨t.os.trans h.os,t.tape.trans h.tape,t.output.trans h.output,Nat.le_trans h.size t.size,fun k hk=>(t.block k (Nat.lt_of_lt_of_le hk (Nat.le_trans hn h.size)) fun e=>absurd (hT k e) (by omega)).trans (h.block k hk)⟩
theorem yem (B b D jl:Nat) (v:Value) (Q:List (Nat×ByteArray)) (sz:Int) (vs:Value) (wd:ByteArray) (ar tr:Int) (un:Bool) (d:ByteArray) (w:World) (h:Fi.FsAt w B b D v Q) (hj:HasJ Q) (hD:D+d.size≤1000000000000) (hb:w.heap[jl]?=some (jObj b sz vs wd ar tr un)) :
  Calls Tryz.prog 50 #[.pointer (some ⟨jl,0,none⟩),.string d] w fun e w'=>e=.returned (.bool true)∧JF B b (D+d.size) jl v Q vs wd ar tr un w w':=by
 have HW:Hid (_):=zvx B b D v Q d w h hj hD;have hO:¬ FO b v Q jl:=FsAt.other h hb (by decide) (by decide) (by decide)
 have hF:¬ Fi.FT b Q jl:=fun h=>hO (h.elim Or.inl fun h=>Or.inr (Or.inr h))
 have G:Hid (w.heap[jl]?=some (jObj b sz vs wd ar tr un)):=hb;obtain ⟨c0,c1,c2,c3,c4,c5,c6,cf,cl⟩:=Rn.ycu hb;clear h hb;go_enter Tryz.func50,Tryz.ntmps50
 go_wp2_with fail;refine Calls.mono HW.out ?_;rintro e w1 ⟨rfl,f1,t1⟩;have hb1:=(t1.block jl cl hF).trans G.out;obtain ⟨d0,d1,d2,d3,d4,d5,d6,df,dl⟩:=Rn.ycu hb1;have hO1:¬ FO b v Q jl:=hO;have H1:Hid (w1.heap[jl]?=some (jObj b sz vs wd ar tr un)∧Fi.FsAt w1 B b (D+d.size) v Q∧Tch (Fi.FT b Q) w w1):=⟨hb1,f1,t1⟩;clear f1 t1 hb1 HW c0 c1 c2 c3 c4 c5 c6 cf;have HE:Hid (∀ x:Int,JF B b (D+d.size) jl v Q vs wd ar tr un w (w1.setCell ⟨jl,1,none⟩ (.int .i64 x))):=by
  intro x;have ht:Tch (·=jl) w1 (w1.setCell ⟨jl,1,none⟩ (.int .i64 x)):=(Tch.refl (·=jl) w1).setCell (p:=⟨jl,1,none⟩) (Or.inl rfl) _
  exact ⟨⟨x,by rw[Ref.heap_set _ H1.out.1]<;>rfl⟩,FsAt.away H1.out.2.1 ht fun k hk=>by rw[hk];exact hO,(H1.out.2.2.mono fun k _ hk=>Or.inr hk).trans (ht.mono fun k _ hk=>Or.inl hk)⟩
 go_wp2_with fail
 all_goals (try go_region)
 all_goals (try go_wp2_with fail)
 all_goals
  go_ret
  first
   | exact ⟨rfl,HE.out _⟩
   | exact ⟨rfl,(HE.out _).drew⟩
theorem ycw {w:World} {n:Nat} {t:TypeId} {a b c d:Value} (h:w.heap[n]?=some (.cells #[a,b,c,d] t)) (p q r s:Value) :
  ((((w.setCell ⟨n,0,none⟩ p).setCell ⟨n,1,none⟩ q).setCell ⟨n,2,none⟩ r).setCell ⟨n,3,none⟩ s).heap[n]?=some (.cells #[p,q,r,s] t) ∧
  Tch (·=n) w ((((w.setCell ⟨n,0,none⟩ p).setCell ⟨n,1,none⟩ q).setCell ⟨n,2,none⟩ r).setCell ⟨n,3,none⟩ s):=by
 have h1:(w.setCell ⟨n,0,none⟩ p).heap[n]?=some (.cells #[p,b,c,d] t):=by rw[Ref.heap_set _ h]<;>rfl
 have h2:((w.setCell ⟨n,0,none⟩ p).setCell ⟨n,1,none⟩ q).heap[n]?=some (.cells #[p,q,c,d] t):=by rw[Ref.heap_set _ h1]<;>rfl
 have h3:(((w.setCell ⟨n,0,none⟩ p).setCell ⟨n,1,none⟩ q).setCell ⟨n,2,none⟩ r).heap[n]?=some (.cells #[p,q,r,d] t):=by rw[Ref.heap_set _ h2]<;>rfl
 exact ⟨by rw[Ref.heap_set _ h3]<;>rfl,((((Tch.refl (·=n) w).setCell (p:=⟨n,0,none⟩) (Or.inl rfl) _).setCell (p:=⟨n,1,none⟩) (Or.inl rfl) _).setCell (p:=⟨n,2,none⟩) (Or.inl rfl) _).setCell (p:=⟨n,3,none⟩) (Or.inl rfl) _⟩
theorem ycd {w:World} {n:Nat} {a b c d:Value} {t:TypeId} (h:w.heap[n]?=some (.cells #[a,b,c,d] t)):w.cell? ⟨n,0,none⟩=some a∧w.cell? ⟨n,1,none⟩=some b∧w.cell? ⟨n,2,none⟩=some c∧w.cell? ⟨n,3,none⟩=some d∧∀ o,w.frozen? ⟨n,o,none⟩=false:=by
 refine ⟨?_,?_,?_,?_,?_⟩<;>simp[World.cell?,World.frozen?,h]
def yf9 (E:Nat→Addr) (B b D jl:Nat) (v:Value) (Q:List (Nat×ByteArray)) (vs:Value) (wd:ByteArray) (ar tr:Int) (un:Bool) (w:World) (e:Ending) (w':World):Prop :=
 (∃ f,e=.returned (.tuple #[.agg #[.string ⟨#[]⟩,.int .i64 0,.int .i64 0,.bool false],.bool false,.iface 98 (.pointer (some ⟨f,0,none⟩))])∧Below w.heap.size w w'∧FJ w' f (.iface 359 (.pointer (some (E 9))))) ∨
 (∃ again,e=.returned (.tuple #[.agg #[.string wd,.int .i64 ar,.int .i64 tr,.bool un],.bool again,.nilIface])∧JF B b (D+1) jl v Q vs wd ar tr un w w')
theorem zj1 (E:Nat→Addr) (B b D jl:Nat) (v:Value) (Q:List (Nat×ByteArray)) (sz:Int) (vs:Value) (wd:ByteArray) (ar tr:Int) (un:Bool) (w:World) (h:Fi.FsAt w B b D v Q) (hj:HasJ Q) (hD:D≤100000000000) (hb:w.heap[jl]?=some (jObj b sz vs wd ar tr un)) (g:Lg.Snt w E) :
  Calls Tryz.prog 27 #[.pointer (some ⟨jl,0,none⟩)] w (yf9 E B b D jl v Q vs wd ar tr un w):=by
 have hb0:Below w.heap.size w (w.alloc (.cells #[.string ⟨#[]⟩,.int .i64 0,.int .i64 0,.bool false] 75)):=(Below.refl _ _).alloc (Nat.le_refl _) _;have HS:Hid (_):=yc4 E B b D jl v Q sz vs wd ar tr un _ (h.below hb0) ((hb0.block jl (lt_of_block hb)).trans hb) (g.below hb0);have HX:Hid (∀ (d:ByteArray) w1,d.size≤D→_):=fun d w1 hd=>yer d ⟨#[10]⟩ w1 (by unfold maxLen;omega)
 have HA:Hid (∀ w1,Below w.heap.size w w1→_):=fun w1 hb1=>yem B b D jl v Q sz vs wd ar tr un ⟨#[63]⟩ w1 (h.below hb1) hj (by show D+1≤_;omega) ((hb1.block jl (lt_of_block hb)).trans hb)
 have G:Hid (Fi.FsAt w B b D v Q∧w.heap[jl]?=some (jObj b sz vs wd ar tr un)):=⟨h,hb⟩;have cl:=lt_of_block hb;have HN:Hid ((w.alloc (.cells #[.string ⟨#[]⟩,.int .i64 0,.int .i64 0,.bool false] 75)).heap[w.heap.size]?=some (.cells #[.string ⟨#[]⟩,.int .i64 0,.int .i64 0,.bool false] 75)):=ycy;have hz0:w.heap.size < (w.alloc (.cells #[.string ⟨#[]⟩,.int .i64 0,.int .i64 0,.bool false] 75)).heap.size:=lt_of_block HN.out;have B0:Hid (_):=hb0;clear h hb g hb0;go_enter Tryz.func27,Tryz.ntmps27
 go_wp2_with fail;generalize w.alloc (.cells #[.string ⟨#[]⟩,.int .i64 0,.int .i64 0,.bool false] 75)=W at *;refine Calls.mono HS.out ?_;rintro e w1 ⟨hb1,⟨d,hd,rfl⟩ | ⟨f,rfl,hf⟩⟩
 ·have B1:Hid (_):=B0.out.trans (hb1.mono B0.out.size);have N1:Hid (_):=(hb1.block _ hz0).trans HN.out;clear hb1 HS;go_wp2_with fail;refine Calls.mono (HX.out d _ hd) ?_;rintro e w2 ⟨⟨bb,rfl⟩,hb2⟩;have B2:Hid (Below w.heap.size w w2):=B1.out.trans (hb2.mono B1.out.size);have N2:Hid (_):=(hb2.block _ (lt_of_block N1.out)).trans N1.out;clear hb2 HX B1 N1;cases bb with
  | true =>
   go_wp2_with fail;refine Calls.mono (HA.out w2 B2.out) ?_;rintro e w3 ⟨rfl,hJ⟩;have HJ:Hid (JF B b (D+1) jl v Q vs wd ar tr un w w3):=JF.pre hJ B2.out;have n3:w3.heap[w.heap.size]?=_:=(hJ.2.2.block _ (lt_of_block N2.out) (by
    rintro (h | h)
    ·omega
    ·have:=(FsAt.lt G.out.1 (h.elim Or.inl fun h=>Or.inr (Or.inr h))).2;omega)).trans N2.out
   obtain ⟨sz',hs'⟩:=hJ.1;obtain ⟨c0,c1,c2,c3,c4,c5,c6,cf,cl3⟩:=Rn.ycu hs';obtain ⟨r0,r2,r3,r4,rf⟩:=ycd n3;have HQ:Hid (_):=ycw n3 (.string wd) (.int .i64 ar) (.int .i64 tr) (.bool un);clear hJ hs' n3 HA N2;go_wp2_with fail
   all_goals (try go_region)
   all_goals (try go_wp2_with fail)
   all_goals
    obtain ⟨q1,q2⟩:=HQ.out;obtain ⟨m0,m1,m2,m3,_⟩:=ycd q1;have QE:Hid (_):=q2;clear q1 q2 HQ;generalize (((w3.setCell ⟨w.heap.size,0,none⟩ (.string wd)).setCell ⟨w.heap.size,1,none⟩ (.int .i64 ar)).setCell ⟨w.heap.size,2,none⟩ (.int .i64 tr)).setCell ⟨w.heap.size,3,none⟩ (.bool un)=W4 at *;refine bodyPost_ret (v:=.tuple #[.agg #[.string wd,.int .i64 ar,.int .i64 tr,.bool un],.bool false,.nilIface]) (by simp[results,Tryz.results27,go_sem,m0,m1,m2,m3]) rfl ?_
    exact Or.inr ⟨_,rfl,JF.new HJ.out QE.out (Nat.le_refl _) (fun h=>by have:=(FsAt.lt G.out.1 h).2;omega) (by omega)⟩
  | false =>
   obtain ⟨c0,c1,c2,c3,c4,c5,c6,cf,cl3⟩:=Rn.ycu ((B2.out.block jl cl).trans G.out.2);obtain ⟨r0,r2,r3,r4,rf⟩:=ycd N2.out;have HQ:Hid (_):=ycw N2.out (.string wd) (.int .i64 ar) (.int .i64 tr) (.bool un);clear HA;go_wp2_with fail
   all_goals (try go_region)
   all_goals (try go_wp2_with fail)
   all_goals
    obtain ⟨q1,q2⟩:=HQ.out;obtain ⟨m0,m1,m2,m3,_⟩:=ycd q1;have QE:Hid (_):=q2;clear q1 q2 HQ;generalize (((w2.setCell ⟨w.heap.size,0,none⟩ (.string wd)).setCell ⟨w.heap.size,1,none⟩ (.int .i64 ar)).setCell ⟨w.heap.size,2,none⟩ (.int .i64 tr)).setCell ⟨w.heap.size,3,none⟩ (.bool un)=W4 at *;refine bodyPost_ret (v:=.tuple #[.agg #[.string wd,.int .i64 ar,.int .i64 tr,.bool un],.bool true,.nilIface]) (by simp[results,Tryz.results27,go_sem,m0,m1,m2,m3]) rfl ?_
    exact Or.inr ⟨_,rfl,JF.new (JF.start G.out.1 (by omega) G.out.2 B2.out) QE.out (Nat.le_refl _) (fun h=>by have:=(FsAt.lt G.out.1 h).2;omega) (by omega)⟩
 ·have B1:Hid (Below w.heap.size w w1∧FJ w1 f (.iface 359 (.pointer (some (E 9))))):=⟨B0.out.trans (hb1.mono B0.out.size),hf⟩;have n1:=(hb1.block _ hz0).trans HN.out;obtain ⟨n0,n2,n3,n4,nf⟩:=ycd n1;have HQ:Hid (_):=ycw n1 (.string ⟨#[]⟩) (.int .i64 0) (.int .i64 0) (.bool false);clear hb1 hf HS HX HA n1;go_wp2_with fail
  all_goals (try go_region)
  all_goals (try go_wp2_with fail)
  all_goals
   obtain ⟨q1,q2⟩:=HQ.out;obtain ⟨m0,m1,m2,m3,_⟩:=ycd q1;have QE:Hid (_):=q2;clear q1 q2 HQ;generalize (((w1.setCell ⟨w.heap.size,0,none⟩ (.string ⟨#[]⟩)).setCell ⟨w.heap.size,1,none⟩ (.int .i64 0)).setCell ⟨w.heap.size,2,none⟩ (.int .i64 0)).setCell ⟨w.heap.size,3,none⟩ (.bool false)=W4 at *;refine bodyPost_ret (v:=.tuple #[.agg #[.string ⟨#[]⟩,.int .i64 0,.int .i64 0,.bool false],.bool false,.iface 98 (.pointer (some ⟨f,0,none⟩))]) (by simp[results,Tryz.results27,go_sem,m0,m1,m2,m3]) rfl ?_
   refine Or.inl ⟨f,rfl,ycp B1.out.1 QE.out (Nat.le_refl _) (fun k hk=>by rw[hk];exact Nat.le_refl _),?_⟩
   obtain ⟨s,hs⟩:=B1.out.2;exact ⟨s,(QE.out.block f (lt_of_block hs) (fun e=>by rw[e] at hs;simp[World.cell?,hs] at n2 n3)).trans hs⟩
open Go.RowKit
open Rn (AnsJ)
theorem yf2 (n:Int) (h:B64 n) (w:World) (htab:Lib.TabIs Tryz.prog w "internal/strconv.uint64pow10" .u64 Lib.pow10Tab) :
  Calls Tryz.prog 51 #[.int .i64 n] w fun e w'=>(∃ s:ByteArray,s.size≤21∧e=.returned (.string s))∧Below w.heap.size w w':=by
 refine (zh2 n h.1 (by have:=h.2;omega) w htab).mono ?_
 rintro e w' ⟨rfl,k,os,rfl⟩;refine ⟨⟨_,?_,rfl⟩,?_⟩
 ·show (Lib.itoa n).toArray.size≤21
  rw[List.size_toArray];exact Lib.itoa_length_le n h.1 (by have:=h.2;omega)
 ·have h2:Below (w.drewN k).heap.size (w.drewN k) (Sort.grow (w.drewN k) os):=⟨rfl,rfl,rfl,by rw[Sort.size_grow];exact Nat.le_add_right _ _,fun i hi=>Sort.heap_grow_old _ os hi⟩
  exact ⟨rfl,rfl,rfl,h2.size,fun i hi=>h2.block i hi⟩
def TlEnd (B b D o0 Bm jl:Nat) (v va:Value) (Q:List (Nat×ByteArray)) (wd:ByteArray) (ar tr:Int) (un:Bool) (a:Int) (w w':World):Prop :=
 ∃ sz vs va',w'.heap[jl]?=some (jObj b sz vs wd ar tr un)∧AnsJ w' o0 Bm vs [a] va'∧Fi.FsAt w' B b (D+100) v Q∧Tch (fun k=>k=jl∨Fi.FT b Q k∨∃ cur,w.heap[k]?=some (.cells cur 3 (0,0))∧((o0≤k∧k < Bm)∨va.ownBlock=some k)) w w' ∧
  (va'=va∨∃ n,va'.ownBlock=some n∧w.heap.size≤n∧n < w'.heap.size)
def yf6 (E:Nat→Addr) (B b D o0 Bm jl:Nat) (v va:Value) (Q:List (Nat×ByteArray)) (wd:ByteArray) (ar tr:Int) (un:Bool) (a:Int) (w:World) (e:Ending) (w':World):Prop :=
 (∃ f,e=.returned (.iface 98 (.pointer (some ⟨f,0,none⟩)))∧Below w.heap.size w w'∧FJ w' f (.iface 359 (.pointer (some (E 9))))) ∨
 (e=.returned .nilIface∧TlEnd B b D o0 Bm jl v va Q wd ar tr un a w w')
theorem TlEnd.drew {B b D o0 Bm jl:Nat} {v va:Value} {Q:List (Nat×ByteArray)} {wd:ByteArray} {ar tr:Int} {un:Bool} {a:Int} {w w':World} (h:TlEnd B b D o0 Bm jl v va Q wd ar tr un a w w'):TlEnd B b D o0 Bm jl v va Q wd ar tr un a w w'.drew:=by
 obtain ⟨sz,vs,va',h1,h2,h3,h4,h5⟩:=h;exact ⟨sz,vs,va',h1,h2.keep fun _ _ _ _=>rfl,h3.below (Below.refl _ _).drew,h4.drew,h5⟩
theorem yeq {B b D o0 Bm jl:Nat} {v va:Value} {Q:List (Nat×ByteArray)} {sz:Int} {vs:Value} {wd:ByteArray} {ar tr:Int} {un:Bool} {w W:World} (a:Int) (hW:Tch (fun k=>k=jl∨Fi.FT b Q k) w W) (hjW:W.heap[jl]?=some (jObj b sz vs wd ar tr un)) (hFW:Fi.FsAt W B b (D+100) v Q) :
  ∀ n5,n5=W.heap.size→∀ v' w5,w5.ownsRow n5 3 1 v' 1 [.int .i64 a]→W.grownBy w5 none →
   ∃ a1 n1 k1,v'=.slice a1 n1 k1∧w5.cell? ⟨jl,0,none⟩=some (.pointer (some ⟨b,0,none⟩))∧w5.cell? ⟨jl,2,none⟩=some vs∧w5.frozen? ⟨jl,2,none⟩=false∧jl < w5.heap.size∧Hid (∀ w6,(w6=w5.setCell ⟨jl,2,none⟩ v'∨w6=(w5.setCell ⟨jl,2,none⟩ v').drew)→TlEnd B b D o0 Bm jl v va Q wd ar tr un a w w6):=by
 intro n5 hn5 v' w5 hown hg;subst hn5;have hT:Tch (fun _=>False) W w5:=(Tch.refl (fun _=>False) W).grown hg fun k hk=>by cases hk
 have hj5:=(hT.block jl (lt_of_block hjW) fun h=>h).trans hjW
 have hjz:=lt_of_block hjW;obtain ⟨c0,c1,c2,c3,c4,c5,c6,cf,cl⟩:=Rn.ycu hj5;obtain ⟨hl,h⟩:=hown;rcases h with ⟨_,h2⟩ | ⟨g,cap,cur,rfl,hgW,hh,k4,k5,k6,k7⟩
 ·omega
 have hO:¬ FO b v Q jl:=FsAt.other hFW hjW (by decide) (by decide) (by decide)
 have ht:Tch (·=jl) w5 (w5.setCell ⟨jl,2,none⟩ (.slice (some ⟨g,0,none⟩) 1 cap)):=(Tch.refl (·=jl) w5).setCell (p:=⟨jl,2,none⟩) (Or.inl rfl) _
 have hgj:¬ g=jl:=by omega
 have hg6:=(ht.block g (lt_of_block hh) hgj).trans hh;have hE:TlEnd B b D o0 Bm jl v va Q wd ar tr un a w (w5.setCell ⟨jl,2,none⟩ (.slice (some ⟨g,0,none⟩) 1 cap)):=by
  refine ⟨sz,_,.slice (some ⟨g,0,none⟩) 1 cap,by rw[Ref.heap_set _ hj5]<;>rfl,⟨some ⟨g,0,none⟩,cap,rfl,k4,by show 1≤_;omega,(fun h=>by cases h),fun p hp=>?_⟩,?_,?_,Or.inr ⟨g,rfl,Nat.le_trans hW.size hgW,lt_of_block hg6⟩⟩
  ·cases hp;refine ⟨g,0,cur,rfl,hg6,by omega,fun i hi=>?_,Or.inr rfl⟩
   obtain rfl:i=0:=by simp at hi;omega
   have:cur.toList[0]?=some (.int .i64 a):=by
    have e:=congrArg (fun l=>l[0]?) k7
    rw[List.getElem?_take_of_lt (by omega)] at e
    exact e
   rw[← Array.getElem?_toList];exact this
  ·exact FsAt.away (FsAt.away hFW hT fun k hk=>hk.elim) ht fun k hk=>by rw[hk];exact hO
  ·refine ((hW.mono fun k _ hk=>?_).trans (hT.mono fun _ _ h=>h.elim)).trans (ht.mono fun k _ hk=>Or.inl hk)
   exact hk.elim Or.inl fun h=>Or.inr (Or.inl h)
 refine ⟨_,_,_,rfl,c0,c2,cf 2,cl,fun w6 hw6=>?_⟩
 rcases hw6 with rfl | rfl
 ·exact hE
 ·exact hE.drew
theorem yd9 {B b D o0 Bm jl:Nat} {v va:Value} {Q:List (Nat×ByteArray)} {sz:Int} {g o c:Nat} {cur:Array Value} {wd:ByteArray} {ar tr:Int} {un:Bool} {w W:World} (a:Int) (hW:Tch (fun k=>k=jl∨Fi.FT b Q k) w W) (hjW:W.heap[jl]?=some (jObj b sz (.slice (some ⟨g,o,none⟩) 0 c) wd ar tr un)) (hFW:Fi.FsAt W B b (D+100) v Q) (hg:w.heap[g]?=some (.cells cur 3 (0,0))) (hgW:W.heap[g]?=some (.cells cur 3 (0,0))) (hc:1≤c) (hz:o+c≤cur.size) (hv:(o0≤g∧g < Bm)∨va.ownBlock=some g) :
  (W.setCell ⟨g,o,none⟩ (.int .i64 a)).cell? ⟨jl,0,none⟩=some (.pointer (some ⟨b,0,none⟩))∧(W.setCell ⟨g,o,none⟩ (.int .i64 a)).cell? ⟨jl,2,none⟩=some (.slice (some ⟨g,o,none⟩) 0 c)∧(W.setCell ⟨g,o,none⟩ (.int .i64 a)).frozen? ⟨jl,2,none⟩=false∧jl < (W.setCell ⟨g,o,none⟩ (.int .i64 a)).heap.size ∧
  Hid (∀ w6,(w6=(W.setCell ⟨g,o,none⟩ (.int .i64 a)).setCell ⟨jl,2,none⟩ (.slice (some ⟨g,o,none⟩) 1 c)∨w6=((W.setCell ⟨g,o,none⟩ (.int .i64 a)).setCell ⟨jl,2,none⟩ (.slice (some ⟨g,o,none⟩) 1 c)).drew)→TlEnd B b D o0 Bm jl v va Q wd ar tr un a w w6):=by
 have hjg:jl≠g:=Rn.yc6 hjW hgW;have hT:Tch (·=g) W (W.setCell ⟨g,o,none⟩ (.int .i64 a)):=(Tch.refl (·=g) W).setCell (p:=⟨g,o,none⟩) (Or.inl rfl) _
 have hj5:=(hT.block jl (lt_of_block hjW) hjg).trans hjW;obtain ⟨c0,c1,c2,c3,c4,c5,c6,cf,cl⟩:=Rn.ycu hj5;have hO:¬ FO b v Q jl:=FsAt.other hFW hjW (by decide) (by decide) (by decide)
 have hOg:¬ FO b v Q g:=FsAt.other hFW hgW (by decide) (by decide) (by decide)
 have hg5:(W.setCell ⟨g,o,none⟩ (.int .i64 a)).heap[g]?=some (.cells (cur.setIfInBounds o (.int .i64 a)) 3 (0,0)):=by rw[Ref.heap_set _ hgW]
 generalize W.setCell ⟨g,o,none⟩ (.int .i64 a)=w5 at *;have ht:Tch (·=jl) w5 (w5.setCell ⟨jl,2,none⟩ (.slice (some ⟨g,o,none⟩) 1 c)):=(Tch.refl (·=jl) w5).setCell (p:=⟨jl,2,none⟩) (Or.inl rfl) _
 have hg6:=(ht.block g (lt_of_block hg5) fun e=>hjg e.symm).trans hg5
 have hE:TlEnd B b D o0 Bm jl v va Q wd ar tr un a w (w5.setCell ⟨jl,2,none⟩ (.slice (some ⟨g,o,none⟩) 1 c)):=by
  refine ⟨sz,_,va,by rw[Ref.heap_set _ hj5]<;>rfl,⟨some ⟨g,o,none⟩,c,rfl,hc,by show 1≤_;omega,(fun h=>by cases h),fun p hp=>?_⟩,?_,?_,Or.inl rfl⟩
  ·cases hp;refine ⟨g,o,_,rfl,hg6,by rw[Array.size_setIfInBounds];omega,fun i hi=>?_,hv⟩
   obtain rfl:i=0:=by simp at hi;omega
   rw[Nat.add_zero,Array.getElem?_setIfInBounds_self,if_pos (by omega)]
   all_goals rfl
  ·exact FsAt.away (FsAt.away hFW hT fun k hk=>by rw[hk];exact hOg) ht fun k hk=>by rw[hk];exact hO
  ·refine ((hW.mono fun k _ hk=>?_).trans (hT.mono fun k _ hk=>?_)).trans (ht.mono fun k _ hk=>Or.inl hk)
   ·exact hk.elim Or.inl fun h=>Or.inr (Or.inl h)
   ·exact Or.inr (Or.inr ⟨cur,by rw[hk];exact hg,by rw[hk];exact hv⟩)
 refine ⟨c0,c2,cf 2,cl,fun w6 hw6=>?_⟩
 rcases hw6 with rfl | rfl
 ·exact hE
 ·exact hE.drew
theorem yc9 (E:Nat→Addr) (B b D o0 Bm jl:Nat) (v va:Value) (Q:List (Nat×ByteArray)) (sz:Int) (vs:Value) (wd:ByteArray) (ar tr:Int) (un:Bool) (a:Int) (ha:B64 a) (w:World) (h:Fi.FsAt w B b D v Q) (hj:HasJ Q) (hD:D≤100000000000) (hb:w.heap[jl]?=some (jObj b sz vs wd ar tr un)) (hA:AnsJ w o0 Bm vs [] va) (_hBm:Bm≤w.heap.size) (g:Lg.Snt w E) (htab:∀ w1,Below w.heap.size w w1→Lib.TabIs Tryz.prog w1 "internal/strconv.uint64pow10" .u64 Lib.pow10Tab) :
  Calls Tryz.prog 29 #[.pointer (some ⟨jl,0,none⟩),.int .i64 a] w (yf6 E B b D o0 Bm jl v va Q wd ar tr un a w):=by
 have HS:Hid (_):=yc4 E B b D jl v Q sz vs wd ar tr un w h hb g;have HI:Hid (∀ w1,Below w.heap.size w w1→_):=fun w1 hb1=>yf2 a ha w1 (htab w1 hb1)
 have HL:Hid (∀ (S d:ByteArray) w1,S.size≤1000→d.size≤D→_):=fun S d w1 h1 h2=>ye1 S d w1 h1 (by omega)
 have HA:Hid (∀ (r:ByteArray) w1,r.size≤100→Below w.heap.size w w1→_):=fun r w1 hr hb1=>yem B b D jl v Q sz vs wd ar tr un r w1 (h.below hb1) hj (by omega) ((hb1.block jl (lt_of_block hb)).trans hb)
 have G:Hid (Fi.FsAt w B b D v Q∧w.heap[jl]?=some (jObj b sz vs wd ar tr un)∧AnsJ w o0 Bm vs [] va):=⟨h,hb,hA⟩;have cl:=lt_of_block hb;clear h hb g hA htab;go_enter Tryz.func29,Tryz.ntmps29
 go_wp2_with fail;refine Calls.mono HS.out ?_;rintro e w1 ⟨hb1,⟨d,hd,rfl⟩ | ⟨f,rfl,hf⟩⟩
 ·have B1:Hid (_):=hb1;clear hb1 HS;go_wp2_with fail;refine Calls.mono (HI.out _ B1.out) ?_;rintro e w2 ⟨⟨s,hs,rfl⟩,hb2⟩;have B2:Hid (Below w.heap.size w w2):=B1.out.trans (hb2.mono B1.out.size);clear hb2 HI B1;go_wp2_with fail;have hls:((⟨#[33]⟩:ByteArray)++s++⟨#[10]⟩).size≤100:=by
   rw[ByteArray.size_append,ByteArray.size_append];show 1+s.size+1≤100
   omega
  generalize ((⟨#[33]⟩:ByteArray)++s++⟨#[10]⟩)=S at *;refine Calls.mono (HL.out S d w2 (by omega) hd) ?_
  rintro e w3 ⟨⟨r,hr,rfl⟩,hb3⟩;have B3:Hid (Below w.heap.size w w3):=B2.out.trans (hb3.mono B2.out.size);clear hb3 HL B2;go_wp2_with fail;refine Calls.mono (HA.out r w3 (by omega) B3.out) ?_
  rintro e w4 ⟨rfl,hJ⟩;have HJ:Hid (JF B b (D+r.size) jl v Q vs wd ar tr un w w4):=JF.pre hJ B3.out;clear hJ HA;obtain ⟨sz',hs'⟩:=HJ.out.1;obtain ⟨c0,c1,c2,c3,c4,c5,c6,cf,cl4⟩:=Rn.ycu hs';have HS4:Hid (_):=hs';obtain ⟨i0,hi,hz0,hz1,hz2⟩:=info_parts yf4;have hWw:Below w4.heap.size w4 (w4.alloc (.cells #[.int .i64 a] 3)):=(Below.refl _ _).alloc (Nat.le_refl _) _;have TW:Hid (Tch (fun k=>k=jl∨Fi.FT b Q k) w (w4.alloc (.cells #[.int .i64 a] 3))∧(w4.alloc (.cells #[.int .i64 a] 3)).heap[jl]?=some (jObj b sz' vs wd ar tr un)∧Fi.FsAt (w4.alloc (.cells #[.int .i64 a] 3)) B b (D+100) v Q):=⟨HJ.out.2.2.alloc _,(hWw.block jl cl4).trans HS4.out,(FsAt.up HJ.out.2.1 (by omega)).below hWw⟩
  have N2:Hid (∀ j u,[Value.int .i64 a][j]?=some u→(w4.alloc (.cells #[.int .i64 a] 3)).cell? ((⟨w4.heap.size,0,none⟩:Addr).add j)=some u):=Fi.yey ycy;have N3:Hid (∀ u∈[Value.int .i64 a],u.oneCell'=true):=by intro u hu;simp at hu;subst hu;rfl
  have NW:Hid (_):=yeq (B:=B) (b:=b) (D:=D) (o0:=o0) (Bm:=Bm) (jl:=jl) (v:=v) (va:=va) (Q:=Q) a TW.out.1 TW.out.2.1 TW.out.2.2 (w4.heap.size+1) (by simp)
  obtain ⟨ad,c,rfl,hcap,hll,hnone,hce⟩:=G.out.2.2;simp only[List.length_nil] at c2 TW NW;clear hs' hWw;cases ad with
  | none =>
   obtain rfl:=hnone rfl;clear hce hcap hll hnone;go_wp2_with (first
    | (at_builtin;refine wpList_append_grows _ rfl _ _ 22 rfl 3 i0 (.int .i64 0) 1 8 Tryz.underlying22 hi hz0 hz1 hz2 rfl (by decide) none 0 0 [] rfl (fun _=>⟨rfl,rfl⟩) rfl (fun b h=>by cases h) ⟨w4.heap.size,0,none⟩ 1 1 [.int .i64 a] rfl rfl N2.out N3.out (by decide) (by decide) (by decide) ?_)
    | fail)
   intro v' w5 hown hgrow;obtain ⟨a1,n1,k1,rfl,e0,e2,ef,el,HN⟩:=NW.out v' w5 hown hgrow;clear hown hgrow NW;go_wp2_with fail
   all_goals (try go_region)
   all_goals (try go_wp2_with fail)
   all_goals
    go_ret;exact Or.inr ⟨rfl,HN.out _ (by first | exact Or.inl rfl | exact Or.inr rfl)⟩
  | some p =>
   obtain ⟨g,o,cur,rfl,hg,hz,_,hv⟩:=hce p rfl;have hg4:(w4.alloc (.cells #[.int .i64 a] 3)).heap[g]?=some (.cells cur 3 (0,0)):=(TW.out.1.block g (lt_of_block hg) (by
    rintro (h | h)
    ·exact Rn.yc6 G.out.2.1 hg h.symm
    ·exact FsAt.other G.out.1 hg (by decide) (by decide) (by decide) (h.elim Or.inl fun h=>Or.inr (Or.inr h)))).trans hg
   have HR:Hid (1≤c→_):=fun hc=>yd9 a TW.out.1 TW.out.2.1 TW.out.2.2 hg hg4 hc hz hv
   have HSp:Hid (0+1≤c→∀ j,j < [Value.int .i64 a].length→((w4.alloc (.cells #[.int .i64 a] 3)).cell? ⟨g,o+0 * 1+j,none⟩).isSome=true∧(w4.alloc (.cells #[.int .i64 a] 3)).frozen? ⟨g,o+0 * 1+j,none⟩=false):=by
    intro hc j hj;obtain rfl:j=0:=by simp at hj;omega
    have:o < cur.size:=by omega
    simp[World.cell?,World.frozen?,hg4,this]
   clear hce hcap hll hnone hg hg4 hz hv;go_wp2_with (first
    | (at_builtin;refine wpList_append_arg _ rfl _ _ 22 rfl 3 i0 (.int .i64 0) 1 8 Tryz.underlying22 hi hz0 hz1 hz2 rfl (by decide) g o 0 c [] rfl rfl (fun j u h=>by cases h) ⟨w4.heap.size,0,none⟩ 1 1 [.int .i64 a] rfl rfl N2.out N3.out HSp.out (by decide) (by decide) ?_ ?_)
    | fail)
   ·intro hc;have e:(w4.alloc (.cells #[.int .i64 a] 3)).setCells g o [.int .i64 a]=(w4.alloc (.cells #[.int .i64 a] 3)).setCell ⟨g,o,none⟩ (.int .i64 a):=by simp[World.setCells]
    rw[e];obtain ⟨e0,e2,ef,el,HN⟩:=HR.out hc;generalize (w4.alloc (.cells #[.int .i64 a] 3)).setCell ⟨g,o,none⟩ (.int .i64 a)=w5 at *;clear HR NW HSp e;go_wp2_with fail
    all_goals (try go_region)
    all_goals (try go_wp2_with fail)
    all_goals
     go_ret;exact Or.inr ⟨rfl,HN.out _ (by first | exact Or.inl rfl | exact Or.inr rfl)⟩
   ·intro hc v' w5 hown hgrow;obtain ⟨a1,n1,k1,rfl,e0,e2,ef,el,HN⟩:=NW.out v' w5 hown hgrow;clear hown hgrow NW HSp HR;go_wp2_with fail
    all_goals (try go_region)
    all_goals (try go_wp2_with fail)
    all_goals
     go_ret;exact Or.inr ⟨rfl,HN.out _ (by first | exact Or.inl rfl | exact Or.inr rfl)⟩
 ·have B1:Hid (Below w.heap.size w w1∧FJ w1 f (.iface 359 (.pointer (some (E 9))))):=⟨hb1,hf⟩;clear hb1 hf HS HA HI HL;go_wp2_with fail;go_ret;exact Or.inl ⟨f,rfl,B1.out.1,B1.out.2⟩
end Jn
open Go.RowKit
namespace Tn
theorem gPow:Tryz.prog.globalNamed "internal/strconv.uint64pow10" = some 17:=by kernel_rfl
structure Gt (w:World) (E F:Nat→Addr):Prop where
 l:Lg.Gw w E
 t:Jn.Je w E
 v1:w.cell? ⟨11,0,none⟩=some (.iface 359 (.pointer (some (F 1))))
 v2:w.cell? ⟨13,0,none⟩=some (.iface 359 (.pointer (some (F 2))))
 v3:w.cell? ⟨14,0,none⟩=some (.iface 359 (.pointer (some (F 3))))
 v4:w.cell? ⟨12,0,none⟩=some (.iface 359 (.pointer (some (F 4))))
 b:∀ i,1≤i→i≤4→∃ c t,w.heap[(F i).block]?=some (.cells c t (0,0))
 ne:∀ i j,1≤i→i≤4→1≤j→j≤4→i≠j→F i≠F j
 k:Mk.Gk w w.heap.size
 tab:Lib.TabIs Tryz.prog w "internal/strconv.uint64pow10" .u64 Lib.pow10Tab
theorem Gt.below {w w':World} {E F:Nat→Addr} (h:Gt w E F) (k:Below w.heap.size w w'):Gt w' E F:=by
 have hv:∀ {g:Nat} {v:Value},w.cell? ⟨g,0,none⟩=some v→w'.cell? ⟨g,0,none⟩=some v:=fun {g v} hc=>by rw[k.cell (p:=⟨g,0,none⟩) (lt_of_cell hc)];exact hc
 have g:=h.k.below k;refine ⟨h.l.below k,h.t.below k,hv h.v1,hv h.v2,hv h.v3,hv h.v4,fun i h1 h2=>?_,h.ne,⟨g.tab,Nat.le_trans g.lo k.size⟩,Joins.tab_stays gPow h.tab k (Nat.le_refl _)⟩
 obtain ⟨c,t,hb⟩:=h.b i h1 h2;exact ⟨c,t,(k.block _ (lt_of_block hb)).trans hb⟩
structure Fit (P:Px.Pg):Prop where
 ok:∀ i∈P.ins,Px.OkI i
 li:P.ins.length≤10000000
 lw:P.words.length≤10000000
 nv:P.nv≤10000000
theorem zm7 {s:ByteArray} {l:List Px.Sm} (h:Px.read s=.ok l):Fit (Px.pgOf l):=by
 obtain ⟨hg,hl⟩:=Px.qxp h;have hw:=Px.qqz l [];have hv:=Px.quw l [];simp only[List.length_nil,Nat.zero_add] at hw hv;have iw:∀ w,Px.idxW (Px.wsS l []) w < 65536:=fun w=>by have:=Px.qtq (Px.wsS l []) w;omega
 have iv:∀ w,Px.idxW (Px.vsS l []) w < 65536:=fun w=>by have:=Px.qtq (Px.vsS l []) w;omega
 have hi:=Px.qiq (Px.idxW (Px.wsS l [])) (Px.idxW (Px.vsS l [])) l 0;refine ⟨Px.qpn iw iv l hg 0 (by omega),?_,?_,?_⟩
 ·show (Px.mkS _ _ l 0).length≤_;omega
 ·show (Px.wsS l []).length≤_;omega
 ·show (Px.vsS l []).length≤_;omega
structure Sty (B0 b:Nat) (s:ByteArray) (l:List Px.Sm) (x:Rn.Cx):Prop where
 r:Px.read s=.ok l
 c:Px.check s=(0,0)
 P:x.P=Px.pgOf l
 K:x.K=Rn.Kj B0 x.B x.jl b
 vj:x.vj=.iface 60 (.pointer (some ⟨x.jl,0,none⟩))
 jl:B0≤x.jl∧x.jl < x.B
 J:∀ k,Rn.qit k=true→x.B≤x.J k
 E:∀ i,1≤i→i≤4→(x.E i).block < B0
 G:21≤B0
theorem Sty.ja {B0 b:Nat} {s:ByteArray} {l:List Px.Sm} {x:Rn.Cx} (h:Sty B0 b s l x):Rn.JA x 263:=Rn.yfp h.K h.jl.2
theorem Sty.B0 {B0 b:Nat} {s:ByteArray} {l:List Px.Sm} {x:Rn.Cx} (h:Sty B0 b s l x):B0 < x.B:=Nat.lt_of_le_of_lt h.jl.1 h.jl.2
structure Er (w0:World) (E F:Nat→Addr) (s:ByteArray) (l:List Px.Sm) (x:Rn.Cx) (b:Nat) (v:Value) (Q:List (Nat×ByteArray)) (D eb:Nat) (asked:Bool) (m:Px.Ms) (f:Nat→Value) (va:Value) (w:World):Prop where
 at_:w.heap[eb]?=some (.cells #[.pointer (some ⟨x.g,0,none⟩),.pointer (some ⟨x.jl,0,none⟩),.bool asked] 70)
 y:Sty w0.heap.size b s l x
 g0:Gt w0 E F
 mc:Rn.MK x m w f va
 fs:Fi.FsAt w w0.heap.size b D v Q
 hj:Jn.HasJ Q
 lo:∀ k,Jn.FO b v Q k→k < x.B
 eo:¬ Rn.Own x f va eb
 eJ:∀ j,Rn.qit j=true→eb≠x.J j
 eB:x.B≤eb
 be:Below w0.heap.size w0 w
structure Live (l:List Px.Sm) (m:Px.Ms) (asked:Bool):Prop where
 co:∃ L,Px.Come (Px.pgOf l) L m∧∀ a∈L,Px.R64 a
 fin:asked=true→m.fin=0
section
variable {w0:World} {E F:Nat→Addr} {s:ByteArray} {l:List Px.Sm} {x:Rn.Cx} {b:Nat} {v:Value} {Q:List (Nat×ByteArray)} {D eb:Nat} {asked:Bool} {m:Px.Ms} {f:Nat→Value} {va:Value} {w:World}
theorem Er.gt (h:Er w0 E F s l x b v Q D eb asked m f va w):Gt w E F:=h.g0.below h.be
theorem Er.same (h:Er w0 E F s l x b v Q D eb asked m f va w) {w':World} (hb:Below w.heap.size w w'):Er w0 E F s l x b v Q D eb asked m f va w' :=
 ⟨(hb.block eb (lt_of_block h.at_)).trans h.at_,h.y,h.g0,(h.mc.same h.y.ja.ok ((Tch.refl _ _).below hb)).1,h.fs.below hb,h.hj,h.lo,h.eo,h.eJ,h.eB,h.be.trans (hb.mono h.be.size)⟩
theorem Er.put (h:Er w0 E F s l x b v Q D eb asked m f va w) (q:Bool):Er w0 E F s l x b v Q D eb q m f va (w.setCell ⟨eb,2,none⟩ (.bool q)):=by
 have ht:Tch (·=eb) w (w.setCell ⟨eb,2,none⟩ (.bool q)):=(Tch.refl (·=eb) w).setCell (p:=⟨eb,2,none⟩) (Or.inl rfl) _
 refine ⟨by rw[Ref.heap_set _ h.at_]<;>rfl,h.y,h.g0,h.mc.away h.y.ja.ok ht (fun k hk=>by rw[hk];exact h.eB) (fun k hk=>by rw[hk];exact h.eo) (fun k j hk hj=>by rw[hk];exact h.eJ j hj),Jn.FsAt.away h.fs ht fun k hk ho=>?_,h.hj,h.lo,h.eo,h.eJ,h.eB,Jn.ycp h.be ht (Nat.le_refl _) fun k hk=>?_⟩
 ·have:=h.lo k ho
  have:=h.eB
  omega
 ·have:=h.y.B0
  have:=h.eB
  omega
theorem Er.kj (h:Er w0 E F s l x b v Q D eb asked m f va w):∃ sz vs wd ar tr un,w.heap[x.jl]?=some (Jn.jObj b sz vs wd ar tr un)∧Rn.AnsJ w w0.heap.size x.B vs m.left va:=by
 have:=h.mc.k
 rw[h.y.K] at this;exact this
theorem Er.ft (h:Er w0 E F s l x b v Q D eb asked m f va w) {k:Nat} (hk:k=x.jl∨Fi.FT b Q k):k < x.B∧w0.heap.size≤k∧Rn.NoPg w k:=by
 rcases hk with rfl | hk
 ·obtain ⟨sz,vs,wd,ar,tr,un,h1,_⟩:=h.kj;exact ⟨h.y.jl.2,h.y.jl.1,Rn.NoPg.of h1 (by decide) (by decide) (by decide)⟩
 ·have ho:Jn.FO b v Q k:=hk.elim Or.inl fun h=>Or.inr (Or.inr h)
  refine ⟨h.lo k ho,(Jn.FsAt.lt h.fs ho).1,?_⟩;rcases hk with rfl | ⟨q,hq,rfl⟩
  ·obtain ⟨n,hn⟩:=h.fs.bk;exact Rn.NoPg.of hn (by decide) (by decide) (by decide)
  ·obtain ⟨d,y,hf,_⟩:=h.fs.fl q hq;exact Rn.NoPg.of hf (by decide) (by decide) (by decide)
theorem Er.ask (h:Er w0 E F s l x b v Q D eb asked m f va w) {D':Nat} {sz:Int} {vs:Value} {wd:ByteArray} {ar tr:Int} {un:Bool} {w':World} (h1:w.heap[x.jl]?=some (Jn.jObj b sz vs wd ar tr un)) (h2:Rn.AnsJ w w0.heap.size x.B vs m.left va) (hJ:Jn.JF w0.heap.size b D' x.jl v Q vs wd ar tr un w w'):Er w0 E F s l x b v Q D' eb asked m f va w':=by
 obtain ⟨⟨sz',h3⟩,h4,h5⟩:=hJ;have hk:x.K m.left m.asks va w':=by
  rw[h.y.K];refine ⟨sz',vs,wd,ar,tr,un,h3,h2.keep fun g cur hg _=>h5.block g (lt_of_block hg) ?_⟩
  rintro (e | e)
  ·exact Rn.yc6 h1 hg e.symm
  ·exact Jn.FsAt.other h.fs hg (by decide) (by decide) (by decide) (e.elim Or.inl fun h=>Or.inr (Or.inr h))
 have hB:=h.y.B0;have eB:=h.eB;refine ⟨(h5.block eb (lt_of_block h.at_) fun e=>?_).trans h.at_,h.y,h.g0,h.mc.low (B0:=w0.heap.size) hk h5 (fun k hk=>Or.inl (h.ft hk).1) (fun k hk=>(h.ft hk).2.2) (fun k hk=>(h.ft hk).2.1) h.y.G h.y.E h.y.J (Or.inl rfl),h4,h.hj,h.lo,h.eo,h.eJ,h.eB,Jn.ycp h.be h5 (Nat.le_refl _) fun k hk=>(h.ft hk).2.1⟩
 have:=(h.ft e).1
 omega
theorem Er.tell (h:Er w0 E F s l x b v Q D eb asked m f va w) {wd:ByteArray} {ar tr:Int} {un:Bool} {a:Int} {w':World} (hT:Jn.TlEnd w0.heap.size b D w0.heap.size x.B x.jl v va Q wd ar tr un a w w'):∃ va',Er w0 E F s l x b v Q (D+100) eb asked { m with left:=[a],asks:=[] } f va' w':=by
 obtain ⟨sz,vs,va',h1,h2,h3,h4,h5⟩:=hT;have hk:x.K [a] [] va' w':=by
  rw[h.y.K];exact ⟨sz,vs,wd,ar,tr,un,h1,h2⟩
 have hB:=h.y.B0;have eB:=h.eB;have hsep:=h.mc.a.sep.own va (by simp[Rn.rows])
 have hq:∀ k,(k=x.jl∨Fi.FT b Q k∨∃ cur,w.heap[k]?=some (.cells cur 3 (0,0))∧((w0.heap.size≤k∧k < x.B)∨va.ownBlock=some k))→(k < x.B∨va.ownBlock=some k)∧w0.heap.size≤k∧Rn.NoPg w k:=by
  rintro k (e | e | ⟨cur,e1,e2⟩)
  ·have:=h.ft (Or.inl e);exact ⟨Or.inl this.1,this.2⟩
  ·have:=h.ft (Or.inr e);exact ⟨Or.inl this.1,this.2⟩
  ·have hn:Rn.NoPg w k:=Rn.NoPg.of e1 (by decide) (by decide) (by decide)
   rcases e2 with e2 | e2
   ·exact ⟨Or.inl e2.2,e2.1,hn⟩
   ·have:=hsep k e2
    exact ⟨Or.inr e2,by omega,hn⟩
 refine ⟨va',(h4.block eb (lt_of_block h.at_) fun e=>?_).trans h.at_,h.y,h.g0,h.mc.low (B0:=w0.heap.size) hk h4 (fun k hk=>(hq k hk).1) (fun k hk=>(hq k hk).2.2) (fun k hk=>(hq k hk).2.1) h.y.G h.y.E h.y.J h5,h3,h.hj,h.lo,fun ho=>?_,h.eJ,h.eB,Jn.ycp h.be h4 (Nat.le_refl _) fun k hk=>(hq k hk).2.1⟩
 ·rcases (hq eb e).1 with q | q
  ·omega
  ·exact h.eo (Or.inr (Or.inr ⟨va,by simp[Rn.rows],q⟩))
 ·rcases ho with ho | ho | ⟨r,hr,ho⟩
  ·exact h.eo (Or.inl ho)
  ·exact h.eo (Or.inr (Or.inl ho))
  ·rcases Rn.zfm (va:=va) hr with hr | rfl
   ·exact h.eo (Or.inr (Or.inr ⟨r,hr,ho⟩))
   ·rcases h5 with rfl | ⟨n,hn,hn1,_⟩
    ·exact h.eo (Or.inr (Or.inr ⟨_,by simp[Rn.rows],ho⟩))
    ·rw[hn] at ho;cases ho
     have:=lt_of_block h.at_
     omega
theorem Er.go (h:Er w0 E F s l x b v Q D eb asked m f va w) {m2:Px.Ms} {w':World} (hP:Rn.PM x m2 w f va w'):∃ f' va',Er w0 E F s l x b v Q D eb asked m2 f' va' w':=by
 obtain ⟨f',va',k1,k2⟩:=hP;have hB:=h.y.B0;have hg:=h.mc.a.hB;have hq:∀ k,Rn.Own x f va k→w0.heap.size≤k∧¬ Jn.FO b v Q k:=by
  rintro k (rfl | rfl | ⟨r,hr,hk⟩)
  ·exact ⟨by omega,fun e=>by have:=h.lo _ e;omega⟩
  ·obtain ⟨sz,vs,wd,ar,tr,un,h1,_⟩:=h.kj;exact ⟨h.y.jl.1,Jn.FsAt.other h.fs h1 (by decide) (by decide) (by decide)⟩
  ·have:=h.mc.a.sep.own r hr k hk
   exact ⟨by omega,fun e=>by have:=h.lo _ e;omega⟩
 exact ⟨f',va',(k2.t.block eb (lt_of_block h.at_) h.eo).trans h.at_,h.y,h.g0,k1,Jn.FsAt.away h.fs k2.t fun k hk=>(hq k hk).2,h.hj,h.lo,fun ho=>h.eo (k2.o eb (lt_of_block h.at_) ho),h.eJ,h.eB,Jn.ycp h.be k2.t (Nat.le_refl _) fun k hk=>(hq k hk).1⟩
end
open Go.RowKit
section
variable {w0:World} {E F:Nat→Addr} {s:ByteArray} {l:List Px.Sm} {x:Rn.Cx} {b:Nat} {v:Value} {Q:List (Nat×ByteArray)} {D eb:Nat} {asked:Bool} {m:Px.Ms} {f:Nat→Value} {va:Value} {w:World}
theorem Er.cells (h:Er w0 E F s l x b v Q D eb asked m f va w):w.cell? ⟨eb,0,none⟩=some (.pointer (some ⟨x.g,0,none⟩))∧w.cell? ⟨eb,1,none⟩=some (.pointer (some ⟨x.jl,0,none⟩))∧w.cell? ⟨eb,2,none⟩=some (.bool asked)∧(∀ o,w.frozen? ⟨eb,o,none⟩=false)∧eb < w.heap.size:=by
 refine ⟨?_,?_,?_,?_,lt_of_block h.at_⟩<;>simp[World.cell?,World.frozen?,h.at_]
theorem Er.up (h:Er w0 E F s l x b v Q D eb asked m f va w) {D':Nat} (hD:D≤D'):Er w0 E F s l x b v Q D' eb asked m f va w :=
 ⟨h.at_,h.y,h.g0,h.mc,Jn.FsAt.up h.fs hD,h.hj,h.lo,h.eo,h.eJ,h.eB,h.be⟩
theorem Er.new (h0:Er w0 E F s l x b v Q D eb asked m f va w) {D':Nat} {asked':Bool} {w1 w2:World} {n:Nat} (h:Er w0 E F s l x b v Q D' eb asked' m f va w1) (t:Tch (·=n) w1 w2) (hn:w.heap.size≤n):Er w0 E F s l x b v Q D' eb asked' m f va w2:=by
 have he:=lt_of_block h0.at_;have eB:=h0.eB;have hB:=h0.y.B0;refine ⟨(t.block eb (lt_of_block h.at_) fun e=>by omega).trans h.at_,h.y,h.g0,h.mc.away h.y.ja.ok t (fun k hk=>by omega) (fun k hk ho=>?_) (fun k j hk hj=>?_),Jn.FsAt.away h.fs t fun k hk ho=>?_,h.hj,h.lo,h.eo,h.eJ,h.eB,Jn.ycp h.be t (Nat.le_refl _) fun k hk=>by omega⟩
 ·have:=Rn.Own.lt h0.mc.a ho
  omega
 ·have:x.J j < w.heap.size:=lt_of_cell (h0.mc.a.jn j hj).1
  omega
 ·have:=h.lo k ho
  omega
end
theorem yc0 (eb g:Nat) (w:World) (h:w.cell? ⟨eb,0,none⟩=some (.pointer (some ⟨g,0,none⟩))):Calls Tryz.prog 25 #[.pointer (some ⟨eb,0,none⟩)] w fun e w'=>e=.returned (.bool true)∧w'=w:=by
 go_enter Tryz.func25,Tryz.ntmps25
 go_wp2_with fail;go_ret;exact ⟨rfl,rfl⟩
theorem yfu (g n:Nat) (w:World) (h:w.cell? ⟨g,89,none⟩=some (.int .i64 (n:Int))):Calls Tryz.prog 26 #[.pointer (some ⟨g,0,none⟩)] w fun e w'=>e=.returned (.int .i64 (n:Int))∧w'=w:=by
 go_enter Tryz.func26,Tryz.ntmps26
 go_wp2_with fail;go_ret;exact ⟨rfl,rfl⟩
def yf8 (w0:World) (E F:Nat→Addr) (s:ByteArray) (l:List Px.Sm) (x:Rn.Cx) (b:Nat) (v:Value) (Q:List (Nat×ByteArray)) (D eb:Nat) (m:Px.Ms) (f:Nat→Value) (va:Value) (e:Ending) (w':World):Prop :=
 (∃ r,e=.returned r)∧∃ q,(q=true→m.fin=0)∧Er w0 E F s l x b v Q (D+1) eb q m f va w'
theorem zmt (w0:World) (E F:Nat→Addr) (s:ByteArray) (l:List Px.Sm) (x:Rn.Cx) (b:Nat) (v:Value) (Q:List (Nat×ByteArray)) (D eb:Nat) (asked:Bool) (m:Px.Ms) (f:Nat→Value) (va:Value) (w:World) (hD:D≤100000000000) (h:Er w0 E F s l x b v Q D eb asked m f va w) :
  Calls Tryz.prog 11 #[.pointer (some ⟨eb,0,none⟩)] w (yf8 w0 E F s l x b v Q D eb m f va):=by
 have hb0:Below w.heap.size w (w.alloc (.cells #[.string ⟨#[]⟩,.int .i64 0,.int .i64 0,.bool false] 35)):=(Below.refl _ _).alloc (Nat.le_refl _) _;have H0:Hid (_):=h;have HW:Hid (Er w0 E F s l x b v Q D eb asked m f va (w.alloc (.cells #[.string ⟨#[]⟩,.int .i64 0,.int .i64 0,.bool false] 35))∧(w.alloc (.cells #[.string ⟨#[]⟩,.int .i64 0,.int .i64 0,.bool false] 35)).heap[w.heap.size]?=some (.cells #[.string ⟨#[]⟩,.int .i64 0,.int .i64 0,.bool false] 35)):=⟨h.same hb0,Jn.ycy⟩;have hew:eb < w.heap.size:=lt_of_block h.at_;clear h hb0;go_enter Tryz.func11,Tryz.ntmps11
 go_wp2_with fail;generalize w.alloc (.cells #[.string ⟨#[]⟩,.int .i64 0,.int .i64 0,.bool false] 35)=W at *;obtain ⟨c0,c1,c2,cf,cl⟩:=HW.out.1.cells;refine Calls.mono (yc0 eb x.g W c0) ?_;rintro e w1 ⟨rfl,rfl⟩;go_wp2_with fail;have H1:Hid (Er w0 E F s l x b v Q D eb false m f va (w1.setCell ⟨eb,2,none⟩ (.bool false))∧(w1.setCell ⟨eb,2,none⟩ (.bool false)).heap[w.heap.size]?=some (.cells #[.string ⟨#[]⟩,.int .i64 0,.int .i64 0,.bool false] 35)):=⟨HW.out.1.put false,(((Tch.refl (·=eb) w1).setCell (p:=⟨eb,2,none⟩) (Or.inl rfl) _).block _ (lt_of_block HW.out.2) (by omega)).trans HW.out.2⟩
 clear HW c0 c1 c2 cf cl;generalize w1.setCell ⟨eb,2,none⟩ (.bool false)=W1 at *;obtain ⟨c0,c1,c2,cf,cl⟩:=H1.out.1.cells;have c89:=H1.out.1.mc.a.blk.cell 89 (by decide)
 rw[H1.out.1.mc.a.f89] at c89;refine Calls.mono (yfu x.g m.fin W1 c89) ?_;rintro e w2 ⟨rfl,rfl⟩;by_cases hf:m.fin=0
 ·rw[hf];obtain ⟨sz,vs,wd,ar,tr,un,hk1,hk2⟩:=H1.out.1.kj;have HA:Hid (_):=Jn.zj1 E w0.heap.size b D x.jl v Q sz vs wd ar tr un w2 H1.out.1.fs H1.out.1.hj hD hk1 H1.out.1.gt.l.s;have HK:Hid (_∧_):=⟨hk1,hk2⟩;clear hk1 hk2 c89;go_wp2_with fail;refine Calls.mono HA.out ?_;rintro e w3 (⟨g,rfl,hb3,hg3⟩ | ⟨again,rfl,hJ⟩)
  ·have hb4:=hb3.alloc hb3.size (.cells #[.string ⟨#[]⟩,.int .i64 0,.int .i64 0,.bool false] 75);have hg4:Jn.FJ (w3.alloc (.cells #[.string ⟨#[]⟩,.int .i64 0,.int .i64 0,.bool false] 75)) g _:=Jn.FJ.below hg3 ((Below.refl _ _).alloc (Nat.le_refl _) _);have H3:Hid (Er w0 E F s l x b v Q D eb false m f va (w3.alloc (.cells #[.string ⟨#[]⟩,.int .i64 0,.int .i64 0,.bool false] 75))):=H1.out.1.same hb4;have n3:=(hb4.block _ (lt_of_block H1.out.2)).trans H1.out.2;obtain ⟨r0,r2,r3,r4,rf⟩:=Jn.ycd n3;have HQ:Hid (_):=Jn.ycw n3 (.string ⟨#[]⟩) (.int .i64 0) (.int .i64 0) (.bool false);have HN:Hid (_):=Jn.ycv E g _ H3.out.gt.l.s hg4
   clear hb3 hg3 HA HK n3 hb4 hg4;go_wp2_with fail;generalize w3.alloc (.cells #[.string ⟨#[]⟩,.int .i64 0,.int .i64 0,.bool false] 75)=w3 at *;refine Calls.mono HN.out ?_;rintro e w4 ⟨rfl,rfl⟩;go_wp2_with fail
   all_goals (try go_region)
   all_goals (try go_wp2_with fail)
   all_goals
    obtain ⟨q1,q2⟩:=HQ.out;obtain ⟨m0,m1,m2,m3,_⟩:=Jn.ycd q1;have QE:Hid (_):=q2;clear q1 q2 HQ;generalize (((w4.setCell ⟨w.heap.size,0,none⟩ (.string ⟨#[]⟩)).setCell ⟨w.heap.size,1,none⟩ (.int .i64 0)).setCell ⟨w.heap.size,2,none⟩ (.int .i64 0)).setCell ⟨w.heap.size,3,none⟩ (.bool false)=W4 at *;refine bodyPost_ret (v:=.tuple #[.agg #[(.string ⟨#[]⟩),(.int .i64 0),(.int .i64 0),(.bool false)],.bool false,.int .i64 0,.int .i64 10]) (by simp[results,Tryz.results11,go_sem,m0,m1,m2,m3]) rfl ?_
    exact ⟨⟨_,rfl⟩,false,(fun h=>by cases h),(H0.out.new H3.out QE.out (Nat.le_refl _)).up (by omega)⟩
  ·have H3:Hid (Er w0 E F s l x b v Q (D+1) eb false m f va w3):=H1.out.1.ask HK.out.1 HK.out.2 hJ;have n3:w3.heap[w.heap.size]?=_:=(hJ.2.2.block _ (lt_of_block H1.out.2) (fun e=>by have:=(H1.out.1.ft e).1;have:=H1.out.1.eB;omega)).trans H1.out.2
   obtain ⟨d0,d1,d2,df,dl⟩:=H3.out.cells;have H4:Hid (Er w0 E F s l x b v Q (D+1) eb true m f va (w3.setCell ⟨eb,2,none⟩ (.bool true))∧(w3.setCell ⟨eb,2,none⟩ (.bool true)).heap[w.heap.size]?=_):=⟨H3.out.put true,(((Tch.refl (·=eb) w3).setCell (p:=⟨eb,2,none⟩) (Or.inl rfl) _).block _ (lt_of_block n3) (by omega)).trans n3⟩
   obtain ⟨r0,r2,r3,r4,rf⟩:=Jn.ycd n3;have HQ:Hid (_):=Jn.ycw H4.out.2 (.string wd) (.int .i64 ar) (.int .i64 tr) (.bool un);have hlt3:w.heap.size < w3.heap.size:=lt_of_block n3;have hne:¬ eb=w.heap.size:=by omega
   have hne2:¬ w.heap.size=eb:=by omega
   clear hJ HA HK n3;go_wp2_with fail;obtain ⟨q1,q2⟩:=HQ.out;have hb5:Below _ _ (((((((w3.setCell ⟨eb,2,none⟩ (.bool true)).setCell ⟨w.heap.size,0,none⟩ (.string wd)).setCell ⟨w.heap.size,1,none⟩ (.int .i64 ar)).setCell ⟨w.heap.size,2,none⟩ (.int .i64 tr)).setCell ⟨w.heap.size,3,none⟩ (.bool un)).alloc (.cells #[.string wd,.int .i64 ar,.int .i64 tr,.bool un] 75))):=(Below.refl _ _).alloc (Nat.le_refl _) _;obtain ⟨m0,m1,m2,m3,_⟩:=Jn.ycd ((hb5.block _ (lt_of_block q1)).trans q1);have QE:Hid (_):=(H0.out.new H4.out.1 q2 (Nat.le_refl _)).same hb5;clear q1 q2 HQ hb5;generalize ((((((w3.setCell ⟨eb,2,none⟩ (.bool true)).setCell ⟨w.heap.size,0,none⟩ (.string wd)).setCell ⟨w.heap.size,1,none⟩ (.int .i64 ar)).setCell ⟨w.heap.size,2,none⟩ (.int .i64 tr)).setCell ⟨w.heap.size,3,none⟩ (.bool un)).alloc (.cells #[.string wd,.int .i64 ar,.int .i64 tr,.bool un] 75))=W4 at *
   refine bodyPost_ret (v:=.tuple #[.agg #[.string wd,.int .i64 ar,.int .i64 tr,.bool un],.bool again,.int .i64 0,.int .i64 0]) (by simp[results,Tryz.results11,go_sem,m0,m1,m2,m3]) rfl ?_
   exact ⟨⟨_,rfl⟩,true,(fun _=>hf),QE.out⟩
 ·have hfi:¬ (m.fin:Int)=0:=by omega
  obtain ⟨r0,r2,r3,r4,rf⟩:=Jn.ycd H1.out.2;have HQ:Hid (_):=Jn.ycw H1.out.2 (.string ⟨#[]⟩) (.int .i64 0) (.int .i64 0) (.bool false);clear c89;go_wp2_with fail
  all_goals (try go_region)
  all_goals (try go_wp2_with fail)
  all_goals
   obtain ⟨q1,q2⟩:=HQ.out;obtain ⟨m0,m1,m2,m3,_⟩:=Jn.ycd q1;have QE:Hid (_):=q2;clear q1 q2 HQ;generalize (((w2.setCell ⟨w.heap.size,0,none⟩ (.string ⟨#[]⟩)).setCell ⟨w.heap.size,1,none⟩ (.int .i64 0)).setCell ⟨w.heap.size,2,none⟩ (.int .i64 0)).setCell ⟨w.heap.size,3,none⟩ (.bool false)=W4 at *;refine bodyPost_ret (v:=.tuple #[.agg #[(.string ⟨#[]⟩),(.int .i64 0),(.int .i64 0),(.bool false)],.bool false,.int .i64 (m.fin:Int),.int .i64 0]) (by simp[results,Tryz.results11,go_sem,m0,m1,m2,m3]) rfl ?_
   exact ⟨⟨_,rfl⟩,false,(fun h=>by cases h),(H0.out.new H1.out.1 QE.out (Nat.le_refl _)).up (by omega)⟩
open Go.RowKit
def yf7 (w0:World) (E F:Nat→Addr) (s:ByteArray) (l:List Px.Sm) (x:Rn.Cx) (b:Nat) (v:Value) (Q:List (Nat×ByteArray)) (D eb:Nat) (e:Ending) (w':World):Prop :=
 (∃ r,e=.returned r)∧∃ q m f va,Er w0 E F s l x b v Q (D+100) eb q m f va w'∧Live l m q
theorem yc9 (w0:World) (E F:Nat→Addr) (s:ByteArray) (l:List Px.Sm) (x:Rn.Cx) (b:Nat) (v:Value) (Q:List (Nat×ByteArray)) (D eb:Nat) (asked:Bool) (m:Px.Ms) (f:Nat→Value) (va:Value) (w:World) (hD:D≤100000000000) (h:Er w0 E F s l x b v Q D eb asked m f va w) (lv:Live l m asked) (a:Int) (ha:Px.R64 a) :
  Calls Tryz.prog 12 #[.pointer (some ⟨eb,0,none⟩),.int .i64 a] w (yf7 w0 E F s l x b v Q D eb):=by
 obtain ⟨c0,c1,c2,cf,cl⟩:=h.cells;have HS:Hid (_):=yc0 eb x.g w c0;cases asked with
 | false =>
  have H0:Hid (_∧_):=⟨h,lv⟩;clear h lv;go_enter Tryz.func12,Tryz.ntmps12
  go_wp2_with fail;refine Calls.mono HS.out ?_;rintro e w1 ⟨rfl,rfl⟩;go_wp2_with fail;go_ret;exact ⟨⟨_,rfl⟩,false,m,f,va,H0.out.1.up (by omega),H0.out.2⟩
 | true =>
  obtain ⟨L,co,hL⟩:=lv.co;have hfin:=lv.fin rfl;obtain ⟨S,hS⟩:=Px.zkm (Px.zm5 l);have fit:=zm7 h.y.r;obtain ⟨hI,hC,hleft⟩:=Px.yfw h.y.r h.y.c hS fit.ok co hL hfin a ha;rw[← h.y.P] at hI hC hS fit;obtain ⟨sz,vs,wd,ar,tr,un,hk1,hk2⟩:=h.kj;rw[hleft] at hk2;have HT:Hid (_):=Jn.yc9 E w0.heap.size b D w0.heap.size x.B x.jl v va Q sz vs wd ar tr un a ha w h.fs h.hj hD hk1 hk2 (by have:=h.mc.a.lt;have:=h.mc.a.hB;omega) h.gt.l.s (fun w1 hb=>(h.gt.below hb).tab)
  have HG:Hid (∀ w1 f1 va1,Rn.MK x { m with left:=[a],asks:=[] } w1 f1 va1→_):=fun w1 f1 va1 hk=>Rn.zxm h.y.ja.ok (Rn.ydx h.y.ja h.y.vj) hS fit.ok fit.li fit.lw (by decide) _ hI w1 f1 va1 hk
  have HL:Hid (Live l (Px.runM x.P 4000000 { m with left:=[a],asks:=[] }).2 false):=⟨⟨L++[a],by rw[← h.y.P];exact hC,fun z hz=>(List.mem_append.1 hz).elim (hL z) fun hz=>by rw[List.mem_singleton.1 hz];exact ha⟩,fun h=>by cases h⟩
  have H0:Hid (_∧_):=⟨h,lv⟩;clear h lv co hL hI hC hS fit hk1 hk2 hleft;go_enter Tryz.func12,Tryz.ntmps12
  go_wp2_with fail;refine Calls.mono HS.out ?_;rintro e w1 ⟨rfl,rfl⟩;go_wp2_with fail;refine Calls.mono HT.out ?_;rintro e w2 (⟨g,rfl,hb2,hg2⟩ | ⟨rfl,hT⟩)
  ·have H2:Hid (Er w0 E F s l x b v Q D eb true m f va w2):=H0.out.1.same hb2;have HN:Hid (_):=Jn.ycv E g w2 H2.out.gt.l.s hg2;clear hb2 hg2 HT HG HL;go_wp2_with fail;refine Calls.mono HN.out ?_;rintro e w3 ⟨rfl,rfl⟩;go_wp2_with fail;go_ret;exact ⟨⟨_,rfl⟩,true,m,f,va,H2.out.up (by omega),H0.out.2⟩
  ·obtain ⟨va',h2⟩:=H0.out.1.tell hT;have H3:Hid (Er w0 E F s l x b v Q (D+100) eb false { m with left:=[a],asks:=[] } f va' (w2.setCell ⟨eb,2,none⟩ (.bool false))):=h2.put false
   obtain ⟨d0,d1,d2,df,dl⟩:=h2.cells;clear hT HT h2;go_wp2_with fail;generalize w2.setCell ⟨eb,2,none⟩ (.bool false)=W3 at *;refine Calls.mono (HG.out W3 f va' H3.out.mc) ?_;rintro e w4 ⟨rfl,hP⟩;obtain ⟨f',va2,h4⟩:=H3.out.go hP;have H4:Hid (_):=h4;clear hP h4 HG;go_wp2_with fail;go_ret;exact ⟨⟨_,rfl⟩,false,_,f',va2,H4.out,HL.out⟩
open Go.RowKit
def cx (w:World) (B0 g pp jl b n:Nat) (P:Px.Pg) (F:Nat→Addr):Rn.Cx :=
 ⟨w.heap.size,g,pp,jl,.iface 60 (.pointer (some ⟨jl,0,none⟩)),Rn.tabJ n,P,F,Rn.Kj B0 w.heap.size jl b⟩
structure Pre (w0:World) (E F:Nat→Addr) (s:ByteArray) (l:List Px.Sm) (L:List Int) (jl b D:Nat) (v:Value) (Q:List (Nat×ByteArray)) (N:List ByteArray) (pp:Nat) (w2 w3:World):Prop where
 g0:Gt w0 E F
 r:Px.read s=.ok l
 c:Px.check s=(0,0)
 be:Below w0.heap.size w0 w2
 fs:Fi.FsAt w2 w0.heap.size b D v Q
 hj:Jn.HasJ Q
 jb:w0.heap.size≤jl
 j:∃ sz vs,w2.heap[jl]?=some (Jn.jObj b sz vs ⟨#[]⟩ 0 0 false)∧w2.ownsRow w0.heap.size 3 1 vs L.length (Jn.iC L)
 ll:L.length≤10000000
 lr:∀ a∈L,Px.R64 a
 b3:Below w2.heap.size w2 w3
 p:Mk.PgAt w3 w2.heap.size (Px.pgOf l) N pp
section
variable {w0:World} {E F:Nat→Addr} {s:ByteArray} {l:List Px.Sm} {L:List Int} {jl b D:Nat} {v:Value} {Q:List (Nat×ByteArray)} {N:List ByteArray} {pp:Nat} {w2 w3:World}
theorem Pre.jz (h:Pre w0 E F s l L jl b D v Q N pp w2 w3):jl < w2.heap.size∧w2.heap.size≤w3.heap.size∧w0.heap.size≤w2.heap.size:=by
 obtain ⟨sz,vs,h1,_⟩:=h.j;exact ⟨lt_of_block h1,h.b3.size,h.be.size⟩
theorem Pre.sty (h:Pre w0 E F s l L jl b D v Q N pp w2 w3) {g n gv:Nat} {vj:Value} {w4:World} (hN:Rn.NewAt pp (Px.pgOf l).nv vj w3 w4 g n gv):Sty w0.heap.size b s l (cx w3 w0.heap.size g pp jl b n (Px.pgOf l) F):=by
 obtain ⟨z1,z2,z3⟩:=h.jz;refine ⟨h.r,h.c,rfl,rfl,rfl,⟨h.jb,by show jl < w3.heap.size;omega⟩,fun k hk=>(hN.jn k hk).2.2.2,fun i h1 h2=>?_,h.g0.l.lo⟩
 obtain ⟨c,t,hb⟩:=h.g0.b i h1 h2;exact lt_of_block hb
theorem Pre.pgs (h:Pre w0 E F s l L jl b D v Q N pp w2 w3) (g n:Nat):Rn.PgS (cx w3 w0.heap.size g pp jl b n (Px.pgOf l) F) w3:=by
 obtain ⟨z1,z2,z3⟩:=h.jz;obtain ⟨hBp,vl,vw,vn,h1,h2,h3,h4⟩:=h.p;refine ⟨vl,vw,vn,w2.heap.size,h1,lt_of_block h1,(show pp≠jl by omega),h2,fun k hk=>?_,h3,fun k hk=>?_⟩
 ·have:=h2.lt k hk
  exact ⟨this.2,(show k≠jl by omega)⟩
 ·have:=h3.lt k hk
  exact ⟨this.2,(show k≠jl by omega)⟩
theorem Pre.ge (h:Pre w0 E F s l L jl b D v Q N pp w2 w3) (g n:Nat):Rn.Ge (cx w3 w0.heap.size g pp jl b n (Px.pgOf l) F) w3:=by
 obtain ⟨z1,z2,z3⟩:=h.jz;have g3:Gt w3 E F:=h.g0.below (h.be.trans (h.b3.mono z3));refine ⟨g3.v1,g3.v2,g3.v3,g3.v4,fun i h1 h2=>?_,g3.ne,g3.l.lo,Nat.le_trans h.g0.l.lo h.jb⟩
 obtain ⟨c,t,hb⟩:=g3.b i h1 h2;obtain ⟨c',t',hb'⟩:=h.g0.b i h1 h2
 have:=lt_of_block hb'
 exact ⟨lt_of_block hb,(show (F i).block≠jl by have:=h.jb;omega),c,t,hb⟩
theorem Pre.made (h:Pre w0 E F s l L jl b D v Q N pp w2 w3) {g n gv:Nat} {w4:World} (hN:Rn.NewAt pp (Px.pgOf l).nv (.iface 60 (.pointer (some ⟨jl,0,none⟩))) w3 w4 g n gv):∃ f,Rn.MK (cx w3 w0.heap.size g pp jl b n (Px.pgOf l) F) (Px.qi2 (Px.pgOf l) L) w4 f (.slice none 0 0):=by
 obtain ⟨z1,z2,z3⟩:=h.jz;obtain ⟨sz,vs,h1,h2⟩:=h.j;have t24:Tch (fun _=>False) w2 w4:=((Tch.refl _ _).below h.b3).trans hN.t
 have ll:=h.ll;have hk:Rn.Kj w0.heap.size w3.heap.size jl b L [] (.slice none 0 0) w4:=by
  refine ⟨sz,vs,⟨#[]⟩,0,0,false,(t24.block jl z1 fun h=>h).trans h1,?_⟩
  obtain ⟨k1,k2⟩:=h2;rcases k2 with ⟨rfl,k3⟩ | ⟨q,cap,cur,rfl,hq,hh,k4,k5,k6,k7⟩
  ·exact ⟨none,0,by rw[k3],by omega,by omega,fun _=>rfl,fun p hp=>by cases hp⟩
  ·refine ⟨some ⟨q,0,none⟩,cap,rfl,k4,by omega,(fun h=>by cases h),fun p hp=>?_⟩
   cases hp;have hqz:=lt_of_block hh;refine ⟨q,0,cur,rfl,(t24.block q hqz fun h=>h).trans hh,by omega,fun i hi=>?_,Or.inl ⟨hq,by omega⟩⟩
   have e:cur.toList[i]?=some (.int .i64 L[i]):=by
    have:(Jn.iC L)[i]?=some (.int .i64 L[i]):=by simp[Jn.iC,hi]
    rw[← k7,List.getElem?_take_of_lt (by omega)] at this
    exact this
   rw[Nat.zero_add,← Array.getElem?_toList];exact e
 exact ⟨_,Rn.zwy (x:=cx w3 w0.heap.size g pp jl b n (Px.pgOf l) F) hN rfl rfl (show jl < w3.heap.size by omega) (zm7 h.r).nv rfl hk (h.pgs g n) (h.ge g n)⟩
theorem Pre.er (h:Pre w0 E F s l L jl b D v Q N pp w2 w3) {g n gv:Nat} {w4 w5 w6:World} (hN:Rn.NewAt pp (Px.pgOf l).nv (.iface 60 (.pointer (some ⟨jl,0,none⟩))) w3 w4 g n gv) {f:Nat→Value} (hM:Rn.MK (cx w3 w0.heap.size g pp jl b n (Px.pgOf l) F) (Px.qi2 (Px.pgOf l) L) w4 f (.slice none 0 0)) {m:Px.Ms} (hP:Rn.PM (cx w3 w0.heap.size g pp jl b n (Px.pgOf l) F) m w4 f (.slice none 0 0) w5)
  (h6:w6=w5.alloc (.cells #[.pointer (some ⟨g,0,none⟩),.pointer (some ⟨jl,0,none⟩),.bool false] 70)∨w6=(w5.alloc (.cells #[.pointer (some ⟨g,0,none⟩),.pointer (some ⟨jl,0,none⟩),.bool false] 70)).drew) :
  ∃ f' va',Er w0 E F s l (cx w3 w0.heap.size g pp jl b n (Px.pgOf l) F) b v Q D w5.heap.size false m f' va' w6:=by
 obtain ⟨z1,z2,z3⟩:=h.jz;have y:=h.sty hN;have t24:Tch (fun _=>False) w2 w4:=((Tch.refl _ _).below h.b3).trans hN.t
 obtain ⟨f',va',k1,k2⟩:=hP;have hf4:Fi.FsAt w4 w0.heap.size b D v Q:=Jn.FsAt.away h.fs t24 fun k hk=>hk.elim
 have hlo:∀ k,Jn.FO b v Q k→k < w3.heap.size:=fun k hk=>by have:=(Jn.FsAt.lt h.fs hk).2;omega
 have hq:∀ k,Rn.Own (cx w3 w0.heap.size g pp jl b n (Px.pgOf l) F) f (.slice none 0 0) k→w0.heap.size≤k∧¬ Jn.FO b v Q k:=by
  rintro k (hk | hk | ⟨r,hr,hk⟩)
  ·have:=hN.g1
   have hk':k=g:=hk;exact ⟨by omega,fun e=>by have:=hlo _ e;omega⟩
  ·obtain ⟨sz,vs,h1,_⟩:=h.j;obtain rfl:k=jl:=hk;exact ⟨h.jb,Jn.FsAt.other h.fs h1 (by decide) (by decide) (by decide)⟩
  ·have:=(hM.a.sep.own r hr k hk).1
   have:w3.heap.size≤k:=this
   exact ⟨by omega,fun e=>by have:=hlo _ e;omega⟩
 have hf5:=Jn.FsAt.away hf4 k2.t fun k hk=>(hq k hk).2
 have b4:Below w0.heap.size w0 w4:=Jn.ycp h.be t24 (Nat.le_refl _) fun k hk=>hk.elim
 have b5:Below w0.heap.size w0 w5:=Jn.ycp b4 k2.t (Nat.le_refl _) fun k hk=>(hq k hk).1
 have b6:Below w5.heap.size w5 w6:=by
  rcases h6 with rfl | rfl
  ·exact (Below.refl _ _).alloc (Nat.le_refl _) _
  ·exact ((Below.refl _ _).alloc (Nat.le_refl _) _).drew
 have hn6:w6.heap[w5.heap.size]?=some (.cells #[.pointer (some ⟨g,0,none⟩),.pointer (some ⟨jl,0,none⟩),.bool false] 70):=by
  rcases h6 with rfl | rfl<;>exact Jn.ycy
 have hB5:w3.heap.size≤w5.heap.size:=by have:=hN.t.size;have:=k2.t.size;omega
 exact ⟨f',va',hn6,y,h.g0,(k1.same y.ja.ok ((Tch.refl _ _).below b6)).1,hf5.below b6,h.hj,hlo,fun ho=>by have:=Rn.Own.lt k1.a ho;omega,fun j hj=>by have:_ < w5.heap.size:=lt_of_cell (k1.a.jn j hj).1;exact Nat.ne_of_gt this,hB5,b5.trans (b6.mono b5.size)⟩
end
open Go.RowKit
def yfz (w0:World) (E F:Nat→Addr) (s:ByteArray) (b D:Nat) (e:Ending) (w':World):Prop :=
 (∃ c p:Nat,Px.check s=(c,p)∧c≠0∧e=.returned (.tuple #[.pointer none,.int .i64 (c:Int),.int .i64 (p:Int)])∧Below w0.heap.size w0 w') ∨
 (Px.check s=(0,0)∧e=.returned (.tuple #[.pointer none,.int .i64 10,.int .i64 0])∧Below w0.heap.size w0 w') ∨
 (Px.check s=(0,0)∧∃ l x v Q eb m f va,e=.returned (.tuple #[.pointer (some ⟨eb,0,none⟩),.int .i64 0,.int .i64 0])∧Er w0 E F s l x b v Q (D+1000) eb false m f va w'∧Live l m false)
theorem yeu {s:ByteArray} {l:List Px.Sm} (h:Px.read s=.ok l):s.size≤300:=by
 by_cases h3:300 < s.size
 ·unfold Px.read at h;rw[if_pos h3] at h;cases h
 ·omega
theorem yec (w0:World) (E F:Nat→Addr) (hblk:∀ l,Px.WfS l→∀ c m B,Lg.qfp c m B E l) (s:ByteArray) (b D:Nat) (v:Value) (Q:List (Nat×ByteArray)) (w:World) (hs:s.size≤maxLen) (hD:D≤10000000) (g0:Gt w0 E F) (hb:Below w0.heap.size w0 w) (h:Fi.FsAt w w0.heap.size b D v Q) (hj:Jn.HasJ Q) :
  Calls Tryz.prog 8 #[.pointer (some ⟨b,0,none⟩),.string s] w (yfz w0 E F s b D):=by
 have G0:Hid (Gt w0 E F∧Below w0.heap.size w0 w∧Fi.FsAt w w0.heap.size b D v Q):=⟨g0,hb,h⟩;have HR:Hid (Calls Tryz.prog 18 #[.string s] w (Lg.yfg s E w)):=Lg.yfl E hblk s w hs (g0.below hb).l;clear g0 hb h hblk hs;go_enter Tryz.func8,Tryz.ntmps8
 go_wp2_with fail;refine HR.out.mono ?_;rintro e w1 ⟨hb1,vt,er,rfl,hc⟩;have B1:Hid (Below w.heap.size w w1∧Below w0.heap.size w0 w1):=⟨hb1,G0.out.2.1.trans (hb1.mono G0.out.2.1.size)⟩;clear hb1 HR;rcases hc with ⟨h1,rfl,l,vs,hr,hsl,hls⟩ | ⟨h1,rfl⟩ | ⟨c,p,f,h2,h3,h1,rfl,hF⟩
 ·have HO:Hid (_):=Jn.qz7 E w0.heap.size b D v Q s w1 (G0.out.2.2.below B1.out.1) B1.out.2.size hj (yeu hr) hD (G0.out.1.below B1.out.2).t;have HC:Hid (Px.check s=(0,0)∧Px.read s=.ok l∧Lg.SlL w1 vt vs (Ref.In w w1)∧Lg.LsAt w1 l (Ref.In w w1) vs):=⟨h1,hr,hsl,hls⟩;obtain ⟨va0,vn0,vc0,rfl⟩:=hsl.form;clear h1 hr hsl hls;go_wp2_with fail;refine Calls.mono HO.out ?_;rintro e w2 (⟨f,rfl,hb2,hf⟩ | ⟨jl,L,rfl,ho⟩)
  ·have B2:Hid (Below w0.heap.size w0 w2):=B1.out.2.trans (hb2.mono B1.out.2.size);have HT:Hid (_):=Jn.yd8 E f w2 (G0.out.1.below B2.out).l.s hf;clear hb2 hf HO;go_wp2_with fail;refine Calls.mono HT.out ?_;rintro e w3 ⟨rfl,hb3⟩;have B3:Hid (Below w0.heap.size w0 w3):=B2.out.trans (hb3.mono B2.out.size);clear hb3 HT;go_wp2_with fail
   (try simp only[Exit.inBlock,Exit.then])
   refine bodyPost_ret (Jn.results_tmp3 rfl _ _ _) rfl ?_;exact Or.inr (Or.inl ⟨HC.out.1,rfl,B3.out⟩)
  ·obtain ⟨o1,⟨sz,vj,o2,o3⟩,o4,o5,v',Q',o6,o7,o8⟩:=ho;have hk:∀ k,Ref.In w w1 k→w2.heap[k]?=w1.heap[k]?:=fun k hk=>o8.block k hk.2 fun e=>by
    have:=(Jn.FsAt.lt G0.out.2.2 e).2
    have:=hk.1
    omega
   have b2:Below w0.heap.size w0 w2:=Jn.ycp B1.out.2 o8 (Nat.le_refl _) fun k hk=>(Jn.FsAt.lt G0.out.2.2 hk).1
   have HM:Hid (_):=Mk.zm4 l (Px.qd0 HC.out.2.1).1 (Px.qxq HC.out.2.1).1 (Px.qxo HC.out.2.1).2 w2 (.slice va0 vn0 vc0) vs ((HC.out.2.2.1.keep hk).mono fun k hk=>Nat.lt_of_lt_of_le hk.2 o8.size) ((HC.out.2.2.2.keep hk).mono fun k hk=>Nat.lt_of_lt_of_le hk.2 o8.size) (G0.out.1.below b2).k
   have HPr:Hid (∀ w3 pp,Below w2.heap.size w2 w3→Mk.PgAt w3 w2.heap.size (Px.pgOf l) (Px.vsS l []) pp→Pre w0 E F s l L jl b (D+1000) v' Q' (Px.vsS l []) pp w2 w3):=fun w3 pp hb3 hp=>⟨G0.out.1,HC.out.2.1,HC.out.1,b2,o6,o7,Nat.le_trans B1.out.2.size o1,⟨sz,vj,o2,Jn.ydk o3 B1.out.2.size⟩,o4,o5,hb3,hp⟩
   clear o1 o2 o3 o4 o5 o6 o7 o8 hk b2 HO;go_wp2_with fail;refine Calls.mono HM.out ?_;rintro e w3 ⟨pp,rfl,hb3,hp3⟩;have PR:Hid (_):=HPr.out w3 pp hb3 hp3;obtain ⟨_,vl,vw,vn,hpp,_⟩:=hp3;have hpc:w3.cell? ⟨pp,1,none⟩=some (.int .i64 ((Px.pgOf l).nv:Int)):=by simp[World.cell?,hpp]
   have HNw:Hid (_):=Rn.zs8 pp (Px.pgOf l).nv (.iface 60 (.pointer (some ⟨jl,0,none⟩))) 60 ⟨jl,0,none⟩ rfl w3 hpc (zm7 HC.out.2.1).nv;clear hb3 hpp hpc HM HPr;go_wp2_with fail;refine Calls.mono HNw.out ?_;rintro e w4 ⟨g,n,gv,rfl,hN⟩;obtain ⟨f0,hM⟩:=PR.out.made hN;obtain ⟨S,hS⟩:=Px.zkm (Px.zm5 l);have fit:=zm7 HC.out.2.1;have y:=PR.out.sty hN;have HGo:Hid (_):=Rn.zxm y.ja.ok (Rn.ydx y.ja y.vj) hS fit.ok fit.li fit.lw (by decide) _ (Px.zfa hS PR.out.lr) w4 f0 _ hM
   have HE:Hid (∀ w5 w6,Rn.PM (cx w3 w0.heap.size g pp jl b n (Px.pgOf l) F) (Px.runM (Px.pgOf l) 4000000 (Px.qi2 (Px.pgOf l) L)).2 w4 f0 (.slice none 0 0) w5→(w6=w5.alloc (.cells #[.pointer (some ⟨g,0,none⟩),.pointer (some ⟨jl,0,none⟩),.bool false] 70)∨w6=(w5.alloc (.cells #[.pointer (some ⟨g,0,none⟩),.pointer (some ⟨jl,0,none⟩),.bool false] 70)).drew)→_):=fun w5 w6 hP h6=>PR.out.er hN hM hP h6
   have HL:Hid (Live l (Px.runM (Px.pgOf l) 4000000 (Px.qi2 (Px.pgOf l) L)).2 false):=⟨⟨L,Px.yd5 _ _,PR.out.lr⟩,fun h=>by cases h⟩
   clear hN hM hS fit y HNw;go_wp2_with fail;refine Calls.mono HGo.out ?_;rintro e w5 ⟨rfl,hP⟩;have HE5:Hid (_):=fun w6 h6=>HE.out w5 w6 hP h6
   clear hP HGo HE;go_wp2_with fail
   all_goals (try go_region)
   all_goals (try go_wp2_with fail)
   all_goals
    (try simp only[Exit.inBlock,Exit.then])
    refine bodyPost_ret (Jn.results_tmp3 rfl _ _ _) rfl ?_;obtain ⟨f',va',hEr⟩:=HE5.out _ (by first | exact Or.inl rfl | exact Or.inr rfl)
    exact Or.inr (Or.inr ⟨HC.out.1,l,_,v',Q',_,_,f',va',rfl,hEr,HL.out⟩)
 ·have HT:Hid (_):=Lg.qo0 E w1 (G0.out.1.below B1.out.2).l.s;go_wp2_with fail;refine Calls.mono HT.out ?_;rintro e w2 ⟨rfl,b2⟩;have B2:Hid (Below w0.heap.size w0 w2):=B1.out.2.trans (b2.mono B1.out.2.size);clear b2 HT;go_wp2_with fail
  (try simp only[Exit.inBlock,Exit.then])
  refine bodyPost_ret (Jn.results_tmp3 rfl _ _ _) rfl ?_;exact Or.inl ⟨1,0,h1,by decide,rfl,B2.out⟩
 ·have HT:Hid (_):=Lg.qmh E c p f w1 (G0.out.1.below B1.out.2).l.s hF ⟨h2,h3⟩;clear hF;go_wp2_with fail;refine Calls.mono HT.out ?_;rintro e w2 ⟨rfl,b2⟩;have B2:Hid (Below w0.heap.size w0 w2):=B1.out.2.trans (b2.mono B1.out.2.size);clear b2 HT;go_wp2_with fail
  (try simp only[Exit.inBlock,Exit.then])
  refine bodyPost_ret (Jn.results_tmp3 rfl _ _ _) rfl ?_;exact Or.inl ⟨c,p,h1,by omega,rfl,B2.out⟩
open Go.RowKit
def LiAt (w:World) (v:Value) (l:List Int):Prop :=
 ∃ ad cap,v=.slice ad l.length cap∧∀ i (hi:i < l.length),∃ a:Addr,ad=some a∧a.block < w.heap.size∧w.cell? (a.add i)=some (.int .i64 l[i])
theorem qdl (n:Int) (w:World):Calls Tryz.prog 10 #[.int .i64 n] w fun e w'=>e=.returned (.int .i64 n)∧w'=w:=by
 go_enter Tryz.func10,Tryz.ntmps10
 go_wp2_with fail;go_ret;exact ⟨rfl,rfl⟩
structure Fl (w0:World) (b D n:Nat) (v:Value) (Q:List (Nat×ByteArray)) (w:World):Prop where
 f:Fi.FsAt w w0.heap.size b D v Q
 b:Below w0.heap.size w0 w
 n:Q.length≤n
theorem Fl.new {w0 w w':World} {b D n D':Nat} {v v':Value} {Q Q':List (Nat×ByteArray)} {T:Nat→Prop} (h:Fl w0 b D n v Q w) (f:Fi.FsAt w' w0.heap.size b D' v' Q') (t:Tch T w w') (hT:∀ k,T k→Jn.FO b v Q k) {n':Nat} (hn:Q'.length≤n'):Fl w0 b D' n' v' Q' w' :=
 ⟨f,Jn.ycp h.b t (Nat.le_refl _) fun k hk=>(Jn.FsAt.lt h.f (hT k hk)).1,hn⟩
theorem yfr {b:Nat} {v:Value} {Q:List (Nat×ByteArray)} {k:Nat} (h:Fi.FT b Q k):Jn.FO b v Q k:=h.elim Or.inl fun h=>Or.inr (Or.inr h)
theorem cr_fo {b:Nat} {v:Value} {Q:List (Nat×ByteArray)} {k:Nat} (h:k=b∨v.ownBlock=some k):Jn.FO b v Q k:=h.elim Or.inl fun h=>Or.inr (Or.inl h)
theorem yc8 {w0 w:World} {b D:Nat} {v:Value} {Q:List (Nat×ByteArray)} (s:ByteArray) (h:Fl w0 b D 1 v Q w):Calls Tryz.prog 5 #[.pointer (some ⟨b,0,none⟩),.string s] w fun e w'=>e=.returned (.bool true)∧∃ v' Q',Fl w0 b D (Q.length+1) v' Q' w'∧(Fi.ycl (Q'.map (·.2)) s).2=true:=by
 have hB:w0.heap.size≤w.heap.size:=h.b.size;have hC:Calls Tryz.prog 5 #[.pointer (some ⟨b,0,none⟩),.string s] w (Fi.yep w0.heap.size b D v Q s w):=by
  cases hf:(Fi.ycl (Q.map (·.2)) s).2 with
  | true=>exact Fi.yc7 _ b D v Q s w h.f hB hf
  | false=>exact Fi.yd4 _ b D v Q s w h.f hB h.n hf
 refine hC.mono ?_;rintro e w' ⟨rfl,v',Q',h1,h2,h3,_,h5⟩;exact ⟨rfl,v',Q',h.new h1 h3 (fun k hk=>cr_fo hk) h5,h2⟩
theorem yd7 (E F:Nat→Addr) (hblk:∀ l,Px.WfS l→∀ c m B,Lg.qfp c m B E l) (s name data:ByteArray) (l:List Int) (sv:Value) (w0:World) (hs:s.size≤1048576) (hd:data.size≤1048576) (hl:l.length≤1048576) (g:Gt w0 E F) (ha:LiAt w0 sv l) (hr:∀ x∈l,Px.R64 x) :
  Calls Tryz.prog 3 #[.string s,.string name,.string data,sv] w0 fun e w'=>e=.returned (.bool true)∧Below w0.heap.size w0 w':=by
 have G:Hid (_∧_∧_∧_):=⟨g,hr,ha,hblk⟩;have HN:Hid (_):=Fi.zs8 w0;obtain ⟨ad,cap,rfl,_⟩:=ha;clear g hr hblk;go_enter Tryz.func3,Tryz.ntmps3
 go_wp2_with fail;refine Calls.mono HN.out ?_;rintro e w1 ⟨rfl,f1,b1⟩;have F1:Hid (Fl w0 w0.heap.size 0 0 (.slice none 0 0) [] w1):=⟨f1,b1,Nat.le_refl _⟩;clear HN f1 b1;generalize w0.heap.size=b at F1 ⊢;go_wp2_with fail;refine Calls.mono (yc8 name ⟨F1.out.f,F1.out.b,by simp⟩) ?_
 rintro e w2 ⟨rfl,v2,Q2,f2,n2⟩;have F2:Hid (_):=f2;clear f2 F1;go_wp2_with fail;refine Calls.mono (Fi.ycx _ b 0 v2 Q2 name data w2 F2.out.f (by omega) true n2) ?_
 rintro e w3 ⟨rfl,f3,t3⟩;have F3:Hid (Fl w0 b (0+data.size) 1 v2 Q2 w3):=F2.out.new f3 t3 (fun k hk=>yfr hk) F2.out.n
 clear f3 t3 F2;go_wp2_with fail;refine Calls.mono (Fi.ydt _ b _ v2 Q2 name w3 F3.out.f true n2) ?_;rintro e w4 ⟨rfl,f4,t4⟩;have F4:Hid (Fl w0 b (0+data.size+0) 1 v2 Q2 w4):=F3.out.new f4 t4 (fun k hk=>yfr hk) F3.out.n
 clear f4 t4 F3 n2;go_wp2_with fail;refine Calls.mono (yc8 Jn.jN F4.out) ?_;rintro e w5 ⟨rfl,v5,Q5,f5,n5⟩;have F5:Hid (_):=f5;clear f5 F4;go_wp2_with fail;refine Calls.mono (Fi.ycx _ b _ v5 Q5 Jn.jN data w5 F5.out.f (by omega) true n5) ?_
 rintro e w6 ⟨rfl,f6,t6⟩;have F6:Hid (Fl w0 b (0+data.size+0+data.size) _ v5 Q5 w6):=F5.out.new f6 t6 (fun k hk=>yfr hk) F5.out.n
 clear f6 t6 F5;go_wp2_with fail;refine Calls.mono (yec w0 E F G.out.2.2.2 s b _ v5 Q5 w6 (by unfold maxLen;omega) (by omega) G.out.1 F6.out.b F6.out.f n5) ?_
 have HC:Hid (∀ w1,_):=fun w1=>Ref.qhx s w1 (by unfold maxLen;omega)
 rintro e w7 (⟨c,p,h1,hc0,rfl,b7⟩ | ⟨h1,rfl,b7⟩ | ⟨h1,l',x,v,Q,eb,m,f,va,rfl,hE,hL⟩)
 ·have B7:Hid (_):=b7;clear b7 F6;go_wp2_with fail;refine Calls.mono (HC.out _) ?_;rintro e w8 ⟨rfl,b8⟩;have B8:Hid (Below w0.heap.size w0 w8):=B7.out.trans (b8.mono B7.out.size);clear b8 HC;rw[h1];have hci:¬ (c:Int)=0:=by omega
  go_wp2_with fail;refine Calls.mono (qdl _ _) ?_;rintro e w9 ⟨rfl,rfl⟩;go_wp2_with fail;go_ret;exact ⟨rfl,B8.out⟩
 ·have B7:Hid (_):=b7;clear b7 F6;go_wp2_with fail;refine Calls.mono (HC.out _) ?_;rintro e w8 ⟨rfl,b8⟩;have B8:Hid (Below w0.heap.size w0 w8):=B7.out.trans (b8.mono B7.out.size);clear b8 HC;rw[h1];go_wp2_with fail;refine Calls.mono (qdl _ _) ?_;rintro e w9 ⟨rfl,rfl⟩;go_wp2_with fail;go_ret;exact ⟨rfl,B8.out⟩
 ·have B7:Hid (_∧_):=⟨hE,hL⟩;clear hE hL F6;go_wp2_with fail;refine Calls.mono (HC.out _) ?_;rintro e w8 ⟨rfl,b8⟩;have H8:Hid (_∧_):=⟨B7.out.1.same b8,B7.out.2⟩;clear b8 HC B7;rw[h1];go_wp2_with fail;clear h1;go_loopw [15] (fun i wr=>∃ j:Nat,j≤l.length∧i=.int .i64 (j:Int)∧∃ q m f va,Er w0 E F s l' x b v Q (0+data.size+0+data.size+1000+101 * j) eb q m f va wr∧Live l' m q) (fun i _=>l.length - (intOf i).toNat)
  case atStart=>exact ⟨0,Nat.zero_le _,rfl,false,m,f,va,H8.out.1,H8.out.2⟩
  case round =>
   obtain ⟨j,hj,rfl,q,m1,f1,va1,hE1,hL1⟩:=hrel;have R:Hid (_∧_):=⟨hE1,hL1⟩;clear hE1 hL1 H8;by_cases hlt:j < l.length
   ·have hlt':(j:Int) < (l.length:Int):=by omega
    obtain ⟨ad',cap',e',hcell⟩:=G.out.2.2.1;cases e';obtain ⟨a,rfl,hab,hac⟩:=hcell j hlt;have hra:Px.R64 l[j]:=G.out.2.1 _ (List.getElem_mem hlt);generalize l[j]=z at *;clear hcell;go_wp2_with fail;refine Calls.mono (zmt w0 E F s l' x b v Q _ eb q m1 f1 va1 wr (by omega) R.out.1) ?_
    rintro e w9 ⟨⟨r,rfl⟩,q2,hq2,hE2⟩;have hac2:w9.cell? (a.add j)=some (.int .i64 z):=by
     rw[World.cell?_of_block (w:=w0) (a:=a.add j) (hE2.be.block _ (by rw[show (a.add j).block=a.block by unfold Addr.add;split<;>rfl];exact hab))]
     exact hac
    have R2:Hid (_∧Live l' m1 q2):=⟨hE2,R.out.2.co,hq2⟩;clear hE2 hq2 R;go_wp2_with fail;refine Calls.mono (yc9 w0 E F s l' x b v Q _ eb q2 m1 f1 va1 w9 (by omega) R2.out.1 R2.out.2 z hra) ?_
    rintro e w10 ⟨⟨r2,rfl⟩,q3,m3,f3,va3,hE3,hL3⟩;have R3:Hid (_∧_):=⟨hE3,hL3⟩;clear hE3 hL3 R2 hac2;go_wp2_with fail;refine ⟨⟨j+1,by omega,by go_num,q3,m3,f3,va3,R3.out.1,R3.out.2⟩,by simp[intOf];omega⟩
   ·obtain rfl:j=l.length:=by omega
    have hne:¬ ((l.length:Int) < (l.length:Int)):=by omega
    go_wp2_with fail;go_ret;exact ⟨rfl,R.out.1.be⟩
open Go.ChangeShapes Go.WideShapes Go.RowKit
theorem zx3:Tryz.prog.cellsOf 3=1:=by kernel_rfl
theorem zf0 {n:Int} (h:(Lit.int .i64 n).wf=true):Px.R64 n:=by
 simp only[Lit.wf,Bool.and_eq_true,decide_eq_true_eq] at h;have e1:IntKind.i64.min=-9223372036854775808:=by decide
 have e2:IntKind.i64.max=9223372036854775807:=by decide
 rw[e1,e2] at h;exact h
theorem ye6 {H:Type} (d:DataW H):1≤Rows.uptoBulk d:=by
 cases d with
 | lit l=>cases l<;>simp[Rows.uptoBulk]
 | nil=>simp[Rows.uptoBulk]
 | ptr d=>simp[Rows.uptoBulk]
 | slice elems spare=>simp[Rows.uptoBulk]
 | agg parts=>simp[Rows.uptoBulk]
 | iface t d=>simp[Rows.uptoBulk]
 | map entries=>simp[Rows.uptoBulk]
 | held h=>simp[Rows.uptoBulk]
theorem ye7 {H:Type} (l:List (DataW H)):l.length≤Rows.uptoBulkAll l:=by
 induction l with
 | nil=>simp[Rows.uptoBulkAll]
 | cons x r ih=>have:=ye6 x;simp only[Rows.uptoBulkAll,List.length_cons];omega
theorem qok {H:Type} {enc:TypeId×Value→H} {W:World} {base:Nat} {v:Value} {d:DataW H} {p:List MemPlace} (hval:Value.okWide Tryz.prog W .any base 22 v)
  (h:DataW.Trod enc Tryz.prog W 0 (fun _=>true) true 22 v d p) :
  ∃ l,LiAt W v l∧(∀ x∈l,Px.R64 x)∧l.length≤Rows.uptoBulk d∧∀ W',Below W.heap.size W W'→DataW.Trod enc Tryz.prog W' 0 (fun b=>decide (b < W.heap.size)) true 22 v d p:=by
 obtain ⟨a0,len,cap,rfl⟩:=okWide_slice Tryz.underlying22 hval;obtain ⟨fuel,hf⟩:=h;rcases open_ints Tryz.underlying22 Tryz.underlying3 zx3 hf with ⟨hcs,hx⟩ | ⟨a,len',cap',zs,hcs,_,hl,hm,hzl,hx,hcell,hwz⟩
 ·simp[Value.cells] at hcs;obtain ⟨rfl,rfl,rfl⟩:=hcs;simp only[Prod.mk.injEq] at hx;obtain ⟨rfl,rfl⟩:=hx;exact ⟨[],⟨none,0,rfl,fun i hi=>absurd hi (Nat.not_lt_zero _)⟩,(fun x hx=>nomatch hx),Nat.zero_le _,fun W' _=>⟨1,by simp[Value.cells,DataW.trod,Tryz.underlying22]⟩⟩
 ·simp[Value.cells] at hcs;obtain ⟨rfl,rfl,rfl⟩:=hcs;simp only[Prod.mk.injEq] at hx;obtain ⟨rfl,rfl⟩:=hx;simp only[if_true] at hzl;have hll:(zs.take len).length=len:=by rw[List.length_take];omega
  have hblk:0 < cap→a.block < W.heap.size:=fun h0=>by
   have h1:=hcell 0 (by omega)
   have h2:a.add 0=a:=by simp[Addr.add]
   rw[h2] at h1;rcases Nat.lt_or_ge a.block W.heap.size with h | h
   ·exact h
   ·exfalso;simp[World.cell?,Array.getElem?_eq_none h] at h1
  refine ⟨zs.take len,⟨some a,cap,by rw[hll],fun i hi=>?_⟩,fun x hx=>?_,?_,fun W' hb=>⟨2,?_⟩⟩
  ·rw[hll] at hi;refine ⟨a,rfl,hblk (by omega),?_⟩
   rw[hcell i (by omega)]
   simp[List.getD,List.getElem_take,show i < zs.length by omega]
  ·exact zf0 (hwz x (List.mem_of_mem_take hx))
  ·have:=ye7 (lits (H:=H) .i64 (zs.take len))
   have e:(lits (H:=H) .i64 (zs.take len)).length=(zs.take len).length:=by simp[lits]
   simp only[Rows.uptoBulk];omega
  ·have:=shut_ints (enc:=enc) (P:=Tryz.prog) (w:=W') (base:=0) (spare:=fun b=>decide (b < W.heap.size)) (held:=true) (a:=a) (len:=len) (cap:=cap) (zs:=zs) 0 Tryz.underlying22 Tryz.underlying3 zx3 (Nat.zero_le _) hl hm
    (by
     rcases Nat.eq_zero_or_pos cap with h0 | h0
     ·split<;>omega
     ·simp[hblk h0,hzl])
    (fun i hi=>by
     have hbk:=hblk (by omega)
     rw[World.cell?_of_block (w:=W) (a:=a.add i) (hb.block _ (by rw[block_add];exact hbk))]
     exact hcell i hi) hwz
   simpa [Value.cells] using this
end Tn
end Go.Proofs.YtagpnplggopoeaaGreatDoor
