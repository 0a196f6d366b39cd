import Derived.Test.YthanmfbakpcigaaGreatDoorR10
import Derived.Test.YthanmfbakpcigaaGreatDoorR11
import Derived.Deep.RegionWith
import Derived.Test.YthanmfbakpcigaaGreatDoorProg
import Derived.WalkKit
import Derived.LaidEql
import Derived.Stop.Asserts
import Derived.RowKitTokens
set_option maxRecDepth 100000
set_option maxHeartbeats 4000000
namespace Go.Proofs.YthanmfbakpcigaaGreatDoor
open Go.RowKit
namespace Lg
structure Gc (w:World) (B:Nat) (E:Nat→Addr):Prop where
 c:w.cell? ⟨4,0,none⟩=some (.iface 302 (.pointer (some (E 4))))
 n:w.cell? ⟨5,0,none⟩=some (.iface 302 (.pointer (some (E 5))))
 y:w.cell? ⟨6,0,none⟩=some (.iface 302 (.pointer (some (E 6))))
 ops:∀ j (hj:j < 28),w.cell? ⟨16,j,none⟩=some (opsC[j]'hj)
 lo:17≤B
theorem qkb {B:Nat} {w w':World} (h:Below B w w') {k o:Nat} (hk:k < B):w'.cell? ⟨k,o,none⟩=w.cell? ⟨k,o,none⟩:=World.cell?_of_block (w:=w) (h.block k hk)
theorem Gc.below {w w':World} {B:Nat} {E:Nat→Addr} (g:Gc w B E) (h:Below B w w'):Gc w' B E:=by
 have hl:=g.lo;exact ⟨by rw[qkb h (by omega)];exact g.c,by rw[qkb h (by omega)];exact g.n,by rw[qkb h (by omega)];exact g.y,fun j hj=>by rw[qkb h (by omega)];exact g.ops j hj,hl⟩
structure Fr (c m:Nat) (w w':World):Prop where
 os:w'.os=w.os
 tape:w'.tape=w.tape
 output:w'.output=w.output
 size:w.heap.size≤w'.heap.size
 block:∀ k,k < w.heap.size→k≠c→k≠m→w'.heap[k]?=w.heap[k]?
theorem Fr.refl (c m:Nat) (w:World):Fr c m w w:=⟨rfl,rfl,rfl,Nat.le_refl _,fun _ _ _ _=>rfl⟩
theorem Fr.trans {c m:Nat} {w w1 w2:World} (h:Fr c m w w1) (k:Fr c m w1 w2):Fr c m w w2 :=
 ⟨k.os.trans h.os,k.tape.trans h.tape,k.output.trans h.output,Nat.le_trans h.size k.size,fun i hi hc hm=>(k.block i (Nat.lt_of_lt_of_le hi h.size) hc hm).trans (h.block i hi hc hm)⟩
theorem Fr.drew {c m:Nat} {w w1:World} (h:Fr c m w w1):Fr c m w w1.drew:=⟨h.os,h.tape,h.output,h.size,h.block⟩
theorem Fr.alloc {c m:Nat} {w w1:World} (h:Fr c m w w1) (o:Obj):Fr c m w (w1.alloc o) :=
 ⟨h.os,h.tape,h.output,by have:=h.size;simp;omega,fun i hi hc hm=>by rw[Below.heap_alloc _ _ _ (Nat.lt_of_lt_of_le hi h.size)];exact h.block i hi hc hm⟩
theorem Fr.setC {c m o:Nat} {w w1:World} (h:Fr c m w w1) (u:Value):Fr c m w (w1.setCell ⟨c,o,none⟩ u) :=
 ⟨h.os,h.tape,h.output,by simpa [World.setCell] using h.size,fun i hi hc hm=>by rw[Below.heap_setCell _ _ _ _ hc];exact h.block i hi hc hm⟩
theorem Fr.below {c m B:Nat} {w w':World} (h:Fr c m w w') (h1:B≤c) (h2:B≤m) (h3:B≤w.heap.size):Below B w w':=⟨h.os,h.tape,h.output,h.size,fun k hk=>h.block k (by omega) (by omega) (by omega)⟩
structure Ck (w:World) (c m B:Nat) (E:Nat→Addr) (K:Px.Lk):Prop where
 g:Gc w B E
 bc:B≤c
 ex:∃ pf,w.heap[c]?=some (.cells #[.map (some m),.pointer pf] 106)∧B≤m∧m≠c∧KMap w m K.vars ∧
  ((K.e=0∧pf=none)∨(K.e≠0∧∃ f,pf=some ⟨f,0,none⟩∧B≤f∧f≠c∧f≠m∧qe9 w f K.pl (E K.e)))
theorem qck {w:World} {k:Nat} {a b:Value} {t:TypeId} (hh:w.heap[k]?=some (.cells #[a,b] t)) :
  w.cell? ⟨k,0,none⟩=some a∧w.cell? ⟨k,1,none⟩=some b∧∀ o,w.frozen? ⟨k,o,none⟩=false:=by
 refine ⟨?_,?_,?_⟩<;>simp[World.cell?,World.frozen?,hh]
theorem lt_of_block {w:World} {k:Nat} {o:Obj} (h:w.heap[k]?=some o):k < w.heap.size:=by
 rcases Nat.lt_or_ge k w.heap.size with hb | hb
 ·exact hb
 ·rw[Array.getElem?_eq_none hb] at h;cases h
theorem Ck.fr {w w':World} {c m B:Nat} {E:Nat→Addr} {K:Px.Lk} (h:Ck w c m B E K) (k:Fr c m w w'):Below B w w':=by
 obtain ⟨pf,h1,h2,_⟩:=h.ex
 have:=lt_of_block h1
 exact k.below h.bc h2 (by have:=h.bc;omega)
theorem Ck.drew {w:World} {c m B:Nat} {E:Nat→Addr} {K:Px.Lk} (h:Ck w c m B E K):Ck w.drew c m B E K:=⟨⟨h.g.c,h.g.n,h.g.y,h.g.ops,h.g.lo⟩,h.bc,h.ex⟩
theorem zd3 {B:Nat} {w w1:World} (h:Below B w w1):Below B w w1.drew:=⟨h.os,h.tape,h.output,h.size,h.block⟩
theorem Ck.note {w:World} {c B m:Nat} {E:Nat→Addr} {K:Px.Lk} {pf:Option Addr} (e p:Nat) (he:e≠0) (g:Gc w B E) (bc:B≤c) (h1:w.heap[c]?=some (.cells #[.map (some m),.pointer pf] 106)) (h2:B≤m) (h3:m≠c) (h4:KMap w m K.vars) :
  Ck ((w.setCell ⟨c,1,none⟩ (.pointer (some ⟨w.heap.size,0,none⟩))).alloc (.cells #[.int .i64 (p:Int),.iface 302 (.pointer (some (E e)))] 73)) c m B E ⟨K.vars,e,p⟩ ∧
  Fr c m w ((w.setCell ⟨c,1,none⟩ (.pointer (some ⟨w.heap.size,0,none⟩))).alloc (.cells #[.int .i64 (p:Int),.iface 302 (.pointer (some (E e)))] 73)):=by
 have hc:=lt_of_block h1;obtain ⟨es,clock,h5,h6⟩:=h4;have hm:=lt_of_block h5;have hs:(w.setCell ⟨c,1,none⟩ (.pointer (some ⟨w.heap.size,0,none⟩))).heap.size=w.heap.size:=by simp[World.setCell]
 have hB:Below B w ((w.setCell ⟨c,1,none⟩ (.pointer (some ⟨w.heap.size,0,none⟩))).alloc (.cells #[.int .i64 (p:Int),.iface 302 (.pointer (some (E e)))] 73)) :=
  ((Below.refl B w).setCell (p:=⟨c,1,none⟩) bc _).alloc (by simp[World.setCell];omega) _
 refine ⟨⟨g.below hB,bc,some ⟨w.heap.size,0,none⟩,?_,h2,h3,⟨es,clock,?_,h6⟩,Or.inr ⟨he,w.heap.size,rfl,by omega,by omega,by omega,?_⟩⟩,((Fr.refl c m w).setC _).alloc _⟩
 ·rw[Below.heap_alloc _ _ _ (by rw[hs];exact hc),Ref.heap_set _ h1];simp
 ·rw[Below.heap_alloc _ _ _ (by rw[hs];exact hm),Ref.qag _ h3];exact h5
 ·unfold qe9;exact zqc hs
theorem qbx (c m B:Nat) (E:Nat→Addr) (e p:Nat) (he:e≠0) (K:Px.Lk) (w:World) (h:Ck w c m B E K) :
  Calls Tryz.prog 214 #[.pointer (some ⟨c,0,none⟩),.int .i64 (p:Int),.iface 302 (.pointer (some (E e)))] w fun r w'=>r=.returned (.tuple #[])∧Ck w' c m B E (Px.qew e p K)∧Fr c m w w':=by
 obtain ⟨pf,h1,h2,h3,h4,h5⟩:=h.ex;obtain ⟨c0,c1,fr⟩:=qck h1;have YES:Hid (_):=Ck.note (K:=K) e p he h.g h.bc h1 h2 h3 h4;have HH:Hid (_):=h;have hsz:=lt_of_block h1;rcases h5 with ⟨h5,rfl⟩ | ⟨h5,f,rfl,h6,h7,h8,h9⟩
 ·clear h h1 h2 h3 h4;go_enter Tryz.func214,Tryz.ntmps214
  go_wp2_with fail;go_end0
  refine ⟨rfl,?_⟩;rw[show Px.qew e p K=⟨K.vars,e,p⟩ by unfold Px.qew;rw[if_pos (Or.inl h5)]]
  exact YES.out
 ·obtain ⟨d0,d1,fd⟩:=qck h9;clear h h1 h2 h3 h4 h9;by_cases hp:p < K.pl
  ·have t1:(p:Int) < K.pl:=by omega
   go_enter Tryz.func214,Tryz.ntmps214
   go_wp2_with fail;go_end0
   refine ⟨rfl,?_⟩;rw[show Px.qew e p K=⟨K.vars,e,p⟩ by unfold Px.qew;rw[if_pos (Or.inr hp)]]
   exact YES.out
  ·have t1:¬ (p:Int) < K.pl:=by omega
   go_enter Tryz.func214,Tryz.ntmps214
   go_wp2_with fail;go_end0
   refine ⟨rfl,?_,Fr.refl c m _⟩;rw[show Px.qew e p K=K by unfold Px.qew;rw[if_neg (by omega)]]
   exact HH.out
theorem qaq (a b:Nat) (ha:Px.K3 a) (hb:Px.K3 b) (w:World) :
  Calls Tryz.prog 213 #[.int .i64 (kk a:Int),.int .i64 (kk b:Int)] w fun r w'=>r=.returned (.bool (Px.qcd a b))∧w=w':=by
 have e1:Hid (Px.qcd a b=(((kk a:Int) == kk b) || (((kk a:Int) == 0) || ((kk b:Int) == 0)))):=by
  unfold Hid;rcases ha with rfl | rfl | rfl<;>rcases hb with rfl | rfl | rfl<;>decide
 generalize kk a=x at *;generalize kk b=y at *;cases h1:((x:Int) == y)<;>cases h2:((x:Int) == 0)
 all_goals
  go_enter Tryz.func213,Tryz.ntmps213
  go_wp2_with fail;go_ret;exact ⟨Ref.qcv (by rw[e1.out,h1,h2];simp),rfl⟩
theorem qwj (c m B q n a least most:Nat) (E:Nat→Addr) (K:Px.Lk) (w:World) (h:Ck w c m B E K) (hn:NumAt w n a (· < B) q) :
  Calls Tryz.prog 220 #[.pointer (some ⟨c,0,none⟩),Ref.ptr q,.int .i64 (least:Int),.int .i64 (most:Int)] w fun r w'=>r=.returned (.tuple #[])∧Ck w' c m B E (Px.countP n a least most K)∧Fr c m w w':=by
 obtain ⟨c0,c1,fr⟩:=qck hn.2;have g4:=h.g.c;have HH:Hid (_):=h;clear h hn;unfold Ref.ptr;by_cases h1:n < least
 ·have t1:(n:Int) < least:=by omega
  go_enter Tryz.func220,Tryz.ntmps220
  go_wp2_with fail;go_region_with (go_at_call 214;refine (qbx c m B E 4 a (by decide) K _ HH.out.drew).mono ?_;rintro r w1 ⟨rfl,h3,h4⟩)
  all_goals (try go_wp2_with fail)
  all_goals
   go_end0
   refine ⟨rfl,?_,(Fr.refl c m w).drew.trans h4⟩;unfold Px.countP;rw[if_pos (Or.inl h1)];exact h3
 ·have t1:¬ (n:Int) < least:=by omega
  by_cases h2:most < n
  ·have t2:(most:Int) < n:=by omega
   go_enter Tryz.func220,Tryz.ntmps220
   go_wp2_with fail;go_region_with (go_at_call 214;refine (qbx c m B E 4 a (by decide) K _ HH.out.drew).mono ?_;rintro r w1 ⟨rfl,h3,h4⟩)
   all_goals (try go_wp2_with fail)
   all_goals
    go_end0
    refine ⟨rfl,?_,(Fr.refl c m w).drew.trans h4⟩;unfold Px.countP;rw[if_pos (Or.inr h2)];exact h3
  ·have t2:¬ (most:Int) < n:=by omega
   go_enter Tryz.func220,Tryz.ntmps220
   go_wp2_with fail;go_end0
   refine ⟨rfl,?_,Fr.refl c m _⟩;unfold Px.countP;rw[if_neg (by omega)];exact HH.out
theorem zhw:Tryz.prog.underlying 104=some (.map 9 297):=Tryz.underlying104
theorem znx (w:World):(zeroValue 297).run Tryz.prog w=.ok (.int .i64 0) w:=by kernel_rfl
theorem Ck.look {w:World} {m:Nat} {K:Px.Lk} (x:ByteArray) (h4:KMap w m K.vars) :
  (Instr.lookup 104 (.map (some m)) (.string x) true).run Tryz.prog w=.ok (.tuple #[.int .i64 (qpy K.vars x:Int),.bool (Px.qa3 K.vars x).isSome]) w :=
 zch h4 zhw Tryz.underlying9 (znx w) x
open Go.RowKit
def qe8 (c m B:Nat) (E:Nat→Addr) (w:World) (r:Nat×Px.Lk) (e:Ending) (w':World):Prop:=e=.returned (.int .i64 (kk r.1:Int))∧Ck w' c m B E r.2∧Fr c m w w'
theorem KMap.drew {w:World} {m:Nat} {l:List (ByteArray×Nat)} (h:KMap w m l):KMap w.drew m l:=h
theorem qpx {l:List (ByteArray×Nat)} {x:ByteArray} (h:Px.qa3 l x=none):qpy l x=0:=by unfold qpy;rw[h]
theorem qpw {l:List (ByteArray×Nat)} {x:ByteArray} {i:Nat} (h:Px.qa3 l x=some i):qpy l x=kk (Px.qcn l i):=by unfold qpy;rw[h]
theorem qx3 (c m B q:Nat) (E:Nat→Addr) (K:Px.Lk) (w:World) (h:Ck w c m B E K) :
  Calls Tryz.prog 229 #[.pointer (some ⟨q,0,none⟩),.pointer (some ⟨c,0,none⟩)] w (qe8 c m B E w (105,K)):=by
 have HH:Hid (_):=h;clear h;go_enter Tryz.func229,Tryz.ntmps229
 go_wp2_with fail;go_ret;exact ⟨rfl,HH.out,Fr.refl c m _⟩
theorem zb1 (c m B q:Nat) (E:Nat→Addr) (K:Px.Lk) (w:World) (h:Ck w c m B E K) :
  Calls Tryz.prog 231 #[.pointer (some ⟨q,0,none⟩),.pointer (some ⟨c,0,none⟩)] w (qe8 c m B E w (98,K)):=by
 have HH:Hid (_):=h;clear h;go_enter Tryz.func231,Tryz.ntmps231
 go_wp2_with fail;go_ret;exact ⟨rfl,HH.out,Fr.refl c m _⟩
theorem qse (c m B q own:Nat) (x:ByteArray) (E:Nat→Addr) (K:Px.Lk) (w:World) (h:Ck w c m B E K) (hv:VarAt w x own (· < B) q) :
  Calls Tryz.prog 215 #[.pointer (some ⟨q,0,none⟩),.pointer (some ⟨c,0,none⟩)] w (qe8 c m B E w (match Px.qa3 K.vars x with
   | none=>(63,Px.qew 5 own K)
   | some i=>(Px.qcn K.vars i,K))):=by
 obtain ⟨pf,h1,h2,h3,h4,h5⟩:=h.ex;obtain ⟨c0,c1,fr⟩:=qck h1;obtain ⟨d0,d1,fd⟩:=qck hv.2;have g5:=h.g.n;have l0:=Ck.look x h4;have l1:=Ck.look x h4.drew;have HH:Hid (_):=h;clear h h1 h2 h3 h4 h5 hv;cases hf:Px.qa3 K.vars x with
 | none =>
  rw[qpx hf,hf] at l0 l1;go_enter Tryz.func215,Tryz.ntmps215
  go_wp2_with fail;go_region
  all_goals
   go_wp2_with fail;go_region_with (go_at_call 214;refine (qbx c m B E 5 own (by decide) K _ HH.out.drew.drew).mono ?_;rintro r w1 ⟨rfl,h3,h4⟩)
   all_goals
    go_wp2_with fail;go_ret;exact ⟨rfl,h3,(Fr.refl c m w).drew.drew.trans h4⟩
 | some i =>
  rw[qpw hf,hf] at l0 l1;go_enter Tryz.func215,Tryz.ntmps215
  go_wp2_with fail;go_region
  all_goals
   go_wp2_with fail;go_ret;exact ⟨rfl,HH.out.drew,(Fr.refl c m _).drew⟩
open Go.RowKit
theorem Ck.put {w:World} {c B m:Nat} {E:Nat→Addr} {K:Px.Lk} {pf:Option Addr} {o:Obj} {vs:List (ByteArray×Nat)} (g:Gc w B E) (bc:B≤c) (h1:w.heap[c]?=some (.cells #[.map (some m),.pointer pf] 106)) (h2:B≤m) (h3:m≠c) (h4:KMap w m K.vars)
  (h5:(K.e=0∧pf=none)∨(K.e≠0∧∃ f,pf=some ⟨f,0,none⟩∧B≤f∧f≠c∧f≠m∧qe9 w f K.pl (E K.e))) (hu:KMap { w with heap:=w.heap.setIfInBounds m o } m vs) :
  Ck { w with heap:=w.heap.setIfInBounds m o } c m B E ⟨vs,K.e,K.pl⟩∧Fr c m w { w with heap:=w.heap.setIfInBounds m o }:=by
 obtain ⟨es,clock,hb,_⟩:=h4;have hs:=(MapKept.heap_set (o':=o) hb).2;have hB:Below B w { w with heap:=w.heap.setIfInBounds m o }:=⟨rfl,rfl,rfl,by simp,fun k hk=>hs k (by omega)⟩
 refine ⟨⟨g.below hB,bc,pf,?_,h2,h3,hu,?_⟩,⟨rfl,rfl,rfl,by simp,fun k _ _ hk=>hs k hk⟩⟩
 ·show (w.heap.setIfInBounds m o)[c]?=_
  rw[hs c (Ne.symm h3)];exact h1
 ·rcases h5 with h5 | ⟨h5,f,h6,h7,h8,h9,h10⟩
  ·exact Or.inl h5
  ·refine Or.inr ⟨h5,f,h6,h7,h8,h9,?_⟩;unfold qe9 at h10 ⊢;show (w.heap.setIfInBounds m o)[f]?=_
   rw[hs f h9];exact h10
theorem qlx (c m B q p k:Nat) (x:ByteArray) (E:Nat→Addr) (K:Px.Lk) (w:World) (h:Ck w c m B E K) (hv:VarAt w x p (· < B) q) (hk:Px.K3 k) (hV:Px.V3 K) :
  Calls Tryz.prog 212 #[.pointer (some ⟨c,0,none⟩),.pointer (some ⟨q,0,none⟩),.int .i64 (kk k:Int)] w fun r w'=>r=.returned (.tuple #[])∧Ck w' c m B E (Px.qid x p k K)∧Fr c m w w':=by
 obtain ⟨pf,h1,h2,h3,h4,h5⟩:=h.ex;obtain ⟨c0,c1,fr⟩:=qck h1;obtain ⟨d0,d1,fd⟩:=qck hv.2;have g6:=h.g.y;have l1:=Ck.look x h4.drew;have HH:Hid (_):=h;cases hf:Px.qa3 K.vars x with
 | none =>
  rw[qpx hf,hf] at l1;obtain ⟨o,u1,u2⟩:=zcg (P:=Tryz.prog) (w:=w.drew.drew) (h4.drew.drew) zhw Tryz.underlying9 x hf k;have hd:=HH.out.drew.drew;have PUT:Hid (_):=Ck.put hd.g hd.bc h1 h2 h3 h4.drew.drew h5 u2;have hgv:Hid (Px.qid x p k K=⟨K.vars++[(x,k)],K.e,K.pl⟩):=by unfold Hid Px.qid;rw[hf]
  clear h h1 h2 h3 h4 h5 hv u2 hd;go_enter Tryz.func212,Tryz.ntmps212
  go_wp2_with fail;go_region
  all_goals
   go_wp2_with fail;go_region
   all_goals
    go_wp2_with fail;go_end0
    rw[hgv.out];exact ⟨rfl,PUT.out.1,(Fr.refl c m w).drew.drew.trans PUT.out.2⟩
 | some i =>
  rw[qpw hf,hf] at l1;have hk2:Px.K3 (Px.qcn K.vars i):=by
   obtain ⟨v,hv1,hv2⟩:=Px.qj9 (Px.qds hf);rw[hv2];exact hV v hv1
  clear h h1 h2 h3 h4 h5 hv;cases hfit:Px.qcd (Px.qcn K.vars i) k
  ·have hgv:Hid (Px.qid x p k K=Px.qew 6 p K):=by unfold Hid Px.qid;rw[hf];simp only;rw[if_neg (by simp[hfit])]
   go_enter Tryz.func212,Tryz.ntmps212
   go_wp2_with fail;go_region
   all_goals
    go_wp2_with fail;refine (qaq _ _ hk2 hk _).mono ?_;rintro r w1 ⟨rfl,rfl⟩;rw[hfit];go_wp2_with fail;go_region_with (go_at_call 214;refine (qbx c m B E 6 p (by decide) K _ HH.out.drew.drew).mono ?_;rintro r w1 ⟨rfl,h3,h4⟩)
    all_goals
     go_wp2_with fail;go_end0
     rw[hgv.out];exact ⟨rfl,h3,(Fr.refl c m w).drew.drew.trans h4⟩
  ·have hgv:Hid (Px.qid x p k K=K):=by unfold Hid Px.qid;rw[hf];simp only;rw[if_pos hfit]
   go_enter Tryz.func212,Tryz.ntmps212
   go_wp2_with fail;go_region
   all_goals
    go_wp2_with fail;refine (qaq _ _ hk2 hk _).mono ?_;rintro r w1 ⟨rfl,rfl⟩;rw[hfit];go_wp2_with fail;go_end0
    rw[hgv.out];exact ⟨rfl,HH.out.drew,(Fr.refl c m w).drew⟩
end Lg
open Go.RowKit
namespace Px
theorem qj2 (e p:Nat) (c:Lk):(qew e p c).vars=c.vars:=by unfold qew;split<;>rfl
theorem qfn (x:Ex):∀ c,(qaj x c).2.vars=c.vars:=by
 match x with
 | ⟨op,n,word,pl,own,none,_⟩ =>
  intro c;simp only[qaj,qv3];split
  ·rfl
  ·split
   ·rfl
   ·split
    ·exact qj2 _ _ _
    ·rfl
 | ⟨op,n,word,pl,own,some l,none⟩ =>
  intro c;simp only[qaj,notP];split
  ·exact qfn l c
  ·rw[qj2];exact qfn l c
 | ⟨op,n,word,pl,own,some l,some r⟩ =>
  intro c;simp only[qaj,binP];split
  ·rw[qfn r,qfn l]
  ·rw[qj2,qfn r,qfn l]
theorem qdp {x:Ex} {c:Lk} (h:V3 c):V3 (qaj x c).2:=by unfold V3;rw[qfn];exact h
theorem qdq (x:Ex) (c:Lk) (h:V3 c):K3 (qaj x c).1:=by
 match x with
 | ⟨op,n,word,pl,own,none,_⟩ =>
  simp only[qaj,qv3];split
  ·exact Or.inl rfl
  ·split
   ·exact Or.inr (Or.inl rfl)
   ·cases hf:qa3 c.vars word with
    | none=>exact Or.inr (Or.inr rfl)
    | some i =>
     obtain ⟨v,hv1,hv2⟩:=qj9 (qds hf);simp only;rw[hv2];exact h v hv1
 | ⟨op,n,word,pl,own,some l,none⟩=>exact Or.inr (Or.inl rfl)
 | ⟨op,n,word,pl,own,some l,some r⟩ =>
  simp only[qaj,binP,qjg];split
  ·exact Or.inr (Or.inl rfl)
  ·exact Or.inl rfl
end Px
namespace Lg
def KindC (w:World) (c tl ql:Nat) (Q:Ending→World→Prop):Prop :=
 (tl=237∧Calls Tryz.prog 229 #[.pointer (some ⟨ql,0,none⟩),.pointer (some ⟨c,0,none⟩)] w Q) ∨
 (tl=196∧Calls Tryz.prog 215 #[.pointer (some ⟨ql,0,none⟩),.pointer (some ⟨c,0,none⟩)] w Q) ∨
 (tl=253∧Calls Tryz.prog 231 #[.pointer (some ⟨ql,0,none⟩),.pointer (some ⟨c,0,none⟩)] w Q) ∨
 (tl=256∧Calls Tryz.prog 233 #[.pointer (some ⟨ql,0,none⟩),.pointer (some ⟨c,0,none⟩)] w Q) ∨
 (tl=259∧Calls Tryz.prog 235 #[.pointer (some ⟨ql,0,none⟩),.pointer (some ⟨c,0,none⟩)] w Q)
def Ty5 (tl:Nat):Prop:=tl=237∨tl=196∨tl=253∨tl=256∨tl=259
theorem KindC.num {w:World} {c ql:Nat} {Q:Ending→World→Prop} (h:KindC w c 237 ql Q):Calls Tryz.prog 229 #[.pointer (some ⟨ql,0,none⟩),.pointer (some ⟨c,0,none⟩)] w Q:=by
 rcases h with ⟨h,k⟩ | ⟨h,k⟩ | ⟨h,k⟩ | ⟨h,k⟩ | ⟨h,k⟩<;>first | exact k | (exact absurd h (by decide))
theorem KindC.var {w:World} {c ql:Nat} {Q:Ending→World→Prop} (h:KindC w c 196 ql Q):Calls Tryz.prog 215 #[.pointer (some ⟨ql,0,none⟩),.pointer (some ⟨c,0,none⟩)] w Q:=by
 rcases h with ⟨h,k⟩ | ⟨h,k⟩ | ⟨h,k⟩ | ⟨h,k⟩ | ⟨h,k⟩<;>first | exact k | (exact absurd h (by decide))
theorem KindC.tru {w:World} {c ql:Nat} {Q:Ending→World→Prop} (h:KindC w c 253 ql Q):Calls Tryz.prog 231 #[.pointer (some ⟨ql,0,none⟩),.pointer (some ⟨c,0,none⟩)] w Q:=by
 rcases h with ⟨h,k⟩ | ⟨h,k⟩ | ⟨h,k⟩ | ⟨h,k⟩ | ⟨h,k⟩<;>first | exact k | (exact absurd h (by decide))
theorem KindC.nots {w:World} {c ql:Nat} {Q:Ending→World→Prop} (h:KindC w c 256 ql Q):Calls Tryz.prog 233 #[.pointer (some ⟨ql,0,none⟩),.pointer (some ⟨c,0,none⟩)] w Q:=by
 rcases h with ⟨h,k⟩ | ⟨h,k⟩ | ⟨h,k⟩ | ⟨h,k⟩ | ⟨h,k⟩<;>first | exact k | (exact absurd h (by decide))
theorem KindC.pair {w:World} {c ql:Nat} {Q:Ending→World→Prop} (h:KindC w c 259 ql Q):Calls Tryz.prog 235 #[.pointer (some ⟨ql,0,none⟩),.pointer (some ⟨c,0,none⟩)] w Q:=by
 rcases h with ⟨h,k⟩ | ⟨h,k⟩ | ⟨h,k⟩ | ⟨h,k⟩ | ⟨h,k⟩<;>first | exact k | (exact absurd h (by decide))
theorem XAt.ty {w:World} {x:Px.Ex} {ok:Nat→Prop} {tl ql:Nat} (h:XAt w x ok (.iface tl (Ref.ptr ql))):Ty5 tl:=by
 unfold Ty5;match x with
 | ⟨op,n,word,pl,own,none,none⟩ =>
  obtain ⟨q,h1,⟨h2,h3,h4⟩ | ⟨h2,h3,h4⟩ | ⟨h2,h3,h4⟩⟩:=h<;>cases h3<;>simp
 | ⟨op,n,word,pl,own,some l,none⟩=>obtain ⟨h0,q,tl,ql,h1,h2,h3⟩:=h;cases h2;simp
 | ⟨op,n,word,pl,own,some l,some r⟩=>obtain ⟨q,tl,ql,tr,qr,h1,h2,h3⟩:=h;cases h2;simp
 | ⟨_,_,_,_,_,none,some _⟩=>exact h.elim
theorem mNum (a:Addr) (w:World):(method 444 237 (.pointer (some a)) "errand/lang.kind").run Tryz.prog w=.ok (229,.pointer (some a)) w:=by kernel_rfl
theorem mVar (a:Addr) (w:World):(method 444 196 (.pointer (some a)) "errand/lang.kind").run Tryz.prog w=.ok (215,.pointer (some a)) w:=by kernel_rfl
theorem mTru (a:Addr) (w:World):(method 444 253 (.pointer (some a)) "errand/lang.kind").run Tryz.prog w=.ok (231,.pointer (some a)) w:=by kernel_rfl
theorem mNot (a:Addr) (w:World):(method 444 256 (.pointer (some a)) "errand/lang.kind").run Tryz.prog w=.ok (233,.pointer (some a)) w:=by kernel_rfl
theorem qvz (a:Addr) (w:World):(method 444 259 (.pointer (some a)) "errand/lang.kind").run Tryz.prog w=.ok (235,.pointer (some a)) w:=by kernel_rfl
def qco (c m B:Nat) (E:Nat→Addr) (x:Px.Ex):Prop:=∀ (K:Px.Lk) (w:World) (tl ql:Nat),XAt w x (· < B) (.iface tl (Ref.ptr ql))→Ck w c m B E K→Px.V3 K→KindC w c tl ql (qe8 c m B E w (Px.qaj x K))
theorem XAt.drew {w:World} {x:Px.Ex} {ok:Nat→Prop} {v:Value} (h:XAt w x ok v):XAt w.drew x ok v:=h.keep fun _ _=>rfl
open Go.RowKit
theorem qqb (c m B:Nat) (E:Nat→Addr) (l:Px.Ex) (ih:qco c m B E l) (k:Nat) (hk:Px.K3 k) (K:Px.Lk) (w:World) (q:Nat) (hr:RootAt w l (· < B) q) (h:Ck w c m B E K) (hv:Px.V3 K) :
  Calls Tryz.prog 219 #[.pointer (some ⟨c,0,none⟩),.pointer (some ⟨q,0,none⟩),.int .i64 (kk k:Int)] w fun r w'=>r=.returned (.tuple #[])∧Ck w' c m B E (Px.qh4 l k K)∧Fr c m w w':=by
 obtain ⟨hq,tl,ql,hc,hx⟩:=hr;have hk3:=Px.qdq l K hv;have CALL:Hid (∀ W,W=w.drew∨W=w→KindC W c tl ql (qe8 c m B E W (Px.qaj l K))):=fun W hW=>by
  rcases hW with rfl | rfl
  ·exact ih K _ tl ql hx.drew h.drew hv
  ·exact ih K _ tl ql hx h hv
 have CQ:Hid (∀ W,Below B w W→W.heap[q]?=some (.cells #[.iface tl (Ref.ptr ql),.int .i64 (l.pl:Int)] 270)):=fun W hW=>by rw[hW.block q hq];exact hc
 have ht:=hx.ty;unfold Ref.ptr at hc;obtain ⟨c0,c1,fr⟩:=qck hc;have HH:Hid (_):=h;clear ih hx h hc;unfold Ty5 at ht;have hm1:=mNum;have hm2:=mVar;have hm3:=mTru;have hm4:=mNot;have hm5:=qvz;rcases ht with rfl | rfl | rfl | rfl | rfl
 all_goals
  go_enter Tryz.func219,Tryz.ntmps219
  go_wp2_with fail
  first
   | refine (CALL.out w (Or.inr rfl)).num.mono ?_
   | refine (CALL.out w (Or.inr rfl)).var.mono ?_
   | refine (CALL.out w (Or.inr rfl)).tru.mono ?_
   | refine (CALL.out w (Or.inr rfl)).nots.mono ?_
   | refine (CALL.out w (Or.inr rfl)).pair.mono ?_
  rintro e w1 ⟨rfl,k1,b1⟩;have hc1:=CQ.out w1 (HH.out.fr b1);unfold Ref.ptr at hc1;obtain ⟨e0,e1,fe⟩:=qck hc1;have g6:=k1.g.y;have K1:Hid (Ck w1 c m B E (Px.qaj l K).2∧Fr c m w w1):=⟨k1,b1⟩;clear c0 c1 fr k1 b1 hc1;cases hfit:Px.qcd (Px.qaj l K).1 k
  ·go_wp2_with fail;refine (qaq _ k hk3 hk _).mono ?_;rintro r w2 ⟨rfl,rfl⟩;rw[hfit];go_wp2_with fail;go_region_with (go_at_call 214;refine (qbx c m B E 6 l.pl (by decide) _ _ K1.out.1.drew).mono ?_;rintro r w2 ⟨rfl,h3,h4⟩)
   all_goals
    go_wp2_with fail;go_end0
    refine ⟨rfl,?_,K1.out.2.drew.trans h4⟩;unfold Px.qh4;rw[if_neg (by simp[hfit])]
    exact h3
  ·go_wp2_with fail;refine (qaq _ k hk3 hk _).mono ?_;rintro r w2 ⟨rfl,rfl⟩;rw[hfit];go_wp2_with fail;go_end0
   refine ⟨rfl,?_,K1.out.2⟩;unfold Px.qh4;rw[if_pos hfit];exact K1.out.1
open Go.RowKit Go.Extern.Stop Go.Stop Go.Extern
theorem qlt (v:Value) (w:World):(Extern.ReflectliteType.typeOf #[.iface 302 v]).run Tryz.prog w=.ok (.iface 161 (.agg #[.pointer (some ⟨17,302,none⟩)])) w:=by kernel_rfl
theorem qhc (w:World):((Extern.ReflectliteType.method fun t=>do Extern.Rtype.noPackHeld "Comparable" t;Functor.map (fun a=>Value.bool a.comparable) (typeInfo t)) #[.agg #[.pointer (some ⟨17,302,none⟩)]]).run Tryz.prog w=.ok (.bool true) w:=by kernel_rfl
theorem qdr (v:Value) (w:World):(Go.method 444 161 v "Comparable").run Tryz.prog w=.ok (201,v) w:=by kernel_rfl
theorem zat:(Tryz.prog.info? 302).map (·.comparable)=some true:=by kernel_rfl
theorem zas:(Tryz.prog.info? 329).map (·.size)=some 1:=by kernel_rfl
theorem zs3 (v:Value) (xT:TypeId) (w:World):(Instr.typeAssert (.iface 302 v) xT 243 true).run Tryz.prog w=.ok (.tuple #[.nilIface,.bool false]) w:=run_typeAssert_lacksB Tryz.underlying243 (by kernel_rfl) (by kernel_rfl) v xT w
theorem qli (v:Value) (xT:TypeId) (w:World):(Instr.typeAssert (.iface 302 v) xT 169 true).run Tryz.prog w=.ok (.tuple #[.nilIface,.bool false]) w:=run_typeAssert_lacksB Tryz.underlying169 (by kernel_rfl) (by kernel_rfl) v xT w
theorem qj3 (v:Value) (xT:TypeId) (w:World):(Instr.typeAssert (.iface 302 v) xT 171 true).run Tryz.prog w=.ok (.tuple #[.nilIface,.bool false]) w:=run_typeAssert_lacksB Tryz.underlying171 (by kernel_rfl) (by kernel_rfl) v xT w
theorem zwu (v:Value) (xT:TypeId) (w:World):(Instr.typeAssert (.iface 68 v) xT 243 true).run Tryz.prog w=.ok (.tuple #[.nilIface,.bool false]) w:=run_typeAssert_lacksB Tryz.underlying243 (by kernel_rfl) (by kernel_rfl) v xT w
theorem qrm (v:Value) (xT:TypeId) (w:World):(Instr.typeAssert (.iface 68 v) xT 169 true).run Tryz.prog w=.ok (.tuple #[.iface 68 v,.bool true]) w:=run_typeAssert_hasB Tryz.underlying169 (by kernel_rfl) v xT w
theorem qng (v:Value) (w:World):(Go.method 444 68 v "Unwrap").run Tryz.prog w=.ok (194,v) w:=by kernel_rfl
theorem zh4 (a:Addr) (w:World) :
  Calls Tryz.prog 42 #[.iface 302 (.pointer (some a)),.iface 302 (.pointer (some a))] w fun e w'=>e=.returned (.bool true)∧w'=w:=by
 obtain ⟨i,hi,hcmp⟩:=Option.map_eq_some_iff.1 zat;obtain ⟨j,hj,hjs⟩:=Option.map_eq_some_iff.1 zas;have h8:=@run_callFunc_extern Tryz.prog 54 _ Extern.ReflectliteType.typeOf Tryz.func54 (by kernel_rfl) (by kernel_rfl) (by kernel_rfl) (by kernel_rfl)
 have h32:=@run_callFunc_extern Tryz.prog 201 _ (Extern.ReflectliteType.method fun t=>do Extern.Rtype.noPackHeld "Comparable" t;pure (.bool (← typeInfo t).comparable)) Tryz.func201 (by kernel_rfl) (by kernel_rfl) (by kernel_rfl) (by kernel_rfl)
 have tT:=qlt;have cT:=qhc;have mR:=qdr;have heq:=run_eql_iface_ptr_same (P:=Tryz.prog) w a Tryz.underlying44 Tryz.underlying302 hi hcmp hj;go_enter Tryz.func42,Tryz.ntmps42
 go_wp2;refine wp_loop_rounds 1 ?_;rw[rounds_succ];go_wp2;go_ret;exact ⟨rfl,rfl⟩
theorem qtm (f:Nat) (b:Addr) (w:World) (h1:w.cell? ⟨f,1,none⟩=some (.iface 302 (.pointer (some b)))) :
  Calls Tryz.prog 42 #[.iface 68 (.pointer (some ⟨f,0,none⟩)),.iface 302 (.pointer (some b))] w fun e w'=>e=.returned (.bool true)∧w'=w:=by
 obtain ⟨i,hi,hcmp⟩:=Option.map_eq_some_iff.1 zat;obtain ⟨j,hj,hjs⟩:=Option.map_eq_some_iff.1 zas;have h8:=@run_callFunc_extern Tryz.prog 54 _ Extern.ReflectliteType.typeOf Tryz.func54 (by kernel_rfl) (by kernel_rfl) (by kernel_rfl) (by kernel_rfl)
 have h32:=@run_callFunc_extern Tryz.prog 201 _ (Extern.ReflectliteType.method fun t=>do Extern.Rtype.noPackHeld "Comparable" t;pure (.bool (← typeInfo t).comparable)) Tryz.func201 (by kernel_rfl) (by kernel_rfl) (by kernel_rfl) (by kernel_rfl)
 have tT:=qlt;have cT:=qhc;have mR:=qdr;have nE:=zs3;have uE:=qli;have vE:=qj3;have nW:=zwu;have uW:=qrm;have mU:=qng;have heq:=run_eql_iface_ptr_same (P:=Tryz.prog) w b Tryz.underlying44 Tryz.underlying302 hi hcmp hj;have hty:=run_eql_iface_types (P:=Tryz.prog) 68 302 (.pointer (some ⟨f,0,none⟩)) (.pointer (some b)) Tryz.underlying44 (by decide) w
 go_enter Tryz.func42,Tryz.ntmps42
 go_wp2;refine wp_loop_rounds 2 ?_;rw[rounds_succ];go_wp2;rw[rounds_succ];go_wp2;go_ret;exact ⟨rfl,rfl⟩
theorem qqt (f:Nat) (b a:Addr) (ca cb:Array Value) (ta tb:TypeId) (w:World) (h1:w.cell? ⟨f,1,none⟩=some (.iface 302 (.pointer (some a)))) (hne:a≠b) (ha:w.heap[a.block]?=some (.cells ca ta (0,0))) (hb:w.heap[b.block]?=some (.cells cb tb (0,0))) :
  Calls Tryz.prog 42 #[.iface 68 (.pointer (some ⟨f,0,none⟩)),.iface 302 (.pointer (some b))] w fun e w'=>e=.returned (.bool false)∧w'=w:=by
 obtain ⟨i,hi,hcmp⟩:=Option.map_eq_some_iff.1 zat;obtain ⟨j,hj,hjs⟩:=Option.map_eq_some_iff.1 zas;have h8:=@run_callFunc_extern Tryz.prog 54 _ Extern.ReflectliteType.typeOf Tryz.func54 (by kernel_rfl) (by kernel_rfl) (by kernel_rfl) (by kernel_rfl)
 have h32:=@run_callFunc_extern Tryz.prog 201 _ (Extern.ReflectliteType.method fun t=>do Extern.Rtype.noPackHeld "Comparable" t;pure (.bool (← typeInfo t).comparable)) Tryz.func201 (by kernel_rfl) (by kernel_rfl) (by kernel_rfl) (by kernel_rfl)
 have tT:=qlt;have cT:=qhc;have mR:=qdr;have nE:=zs3;have uE:=qli;have vE:=qj3;have nW:=zwu;have uW:=qrm;have mU:=qng;have heq:=run_eql_iface_ptr_other (P:=Tryz.prog) w Tryz.underlying44 Tryz.underlying302 hi hcmp hj (by rw[hjs];decide) hne ha hb
 have hty:=run_eql_iface_types (P:=Tryz.prog) 68 302 (.pointer (some ⟨f,0,none⟩)) (.pointer (some b)) Tryz.underlying44 (by decide) w
 go_enter Tryz.func42,Tryz.ntmps42
 go_wp2;refine wp_loop_rounds 2 ?_;rw[rounds_succ];go_wp2;rw[rounds_succ];go_wp2;go_ret;exact ⟨rfl,rfl⟩
end Lg
end Go.Proofs.YthanmfbakpcigaaGreatDoor
