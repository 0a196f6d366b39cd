import Derived.Test.YtagpnplggopoeaaGreatDoorT26
import Derived.Test.YtagpnplggopoeaaGreatDoorT34
set_option maxRecDepth 100000
set_option maxHeartbeats 4000000
namespace Go.Proofs.YtagpnplggopoeaaGreatDoor
open Go.RowKit
namespace Rn
def AnsJ (w:World) (o0 B:Nat) (vs:Value) (l:List Int) (va:Value):Prop :=
 ∃ ad c,vs=.slice ad l.length c∧l.length≤c∧l.length≤140737488355328∧(ad=none→c=0)∧∀ p,ad=some p→∃ g o cur,p=⟨g,o,none⟩∧w.heap[g]?=some (.cells cur 3 (0,0))∧o+c≤cur.size∧(∀ i (hi:i < l.length),cur[o+i]?=some (.int .i64 l[i]))∧((o0≤g∧g < B)∨va.ownBlock=some g)
def Kj (o0 B jl b:Nat) (l:List Int) (_a:List Px.Ask) (va:Value) (w:World):Prop :=
 ∃ sz vs wd ar tr un,w.heap[jl]?=some (Jn.jObj b sz vs wd ar tr un)∧AnsJ w o0 B vs l va
theorem AnsJ.keep {w w':World} {o0 B:Nat} {vs:Value} {l:List Int} {va:Value} (h:AnsJ w o0 B vs l va) (hk:∀ g cur,w.heap[g]?=some (.cells cur 3 (0,0))→((o0≤g∧g < B)∨va.ownBlock=some g)→w'.heap[g]?=w.heap[g]?):AnsJ w' o0 B vs l va:=by
 obtain ⟨ad,c,h1,h2,h3,h4,h5⟩:=h;refine ⟨ad,c,h1,h2,h3,h4,fun p hp=>?_⟩
 obtain ⟨g,o,cur,e1,e2,e3,e4,e5⟩:=h5 p hp;exact ⟨g,o,cur,e1,(hk g cur e2 e5).trans e2,e3,e4,e5⟩
theorem Kj.keep {o0 B jl b:Nat} (hjl:jl < B) {l:List Int} {a:List Px.Ask} {va:Value} {w w':World} {T:Nat→Prop} (h:Kj o0 B jl b l a va w) (hT:Tch T w w') (h1:∀ k,T k→B≤k) (h2:∀ k,va.ownBlock=some k→¬ T k):Kj o0 B jl b l a va w':=by
 obtain ⟨sz,vs,wd,ar,tr,un,hb,ha⟩:=h;refine ⟨sz,vs,wd,ar,tr,un,(hT.block jl (lt_of_block hb) fun hk=>by have:=h1 _ hk;omega).trans hb,ha.keep fun g cur hg hv=>hT.block g (lt_of_block hg) fun hk=>?_⟩
 rcases hv with ⟨_,hv⟩ | hv
 ·have:=h1 _ hk;omega
 ·exact h2 g hv hk
theorem ycu {w:World} {k:Nat} {a b c d e f g:Value} {t:TypeId} (hh:w.heap[k]?=some (.cells #[a,b,c,d,e,f,g] t)) :
  w.cell? ⟨k,0,none⟩=some a∧w.cell? ⟨k,1,none⟩=some b∧w.cell? ⟨k,2,none⟩=some c∧w.cell? ⟨k,3,none⟩=some d∧w.cell? ⟨k,4,none⟩=some e∧w.cell? ⟨k,5,none⟩=some f∧w.cell? ⟨k,6,none⟩=some g∧(∀ o,w.frozen? ⟨k,o,none⟩=false)∧k < w.heap.size:=by
 refine ⟨?_,?_,?_,?_,?_,?_,?_,?_,lt_of_block hh⟩<;>simp[World.cell?,World.frozen?,hh]
theorem yf1 {w:World} {jl b:Nat} {sz ar tr:Int} {vs:Value} {wd:ByteArray} {un:Bool} (hb:w.heap[jl]?=some (Jn.jObj b sz vs wd ar tr un)) (word:ByteArray) (arg nth:Int) (und:Bool) :
  ((((w.setCell ⟨jl,3,none⟩ (.string word)).setCell ⟨jl,4,none⟩ (.int .i64 arg)).setCell ⟨jl,5,none⟩ (.int .i64 nth)).setCell ⟨jl,6,none⟩ (.bool und)).heap[jl]?=some (Jn.jObj b sz vs word arg nth und) ∧
  Tch (·=jl) w ((((w.setCell ⟨jl,3,none⟩ (.string word)).setCell ⟨jl,4,none⟩ (.int .i64 arg)).setCell ⟨jl,5,none⟩ (.int .i64 nth)).setCell ⟨jl,6,none⟩ (.bool und)):=by
 have h3:(w.setCell ⟨jl,3,none⟩ (.string word)).heap[jl]?=some (Jn.jObj b sz vs word ar tr un):=by rw[Ref.heap_set _ hb];rfl
 have h4:((w.setCell ⟨jl,3,none⟩ (.string word)).setCell ⟨jl,4,none⟩ (.int .i64 arg)).heap[jl]?=some (Jn.jObj b sz vs word arg tr un):=by rw[Ref.heap_set _ h3];rfl
 have h5:(((w.setCell ⟨jl,3,none⟩ (.string word)).setCell ⟨jl,4,none⟩ (.int .i64 arg)).setCell ⟨jl,5,none⟩ (.int .i64 nth)).heap[jl]?=some (Jn.jObj b sz vs word arg nth un):=by rw[Ref.heap_set _ h4];rfl
 have h6:((((w.setCell ⟨jl,3,none⟩ (.string word)).setCell ⟨jl,4,none⟩ (.int .i64 arg)).setCell ⟨jl,5,none⟩ (.int .i64 nth)).setCell ⟨jl,6,none⟩ (.bool und)).heap[jl]?=some (Jn.jObj b sz vs word arg nth und):=by rw[Ref.heap_set _ h5];rfl
 exact ⟨h6,((((Tch.refl (·=jl) w).setCell (p:=⟨jl,3,none⟩) (Or.inl rfl) _).setCell (p:=⟨jl,4,none⟩) (Or.inl rfl) _).setCell (p:=⟨jl,5,none⟩) (Or.inl rfl) _).setCell (p:=⟨jl,6,none⟩) (Or.inl rfl) _⟩
theorem ydf {w W:World} {jl b:Nat} {sz ar tr:Int} {vs:Value} {wd:ByteArray} {un:Bool} (hb:W.heap[jl]?=some (Jn.jObj b sz vs wd ar tr un)∧Tch (·=jl) w W) (A:Obj):(W.alloc A).heap[jl]?=some (Jn.jObj b sz vs wd ar tr un)∧Tch (·=jl) w (W.alloc A) :=
 ⟨(((Below.refl _ _).alloc (Nat.le_refl _) A).block jl (lt_of_block hb.1)).trans hb.1,hb.2.alloc _⟩
theorem yfn {w W:World} {jl b:Nat} {sz ar tr:Int} {vs:Value} {wd:ByteArray} {un:Bool} (hb:W.heap[jl]?=some (Jn.jObj b sz vs wd ar tr un)∧Tch (·=jl) w W) (v':Value):(W.setCell ⟨jl,2,none⟩ v').heap[jl]?=some (Jn.jObj b sz v' wd ar tr un)∧Tch (·=jl) w (W.setCell ⟨jl,2,none⟩ v') :=
 ⟨by rw[Ref.heap_set _ hb.1];rfl,hb.2.setCell (p:=⟨jl,2,none⟩) (Or.inl rfl) _⟩
theorem yc6 {w:World} {jl b g:Nat} {sz ar tr:Int} {vs:Value} {wd:ByteArray} {un:Bool} {cur:Array Value} (hb:w.heap[jl]?=some (Jn.jObj b sz vs wd ar tr un)) (hg:w.heap[g]?=some (.cells cur 3 (0,0))):jl≠g:=by
 rintro rfl;rw[hb] at hg;unfold Jn.jObj at hg;cases hg
theorem yel {o0 B jl b:Nat} {a:List Px.Ask} {va:Value} {w W:World} {ask:Px.Ask} {sz:Int} {vs:Value} {wd:ByteArray} {ar tr sz0 ar0 tr0:Int} {un un0:Bool} {wd0:ByteArray} (h0:w.heap[jl]?=some (Jn.jObj b sz0 vs wd0 ar0 tr0 un0)) (hA:AnsJ w o0 B vs [] va) (hb:W.heap[jl]?=some (Jn.jObj b sz vs wd ar tr un)) (hT:Tch (·=jl) w W):qqo (Kj o0 B jl b) jl [] a va ask w (.returned (.tuple #[.int .i64 0,.bool false])) W :=
 ⟨rfl,va,⟨sz,vs,wd,ar,tr,un,hb,hA.keep fun g _ hg _=>hT.block g (lt_of_block hg) fun e=>yc6 h0 hg e.symm⟩,hT.mono fun _ _ hk=>Or.inl hk,Or.inl rfl⟩
theorem yek {o0 B jl b:Nat} {a:List Px.Ask} {va:Value} {w W:World} {ask:Px.Ask} {v:Int} {r:List Int} {g o c:Nat} {cur:Array Value} {sz:Int} {vs0:Value} {wd:ByteArray} {ar tr sz0 ar0 tr0:Int} {un un0:Bool} {wd0:ByteArray} (h0:w.heap[jl]?=some (Jn.jObj b sz0 vs0 wd0 ar0 tr0 un0)) (hg:w.heap[g]?=some (.cells cur 3 (0,0))) (hc:r.length+1≤c) (hl:r.length+1≤140737488355328) (hz:o+c≤cur.size) (hcur:∀ i (hi:i < (v::r).length),cur[o+i]?=some (.int .i64 (v::r)[i])) (hv:(o0≤g∧g < B)∨va.ownBlock=some g)
  (hb:W.heap[jl]?=some (Jn.jObj b sz (.slice (some (if c=1 then ⟨g,o,none⟩ else ⟨g,o+1,none⟩)) r.length (c - 1)) wd ar tr un)∧Tch (·=jl) w W):qqo (Kj o0 B jl b) jl (v::r) a va ask w (.returned (.tuple #[.int .i64 v,.bool true])) W:=by
 have hgj:=yc6 h0 hg;have hg2:=(hb.2.block g (lt_of_block hg) fun e=>hgj e.symm).trans hg
 refine ⟨rfl,va,⟨sz,_,wd,ar,tr,un,hb.1,⟨_,_,rfl,by show r.length≤c - 1;omega,by show r.length≤_;omega,(fun h=>by cases h),fun p hp=>?_⟩⟩,hb.2.mono fun k _ hk=>Or.inl hk,Or.inl rfl⟩
 cases hp;by_cases e:c=1
 ·rw[if_pos e];refine ⟨g,o,cur,rfl,hg2,by omega,fun i hi=>?_,hv⟩
  simp only[List.tail_cons] at hi;omega
 ·rw[if_neg e];refine ⟨g,o+1,cur,rfl,hg2,by omega,fun i hi=>?_,hv⟩
  simp only[List.tail_cons] at hi ⊢
  have:=hcur (i+1) (by simp;omega)
  rw[show o+1+i=o+(i+1) by omega]
  exact this
theorem ye8 (o0 B jl b:Nat) (l:List Int) (a:List Px.Ask) (va:Value) (w:World) (ask:Px.Ask) (h:Kj o0 B jl b l a va w) :
  Calls Tryz.prog 263 #[.pointer (some ⟨jl,0,none⟩),askV ask] w (qqo (Kj o0 B jl b) jl l a va ask w):=by
 obtain ⟨sz,vs,wd,ar,tr,un,hb,ha⟩:=h;obtain ⟨c0,c1,c2,c3,c4,c5,c6,cf,cl⟩:=ycu hb;obtain ⟨word,arg,nth,und⟩:=ask;unfold askV;have HB:Hid (_):=hb;have HN:Hid (_):=yf1 hb word arg nth und;obtain ⟨ad,c,rfl,hcap,hll,hnone,hce⟩:=id ha;cases l with
 | nil =>
  have HA:Hid (_):=ha;simp only[List.length_nil] at c2;clear hce ha hb;go_enter Tryz.func263,Tryz.ntmps263
  go_wp2_with fail;go_ret2;have q:=ydf HN.out (.cells #[.string word,.int .i64 arg,.int .i64 (nth:Int),.bool und] 75);exact yel HB.out HA.out q.1 q.2
 | cons v r =>
  simp only[List.length_cons] at hcap hll c2 HB HN;obtain ⟨p,rfl⟩:∃ p,ad=some p:=by
   cases ad with
   | none=>have:=hnone rfl;omega
   | some p=>exact ⟨p,rfl⟩
  obtain ⟨g,o,cur,rfl,hg,hz,hcur,hv⟩:=hce p rfl;have hgj:=yc6 hb hg;have hgl:=lt_of_block hg;have hcg:w.cell? ⟨g,o,none⟩=some (.int .i64 v):=by
   have:=hcur 0 (by simp)
   simp only[Nat.add_zero,List.getElem_cons_zero] at this;simp[World.cell?,hg,this]
  have QQ:Hid (_):=yek (ask:=⟨word,arg,nth,und⟩) (a:=a) HB.out hg hcap hll hz hcur hv (ydf (yfn HN.out _) (.cells #[.string word,.int .i64 arg,.int .i64 (nth:Int),.bool und] 75));clear hce ha hb hcur hnone hv hz hg HN HB;generalize r.length=R at *;by_cases hcc:c=1
  ·subst hcc;obtain rfl:R=0:=by omega
   rw[if_pos rfl] at QQ;go_enter Tryz.func263,Tryz.ntmps263
   go_wp2_with fail
   all_goals (try go_region)
   all_goals (try go_wp2_with fail)
   go_ret2;exact QQ.out
  ·rw[if_neg hcc] at QQ;go_enter Tryz.func263,Tryz.ntmps263
   go_wp2_with fail
   all_goals (try go_region)
   all_goals (try go_wp2_with fail)
   go_ret2;exact QQ.out
theorem yfp {x:Cx} {o0 b:Nat} (hK:x.K=Kj o0 x.B x.jl b) (hjl:x.jl < x.B):JA x 263:=by
 refine ⟨⟨fun l a va w w' T h hT h1 h2=>?_⟩,fun l a va w ask h _ _=>?_⟩
 ·rw[hK] at h ⊢;exact h.keep hjl hT h1 h2
 ·rw[hK] at h ⊢;exact ye8 o0 x.B x.jl b l a va w ask h
open Go.RowKit
def NoPg (w:World) (k:Nat):Prop:=∀ c t fr,w.heap[k]?=some (.cells c t fr)→t≠122∧t≠190∧t≠9
theorem yfe {w:World} {B e z n k:Nat} {v:Value} {cs:List Value} (h:w.ownsRow B e z v n cs) (hk:v.ownBlock=some k):∃ c,w.heap[k]?=some (.cells c e (0,0)):=by
 rcases h.2 with ⟨rfl,_⟩ | ⟨g,cap,cur,rfl,_,hh,_⟩
 ·cases hk
 ·cases hk;exact ⟨cur,hh⟩
theorem PgS.low {x:Cx} {w w':World} {T:Nat→Prop} (h:PgS x w) (hT:Tch T w w') (ht:∀ k,T k→NoPg w k):PgS x w':=by
 obtain ⟨vl,vw,vn,lo,h1,h2,h3,h4,h5,h6,h7⟩:=h.ex;refine ⟨vl,vw,vn,lo,(hT.block _ (lt_of_block h1) fun hk=>(ht _ hk _ _ _ h1).1 rfl).trans h1,h2,h3,qah h4 hT (fun k hk hk'=>?_),h5,qah h6 hT (fun k hk hk'=>?_),h7⟩
 ·obtain ⟨c,hc⟩:=yfe h4 hk;exact (ht _ hk' _ _ _ hc).2.1 rfl
 ·obtain ⟨c,hc⟩:=yfe h6 hk;exact (ht _ hk' _ _ _ hc).2.2 rfl
theorem Ge.low {x:Cx} {w w':World} {T:Nat→Prop} {B0:Nat} (h:Ge x w) (hT:Tch T w w') (ht:∀ k,T k→B0≤k) (hG:21≤B0) (hE:∀ i,1≤i→i≤4→(x.E i).block < B0):Ge x w':=by
 have hv:∀ {k:Nat} {v:Value},k < 21→w.cell? ⟨k,0,none⟩=some v→w'.cell? ⟨k,0,none⟩=some v:=fun {k v} hk hc=>(World.cell?_of_block (w:=w) (a:=⟨k,0,none⟩) (hT.block k (lt_of_cell hc) fun e=>by have:=ht _ e;omega)).trans hc
 refine ⟨hv (by decide) h.v1,hv (by decide) h.v2,hv (by decide) h.v3,hv (by decide) h.v4,fun i h1 h2=>?_,h.ne,h.lo,h.lj⟩
 obtain ⟨b1,b2,c,t,b3⟩:=h.b i h1 h2;exact ⟨b1,b2,c,t,(hT.block _ (lt_of_block b3) fun e=>by have:=ht _ e;have:=hE i h1 h2;omega).trans b3⟩
theorem MK.low {x:Cx} {m:Px.Ms} {w w':World} {f:Nat→Value} {va va':Value} {T:Nat→Prop} {B0:Nat} (h:MK x m w f va) {l:List Int} {a:List Px.Ask} (hk:x.K l a va' w') (hT:Tch T w w') (h1:∀ k,T k→k < x.B∨va.ownBlock=some k) (h2:∀ k,T k→NoPg w k) (h3:∀ k,T k→B0≤k) (hG:21≤B0) (hE:∀ i,1≤i→i≤4→(x.E i).block < B0) (hJ:∀ k,qit k=true→x.B≤x.J k) (hloc:va'=va∨∃ n,va'.ownBlock=some n∧w.heap.size≤n∧n < w'.heap.size) :
  MK x { m with left:=l,asks:=a } w' f va':=by
 have hlt:=h.a.lt;have hB:=h.a.hB;have hown:∀ k,va.ownBlock=some k→x.B≤k∧k≠x.g∧k < w.heap.size:=h.a.sep.own va (by simp[rows])
 have hrow:∀ (j:Nat) (u:Value),[f 0,f 1,f 2,f 85][j]?=some u→∀ k,u.ownBlock=some k→¬ T k:=by
  intro j u hju k hk hh;have hj4:j < 4:=(List.getElem?_eq_some_iff.1 hju).1;have hju':(rows f va)[j]?=some u:=by
   rw[← hju];match j,hj4 with
   | 0,_=>rfl
   | 1,_=>rfl
   | 2,_=>rfl
   | 3,_=>rfl
  have ho:=h.a.sep.own u (List.mem_of_getElem? hju') k hk;rcases h1 k hh with hh | hh
  ·omega
  ·exact h.a.sep.mem (i:=j) (j:=4) hju' rfl (by omega) k hk hh
 have hloc':va'.ownBlock=va.ownBlock∨va'.ownBlock=none∨∃ n,va'.ownBlock=some n∧w.heap.size≤n∧n < w'.heap.size:=by
  rcases hloc with rfl | hl
  ·exact Or.inl rfl
  ·exact Or.inr (Or.inr hl)
 have hsep:Sep x.B x.g w' (rows f va'):=Sep.turn (A:=[f 0,f 1,f 2,f 85]) (R:=[]) h.a.sep hT.size (by omega) hlt hloc'
 refine ⟨⟨hB,h.a.hj,h.a.blk.tch (by decide) hT (fun hh=>?_),h.a.f3,h.a.f4,h.a.tab,h.a.f86,h.a.f87,h.a.f88,h.a.f89,qah h.a.st hT (hrow 0 _ rfl),qah h.a.un hT (hrow 1 _ rfl),qah h.a.be hT (hrow 2 _ rfl),qah h.a.va_ hT (hrow 3 _ rfl),hsep,fun k hk=>?_⟩,hk,h.p.low hT h2,h.e.low hT h3 hG hE⟩
 ·rcases h1 _ hh with hh | hh
  ·omega
  ·exact (hown _ hh).2.1 rfl
 ·obtain ⟨a1,a2,a3,a4⟩:=h.a.jn k hk;have hz:=lt_of_cell a1;have hJk:=hJ k hk;refine ⟨(World.cell?_of_block (w:=w) (a:=⟨x.J k,0,none⟩) (hT.block _ hz (fun hh=>?_))).trans a1,a2,a3,fun r hr=>?_⟩
  ·rcases h1 _ hh with hh | hh
   ·have:x.J k < x.B:=hh
    omega
   ·exact a4 va (by simp[rows]) hh
  ·have:=zfm (va:=va) hr
   rcases this with h' | rfl
   ·exact a4 r h'
   ·intro e;rcases hloc' with hl | hl | ⟨n,hl,h1,_⟩
    ·rw[hl] at e;exact a4 va (by simp[rows]) e
    ·rw[hl] at e;cases e
    ·rw[hl] at e;cases e;omega
theorem NoPg.of {w:World} {k:Nat} {c:Array Value} {t:TypeId} {fr:Nat×Nat} (h:w.heap[k]?=some (.cells c t fr)) (h1:t≠122) (h2:t≠190) (h3:t≠9):NoPg w k:=by
 intro c' t' fr' h';rw[h] at h';cases h';exact ⟨h1,h2,h3⟩
end Rn
end Go.Proofs.YtagpnplggopoeaaGreatDoor
