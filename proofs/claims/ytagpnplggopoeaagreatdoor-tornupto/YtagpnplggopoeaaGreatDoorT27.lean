import Derived.Test.YtagpnplggopoeaaGreatDoorT26
import Derived.Deep.OwnRows
import Derived.Deep.RegionHeld
import Derived.Test.YtagpnplggopoeaaGreatDoorT11
set_option maxRecDepth 100000
set_option maxHeartbeats 4000000
namespace Go.Proofs.YtagpnplggopoeaaGreatDoor
open Go.RowKit
namespace Rn
theorem qxc (n k:Nat):n < tabJ n k:=by
 unfold tabJ;by_cases h4:k=4
 ·rw[if_pos h4];omega
 rw[if_neg h4];by_cases h5:k=5
 ·rw[if_pos h5];omega
 rw[if_neg h5];by_cases h6:k=6
 ·rw[if_pos h6];omega
 rw[if_neg h6];by_cases h8:k=8
 ·rw[if_pos h8];omega
 rw[if_neg h8];by_cases h9:k=9
 ·rw[if_pos h9];omega
 rw[if_neg h9];omega
theorem al7 (w:World) (a b c d e f g:Obj):Tch (fun _=>False) w (((((((w.alloc a).alloc b).alloc c).alloc d).alloc e).alloc f).alloc g):=((((((((Tch.refl _ _).alloc a).alloc b).alloc c).alloc d).alloc e).alloc f).alloc g)
theorem qnh (w:World) :
  Calls Tryz.prog 43 #[] w fun e w'=>e=.returned (.agg (tabL w.heap.size).toArray)∧Tch (fun _=>False) w w'∧∀ k,qit k=true→w'.cell? ⟨tabJ w.heap.size k,0,none⟩=some (.func (.func (qv7 k)) #[] #[]):=by
 go_enter Tryz.func43,Tryz.ntmps43
 go_wp2_with (first
  | (go_at_call 94;refine (zl8 _ _).mono ?_;rintro e w1 ⟨rfl,hs,HP⟩)
  | (refine ze1 rfl _ _ rfl w.heap.size _ rfl rfl (by kernel_rfl) ?ht ?hh))
 case ht =>
  rename_i wa ha Ha wb hb Hb wc hc Hc wd hd Hd we he He;exact qqy qw4 (qu9 ha hb hc hd he Ha.out Hb.out Hc.out Hd.out He.out HP.out (al7 _ _ _ _ _ _ _ _)).1
 case hh =>
  rename_i wa ha Ha wb hb Hb wc hc Hc wd hd Hd we he He;have Q:=qu9 ha hb hc hd he Ha.out Hb.out Hc.out Hd.out He.out HP.out (al7 w1 (.cells #[.int .i64 3] 186) (.cells #[.int .i64 3] 186) (.cells #[.int .i64 3] 186) (.cells #[.int .i64 3] 186) (.cells #[.int .i64 3] 186) (.cells #[.int .i64 2,.int .i64 0] 186) (.cells #[.int .i64 2] 186));have hth:=qqy qw4 Q.1;refine bodyPost_ret (qxj _ _ w.heap.size rfl (World.rangeAt_setCells_same _ _ _ _ hth)) rfl ⟨rfl,?_,fun k hk=>?_⟩
  ·exact qu7 _ (Nat.le_refl _) _ _ _ (((Tch.refl _ _).alloc _).trans Q.1)
  ·exact (qty w.heap.size (tabJ w.heap.size k) (Nat.ne_of_gt (qxc _ _)) _ _ _).trans (Q.2 k hk)
open Go.RowKit
def newL (n:Nat) (vj:Value) (pp:Nat) (vv:Value):List Value:=[.slice none 0 0,.slice none 0 0,.slice none 0 0,vj,.pointer (some ⟨pp,0,none⟩)]++tabL n++[vv,.int .i64 0,.int .i64 0,.bool false,.int .i64 0]
theorem fold_size {T:Array Value} (hT:T.size=80) (cs:Array Value):(Array.foldl (fun (cs:Array Value) (x:Value×Nat)=>cs.setIfInBounds (5+x.2) x.1) cs T.zipIdx 0 80).size=cs.size:=by
 have hz:T.zipIdx.size=80:=by simp[hT]
 have h:(Array.foldl (fun (cs:Array Value) (x:Value×Nat)=>cs.setIfInBounds (5+x.2) x.1) cs T.zipIdx 0 T.zipIdx.size).size=cs.size:=by
  refine Array.foldl_induction (motive:=fun _ (b:Array Value)=>b.size=cs.size) rfl ?_
  intro i b hb
  simpa using hb
 rw[hz] at h;exact h
theorem qvw (n:Nat) (vj:Value) (pp:Nat) (vv:Value):(Array.foldl (fun (cs:Array Value) (x:Value×Nat)=>cs.setIfInBounds (5+x.2) x.1) ((Tryz.zeroCells130.setIfInBounds 3 vj).setIfInBounds 4 (.pointer (some ⟨pp,0,none⟩))) (tabL n).toArray.zipIdx 0 80).setIfInBounds 85 vv=(newL n vj pp vv).toArray:=by kernel_rfl
structure NewAt (pp nv:Nat) (vj:Value) (w w':World) (g n gv:Nat):Prop where
 t:Tch (fun _=>False) w w'
 g1:w.heap.size≤g
 at_:w'.heap[g]?=some (.cells (newL n vj pp (.slice (some ⟨gv,0,none⟩) nv nv)).toArray 130)
 v1:w.heap.size≤gv
 v2:gv≠g
 vat:w'.heap[gv]?=some (.cells (madeCells #[.int .i64 0] nv) 2)
 jn:∀ k,qit k=true→w'.cell? ⟨tabJ n k,0,none⟩=some (.func (.func (qv7 k)) #[] #[])∧tabJ n k≠g∧tabJ n k≠gv∧w.heap.size≤tabJ n k
theorem zs7 {pp nv:Nat} {vj:Value} {w w1:World} {T:Array Value} (h:T=(tabL w.drew.heap.size).toArray∧Tch (fun _=>False) w.drew w1∧∀ k,qit k=true→w1.cell? ⟨tabJ w.drew.heap.size k,0,none⟩=some (.func (.func (qv7 k)) #[] #[])) :
  NewAt pp nv vj w ((w1.alloc (.cells (madeCells #[.int .i64 0] nv) 2)).alloc (.cells ((Array.foldl (fun (cs:Array Value) (x:Value×Nat)=>cs.setIfInBounds (5+x.2) x.1) ((Tryz.zeroCells130.setIfInBounds 3 vj).setIfInBounds 4 (.pointer (some ⟨pp,0,none⟩))) T.zipIdx 0 80).setIfInBounds 85 (.slice (some ⟨w1.heap.size,0,none⟩) nv nv)) 130)) (w1.heap.size+1) w.drew.heap.size w1.heap.size:=by
 obtain ⟨rfl,hT,hj⟩:=h;have hs:w.heap.size≤w1.heap.size:=hT.size;have hT':Tch (fun _=>False) w w1:=((Tch.refl _ w).drew).trans hT
 rw[qvw];refine ⟨(hT'.alloc _).alloc _,by omega,?_,hs,by omega,?_,fun k hk=>?_⟩
 ·show ((w1.heap.push _).push _)[w1.heap.size+1]?=_
  rw[Ref.qdu]
 ·show ((w1.heap.push _).push _)[w1.heap.size]?=_
  rw[Array.getElem?_push,if_neg (by simp),Array.getElem?_push,if_pos rfl]
 ·have hz:=lt_of_cell (hj k hk);have hg:=qxc w.drew.heap.size k;refine ⟨?_,by omega,by omega,Nat.le_of_lt hg⟩
  exact qv5 (((Tch.refl _ w1).alloc _).alloc _) (hj k hk)
theorem zs5 {pp nv:Nat} {vj:Value} {w w1:World} {T:Array Value} (h:T=(tabL (w.alloc (.cells (madeCells #[.int .i64 0] nv) 2)).drew.heap.size).toArray∧Tch (fun _=>False) (w.alloc (.cells (madeCells #[.int .i64 0] nv) 2)).drew w1∧∀ k,qit k=true→w1.cell? ⟨tabJ (w.alloc (.cells (madeCells #[.int .i64 0] nv) 2)).drew.heap.size k,0,none⟩=some (.func (.func (qv7 k)) #[] #[])) :
  NewAt pp nv vj w (w1.alloc (.cells ((Array.foldl (fun (cs:Array Value) (x:Value×Nat)=>cs.setIfInBounds (5+x.2) x.1) ((Tryz.zeroCells130.setIfInBounds 3 vj).setIfInBounds 4 (.pointer (some ⟨pp,0,none⟩))) T.zipIdx 0 80).setIfInBounds 85 (.slice (some ⟨w.heap.size,0,none⟩) nv nv)) 130)) w1.heap.size (w.alloc (.cells (madeCells #[.int .i64 0] nv) 2)).drew.heap.size w.heap.size:=by
 obtain ⟨rfl,hT,hj⟩:=h;have e:(w.alloc (.cells (madeCells #[.int .i64 0] nv) 2)).drew.heap.size=w.heap.size+1:=by
  show (w.heap.push _).size=_
  simp
 have hs:=hT.size;rw[e] at hs hj ⊢;have hT':Tch (fun _=>False) w w1:=(((Tch.refl _ w).alloc _).drew).trans hT
 rw[qvw];refine ⟨hT'.alloc _,by omega,?_,Nat.le_refl _,by omega,?_,fun k hk=>?_⟩
 ·show (w1.heap.push _)[w1.heap.size]?=_
  rw[Array.getElem?_push,if_pos rfl]
 ·have h0:(w.alloc (.cells (madeCells #[.int .i64 0] nv) 2)).drew.heap[w.heap.size]?=some (.cells (madeCells #[.int .i64 0] nv) 2):=by
   show (w.heap.push _)[w.heap.size]?=_
   rw[Array.getElem?_push,if_pos rfl]
  have h1:w1.heap[w.heap.size]?=some (.cells (madeCells #[.int .i64 0] nv) 2):=by rw[hT.block _ (by rw[e];omega) (fun h=>h)];exact h0
  show (w1.heap.push _)[w.heap.size]?=_
  rw[Array.getElem?_push,if_neg (by omega)]
  exact h1
 ·have hz:=lt_of_cell (hj k hk);have hg:=qxc (w.heap.size+1) k;refine ⟨qv5 ((Tch.refl _ w1).alloc _) (hj k hk),by omega,by omega,by omega⟩
theorem zs8 (pp nv:Nat) (vj:Value) (t:TypeId) (p:Addr) (hvj:vj=.iface t (.pointer (some p))) (w:World) (hp:w.cell? ⟨pp,1,none⟩=some (.int .i64 (nv:Int))) (hn:nv≤10000000) :
  Calls Tryz.prog 21 #[.pointer (some ⟨pp,0,none⟩),vj] w fun e w'=>∃ g n gv,e=.returned (.pointer (some ⟨g,0,none⟩))∧NewAt pp nv vj w w' g n gv:=by
 subst hvj;have hmk:=run_make_row' (P:=Tryz.prog) 118 2 (.int .i64 0) 8 Tryz.underlying118 zh7 rfl .i64 .i64 nv (by omega) (by omega)
 have hpz:=lt_of_cell hp;have HM:Hid (∀ W:World,w.heap.size≤W.heap.size→W.cell? ⟨pp,1,none⟩=some (.int .i64 (nv:Int))→Calls Tryz.prog 43 #[] W fun e w1=>∃ T:Array Value,e=.returned (.agg T)∧T.size=80∧(∀ cs:Array Value,(Array.foldl (fun (cs:Array Value) (x:Value×Nat)=>cs.setIfInBounds (5+x.2) x.1) cs T.zipIdx 0 80).size=cs.size)∧w1.cell? ⟨pp,1,none⟩=some (.int .i64 (nv:Int))∧Hid (T=(tabL W.heap.size).toArray∧Tch (fun _=>False) W w1∧∀ k,qit k=true→w1.cell? ⟨tabJ W.heap.size k,0,none⟩=some (.func (.func (qv7 k)) #[] #[]))):=fun W _ hW=>by
  refine (qnh W).mono ?_;rintro e w1 ⟨rfl,hT,hc⟩;exact ⟨_,rfl,rfl,fold_size rfl,(World.cell?_of_block (w:=W) (a:=⟨pp,1,none⟩) (hT.block _ (lt_of_cell hW) (fun h=>h))).trans hW,rfl,hT,hc⟩
 go_enter Tryz.func21,Tryz.ntmps21
 go_wp2_with fail;go_region_held (fun w'=>w'.cell? ⟨pp,1,none⟩=some (.int .i64 (nv:Int))) (go_keep)
  (first | (go_at_call 43;refine Calls.mono (HM.out _ (by simp) (by simp[*])) ?_;rintro e w1 ⟨T,rfl,hTs,hTf,d1,H1⟩))
 all_goals
  go_wp2_with fail;go_ret
  first
   | exact ⟨_,_,_,rfl,zs7 H1.out⟩
   | exact ⟨_,_,_,rfl,zs5 H1.out⟩
open Go.RowKit
theorem zmx (n:Nat) (vj:Value) (pp:Nat) (vv:Value):(newL n vj pp vv).length=90:=rfl
theorem zmw (n:Nat) (vj:Value) (pp:Nat) (vv:Value) (k:Nat) (hk:k < 20):((newL n vj pp vv)[8+4 * k]?).getD undef=.func (.func (funK k)) #[] (capK (tabJ n) k):=by
 have h:=zrn n k hk;have e:(newL n vj pp vv)[8+4 * k]?=(tabL n)[4 * k+3]?:=by
  unfold newL;have h5:([.slice none 0 0,.slice none 0 0,.slice none 0 0,vj,.pointer (some ⟨pp,0,none⟩)]:List Value).length=5:=rfl;have h80:(tabL n).length=80:=rfl;rw[List.append_assoc,List.getElem?_append_right (by rw[h5];omega),h5,List.getElem?_append_left (by rw[h80];omega),show 8+4 * k - 5=4 * k+3 by omega]
 rw[e,h];rfl
theorem zm6 {w:World} {B g nv:Nat} (hg:B≤g) (h:w.heap[g]?=some (.cells (madeCells #[.int .i64 0] nv) 2)) (hn:nv≤10000000):w.ownsRow B 2 1 (.slice (some ⟨g,0,none⟩) nv nv) nv (i64C (List.replicate nv 0)):=by
 refine ⟨by simp[i64C],.inr ⟨g,nv,madeCells #[.int .i64 0] nv,rfl,hg,h,by simp,by unfold maxLen;omega,by simp[madeCells],?_⟩⟩
 rw[toList_madeCells_one];simp[i64C]
theorem zwy {x:Cx} {w w':World} {n gv:Nat} {l:List Int} {va:Value} (h:NewAt x.pp x.P.nv x.vj w w' x.g n gv) (hB:x.B=w.heap.size) (hJ:x.J=tabJ n) (hjl:x.jl < x.B) (hn:x.P.nv≤10000000) (hva:va.ownBlock=none) (hk:x.K l [] va w') (hp:PgS x w) (he:Ge x w) :
  MK x (Px.qi2 x.P l) w' (fun o=>((newL n x.vj x.pp (.slice (some ⟨gv,0,none⟩) x.P.nv x.P.nv))[o]?).getD undef) va:=by
 have hz:x.g < w'.heap.size:=(Array.getElem?_eq_some_iff.1 h.at_).1;have hvz:gv < w'.heap.size:=(Array.getElem?_eq_some_iff.1 h.vat).1;have hb:Blk w' x.g 90 (fun o=>((newL n x.vj x.pp (.slice (some ⟨gv,0,none⟩) x.P.nv x.P.nv))[o]?).getD undef):=by
  refine ⟨fun o ho=>?_,fun o=>by simp[World.frozen?,h.at_]⟩
  have hl:=zmx n x.vj x.pp (.slice (some ⟨gv,0,none⟩) x.P.nv x.P.nv);have e:(newL n x.vj x.pp (.slice (some ⟨gv,0,none⟩) x.P.nv x.P.nv))[o]?=some ((newL n x.vj x.pp (.slice (some ⟨gv,0,none⟩) x.P.nv x.P.nv))[o]'(by omega)):=List.getElem?_eq_getElem _
  simp only[World.cell?,h.at_,List.getElem?_toArray];rw[e];rfl
 refine ⟨⟨by rw[hB];exact h.g1,hjl,hb,rfl,rfl,fun k hk=>?_,rfl,rfl,rfl,rfl,World.ownsRow_nil _ _ _ _,World.ownsRow_nil _ _ _ _,World.ownsRow_nil _ _ _ _,?_,⟨?_,?_⟩,fun k hk=>?_⟩,hk,hp.tch h.t (fun _ h=>h.elim),he.tch h.t (fun _ h=>h.elim)⟩
 ·rw[hJ];exact zmw n x.vj x.pp _ k hk
 ·have:=zm6 (B:=x.B) (by rw[hB];exact h.v1) h.vat hn
  have el:(Px.qi2 x.P l).vars.length=x.P.nv:=by simp[Px.qi2]
  rw[el];exact this
 ·intro v hv k hkk;have hv':v=.slice none 0 0∨v=.slice (some ⟨gv,0,none⟩) x.P.nv x.P.nv∨v=va:=by
   simp only[rows,List.mem_cons,List.not_mem_nil,or_false] at hv;rcases hv with rfl | rfl | rfl | rfl | rfl
   ·exact Or.inl rfl
   ·exact Or.inl rfl
   ·exact Or.inl rfl
   ·exact Or.inr (Or.inl rfl)
   ·exact Or.inr (Or.inr rfl)
  rcases hv' with rfl | rfl | rfl
  ·cases hkk
  ·cases hkk;exact ⟨by rw[hB];exact h.v1,h.v2,hvz⟩
  ·rw[hva] at hkk;cases hkk
 ·have e:rows (fun o=>((newL n x.vj x.pp (.slice (some ⟨gv,0,none⟩) x.P.nv x.P.nv))[o]?).getD undef) va=[.slice none 0 0,.slice none 0 0,.slice none 0 0,.slice (some ⟨gv,0,none⟩) x.P.nv x.P.nv,va]:=rfl
  rw[e];refine List.Pairwise.cons (fun b _ k hk=>by cases hk) (List.Pairwise.cons (fun b _ k hk=>by cases hk) (List.Pairwise.cons (fun b _ k hk=>by cases hk) (List.Pairwise.cons (fun b hb k _=>?_) (List.Pairwise.cons (fun b hb=>by cases hb) List.Pairwise.nil))))
  rw[List.mem_singleton.1 hb,hva];simp
 ·obtain ⟨j1,j2,j3,j4⟩:=h.jn k hk;rw[hJ];refine ⟨j1,j2,by omega,fun r hr=>?_⟩
  have hr':r=.slice none 0 0∨r=.slice (some ⟨gv,0,none⟩) x.P.nv x.P.nv∨r=va:=by
   simp only[rows,List.mem_cons,List.not_mem_nil,or_false] at hr;rcases hr with rfl | rfl | rfl | rfl | rfl
   ·exact Or.inl rfl
   ·exact Or.inl rfl
   ·exact Or.inl rfl
   ·exact Or.inr (Or.inl rfl)
   ·exact Or.inr (Or.inr rfl)
  rcases hr' with rfl | rfl | rfl
  ·intro e;cases e
  ·intro e;cases e;exact j3 rfl
  ·intro e;rw[hva] at e;cases e
open Go.RowKit
theorem PM.mk' {x:Cx} {m:Px.Ms} {w:World} {f:Nat→Value} {va:Value} {w1:World} {f1:Nat→Value} {va1:Value} (h:MK x m w1 f1 va1) (k:Fr x w f va w1 f1 va1):PM x m w f va w1:=⟨_,_,h,k⟩
theorem PM.place {x:Cx} (hj:JOK x) {m:Px.Ms} {w w1:World} {f:Nat→Value} {va:Value} (h:PM x m w f va w1) (p:Nat):PM x { m with place:=p } w f va (w1.setCell ⟨x.g,86,none⟩ (.int .i64 (p:Int))):=by
 obtain ⟨f1,va1,k1,k2⟩:=h;obtain ⟨j1,j2⟩:=k1.qsy hj p;exact ⟨_,_,j1,k2.trans j2⟩
theorem PM.fin {x:Cx} (hj:JOK x) {m:Px.Ms} {w w1:World} {f:Nat→Value} {va:Value} (h:PM x m w f va w1) (p:Nat):PM x { m with fin:=p } w f va (w1.setCell ⟨x.g,89,none⟩ (.int .i64 (p:Int))):=by
 obtain ⟨f1,va1,k1,k2⟩:=h;obtain ⟨j1,j2⟩:=k1.zf1 hj p;exact ⟨_,_,j1,k2.trans j2⟩
def qqw (P:Px.Pg) (i b:Nat) (m:Px.Ms):Nat×Px.Ms :=
 match Px.askM P i (m.st.headD 0) b false m with
 | (0,v,m')=>(0,{ m' with st:=v::m'.st.tail })
 | (e,_,m')=>(e,m')
theorem qt8 {x:Cx} (hj:JOK x) (hask:qnr x) (m:Px.Ms) (w:World) (f:Nat→Value) (va:Value) (h:MK x m w f va) (i b:Nat) (v:Int) (r:List Int) (hst:m.st=v::r) (hl:r.length≤10000000) (hi:i < x.P.words.length) (hr:Px.R64 v) (hrl:∀ v∈m.left,Px.R64 v) (ht:m.tried < 65536) (hm:b≤65536) (ha:m.asks.length≤10000000) (hww:x.P.words.length≤10000000) :
  Calls Tryz.prog 117 #[.pointer (some ⟨x.g,0,none⟩),.int .i64 (i:Int),.int .i64 (b:Int)] w fun e w'=>e=.returned (errV x (qqw x.P i b m).1)∧PM x (qqw x.P i b m).2 w f va w':=by
 have HH:Hid (MK x m w f va):=h;have HA:Hid (∀ w1,MK x m w1 f va→Calls Tryz.prog 145 #[.pointer (some ⟨x.g,0,none⟩),.int .i64 (i:Int),.int .i64 v,.int .i64 (b:Int),.bool false] w1 (qed x m i v b false w1 f va)):=fun w1 h1=>hask m w1 f va h1 i v b false hi hr hrl ht hm ha hww
 have hhd:m.st.headD 0=v:=by rw[hst];rfl
 clear h hask hi hr hrl ht hm ha hww;cases hq:Px.askM x.P i v b false m with
 | mk ea q =>
  obtain ⟨va',ma⟩:=q;have hma:ma.st=v::r:=by obtain ⟨_,_,_,rfl,_⟩:=Px.qhg hq;exact hst
  have HC:Hid (qqw x.P i b m=if ea=0 then (0,{ ma with st:=va'::r }) else (ea,ma)):=by
   unfold Hid qqw;rw[hhd,hq];cases ea with
   | zero=>rw[if_pos rfl];simp only[hma];rfl
   | succ n=>rw[if_neg (by omega)];rfl
  by_cases hz:ea=0
  ·subst hz;rw[HC.out,if_pos rfl];go_enter Tryz.func117,Tryz.ntmps117
   go_wp2_with fail;refine (qoz hj m w f va HH.out v r hst hl).mono ?_;rintro e w1 ⟨rfl,hT⟩;have H1:Hid (MK x m w1 f va∧Fr x w f va w1 f va):=HH.out.same hj hT;clear hT;go_wp2_with fail;refine Calls.mono (HA.out w1 H1.out.1) ?_;rintro e w2 ⟨rfl,f2,va2,k1,k2⟩;rw[hq] at k1 ⊢;have H2:Hid (MK x ma w2 f2 va2∧Fr x w f va w2 f2 va2):=⟨k1,H1.out.2.trans k2⟩;clear k1 k2 H1 HA;simp only[errV,if_true];go_wp2_with fail;refine (qcq hj ma w2 f2 va2 H2.out.1 v r hma hl).mono ?_;rintro e w3 ⟨rfl,v3,k1,k2⟩;have H3:Hid (MK x { ma with st:=r } w3 (upd f2 0 v3) va2∧Fr x w f va w3 (upd f2 0 v3) va2):=⟨k1,H2.out.2.trans k2⟩
   clear k1 k2 H2;go_wp2_with fail;refine (qem hj { ma with st:=r } w3 _ va2 H3.out.1 va' hl).mono ?_
   rintro e w4 ⟨rfl,v4,k1,k2⟩;have H4:Hid (PM x { ma with st:=va'::r } w f va w4):=PM.mk' k1 (H3.out.2.trans k2)
   clear k1 k2 H3;go_wp2_with fail;go_ret;exact ⟨rfl,H4.out⟩
  ·rw[HC.out,if_neg hz];go_enter Tryz.func117,Tryz.ntmps117
   go_wp2_with fail;refine (qoz hj m w f va HH.out v r hst hl).mono ?_;rintro e w1 ⟨rfl,hT⟩;have H1:Hid (MK x m w1 f va∧Fr x w f va w1 f va):=HH.out.same hj hT;clear hT;go_wp2_with fail;refine Calls.mono (HA.out w1 H1.out.1) ?_;rintro e w2 ⟨rfl,f2,va2,k1,k2⟩;rw[hq] at k1 ⊢;have H2:Hid (MK x ma w2 f2 va2∧Fr x w f va w2 f2 va2):=⟨k1,H1.out.2.trans k2⟩;clear k1 k2 H1 HA;simp only[errV,if_neg hz];go_wp2_with fail;go_ret;exact ⟨by simp only[errV,if_neg hz];rfl,PM.mk' H2.out.1 H2.out.2⟩
theorem zbw {x:Cx} (hj:JOK x) (m:Px.Ms) (w:World) (f:Nat→Value) (va:Value) (h:MK x m w f va) (p:Nat) (v:Int) (r:List Int) (hst:m.st=v::r) (hl:r.length≤10000000) :
  Calls Tryz.prog 107 #[.pointer (some ⟨x.g,0,none⟩),.int .i64 (p:Int)] w fun e w'=>e=.returned (.tuple #[])∧PM x { m with st:=r,place:=if v=0 then p else m.place } w f va w':=by
 have HH:Hid (MK x m w f va):=h;clear h;by_cases hv:v=0
 ·rw[if_pos hv];have hb:(v == 0)=true:=by rw[hv];rfl
  go_enter Tryz.func107,Tryz.ntmps107
  go_wp2_with fail;refine (qcq hj m w f va HH.out v r hst hl).mono ?_;rintro e w1 ⟨rfl,v1,k1,k2⟩;have H1:Hid (MK x { m with st:=r } w1 (upd f 0 v1) va∧Fr x w f va w1 (upd f 0 v1) va):=⟨k1,k2⟩
  have c86:=k1.a.blk.cell 86 (by decide)
  have cf:=k1.a.blk.fr 86;clear k1 k2 HH;go_wp2_with fail;go_end0
  exact ⟨rfl,PM.place hj (PM.mk' H1.out.1 H1.out.2) p⟩
 ·rw[if_neg hv];go_enter Tryz.func107,Tryz.ntmps107
  go_wp2_with fail;refine (qcq hj m w f va HH.out v r hst hl).mono ?_;rintro e w1 ⟨rfl,v1,k1,k2⟩;have H1:Hid (MK x { m with st:=r } w1 (upd f 0 v1) va∧Fr x w f va w1 (upd f 0 v1) va):=⟨k1,k2⟩
  have c86:=k1.a.blk.cell 86 (by decide)
  have cf:=k1.a.blk.fr 86;clear k1 k2 HH;go_wp2_with fail;go_end0
  exact ⟨rfl,PM.mk' H1.out.1 H1.out.2⟩
theorem zj8 {x:Cx} (hj:JOK x) (m:Px.Ms) (w:World) (f:Nat→Value) (va:Value) (h:MK x m w f va) (p:Nat) (v:Int) (r:List Int) (hst:m.st=v::r) (hl:r.length≤10000000) (hv:Px.R64 v) :
  Calls Tryz.prog 109 #[.pointer (some ⟨x.g,0,none⟩),.int .i64 (p:Int)] w fun e w'=>e=.returned (.tuple #[])∧PM x (if 0 < v then { m with st:=wrap64 (v - 1)::r } else { m with st:=r,place:=p }) w f va w':=by
 have HH:Hid (MK x m w f va):=h;clear h;obtain ⟨hv1,hv2⟩:=hv;by_cases hp:0 < v
 ·have ew:wrap64 (v - 1)=v - 1:=by unfold wrap64;omega
  rw[if_pos hp,ew];go_enter Tryz.func109,Tryz.ntmps109
  go_wp2_with fail;refine (qcq hj m w f va HH.out v r hst hl).mono ?_;rintro e w1 ⟨rfl,v1,k1,k2⟩;have H1:Hid (MK x { m with st:=r } w1 (upd f 0 v1) va∧Fr x w f va w1 (upd f 0 v1) va):=⟨k1,k2⟩
  have c86:=k1.a.blk.cell 86 (by decide)
  have cf:=k1.a.blk.fr 86;clear k1 k2 HH;go_wp2_with fail;refine (qem hj { m with st:=r } w1 _ va H1.out.1 (v - 1) hl).mono ?_
  rintro e w2 ⟨rfl,v2,k1,k2⟩;have H2:Hid (PM x { m with st:=(v - 1)::r } w f va w2):=PM.mk' k1 (H1.out.2.trans k2)
  clear k1 k2 H1;go_wp2_with fail;go_end0
  exact ⟨rfl,H2.out⟩
 ·rw[if_neg hp];go_enter Tryz.func109,Tryz.ntmps109
  go_wp2_with fail;refine (qcq hj m w f va HH.out v r hst hl).mono ?_;rintro e w1 ⟨rfl,v1,k1,k2⟩;have H1:Hid (MK x { m with st:=r } w1 (upd f 0 v1) va∧Fr x w f va w1 (upd f 0 v1) va):=⟨k1,k2⟩
  have c86:=k1.a.blk.cell 86 (by decide)
  have cf:=k1.a.blk.fr 86;clear k1 k2 HH;go_wp2_with fail;go_end0
  exact ⟨rfl,PM.place hj (PM.mk' H1.out.1 H1.out.2) p⟩
end Rn
open Go.RowKit Go.Extern.Stop Go.Stop Go.Extern
namespace Lg
theorem zn1 (a b:Addr) (ca cb:Array Value) (ta tb:TypeId) (w:World) (hne:a≠b) (ha:w.heap[a.block]?=some (.cells ca ta (0,0))) (hb:w.heap[b.block]?=some (.cells cb tb (0,0))) :
  Calls Tryz.prog 40 #[.iface 359 (.pointer (some a)),.iface 359 (.pointer (some b))] w fun e w'=>e=.returned (.bool false)∧w'=w:=by
 obtain ⟨i,hi,hcmp⟩:=Option.map_eq_some_iff.1 zat;obtain ⟨j,hj,hjs⟩:=Option.map_eq_some_iff.1 zas;have h8:=@run_callFunc_extern Tryz.prog 83 _ Extern.ReflectliteType.typeOf Tryz.func83 (by kernel_rfl) (by kernel_rfl) (by kernel_rfl) (by kernel_rfl)
 have h32:=@run_callFunc_extern Tryz.prog 272 _ (Extern.ReflectliteType.method fun t=>do Extern.Rtype.noPackHeld "Comparable" t;pure (.bool (← typeInfo t).comparable)) Tryz.func272 (by kernel_rfl) (by kernel_rfl) (by kernel_rfl) (by kernel_rfl)
 have tT:=qlt;have cT:=qhc;have mR:=qdr;have nE:=zs3;have uE:=qli;have vE:=qj3;have heq:=run_eql_iface_ptr_other (P:=Tryz.prog) w Tryz.underlying55 Tryz.underlying359 hi hcmp hj (by rw[hjs];decide) hne ha hb
 go_enter Tryz.func40,Tryz.ntmps40
 go_wp2;refine wp_loop_rounds 1 ?_;rw[rounds_succ];go_wp2;go_ret;exact ⟨rfl,rfl⟩
end Lg
open Go.RowKit
namespace Rn
theorem MK.cutSt {x:Cx} (hj:JOK x) {m:Px.Ms} {w:World} {f:Nat→Value} {va:Value} (h:MK x m w f va) {k:Nat} (hk:k≤m.st.length) :
  ∃ a c,f 0=.slice a m.st.length c∧m.st.length≤c∧(a=none∨∃ q,a=some ⟨q,0,none⟩)∧(a=none→c=0∧m.st.length=0)∧Hid (PM x { m with st:=m.st.drop (m.st.length - k) } w f va (w.setCell ⟨x.g,0,none⟩ (.slice a k c))):=by
 have hs:=h.a.st;have key:∀ a c,f 0=.slice a m.st.length c→Hid (PM x { m with st:=m.st.drop (m.st.length - k) } w f va (w.setCell ⟨x.g,0,none⟩ (.slice a k c))):=by
  intro a c e;rw[e] at hs;have hcut:=qs4 hs hk;obtain ⟨k1,k2⟩:=h.zeo (v':=.slice a k c) hj (m.st.drop (m.st.length - k)) (Tch.refl _ _) (Or.inl (by rw[e];cases a<;>rfl)) (by
   have hl:(m.st.drop (m.st.length - k)).length=k:=by rw[List.length_drop];omega
   rw[hl]
   have:i64C (m.st.drop (m.st.length - k)).reverse=(i64C m.st.reverse).take (k * 1):=by
    unfold i64C;rw[← List.map_take,Nat.mul_one,List.reverse_drop];congr 2;omega
   rw[this];exact hcut)
  exact ⟨_,_,k1,k2⟩
 rcases hs.2 with ⟨e,h0⟩ | ⟨q,cap,cur,e,_,_,h2,_⟩
 ·exact ⟨none,0,by rw[e,h0],by omega,Or.inl rfl,fun _=>⟨rfl,h0⟩,key none 0 (by rw[e,h0])⟩
 ·exact ⟨some ⟨q,0,none⟩,cap,e,h2,Or.inr ⟨q,rfl⟩,(fun h=>by cases h),key _ _ e⟩
theorem zuu {x:Cx} (hj:JOK x) (m:Px.Ms) (w:World) (f:Nat→Value) (va:Value) (h:MK x m w f va) (k:Nat) (hk:k≤m.st.length) (hl:m.st.length≤10000000) :
  Calls Tryz.prog 143 #[.pointer (some ⟨x.g,0,none⟩),.int .i64 (k:Int)] w fun e w'=>e=.returned (.tuple #[])∧PM x { m with st:=m.st.drop (m.st.length - k) } w f va w':=by
 obtain ⟨a,c,e0,hc,ha,hn,HP⟩:=h.cutSt hj hk;have c0:=h.a.blk.cell 0 (by decide)
 have cf:=h.a.blk.fr 0;rw[e0] at c0;clear h hj e0;generalize m.st.drop (m.st.length - k)=D at *;rcases ha with rfl | ⟨q,rfl⟩
 ·obtain ⟨rfl,h0⟩:=hn rfl;obtain rfl:k=0:=by omega
  rw[h0] at c0;go_enter Tryz.func143,Tryz.ntmps143
  go_wp2_with fail;go_end0
  exact ⟨rfl,HP.out⟩
 ·generalize m.st.length=L at *;by_cases hz:c=0
  ·subst hz;obtain rfl:L=0:=by omega
   obtain rfl:k=0:=by omega
   go_enter Tryz.func143,Tryz.ntmps143
   go_wp2_with fail;go_end0
   exact ⟨rfl,HP.out⟩
  ·have hkc:(k:Int)≤(c:Int):=by omega
   go_enter Tryz.func143,Tryz.ntmps143
   go_wp2_with fail;go_end0
   exact ⟨rfl,HP.out⟩
theorem Fr.loc {x:Cx} {m:Px.Ms} {w0 W w2:World} {f f2:Nat→Value} {va va2:Value} {n o:Nat} {v:Value} (h0:MAt x m w0 f va) (hn:w0.heap.size≤n) (hF:Fr x W f va w2 f2 va2) (hv:W.cell? ⟨n,o,none⟩=some v):w2.cell? ⟨n,o,none⟩=some v :=
 (World.cell?_of_block (w:=W) (a:=⟨n,o,none⟩) (hF.t.block n (lt_of_cell hv) (fun hk=>by have:=Own.lt h0 hk;omega))).trans hv
theorem qct (w:World) (cs:Array Value) (t:TypeId) (o:Nat) (v:Value) (h:cs[o]?=some v):(w.alloc (.cells cs t)).cell? ⟨w.heap.size,o,none⟩=some v:=by
 have:(w.alloc (.cells cs t)).heap[w.heap.size]?=some (.cells cs t):=by
  show (w.heap.push _)[w.heap.size]?=_
  rw[Array.getElem?_push,if_pos rfl]
 unfold World.cell?;simp only[this];exact h
theorem zd4 {m:Px.Ms} (h:m.begun=[]):(Px.qa2.behind m).2={ m with qak:=false,begun:=[],fin:=2 }:=by
 unfold Px.qa2.behind;rw[h]
theorem qyr {m:Px.Ms} {b:Nat×Nat×Nat} {r:List (Nat×Nat×Nat)} (h:m.begun=b::r):(Px.qa2.behind m).2={ m with qak:=false,begun:=r,st:=m.st.drop (m.st.length - b.2.1),place:=b.2.2 }:=by
 unfold Px.qa2.behind;rw[h]
theorem qwc {x:Cx} (hj:JOK x) (m:Px.Ms) (w:World) (f:Nat→Value) (va:Value) (h:MK x m w f va) (hl:m.st.length≤10000000) (hb:m.begun.length≤10000000) (hh:∀ b r,m.begun=b::r→b.2.1≤m.st.length) :
  Calls Tryz.prog 196 #[.pointer (some ⟨x.g,0,none⟩)] w fun e w'=>e=.returned (.tuple #[])∧PM x (Px.qa2.behind m).2 w f va w':=by
 have c88:=h.a.blk.cell 88 (by decide)
 have cf:=h.a.blk.fr 88;have H1:Hid (MK x { m with qak:=false } (w.setCell ⟨x.g,88,none⟩ (.bool false)) (upd f 88 (.bool false)) va∧Fr x w f va (w.setCell ⟨x.g,88,none⟩ (.bool false)) (upd f 88 (.bool false)) va):=h.qml hj false
 rw[h.a.f88] at c88;clear h;have hbe:m.begun=[]∨∃ b r,m.begun=b::r:=by
  cases m.begun with
  | nil=>exact Or.inl rfl
  | cons b r=>exact Or.inr ⟨b,r,rfl⟩
 rcases hbe with hbe | ⟨b,r,hbe⟩
 ·rw[zd4 hbe];have ev:qis { m with qak:=false }=(.agg #[.int .i64 0,.int .i64 0,.int .i64 0],false):=by unfold qis;simp only[hbe]
  have et:m.begun.tail=[]:=by rw[hbe];rfl
  go_enter Tryz.func196,Tryz.ntmps196
  go_wp2_with fail;refine (qpo hj { m with qak:=false } _ _ va H1.out.1 hb).mono ?_
  rintro e w1 ⟨rfl,f1,va1,k1,k2⟩;rw[ev];have H2:Hid (MK x { m with qak:=false,begun:=m.begun.tail } w1 f1 va1∧Fr x w f va w1 f1 va1):=⟨k1,H1.out.2.trans k2⟩
  clear k1 k2 H1 c88 cf;have HT:Hid (∀ A:Obj,MK x { m with qak:=false,begun:=m.begun.tail } (w1.alloc A) f1 va1∧Fr x w f va (w1.alloc A) f1 va1):=fun A=>by
   obtain ⟨j1,j2⟩:=H2.out.1.same hj ((Tch.refl _ _).alloc A);exact ⟨j1,H2.out.2.trans j2⟩
  have hgz:=H2.out.1.a.lt;have c89:=H2.out.1.a.blk.cell 89 (by decide)
  have cf:=H2.out.1.a.blk.fr 89;have HF:Hid (∀ A:Obj,PM x { m with qak:=false,begun:=[],fin:=2 } w f va ((w1.setCell ⟨x.g,89,none⟩ (.int .i64 2)).alloc A)):=fun A=>by
   have:=PM.same hj (PM.fin hj (PM.mk' H2.out.1 H2.out.2) 2) ((Tch.refl _ _).alloc A)
   rw[et] at this;exact this
  have HF2:Hid (∀ A:Obj,PM x { m with qak:=false,begun:=[],fin:=2 } w f va ((w1.alloc A).setCell ⟨x.g,89,none⟩ (.int .i64 2))):=fun A=>by
   have:=PM.fin hj (PM.mk' (HT.out A).1 (HT.out A).2) 2
   rw[et] at this;exact this
  clear H2 HT;go_wp2_with fail
  first
   | refine bodyPost_ret (results_none rfl _ _ _) rfl ?_
   | go_end0
  exact ⟨rfl,by first | exact HF.out _ | exact HF2.out _⟩
 ·rw[qyr hbe];have ev:qis { m with qak:=false }=(.agg #[.int .i64 (b.1:Int),.int .i64 (b.2.1:Int),.int .i64 (b.2.2:Int)],true):=by unfold qis;simp only[hbe]
  have et:m.begun.tail=r:=by rw[hbe];rfl
  have hbl:=hh b r hbe;go_enter Tryz.func196,Tryz.ntmps196
  go_wp2_with fail;refine (qpo hj { m with qak:=false } _ _ va H1.out.1 hb).mono ?_
  rintro e w1 ⟨rfl,f1,va1,k1,k2⟩;rw[ev];have H2:Hid (MK x { m with qak:=false,begun:=m.begun.tail } w1 f1 va1∧Fr x w f va w1 f1 va1):=⟨k1,H1.out.2.trans k2⟩
  clear k1 k2 H1 c88 cf;have HT:Hid (∀ A:Obj,MK x { m with qak:=false,begun:=m.begun.tail } (w1.alloc A) f1 va1∧Fr x w f va (w1.alloc A) f1 va1):=fun A=>by
   obtain ⟨j1,j2⟩:=H2.out.1.same hj ((Tch.refl _ _).alloc A);exact ⟨j1,H2.out.2.trans j2⟩
  have hgz:=H2.out.1.a.lt;rw[et] at HT H2;obtain ⟨A,hA⟩:∃ A,A=Obj.cells #[.int .i64 (b.1:Int),.int .i64 (b.2.1:Int),.int .i64 (b.2.2:Int)] 198:=⟨_,rfl⟩;have HC:Hid (Calls Tryz.prog 143 #[.pointer (some ⟨x.g,0,none⟩),.int .i64 (b.2.1:Int)] (w1.alloc A).drew fun e w2=>e=.returned (.tuple #[])∧w2.cell? ⟨w1.heap.size,2,none⟩=some (.int .i64 (b.2.2:Int))∧(∃ u,w2.cell? ⟨x.g,86,none⟩=some u)∧w2.frozen? ⟨x.g,86,none⟩=false∧Hid (PM x { m with qak:=false,begun:=r,st:=m.st.drop (m.st.length - b.2.1) } w f va w2)):=by
   have hT:Tch (fun _=>False) (w1.alloc A) (w1.alloc A).drew:=(Tch.refl _ _).drew
   obtain ⟨j1,j2⟩:=(HT.out A).1.same hj hT;refine (zuu hj { m with qak:=false,begun:=r } _ f1 va1 j1 b.2.1 hbl hl).mono ?_
   rintro e w2 ⟨rfl,f2,va2,k1,k2⟩;refine ⟨rfl,Fr.loc H2.out.1.a (Nat.le_refl _) k2 ?_,⟨_,k1.a.blk.cell 86 (by decide)⟩,k1.a.blk.fr 86,PM.mk' k1 ((HT.out A).2.trans (j2.trans k2))⟩
   subst hA;exact qct w1 _ _ 2 _ rfl
  subst hA;clear hbe hb ev hh et HT H2;go_wp2_with fail;go_region_with (first | (go_at_call 143;refine Calls.mono HC.out ?_;rintro e w2 ⟨rfl,d2,⟨u86,d86⟩,df,H3⟩))
  all_goals
   go_wp2_with fail;go_end0
   exact ⟨rfl,PM.place hj H3.out b.2.2⟩
open Go.RowKit
structure Bd (P:Px.Pg) (m:Px.Ms):Prop where
 s:m.st.length≤9000000
 u:m.undos.length≤9000000
 b:m.begun.length≤9000000
 a:m.asks.length≤9000000
 t:m.tried < 65536
 rst:∀ v∈m.st,Px.R64 v
 rleft:∀ v∈m.left,Px.R64 v
 vars:m.vars.length=P.nv
 w:P.words.length≤10000000
def insV (i:Px.Ins):Value:=.agg #[.int .i64 (i.k:Int),.int .i64 (i.a:Int),.int .i64 (i.b:Int)]
def insO (i:Px.Ins):Obj:=.cells #[.int .i64 (i.k:Int),.int .i64 (i.a:Int),.int .i64 (i.b:Int)] 190
def DoPost (x:Cx) (i:Px.Ins) (m:Px.Ms) (w:World) (f:Nat→Value) (va:Value) (e:Ending) (w':World):Prop :=
 e=.returned (errV x (Px.doM x.P i m).1)∧PM x (Px.doM x.P i m).2 w f va w'
theorem DoPost.ok {x:Cx} {i:Px.Ins} {m m':Px.Ms} {w:World} {f:Nat→Value} {va:Value} {w':World} (h:Px.doM x.P i m=(0,m')) (hp:PM x m' w f va w'):DoPost x i m w f va (.returned .nilIface) w':=by
 unfold DoPost;rw[h];exact ⟨rfl,hp⟩
theorem MK.boxed {x:Cx} (hj:JOK x) {m:Px.Ms} {w:World} {f:Nat→Value} {va:Value} (h:MK x m w f va) (A:Obj):Hid (∀ W,(W=w.alloc A∨W=(w.alloc A).drew)→MK x m W f va∧Fr x w f va W f va):=by
 rintro W (rfl | rfl)
 ·exact h.same hj ((Tch.refl _ _).alloc _)
 ·exact h.same hj ((Tch.refl _ _).alloc _).drew
theorem qko {m:Px.Ms} (h:1≤m.st.length):∃ v r,m.st=v::r:=by
 cases hs:m.st with
 | nil=>rw[hs] at h;simp at h
 | cons v r=>exact ⟨v,r,rfl⟩
theorem qh1 {m:Px.Ms} (h:2≤m.st.length):∃ b a r,m.st=b::a::r:=by
 match hs:m.st,h with
 | [],h=>simp at h
 | [_],h=>simp at h
 | b::a::r,_=>exact ⟨b,a,r,rfl⟩
theorem do0 {x:Cx} (hj:JOK x) (m:Px.Ms) (w:World) (f:Nat→Value) (va:Value) (h:MK x m w f va) (i:Px.Ins) (hb:Bd x.P m) (hk:i.k=0) :
  Calls Tryz.prog 88 #[.pointer (some ⟨x.g,0,none⟩),insV i] w (DoPost x i m w f va):=by
 have HB:=h.boxed hj (insO i);have HD:Hid (Px.doM x.P i m=(0,{ m with st:=(i.a:Int)::m.st })):=by unfold Hid Px.doM;rw[if_pos hk]
 have hs:=hb.s;have hgz:=h.a.lt;unfold insV;unfold insO at HB;clear h hb hk;go_enter Tryz.func88,Tryz.ntmps88
 go_wp2_with fail;go_region_with (first | (go_at_call 89;refine (qem hj m _ f va (HB.out _ (by first | exact Or.inl rfl | exact Or.inr rfl)).1 (i.a:Int) (by omega)).mono ?_;rintro e w1 ⟨rfl,v1,k1,k2⟩;have H1:Hid (PM x { m with st:=(i.a:Int)::m.st } w f va w1):=PM.mk' k1 ((HB.out _ (by first | exact Or.inl rfl | exact Or.inr rfl)).2.trans k2);clear k1 k2))
 all_goals
  go_wp2_with fail;go_ret;exact DoPost.ok HD.out H1.out
theorem MK.qzr {x:Cx} (hj:JOK x) {m:Px.Ms} {w:World} {f:Nat→Value} {va:Value} (h:MK x m w f va) {i:Nat} (hi:i < m.vars.length) :
  ∃ q c,f 85=.slice (some ⟨q,0,none⟩) m.vars.length c∧w.cell? ⟨q,i,none⟩=some (.int .i64 (m.vars.getD i 0))∧w.frozen? ⟨q,i,none⟩=false∧q≠x.g ∧
   ∀ v:Int,MK x { m with vars:=m.vars.set i v } (w.setCell ⟨q,i,none⟩ (.int .i64 v)) f va∧Fr x w f va (w.setCell ⟨q,i,none⟩ (.int .i64 v)) f va:=by
 have hs:=h.a.va_;obtain ⟨q,c,e⟩:=qlf hs (by omega)
 rw[e] at hs;have hmem:f 85∈rows f va:=by simp[rows]
 have hob:(f 85).ownBlock=some q:=by rw[e];rfl
 have hq:=h.a.sep.own _ hmem q hob;have hlt:=h.a.lt;refine ⟨q,c,e,?_,hs.frozenAt i,hq.2.1,fun v=>?_⟩
 ·rw[hs.cellAt i (by omega)]
  simp[i64C,List.getD_eq_getElem?_getD,List.getElem?_eq_getElem hi]
 ·have hT:Tch (fun k=>k=q) w (w.setCell ⟨q,i,none⟩ (.int .i64 v)):=Tch.setCell (T:=fun k=>k=q) (Tch.refl _ _) (p:=⟨q,i,none⟩) (Or.inl rfl) _
  have hTB:∀ k,k=q→x.B≤k:=fun k hk=>by rw[hk];exact hq.1
  have oth:∀ j u,(rows f va)[j]?=some u→j≠3→∀ k,u.ownBlock=some k→¬ k=q:=fun j u hju hj3 k hk hh=>by
   subst hh;exact h.a.sep.mem (i:=j) (j:=3) hju rfl hj3 k hk hob
  refine ⟨⟨⟨h.a.hB,h.a.hj,h.a.blk.tch (by decide) hT (fun hh=>hq.2.1 hh.symm),h.a.f3,h.a.f4,h.a.tab,h.a.f86,h.a.f87,h.a.f88,h.a.f89,qah h.a.st hT (oth 0 _ rfl (by decide)),qah h.a.un hT (oth 1 _ rfl (by decide)),qah h.a.be hT (oth 2 _ rfl (by decide)),?_,h.a.sep.world hT.size,fun k hk=>?_⟩,hj.keep _ _ _ _ _ _ h.k hT hTB (oth 4 _ rfl (by decide)),h.p.tch hT fun k hk=>Or.inl (hTB k hk),h.e.tch hT fun k hk=>Or.inl (hTB k hk)⟩,hT.mono fun k _ hk=>?_,fun k _ hk=>hk⟩
  ·have:=(hs.stored i (.int .i64 v)).1
   rw[e];simp only[List.length_set];have e2:i64C (m.vars.set i v)=(i64C m.vars).set i (.int .i64 v):=by unfold i64C;rw[List.map_set]
   rw[e2];exact this
  ·obtain ⟨a,b,c,d⟩:=h.a.jn k hk;exact ⟨(World.cell?_of_block (w:=w) (a:=⟨x.J k,0,none⟩) (hT.block _ (lt_of_cell a) (fun hh=>d _ hmem (hob.trans (congrArg some (show q=x.J k from hh.symm)))))).trans a,b,c,d⟩
  ·exact Or.inr (Or.inr ⟨f 85,hmem,by rw[hob,hk]⟩)
theorem do1 {x:Cx} (hj:JOK x) (m:Px.Ms) (w:World) (f:Nat→Value) (va:Value) (h:MK x m w f va) (i:Px.Ins) (hb:Bd x.P m) (hc:Px.CanM x.P i m) (hk:i.k=1) :
  Calls Tryz.prog 90 #[.pointer (some ⟨x.g,0,none⟩),insV i] w (DoPost x i m w f va):=by
 have HB:=h.boxed hj (insO i);have hv:i.a < m.vars.length:=by rw[hb.vars];exact Px.qye hc.fit (Or.inl hk)
 have HD:Hid (Px.doM x.P i m=(0,{ m with st:=m.vars.getD i.a 0::m.st })):=by unfold Hid Px.doM;rw[if_neg (by omega),if_pos hk]
 obtain ⟨q,c,e85,cv,_,_,_⟩:=h.qzr hj hv;have c85:=h.a.blk.cell 85 (by decide)
 rw[e85] at c85;have hs:=hb.s;have hgz:=h.a.lt;have hqz:=lt_of_cell cv;have hvi:(i.a:Int) < (m.vars.length:Int):=by omega
 have HP:Hid (∀ W,(W=w.alloc (insO i)∨W=(w.alloc (insO i)).drew)→Calls Tryz.prog 89 #[.pointer (some ⟨x.g,0,none⟩),.int .i64 (m.vars.getD i.a 0)] W fun e w1=>e=.returned (.tuple #[])∧w1.cell? ⟨x.g,85,none⟩=some (.slice (some ⟨q,0,none⟩) m.vars.length c)∧w1.cell? ⟨q,i.a,none⟩=some (.int .i64 (m.vars.getD i.a 0))∧w1.cell? ⟨w.heap.size,1,none⟩=some (.int .i64 (i.a:Int))∧Hid (PM x { m with st:=m.vars.getD i.a 0::m.st } w f va w1)):=fun W hW=>by
  obtain ⟨j1,j2⟩:=HB.out W hW;refine (qem hj m W f va j1 (m.vars.getD i.a 0) (by omega)).mono ?_
  rintro e w1 ⟨rfl,v1,k1,k2⟩;obtain ⟨q',c',e1,e2,_⟩:=k1.qzr hj hv;have e1':f 85=.slice (some ⟨q',0,none⟩) m.vars.length c':=e1;rw[e85] at e1';cases e1';have c1:=k1.a.blk.cell 85 (by decide)
  rw[e1] at c1;refine ⟨rfl,c1,e2,Fr.loc h.a (Nat.le_refl _) k2 ?_,PM.mk' k1 (j2.trans k2)⟩;rcases hW with rfl | rfl
  ·exact qct w _ _ 1 _ rfl
  ·exact qct w _ _ 1 _ rfl
 unfold insV;unfold insO at HB HP;clear h hb hc hk;generalize m.vars.getD i.a 0=V at *;generalize m.vars.length=L at *;go_enter Tryz.func90,Tryz.ntmps90
 go_wp2_with fail;go_region_held (fun w'=>w'.cell? ⟨x.g,85,none⟩=some (.slice (some ⟨q,0,none⟩) L c)∧w'.cell? ⟨q,i.a,none⟩=some (.int .i64 V)∧w'.cell? ⟨w.heap.size,1,none⟩=some (.int .i64 (i.a:Int))) (go_keep)
  (first | (go_at_call 89;refine Calls.mono (HP.out _ (by first | exact Or.inl rfl | exact Or.inr rfl)) ?_;rintro e w1 ⟨rfl,d1,d2,d3,H1⟩))
 all_goals
  go_wp2_with fail;go_ret;exact DoPost.ok HD.out H1.out
theorem do3 {x:Cx} (hj:JOK x) (m:Px.Ms) (w:World) (f:Nat→Value) (va:Value) (h:MK x m w f va) (i:Px.Ins) (hb:Bd x.P m) (hc:Px.CanM x.P i m) (hk:i.k=3) :
  Calls Tryz.prog 93 #[.pointer (some ⟨x.g,0,none⟩),insV i] w (DoPost x i m w f va):=by
 have HB:=h.boxed hj (insO i);have hst:=hc.st;rw[show Px.qbf i.k=1 by rw[hk];rfl] at hst
 obtain ⟨v,r,hst⟩:=qko hst;have HD:Hid (Px.doM x.P i m=(0,{ m with st:=r })):=by unfold Hid Px.doM;rw[if_neg (by omega),if_neg (by omega),if_neg (by omega),if_pos hk];simp only[hst];rfl
 have hs:=hb.s;rw[hst,List.length_cons] at hs;unfold insV;unfold insO at HB;clear h hb hc hk;go_enter Tryz.func93,Tryz.ntmps93
 go_wp2_with fail;refine (qcq hj m _ f va (HB.out _ (by first | exact Or.inl rfl | exact Or.inr rfl)).1 v r hst (by omega)).mono ?_
 rintro e w1 ⟨rfl,v1,k1,k2⟩;have H1:Hid (PM x { m with st:=r } w f va w1):=PM.mk' k1 ((HB.out _ (by first | exact Or.inl rfl | exact Or.inr rfl)).2.trans k2)
 clear k1 k2;go_wp2_with fail;go_ret;exact DoPost.ok HD.out H1.out
theorem do12 {x:Cx} (hj:JOK x) (m:Px.Ms) (w:World) (f:Nat→Value) (va:Value) (h:MK x m w f va) (i:Px.Ins) (_hb:Bd x.P m) (_hc:Px.CanM x.P i m) (hk:i.k=12) :
  Calls Tryz.prog 105 #[.pointer (some ⟨x.g,0,none⟩),insV i] w (DoPost x i m w f va):=by
 have HB:=h.boxed hj (insO i);have HD:Hid (Px.doM x.P i m=(0,{ m with place:=i.a })):=by unfold Hid Px.doM;rw[if_neg (by omega),if_neg (by omega),if_neg (by omega),if_neg (by omega),if_neg (by omega),if_neg (by omega),if_neg (by omega),if_pos hk]
 have HQ:Hid (∀ W,(W=w.alloc (insO i)∨W=(w.alloc (insO i)).drew)→PM x { m with place:=i.a } w f va (W.setCell ⟨x.g,86,none⟩ (.int .i64 (i.a:Int)))):=fun W hW=>PM.place hj (PM.mk' (HB.out W hW).1 (HB.out W hW).2) i.a
 have HQ2:Hid (∀ A,PM x { m with place:=i.a } w f va ((w.setCell ⟨x.g,86,none⟩ (.int .i64 (i.a:Int))).alloc A)):=fun A=>PM.same hj (PM.place hj (PM.mk' h (Fr.refl _ _ _ _)) i.a) ((Tch.refl _ _).alloc A)
 have c86:=h.a.blk.cell 86 (by decide)
 have cf:=h.a.blk.fr 86;have hgz:=h.a.lt;unfold insV;unfold insO at HB HQ;clear h _hb _hc hk;go_enter Tryz.func105,Tryz.ntmps105
 go_wp2_with fail;go_ret;exact DoPost.ok HD.out (by first | exact HQ2.out _ | exact HQ.out _ (Or.inl rfl) | exact HQ.out _ (Or.inr rfl))
theorem do13 {x:Cx} (hj:JOK x) (m:Px.Ms) (w:World) (f:Nat→Value) (va:Value) (h:MK x m w f va) (i:Px.Ins) (hb:Bd x.P m) (hc:Px.CanM x.P i m) (hk:i.k=13) :
  Calls Tryz.prog 106 #[.pointer (some ⟨x.g,0,none⟩),insV i] w (DoPost x i m w f va):=by
 have HB:=h.boxed hj (insO i);have hst:=hc.st;rw[show Px.qbf i.k=1 by rw[hk];rfl] at hst
 obtain ⟨v,r,hst⟩:=qko hst;have HD:Hid (Px.doM x.P i m=(0,{ m with st:=r,place:=if v=0 then i.a else m.place })):=by unfold Hid Px.doM;rw[if_neg (by omega),if_neg (by omega),if_neg (by omega),if_neg (by omega),if_neg (by omega),if_neg (by omega),if_neg (by omega),if_neg (by omega),if_pos hk];simp only[hst];rfl
 have hs:=hb.s;rw[hst,List.length_cons] at hs;have HU:Hid (∀ W,(W=w.alloc (insO i)∨W=(w.alloc (insO i)).drew)→Calls Tryz.prog 107 #[.pointer (some ⟨x.g,0,none⟩),.int .i64 (i.a:Int)] W fun e w'=>e=.returned (.tuple #[])∧PM x { m with st:=r,place:=if v=0 then i.a else m.place } w f va w'):=fun W hW=>(zbw hj m W f va (HB.out W hW).1 i.a v r hst (by omega)).mono (by rintro e w1 ⟨rfl,f1,va1,k1,k2⟩;exact ⟨rfl,PM.mk' k1 ((HB.out W hW).2.trans k2)⟩)
 unfold insV;unfold insO at HB HU;clear h hb hc hk;go_enter Tryz.func106,Tryz.ntmps106
 go_wp2_with fail;refine Calls.mono (HU.out _ (by first | exact Or.inl rfl | exact Or.inr rfl)) ?_
 rintro e w1 ⟨rfl,h1⟩;have H1:Hid (PM x { m with st:=r,place:=if v=0 then i.a else m.place } w f va w1):=h1
 clear h1;go_wp2_with fail;go_ret;exact DoPost.ok HD.out H1.out
theorem do14 {x:Cx} (hj:JOK x) (m:Px.Ms) (w:World) (f:Nat→Value) (va:Value) (h:MK x m w f va) (i:Px.Ins) (hb:Bd x.P m) (hc:Px.CanM x.P i m) (hk:i.k=14) :
  Calls Tryz.prog 108 #[.pointer (some ⟨x.g,0,none⟩),insV i] w (DoPost x i m w f va):=by
 have HB:=h.boxed hj (insO i);have hst:=hc.st;rw[show Px.qbf i.k=1 by rw[hk];rfl] at hst
 obtain ⟨v,r,hst⟩:=qko hst;have HD:Hid (Px.doM x.P i m=(0,(if 0 < v then { m with st:=wrap64 (v - 1)::r } else { m with st:=r,place:=i.a }))):=by unfold Hid Px.doM;rw[if_neg (by omega),if_neg (by omega),if_neg (by omega),if_neg (by omega),if_neg (by omega),if_neg (by omega),if_neg (by omega),if_neg (by omega),if_neg (by omega),if_pos hk];simp only[hst,List.headD_cons,List.tail_cons];split<;>rfl
 have hs:=hb.s;rw[hst,List.length_cons] at hs;have HU:Hid (∀ W,(W=w.alloc (insO i)∨W=(w.alloc (insO i)).drew)→Calls Tryz.prog 109 #[.pointer (some ⟨x.g,0,none⟩),.int .i64 (i.a:Int)] W fun e w'=>e=.returned (.tuple #[])∧PM x (if 0 < v then { m with st:=wrap64 (v - 1)::r } else { m with st:=r,place:=i.a }) w f va w'):=fun W hW=>(zj8 hj m W f va (HB.out W hW).1 i.a v r hst (by omega) (hb.rst v (by rw[hst];exact List.mem_cons_self))).mono (by rintro e w1 ⟨rfl,f1,va1,k1,k2⟩;exact ⟨rfl,PM.mk' k1 ((HB.out W hW).2.trans k2)⟩)
 unfold insV;unfold insO at HB HU;clear h hb hc hk;go_enter Tryz.func108,Tryz.ntmps108
 go_wp2_with fail;refine Calls.mono (HU.out _ (by first | exact Or.inl rfl | exact Or.inr rfl)) ?_
 rintro e w1 ⟨rfl,h1⟩;have H1:Hid (PM x (if 0 < v then { m with st:=wrap64 (v - 1)::r } else { m with st:=r,place:=i.a }) w f va w1):=h1
 clear h1;go_wp2_with fail;go_ret;exact DoPost.ok HD.out H1.out
open Go.RowKit
theorem zc9 {x:Cx} (m:Px.Ms) (w:World) (f:Nat→Value) (va:Value) (h:MK x m w f va) (_hl:m.st.length≤10000000) :
  Calls Tryz.prog 112 #[.pointer (some ⟨x.g,0,none⟩)] w fun e w'=>e=.returned (.int .i64 (m.st.length:Int))∧w'=w:=by
 have c0:=h.a.blk.cell 0 (by decide)
 obtain ⟨a,n,cp,e0⟩:=Ref.qad h.a.st;obtain rfl:n=m.st.length:=by have:=h.a.st;rw[e0] at this;exact qi4 this
 rw[e0] at c0;clear h;generalize m.st.length=L at *;go_enter Tryz.func112,Tryz.ntmps112
 go_wp2_with fail;go_ret;exact ⟨rfl,rfl⟩
theorem do15 {x:Cx} (hj:JOK x) (m:Px.Ms) (w:World) (f:Nat→Value) (va:Value) (h:MK x m w f va) (i:Px.Ins) (hb:Bd x.P m) (_hc:Px.CanM x.P i m) (hk:i.k=15) :
  Calls Tryz.prog 110 #[.pointer (some ⟨x.g,0,none⟩),insV i] w (DoPost x i m w f va):=by
 have HB:=h.boxed hj (insO i);have HD:Hid (Px.doM x.P i m=(0,{ m with begun:=(m.undos.length,m.st.length,i.a)::m.begun })):=by unfold Hid Px.doM;rw[if_neg (by omega),if_neg (by omega),if_neg (by omega),if_neg (by omega),if_neg (by omega),if_neg (by omega),if_neg (by omega),if_neg (by omega),if_neg (by omega),if_neg (by omega),if_pos hk]
 have hs:=hb.s;have hu:=hb.u;have hbb:=hb.b;have HH:Hid (∀ W,(W=w.alloc (insO i)∨W=(w.alloc (insO i)).drew)→Calls Tryz.prog 112 #[.pointer (some ⟨x.g,0,none⟩)] W fun e w'=>e=.returned (.int .i64 (m.st.length:Int))∧w'=W):=fun W hW=>zc9 m W f va (HB.out W hW).1 (by omega)
 have HP:Hid (∀ W,(W=w.alloc (insO i)∨W=(w.alloc (insO i)).drew)→Calls Tryz.prog 111 #[.pointer (some ⟨x.g,1,none⟩),.int .i64 (m.st.length:Int),.int .i64 (i.a:Int)] W fun e w1=>e=.returned (.tuple #[])∧w1.cell? ⟨w.heap.size,1,none⟩=some (.int .i64 (i.a:Int))∧Hid (PM x { m with begun:=(m.undos.length,m.st.length,i.a)::m.begun } w f va w1)):=fun W hW=>by
  obtain ⟨j1,j2⟩:=HB.out W hW;refine (zjt hj m W f va j1 m.st.length i.a (by omega) (by omega)).mono ?_
  rintro e w1 ⟨rfl,f1,va1,k1,k2⟩;refine ⟨rfl,Fr.loc h.a (Nat.le_refl _) k2 ?_,PM.mk' k1 (j2.trans k2)⟩;rcases hW with rfl | rfl
  ·exact qct w _ _ 1 _ rfl
  ·exact qct w _ _ 1 _ rfl
 have hgz:=h.a.lt;unfold insV;unfold insO at HB HP HH;clear h hb _hc hk hs hu hbb;generalize m.st.length=L at *;go_enter Tryz.func110,Tryz.ntmps110
 go_wp2_with fail;go_region_held (fun w'=>w'.cell? ⟨w.heap.size,1,none⟩=some (.int .i64 (i.a:Int))) (go_keep)
  (first | (go_at_call 112;refine Calls.mono (HH.out _ (by first | exact Or.inl rfl | exact Or.inr rfl)) ?_;rintro e w1 ⟨rfl,rfl⟩) | (go_at_call 111;refine Calls.mono (HP.out _ (by first | exact Or.inl rfl | exact Or.inr rfl)) ?_;rintro e w1 ⟨rfl,d1,H1⟩))
 all_goals
  go_wp2_with fail;go_ret;exact DoPost.ok HD.out H1.out
theorem do16 {x:Cx} (hj:JOK x) (m:Px.Ms) (w:World) (f:Nat→Value) (va:Value) (h:MK x m w f va) (i:Px.Ins) (hb:Bd x.P m) (hc:Px.CanM x.P i m) (hk:i.k=16) :
  Calls Tryz.prog 113 #[.pointer (some ⟨x.g,0,none⟩),insV i] w (DoPost x i m w f va):=by
 have HB:=h.boxed hj (insO i);have HD:Hid (Px.doM x.P i m=(0,{ m with begun:=m.begun.tail,place:=i.a })):=by unfold Hid Px.doM;rw[if_neg (by omega),if_neg (by omega),if_neg (by omega),if_neg (by omega),if_neg (by omega),if_neg (by omega),if_neg (by omega),if_neg (by omega),if_neg (by omega),if_neg (by omega),if_neg (by omega),if_pos hk]
 have hbb:=hb.b;have hne:=hc.keep hk;have hbe:∃ b r,m.begun=b::r:=by
  cases hm:m.begun with
  | nil=>exact absurd hm hne
  | cons b r=>exact ⟨b,r,rfl⟩
 obtain ⟨b,r,hbe⟩:=hbe;have ev:qis m=(.agg #[.int .i64 (b.1:Int),.int .i64 (b.2.1:Int),.int .i64 (b.2.2:Int)],true):=by unfold qis;rw[hbe]
 have HP:Hid (∀ W,(W=w.alloc (insO i)∨W=(w.alloc (insO i)).drew)→Calls Tryz.prog 114 #[.pointer (some ⟨x.g,1,none⟩)] W fun e w1=>e=.returned (.tuple #[.agg #[.int .i64 (b.1:Int),.int .i64 (b.2.1:Int),.int .i64 (b.2.2:Int)],.bool true])∧w1.cell? ⟨w.heap.size,1,none⟩=some (.int .i64 (i.a:Int))∧(∃ u,w1.cell? ⟨x.g,86,none⟩=some u)∧w1.frozen? ⟨x.g,86,none⟩=false∧Hid (PM x { m with begun:=m.begun.tail } w f va w1)):=fun W hW=>by
  obtain ⟨j1,j2⟩:=HB.out W hW;refine (qpo hj m W f va j1 (by omega)).mono ?_
  rintro e w1 ⟨rfl,f1,va1,k1,k2⟩;rw[ev];refine ⟨rfl,Fr.loc h.a (Nat.le_refl _) k2 ?_,⟨_,k1.a.blk.cell 86 (by decide)⟩,k1.a.blk.fr 86,PM.mk' k1 (j2.trans k2)⟩
  rcases hW with rfl | rfl
  ·exact qct w _ _ 1 _ rfl
  ·exact qct w _ _ 1 _ rfl
 have hgz:=h.a.lt;unfold insV;unfold insO at HB HP;clear h hb hc hk hbb hne ev hbe;go_enter Tryz.func113,Tryz.ntmps113
 go_wp2_with fail;refine Calls.mono (HP.out _ (by first | exact Or.inl rfl | exact Or.inr rfl)) ?_
 rintro e w1 ⟨rfl,d1,⟨u,d86⟩,df,H1⟩;go_wp2_with fail;go_ret;exact DoPost.ok HD.out (PM.place hj H1.out i.a)
theorem do17 {x:Cx} (hj:JOK x) (m:Px.Ms) (w:World) (f:Nat→Value) (va:Value) (h:MK x m w f va) (i:Px.Ins) (_hb:Bd x.P m) (_hc:Px.CanM x.P i m) (hk:i.k=17) :
  Calls Tryz.prog 115 #[.pointer (some ⟨x.g,0,none⟩),insV i] w (DoPost x i m w f va):=by
 have HB:=h.boxed hj (insO i);have HD:Hid (Px.doM x.P i m=(1,m)):=by unfold Hid Px.doM;rw[if_neg (by omega),if_neg (by omega),if_neg (by omega),if_neg (by omega),if_neg (by omega),if_neg (by omega),if_neg (by omega),if_neg (by omega),if_neg (by omega),if_neg (by omega),if_neg (by omega),if_neg (by omega),if_pos hk]
 have v1:=h.e.v1;have hgz:=h.a.lt;have hG:=lt_of_cell v1;have HF:Hid (PM x m w f va w):=PM.mk' h (Fr.refl _ _ _ _);unfold insV;unfold insO at HB;clear h _hb _hc hk;go_enter Tryz.func115,Tryz.ntmps115
 go_wp2_with fail;go_ret;unfold DoPost;rw[HD.out];exact ⟨rfl,by first | exact HF.out | exact PM.mk' (HB.out _ (by first | exact Or.inl rfl | exact Or.inr rfl)).1 (HB.out _ (by first | exact Or.inl rfl | exact Or.inr rfl)).2⟩
theorem do18 {x:Cx} (hj:JOK x) (hask:qnr x) (m:Px.Ms) (w:World) (f:Nat→Value) (va:Value) (h:MK x m w f va) (i:Px.Ins) (hb:Bd x.P m) (hc:Px.CanM x.P i m) (hk:i.k=18) :
  Calls Tryz.prog 116 #[.pointer (some ⟨x.g,0,none⟩),insV i] w (DoPost x i m w f va):=by
 have HB:=h.boxed hj (insO i);have hst:=hc.st;rw[show Px.qbf i.k=1 by rw[hk];rfl] at hst
 obtain ⟨v,r,hst⟩:=qko hst;have hs:=hb.s;rw[hst,List.length_cons] at hs;have HD:Hid (Px.doM x.P i m=qqw x.P i.a i.b m):=by unfold Hid Px.doM;rw[if_neg (by omega),if_neg (by omega),if_neg (by omega),if_neg (by omega),if_neg (by omega),if_neg (by omega),if_neg (by omega),if_neg (by omega),if_neg (by omega),if_neg (by omega),if_neg (by omega),if_neg (by omega),if_neg (by omega),if_pos hk];rfl
 have hw:=Px.zba hc.fit (Or.inl hk);have HP:Hid (∀ W,(W=w.alloc (insO i)∨W=(w.alloc (insO i)).drew)→Calls Tryz.prog 117 #[.pointer (some ⟨x.g,0,none⟩),.int .i64 (i.a:Int),.int .i64 (i.b:Int)] W fun e w1=>e=.returned (errV x (qqw x.P i.a i.b m).1)∧Hid (PM x (qqw x.P i.a i.b m).2 w f va w1)):=fun W hW=>by
  obtain ⟨j1,j2⟩:=HB.out W hW;have ha:=hb.a;have hww:=hb.w;have hbb:=hc.b;refine (qt8 hj hask m W f va j1 i.a i.b v r hst (by omega) hw (hb.rst v (by rw[hst];exact List.mem_cons_self)) hb.rleft hb.t (by omega) (by omega) hww).mono ?_
  rintro e w1 ⟨rfl,f1,va1,k1,k2⟩;exact ⟨rfl,PM.mk' k1 (j2.trans k2)⟩
 unfold insV;unfold insO at HB HP;clear h hb hc hk hask hst hs;go_enter Tryz.func116,Tryz.ntmps116
 go_wp2_with fail;refine Calls.mono (HP.out _ (by first | exact Or.inl rfl | exact Or.inr rfl)) ?_
 rintro e w1 ⟨rfl,H1⟩;go_wp2_with fail;go_ret;unfold DoPost;rw[HD.out];exact ⟨rfl,H1.out⟩
theorem do19 {x:Cx} (hj:JOK x) (m:Px.Ms) (w:World) (f:Nat→Value) (va:Value) (h:MK x m w f va) (i:Px.Ins) (hb:Bd x.P m) (hc:Px.CanM x.P i m) (hk:i.k=19) :
  Calls Tryz.prog 118 #[.pointer (some ⟨x.g,0,none⟩),insV i] w (DoPost x i m w f va):=by
 have HB:=h.boxed hj (insO i);have hst:=hc.st;rw[show Px.qbf i.k=1 by rw[hk];rfl] at hst
 obtain ⟨v,r,hst⟩:=qko hst;have hs:=hb.s;rw[hst,List.length_cons] at hs;have HD:Hid (Px.doM x.P i m=(0,{ m with undos:=(i.a,v)::m.undos })):=by unfold Hid Px.doM;rw[if_neg (by omega),if_neg (by omega),if_neg (by omega),if_neg (by omega),if_neg (by omega),if_neg (by omega),if_neg (by omega),if_neg (by omega),if_neg (by omega),if_neg (by omega),if_neg (by omega),if_neg (by omega),if_neg (by omega),if_neg (by omega)];simp only[hst];rfl
 have hu:=hb.u;have HH:Hid (∀ W,(W=w.alloc (insO i)∨W=(w.alloc (insO i)).drew)→Calls Tryz.prog 120 #[.pointer (some ⟨x.g,0,none⟩)] W fun e w1=>e=.returned (.int .i64 v)∧w1.cell? ⟨w.heap.size,1,none⟩=some (.int .i64 (i.a:Int))∧Hid (MK x m w1 f va∧Fr x w f va w1 f va)):=fun W hW=>by
  obtain ⟨j1,j2⟩:=HB.out W hW;refine (qoz hj m W f va j1 v r hst (by omega)).mono ?_
  rintro e w1 ⟨rfl,hT⟩;obtain ⟨k1,k2⟩:=j1.same hj hT;refine ⟨rfl,Fr.loc h.a (Nat.le_refl _) k2 ?_,k1,j2.trans k2⟩;rcases hW with rfl | rfl
  ·exact qct w _ _ 1 _ rfl
  ·exact qct w _ _ 1 _ rfl
 have HP:Hid (∀ w1,(MK x m w1 f va∧Fr x w f va w1 f va)→w1.cell? ⟨w.heap.size,1,none⟩=some (.int .i64 (i.a:Int))→Calls Tryz.prog 119 #[.pointer (some ⟨x.g,1,none⟩),.int .i64 (i.a:Int),.int .i64 v] w1 fun e w2=>e=.returned (.tuple #[])∧w2.cell? ⟨w.heap.size,1,none⟩=some (.int .i64 (i.a:Int))∧Hid (PM x { m with undos:=(i.a,v)::m.undos } w f va w2)):=fun w1 h1 hd=>by
  refine (ztq hj m w1 f va h1.1 i.a v (by omega)).mono ?_
  rintro e w2 ⟨rfl,f1,va1,k1,k2⟩;exact ⟨rfl,Fr.loc h.a (Nat.le_refl _) k2 hd,PM.mk' k1 (h1.2.trans k2)⟩
 have hgz:=h.a.lt;unfold insV;unfold insO at HB HH;clear h hb hc hk hst hs hu;go_enter Tryz.func118,Tryz.ntmps118
 go_wp2_with fail;go_region_held (fun w'=>w'.cell? ⟨w.heap.size,1,none⟩=some (.int .i64 (i.a:Int))) (go_keep)
  (first | (go_at_call 120;refine Calls.mono (HH.out _ (by first | exact Or.inl rfl | exact Or.inr rfl)) ?_;rintro e w1 ⟨rfl,d1,H1⟩) | (go_at_call 119;refine Calls.mono (HP.out _ H1.out d1) ?_;rintro e w2 ⟨rfl,d2,H2⟩))
 all_goals
  go_wp2_with fail;go_ret;exact DoPost.ok HD.out H2.out
end Rn
end Go.Proofs.YtagpnplggopoeaaGreatDoor
