import Derived.Test.YtnhkpbmplefnaaaGreatDoorProg
import Derived.Test.YtnhkpbmplefnaaaGreatDoorB00
import Derived.WalkKit
import Derived.WalkSpells
import Derived.WalkLawsBesides
import Derived.Deep.RegionWith
import Derived.Maps.AppendAt
import Derived.Deep.DeepCutAuto
import Derived.Test.YtnhkpbmplefnaaaGreatDoorB01
import Derived.Deep.QuietTactic
import Derived.BigQuiet
import Derived.Deep.OwnRows
import Derived.Test.YtnhkpbmplefnaaaGreatDoorB02
set_option maxRecDepth 100000
namespace Go.Proofs.YtnhkpbmplefnaaaGreatDoor
open Go.RowKit
namespace Ref
theorem qcv {a b:Bool} (h:a=b):Ending.returned (.bool a)=.returned (.bool b):=by rw[h]
open Go.RowKit
theorem qil {p:UInt8→Bool} {s:ByteArray} {i k:Nat} (h:Hid (∀ j (hj:j < s.size),i≤j→j < k→p s[j]=true)) (hk:k < s.size) (hp:p s[k]=true) :
  Hid (∀ j (hj:j < s.size),i≤j→j < k+1→p s[j]=true):=by
 intro j hj h1 h2;by_cases e:j=k
 ·subst e;exact hp
 ·exact h j hj h1 (by omega)
open Go.RowKit
theorem heap_set {w:World} {b o:Nat} {c:Array Value} {t:TypeId} {f:Nat×Nat} (v:Value) (h:w.heap[b]?=some (.cells c t f)):(w.setCell ⟨b,o,none⟩ v).heap[b]?=some (.cells (c.setIfInBounds o v) t f):=by
 simp[World.setCell,Array.getElem?_modify,h]
theorem qag {w:World} {b k o:Nat} (v:Value) (h:b≠k):(w.setCell ⟨k,o,none⟩ v).heap[b]?=w.heap[b]?:=Below.heap_setCell _ _ _ _ h
open Go.RowKit
def In (w w':World) (k:Nat):Prop:=w.heap.size≤k∧k < w'.heap.size
theorem qi8 {h:Array Obj} {o p:Obj}:((h.push o).push p)[h.size]?=some o:=by
 rw[Array.getElem?_push,if_neg (by simp),Array.getElem?_push,if_pos rfl]
theorem qdu {h:Array Obj} {o p:Obj}:((h.push o).push p)[h.size+1]?=some p:=by
 rw[Array.getElem?_push,if_pos (by simp)]
theorem qou (l:List UInt8) (n:Nat):(∀ c∈l,c.toNat≤57)→l.foldl (fun n c=>10 * n+(c.toNat - 48)) n≤(n+1) * 10 ^ l.length - 1:=by
 induction l generalizing n with
 | nil=>intro _;simp
 | cons c l ih =>
  intro h;have h1:=h c (by simp)
  have h2:=ih (10 * n+(c.toNat - 48)) (fun d hd=>h d (by simp[hd]))
  simp only[List.foldl_cons,List.length_cons];refine Nat.le_trans h2 ?_
  have:(10 * n+(c.toNat - 48)+1) * 10 ^ l.length≤(n+1) * 10 ^ (l.length+1):=by
   rw[Nat.pow_succ,← Nat.mul_assoc,Nat.mul_right_comm];exact Nat.mul_le_mul_right _ (by omega)
  omega
theorem qy4 (l:List UInt8) (c:UInt8):Px.valOf (l++[c])=10 * Px.valOf l+(c.toNat - 48):=by
 simp[Px.valOf]
theorem qsr {k:IntKind} {a b:Int} (h:a=b):Ending.returned (.int k a)=.returned (.int k b):=by rw[h]
theorem qu8 (s:ByteArray) (k:Nat) (h:k < s.size):s.data.toList.take (k+1)=s.data.toList.take k++[s[k]]:=by
 rw[List.take_succ_eq_append_getElem (by simpa using h)];rfl
open Go.RowKit
structure Dom (s:ByteArray) (n:Nat) (st:Px.Ps):Prop where
 tk:Px.Tk s st.t
 room:s.size - st.t.a < n
 n0:0≤st.nest
 n1:st.nest+n≤1000000
theorem Dom.good {s:ByteArray} {n:Nat} {st st':Px.Ps} (h:Dom s n st) (g:Px.Good s st st'):Dom s n st' :=
 ⟨g.tk,by have:=h.room;have:=g.lt;omega,by rw[g.nest];exact h.n0,by rw[g.nest];exact h.n1⟩
open Go.RowKit
theorem qkx {s:ByteArray} {t:Px.Tok} (h:Px.Tk s t) (hk:t.k=110):(s.extract t.a t.b).size≤4∧∀ j (hj:j < (s.extract t.a t.b).size),Px.qba (s.extract t.a t.b)[j]=true:=by
 obtain ⟨h1,h2⟩:=h.num hk;have hz:(s.extract t.a t.b).size=t.b - t.a:=by
  have:=h.le;simp;omega
 refine ⟨by omega,fun j hj=>?_⟩
 have e:(s.extract t.a t.b)[j]=s[t.a+j]'(by have:=h.le;omega):=by
  simp[ByteArray.getElem_extract]
 rw[e];exact h2 _ _ (by omega) (by omega)
theorem qb9 {w:World} {k:Nat} {a b c d e f:Value} {t:TypeId} (h:w.heap[k]?=some (.cells #[a,b,c,d,e,f] t)) :
  w.cell? ⟨k,0,none⟩=some a∧w.cell? ⟨k,1,none⟩=some b∧w.cell? ⟨k,2,none⟩=some c∧w.cell? ⟨k,3,none⟩=some d∧w.cell? ⟨k,4,none⟩=some e∧w.cell? ⟨k,5,none⟩=some f∧∀ o,w.frozen? ⟨k,o,none⟩=false:=by
 refine ⟨?_,?_,?_,?_,?_,?_,?_⟩<;>simp[World.cell?,World.frozen?,h]
theorem qg4 {b:Nat} {w W w1:World} {o p:Obj} (hW:W.heap=(w.heap.push o).push p) (h:Kp b W w1) (hb:b < w.heap.size):w1.heap[w.heap.size]?=some o∧w1.heap[w.heap.size+1]?=some p∧w.heap.size+2≤w1.heap.size:=by
 have e0:W.heap.size=w.heap.size+2:=by rw[hW];simp
 have:=h.size
 refine ⟨?_,?_,by omega⟩
 ·rw[h.block _ (by omega) (by omega),hW];exact qi8
 ·rw[h.block _ (by omega) (by omega),hW];exact qdu
open Go.RowKit
theorem size_set (w:World) (a:Addr) (v:Value):(w.setCell a v).heap.size=w.heap.size:=by simp[World.setCell]
open Go.RowKit
def ptr (q:Nat):Value:=.pointer (some ⟨q,0,none⟩)
open Go.RowKit
structure DomS (s:ByteArray) (n:Nat) (st:Px.Ps):Prop where
 tk:Px.Tk s st.t
 room:s.size - st.t.a < n
 n0:0≤st.nest
 n1:st.nest+n+(s.size+1:Nat)≤1000000
theorem DomS.good0 {s:ByteArray} {n:Nat} {st st':Px.Ps} (h:DomS s n st) (g:Px.Good0 s st st'):DomS s n st' :=
 ⟨g.tk,by have:=h.room;have:=g.le;omega,by rw[g.nest];exact h.n0,by rw[g.nest];exact h.n1⟩
theorem DomS.good {s:ByteArray} {n:Nat} {st st':Px.Ps} (h:DomS s n st) (g:Px.Good s st st'):DomS s n st':=h.good0 g.zero
theorem zal {b:Nat} {w w1 w2:World} {row:Option Nat} (h:Kp b w w1) (hg:w1.grownBy w2 row) (hr:∀ k,row=some k→w.heap.size≤k):Kp b w w2 :=
 ⟨hg.os.trans h.os,hg.tape.trans h.tape,hg.output.trans h.output,Nat.le_trans h.size hg.size,fun k hk hb=>(hg.block k (Nat.lt_of_lt_of_le hk h.size) (fun e=>by have:=hr k e.symm;omega)).trans (h.block k hk hb)⟩
theorem qpi {w:World} {base:Nat} {e:TypeId} {v:Value} {n:Nat} {xs:List Value} (h:w.ownsRow base e 1 v n xs):∃ a k c,v=.slice a k c:=by
 rcases h.2 with ⟨h1,_⟩ | ⟨g,cap,cur,h1,_⟩
 ·exact ⟨_,_,_,h1⟩
 ·exact ⟨_,_,_,h1⟩
theorem qle {w w':World} {base:Nat} {e:TypeId} {v:Value} {n:Nat} {xs:List Value} (h:w.ownsRow base e 1 v n xs) (hk:∀ k,v.ownBlock=some k→w'.heap[k]?=w.heap[k]?):w'.ownsRow base e 1 v n xs:=by
 refine ⟨h.1,?_⟩;rcases h.2 with h1 | ⟨g,cap,cur,h1,h2,h3,h4⟩
 ·exact Or.inl h1
 ·exact Or.inr ⟨g,cap,cur,h1,h2,by rw[hk g (by rw[h1];rfl)];exact h3,h4⟩
open Go.RowKit
theorem qad {w:World} {base:Nat} {e:TypeId} {size:Nat} {v:Value} {n:Nat} {xs:List Value} (h:w.ownsRow base e size v n xs):∃ a k c,v=.slice a k c:=by
 rcases h.2 with ⟨h1,_⟩ | ⟨g,cap,cur,h1,_⟩
 ·exact ⟨_,_,_,h1⟩
 ·exact ⟨_,_,_,h1⟩
open Go.RowKit
def intCells (l:List Int):List Value:=l.map (Value.int .i64)
open Go.RowKit
def AnsAt (w:World) (v:Value) (l:List Int):Prop :=
 ∃ ad cap,v=.slice ad l.length cap∧l.length≤maxLen∧l.length * 8≤140737488355328∧∀ i (hi:i < l.length),∃ a:Addr,ad=some a∧a.block < w.heap.size∧w.cell? (a.add i)=some (.int .i64 l[i])
theorem qtp:(Tryz.prog.info? 3).map (fun i=>(i.zero,i.size,i.bytes))=some (some (.int .i64 0),1,8):=by kernel_rfl
open Go.RowKit
theorem mt1 (r:Nat×Int×Px.Ms) (n:Nat) (h:r.2.2.asks.length=n):(match r with
  | (0,v,m')=>((0:Nat),{ m' with st:=v::m'.st.tail })
  | (e,_,m')=>(e,m')).2.asks.length=n:=by
 obtain ⟨e,v,m'⟩:=r;cases e<;>exact h
theorem mt2 (r:Nat×Int×Px.Ms) (n:Nat) (u:List (Nat×Int)) (h:r.2.2.asks.length=n):(match r with
   | (0,_,m')=>((0:Nat),{ m' with undos:=u })
   | (1,_,m')=>(4,m')
   | (e,_,m')=>(e,m')).2.asks.length=n:=by
 obtain ⟨e,v,m'⟩:=r;match e with
 | 0=>exact h
 | 1=>exact h
 | e+2=>exact h
theorem mt3 (r:Nat×Px.Ms) (n p:Nat) (h:r.2.asks.length≤n):(match r with
   | (0,m')=>((0:Nat),m')
   | (e,m')=>(e,{ m' with place:=p })).2.asks.length≤n:=by
 obtain ⟨e,m'⟩:=r;cases e<;>exact h
theorem mt4 (r:Nat×Px.Ms) (n:Nat) (h:r.2.asks.length≤n):(match r with
 | (0,m')=>(decide (m'.fin≠0),m')
 | (1,m')=>(decide (m'.fin≠0),{ m' with qak:=true })
 | (2,m')=>(true,m')
 | (3,m')=>(decide (m'.fin≠0),m')
 | (_,m')=>(true,{ m' with fin:=3 })).2.asks.length≤n:=by
 obtain ⟨e,m'⟩:=r;match e with
 | 0=>exact h
 | 1=>exact h
 | 2=>exact h
 | 3=>exact h
 | e+4=>exact h
end Ref
end Go.Proofs.YtnhkpbmplefnaaaGreatDoor
