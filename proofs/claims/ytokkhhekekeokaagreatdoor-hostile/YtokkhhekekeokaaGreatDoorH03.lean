import Derived.Test.YtokkhhekekeokaaGreatDoorProg
import Derived.Test.YtokkhhekekeokaaGreatDoorH00
import Derived.WalkKit
import Derived.WalkSpells
import Derived.WalkLawsBesides
import Derived.Deep.RegionWith
set_option maxRecDepth 100000
namespace Go.Proofs.YtokkhhekekeokaaGreatDoor
open Go.RowKit
namespace Ref
theorem qcv {a b:Bool} (h:a=b):Ending.returned (.bool a)=.returned (.bool b):=by rw[h]
open Go.RowKit
theorem qil {p:UInt8→Bool} {s:ByteArray} {i k:Nat} (h:Hid (∀ j (hj:j < s.size),i≤j→j < k→p s[j]=true)) (hk:k < s.size) (hp:p s[k]=true) :
  Hid (∀ j (hj:j < s.size),i≤j→j < k+1→p s[j]=true):=by
 intro j hj h1 h2;by_cases e:j=k
 ·subst e;exact hp
 ·exact h j hj h1 (by omega)
open Go.RowKit
theorem heap_set {w:World} {b o:Nat} {c:Array Value} {t:TypeId} {f:Nat×Nat} (v:Value) (h:w.heap[b]?=some (.cells c t f)):(w.setCell ⟨b,o,none⟩ v).heap[b]?=some (.cells (c.setIfInBounds o v) t f):=by
 simp[World.setCell,Array.getElem?_modify,h]
theorem qag {w:World} {b k o:Nat} (v:Value) (h:b≠k):(w.setCell ⟨k,o,none⟩ v).heap[b]?=w.heap[b]?:=Below.heap_setCell _ _ _ _ h
open Go.RowKit
def In (w w':World) (k:Nat):Prop:=w.heap.size≤k∧k < w'.heap.size
theorem qi8 {h:Array Obj} {o p:Obj}:((h.push o).push p)[h.size]?=some o:=by
 rw[Array.getElem?_push,if_neg (by simp),Array.getElem?_push,if_pos rfl]
theorem qdu {h:Array Obj} {o p:Obj}:((h.push o).push p)[h.size+1]?=some p:=by
 rw[Array.getElem?_push,if_pos (by simp)]
theorem qou (l:List UInt8) (n:Nat):(∀ c∈l,c.toNat≤57)→l.foldl (fun n c=>10 * n+(c.toNat - 48)) n≤(n+1) * 10 ^ l.length - 1:=by
 induction l generalizing n with
 | nil=>intro _;simp
 | cons c l ih =>
  intro h;have h1:=h c (by simp)
  have h2:=ih (10 * n+(c.toNat - 48)) (fun d hd=>h d (by simp[hd]))
  simp only[List.foldl_cons,List.length_cons];refine Nat.le_trans h2 ?_
  have:(10 * n+(c.toNat - 48)+1) * 10 ^ l.length≤(n+1) * 10 ^ (l.length+1):=by
   rw[Nat.pow_succ,← Nat.mul_assoc,Nat.mul_right_comm];exact Nat.mul_le_mul_right _ (by omega)
  omega
theorem qy4 (l:List UInt8) (c:UInt8):Px.valOf (l++[c])=10 * Px.valOf l+(c.toNat - 48):=by
 simp[Px.valOf]
theorem qsr {k:IntKind} {a b:Int} (h:a=b):Ending.returned (.int k a)=.returned (.int k b):=by rw[h]
theorem qu8 (s:ByteArray) (k:Nat) (h:k < s.size):s.data.toList.take (k+1)=s.data.toList.take k++[s[k]]:=by
 rw[List.take_succ_eq_append_getElem (by simpa using h)];rfl
open Go.RowKit
structure Dom (s:ByteArray) (n:Nat) (st:Px.Ps):Prop where
 tk:Px.Tk s st.t
 room:s.size - st.t.a < n
 n0:0≤st.nest
 n1:st.nest+n≤1000000
theorem Dom.good {s:ByteArray} {n:Nat} {st st':Px.Ps} (h:Dom s n st) (g:Px.Good s st st'):Dom s n st' :=
 ⟨g.tk,by have:=h.room;have:=g.lt;omega,by rw[g.nest];exact h.n0,by rw[g.nest];exact h.n1⟩
open Go.RowKit
theorem qkx {s:ByteArray} {t:Px.Tok} (h:Px.Tk s t) (hk:t.k=110):(s.extract t.a t.b).size≤4∧∀ j (hj:j < (s.extract t.a t.b).size),Px.qba (s.extract t.a t.b)[j]=true:=by
 obtain ⟨h1,h2⟩:=h.num hk;have hz:(s.extract t.a t.b).size=t.b - t.a:=by
  have:=h.le;simp;omega
 refine ⟨by omega,fun j hj=>?_⟩
 have e:(s.extract t.a t.b)[j]=s[t.a+j]'(by have:=h.le;omega):=by
  simp[ByteArray.getElem_extract]
 rw[e];exact h2 _ _ (by omega) (by omega)
theorem qb9 {w:World} {k:Nat} {a b c d e f:Value} {t:TypeId} (h:w.heap[k]?=some (.cells #[a,b,c,d,e,f] t)) :
  w.cell? ⟨k,0,none⟩=some a∧w.cell? ⟨k,1,none⟩=some b∧w.cell? ⟨k,2,none⟩=some c∧w.cell? ⟨k,3,none⟩=some d∧w.cell? ⟨k,4,none⟩=some e∧w.cell? ⟨k,5,none⟩=some f∧∀ o,w.frozen? ⟨k,o,none⟩=false:=by
 refine ⟨?_,?_,?_,?_,?_,?_,?_⟩<;>simp[World.cell?,World.frozen?,h]
theorem qg4 {b:Nat} {w W w1:World} {o p:Obj} (hW:W.heap=(w.heap.push o).push p) (h:Kp b W w1) (hb:b < w.heap.size):w1.heap[w.heap.size]?=some o∧w1.heap[w.heap.size+1]?=some p∧w.heap.size+2≤w1.heap.size:=by
 have e0:W.heap.size=w.heap.size+2:=by rw[hW];simp
 have:=h.size
 refine ⟨?_,?_,by omega⟩
 ·rw[h.block _ (by omega) (by omega),hW];exact qi8
 ·rw[h.block _ (by omega) (by omega),hW];exact qdu
end Ref
end Go.Proofs.YtokkhhekekeokaaGreatDoor
