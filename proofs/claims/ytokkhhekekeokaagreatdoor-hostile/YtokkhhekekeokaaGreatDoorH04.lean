import Derived.Test.YtokkhhekekeokaaGreatDoorH03
import Derived.Maps.AppendAt
import Derived.Test.YtokkhhekekeokaaGreatDoorH00
import Derived.Deep.DeepCutAuto
import Derived.Test.YtokkhhekekeokaaGreatDoorH01
import Derived.Deep.QuietTactic
import Derived.BigQuiet
import Derived.Deep.OwnRows
set_option maxRecDepth 100000
namespace Go.Proofs.YtokkhhekekeokaaGreatDoor
open Go.RowKit
namespace Ref
theorem size_set (w:World) (a:Addr) (v:Value):(w.setCell a v).heap.size=w.heap.size:=by simp[World.setCell]
open Go.RowKit
def ptr (q:Nat):Value:=.pointer (some ⟨q,0,none⟩)
open Go.RowKit
structure DomS (s:ByteArray) (n:Nat) (st:Px.Ps):Prop where
 tk:Px.Tk s st.t
 room:s.size - st.t.a < n
 n0:0≤st.nest
 n1:st.nest+n+(s.size+1:Nat)≤1000000
theorem DomS.good0 {s:ByteArray} {n:Nat} {st st':Px.Ps} (h:DomS s n st) (g:Px.Good0 s st st'):DomS s n st' :=
 ⟨g.tk,by have:=h.room;have:=g.le;omega,by rw[g.nest];exact h.n0,by rw[g.nest];exact h.n1⟩
theorem DomS.good {s:ByteArray} {n:Nat} {st st':Px.Ps} (h:DomS s n st) (g:Px.Good s st st'):DomS s n st':=h.good0 g.zero
theorem zal {b:Nat} {w w1 w2:World} {row:Option Nat} (h:Kp b w w1) (hg:w1.grownBy w2 row) (hr:∀ k,row=some k→w.heap.size≤k):Kp b w w2 :=
 ⟨hg.os.trans h.os,hg.tape.trans h.tape,hg.output.trans h.output,Nat.le_trans h.size hg.size,fun k hk hb=>(hg.block k (Nat.lt_of_lt_of_le hk h.size) (fun e=>by have:=hr k e.symm;omega)).trans (h.block k hk hb)⟩
theorem qpi {w:World} {base:Nat} {e:TypeId} {v:Value} {n:Nat} {xs:List Value} (h:w.ownsRow base e 1 v n xs):∃ a k c,v=.slice a k c:=by
 rcases h.2 with ⟨h1,_⟩ | ⟨g,cap,cur,h1,_⟩
 ·exact ⟨_,_,_,h1⟩
 ·exact ⟨_,_,_,h1⟩
theorem qle {w w':World} {base:Nat} {e:TypeId} {v:Value} {n:Nat} {xs:List Value} (h:w.ownsRow base e 1 v n xs) (hk:∀ k,v.ownBlock=some k→w'.heap[k]?=w.heap[k]?):w'.ownsRow base e 1 v n xs:=by
 refine ⟨h.1,?_⟩;rcases h.2 with h1 | ⟨g,cap,cur,h1,h2,h3,h4⟩
 ·exact Or.inl h1
 ·exact Or.inr ⟨g,cap,cur,h1,h2,by rw[hk g (by rw[h1];rfl)];exact h3,h4⟩
open Go.RowKit
theorem qad {w:World} {base:Nat} {e:TypeId} {size:Nat} {v:Value} {n:Nat} {xs:List Value} (h:w.ownsRow base e size v n xs):∃ a k c,v=.slice a k c:=by
 rcases h.2 with ⟨h1,_⟩ | ⟨g,cap,cur,h1,_⟩
 ·exact ⟨_,_,_,h1⟩
 ·exact ⟨_,_,_,h1⟩
open Go.RowKit
def intCells (l:List Int):List Value:=l.map (Value.int .i64)
open Go.RowKit
def AnsAt (w:World) (v:Value) (l:List Int):Prop :=
 ∃ ad cap,v=.slice ad l.length cap∧l.length≤maxLen∧l.length * 8≤140737488355328∧∀ i (hi:i < l.length),∃ a:Addr,ad=some a∧a.block < w.heap.size∧w.cell? (a.add i)=some (.int .i64 l[i])
theorem qtp:(Tryz.prog.info? 3).map (fun i=>(i.zero,i.size,i.bytes))=some (some (.int .i64 0),1,8):=by kernel_rfl
end Ref
end Go.Proofs.YtokkhhekekeokaaGreatDoor
