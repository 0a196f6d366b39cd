import Derived.Test.YtgkhgealpneodaaGreatDoorG33
import Derived.Test.YtgkhgealpneodaaGreatDoorG18
import Derived.Lib.BufferRead
import Derived.Deep.WholeRow
set_option maxRecDepth 100000
namespace Go.Proofs.YtgkhgealpneodaaGreatDoor
open Go.RowKit
namespace Jn
open Lg
def Ct(n:Nat)(i:Int):Prop:=i=-1\/∃k:Nat,k<n/\i=(k:Int)
def UC(n:Nat)(w:dY)(e:Ending)(w':dY):Prop:=(∃i,Ct n i/\e=fM (eF i))/\w'=w
theorem iZ{fn:Func}{t u v:Tmp}(h:fn.results=#[.tmp t,.tmp u,.tmp v])(tmps:Array dZ)(P:Program)(w:dY):(results fn tmps).run P w=.ok (.tuple #[tmps.getD t undef,tmps.getD u undef,tmps.getD v undef]) w:=by simp[results,h]
theorem yef(s:dX)(c:Int)(w:dY)(hs:s.size<=maxLen):fI 199 #[.string s,.int .u8 c] w (UC s.size w):=by
 unfold maxLen at hs;go_enter Tryz.func199,Tryz.ntmps199;have hw0:IntKind.i64.wrap ((s.size:Int)-1)=(s.size:Int)-1:=by rw[IntKind.wrap_i64];omega
 go_wp2_with fail;go_loopw [5] (fun i wr=>wr=w/\∃k:Nat,k<=s.size/\i=eF ((k:Int)-1)) (fun i _=>(intOf i+1).toNat)
 case atStart=>exact⟨rfl,s.size,ay _,rfl⟩
 case round=>
  obtain⟨rfl,k,hk,rfl⟩:=hrel;cases k with
  |zero=>
   have hz:¬((0:Int)<=((0:Nat):Int)-1):=by omega
   go_wp2_with fail;go_ret;exact⟨⟨-1,ak rfl,rfl⟩,rfl⟩
  |succ k=>
  have e:(((k+1:Nat):Int)-1)=(k:Int):=by omega
  rw[e];have hlt:(k:Int)<(s.size:Int):=by omega
  have hw1:IntKind.i64.wrap ((k:Int)-1)=(k:Int)-1:=by rw[IntKind.wrap_i64];omega
  go_wp2_with fail;all_goals first
   |(go_ret;exact⟨⟨(k:Int),aj ⟨k,by omega,rfl⟩,rfl⟩,rfl⟩)
   |exact⟨⟨trivial,k,by omega,rfl⟩,by simp[intOf]⟩
theorem ydw(s:dX)(c:UInt8)(w:dY)(hs:s.size<=maxLen):fI 159 #[.string s,.string ⟨#[c]⟩] w (UC s.size w):=by
 have HL:Hid (∀x:Int,fI 199 #[.string s,.int .u8 x] w (UC s.size w)):=fun x=>yef s x w hs;have hz:(⟨#[c]⟩:dX).size=1:=rfl;generalize hC:(⟨#[c]⟩:dX)=C at *;have hz2:(C.size:Int)=1:=by rw[hz]<;>rfl
 have hz3:0<C.size:=by omega
 go_enter Tryz.func159,Tryz.ntmps159;go_wp2_with fail;refine aB (HL.o _) ?_;rintro e w1 ⟨⟨i,hi,rfl⟩,rfl⟩;go_wp2_with fail;go_ret;exact⟨⟨i,hi,rfl⟩,rfl⟩
def Cv(v:Int):Prop:=-9223372036854775808<=v/\v<=9223372036854775807
structure Je(w:dY)(E:Nat->Addr):Prop where
 s:Lg.q8 w E
 t:w.cell? ⟨2,0,none⟩=some (.iface 393 (.pointer (some (E 10))))
 b:∃c t,w.heap[(E 10).block]?=some (.cells c t (0,0))
 ne:∀i,1<=i->i<=9->E i≠E 10
theorem Je.below{w w':dY}{E:Nat->Addr}(h:Je w E)(k:gU w w'):Je w' E:=by
 refine⟨h.s.below k,?_,?_,h.ne⟩;·rw[k.cell (p:=⟨2,0,none⟩) (lt_of_cell h.t)];exact h.t
 obtain⟨c,t,hb⟩:=h.b;exact⟨c,t,by rw[k.block _ (aN.1 hb).1];exact hb⟩
def FJ(w:dY)(f:Nat)(ev:dZ):Prop:=∃s,w.heap[f]?=some (.cells #[.string s,ev] 122)
theorem FJ.below{w w':dY}{f:Nat}{ev:dZ}(h:FJ w f ev)(k:gU w w'):FJ w' f ev:=by obtain⟨s,hs⟩:=h;exact⟨s,by rw[k.block _ (aN.1 hs).1];exact hs⟩
theorem uQ{w:dY}{o:Obj}:(w.alloc o).heap[w.heap.size]?=some o:=by show(w.heap.push o)[w.heap.size]?=_;rw[aD,aA rfl]
theorem cR:(Tryz.prog.info? 3).map (fun i=>(i.zero,i.size,i.bytes))=some (some (eF 0),1,8):=by kernel_rfl
def iC(xs:List Int):List dZ:=xs.map fun x=>eF x
def Aa:dZ->Nat
 |.string s=>s.size
 |_=>0
theorem yft(t:dZ)(w:dY):(binOp BinOp.eql 63 .nilIface (.iface 393 t)).run Tryz.prog w=.ok (.bool false) w:=by kernel_rfl
theorem cU(t:dZ)(w:dY):fI 47 #[.nilIface,.iface 393 t] w fun e w'=>e=fM (.bool false)/\w'=w:=by have he:=yft t w;go_enter Tryz.func47,Tryz.ntmps47;go_wp2_with fail;go_ret;exact⟨rfl,rfl⟩
theorem cV{w:dY}{B:Nat}{v:dZ}{o:List UInt8}(h:w.ownsRow B 5 1 v o.length (yN o)):(convert 213 9 v).run Tryz.prog w=.ok (.string ⟨o.toArray⟩) w:=by
 obtain⟨rfl,h2⟩|⟨g,cap,cur,rfl,hB,hh,hn,hm,hz,ht⟩:=h.2;·obtain rfl:o=[]:=List.eq_nil_of_length_eq_zero h2;exact Lib.run_convert_nil_bytes w _ _ 5 0 Tryz.underlying213 Tryz.underlying5 Tryz.underlying9
 refine run_convert_bytes_back (P:=Tryz.prog) w _ _ 5 ⟨g,0,none⟩ cap o Tryz.underlying213 Tryz.underlying5 Tryz.underlying9 (Lib.bytes_of_row hh ?_);rw[Nat.mul_one]at ht;exact ht
theorem Ir{w:dY}{a b:Nat}{e:TypeId}{z n:Nat}{v:dZ}{cs:List dZ}(h:w.ownsRow a e z v n cs)(hb:b<=a):w.ownsRow b e z v n cs:=by
 obtain⟨h1,h2⟩:=h;refine⟨h1,?_⟩;obtain h2|⟨g,cap,cur,k1,k2,k3⟩:=h2;·exact ak h2
 exact aj ⟨g,cap,cur,k1,aK hb k2,k3⟩
end Jn
namespace Fi
theorem cells5{w:dY}{k:Nat}{a b c d e:dZ}{t:TypeId}(hh:w.heap[k]?=some (.cells #[a,b,c,d,e] t)):w.cell? ⟨k,0,none⟩=some a/\w.cell? ⟨k,1,none⟩=some b/\w.cell? ⟨k,2,none⟩=some c/\w.cell? ⟨k,3,none⟩=some d/\w.cell? ⟨k,4,none⟩=some e/\(∀o,w.frozen? ⟨k,o,none⟩=false)/\k<w.heap.size:=by refine⟨?_,?_,?_,?_,?_,?_,lt_of_block hh⟩<;>simp[World.cell?,World.frozen?,hh]
theorem yT{w:dY}{B:Nat}{e:TypeId}{v:dZ}{n:Nat}{xs:List dZ}(h:w.ownsRow B e 1 v n xs){i:Nat}(hi:i<n):∃g cap,v=.slice (some ⟨g,0,none⟩) n cap/\∀k x,xs[k]?=some x->w.cell? ⟨g,k,none⟩=some x:=by
 obtain⟨hl,h⟩:=h;obtain⟨rfl,h2⟩|⟨g,cap,cur,rfl,hg,hh,h4,h5,h6,h7⟩:=h;·omega
 refine⟨g,cap,rfl,fun k x hk=>?_⟩;have e:cur.toList[k]?=some x:=by
  have hk2:k<n*1:=by have:=(aT.1 hk).1;omega
  rw[<- h7,bE hk2]at hk;exact hk
 simp only[World.cell?,hh];rw[<- Array.getElem?_toList];exact e
theorem uR{w:dY}{B e z n b:Nat}{v:dZ}{cs:List dZ}{c:Array dZ}{t:TypeId}{fr:Nat×Nat}(h:w.ownsRow B e z v n cs)(hb:w.heap[b]?=some (.cells c t fr))(hte:t≠e):v.ownBlock≠some b:=by
 intro e1;obtain⟨rfl,_⟩|⟨g,cap,cur,rfl,_,hh,_⟩:=h.2;·cases e1
 cases e1;rw[hb]at hh;cases hh;exact hte rfl
open Go.RowKit Go.Shelf Go.Lib Go.Sort
theorem ycz(l:List UInt8):Op.bytesLess l l=false:=by rw[bytesLess_eq];exact decide_eq_false (List.lt_irrefl l)
