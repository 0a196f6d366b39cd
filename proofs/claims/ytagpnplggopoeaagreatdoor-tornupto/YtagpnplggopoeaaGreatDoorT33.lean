import Derived.Test.YtagpnplggopoeaaGreatDoorT08
import Derived.Test.YtagpnplggopoeaaGreatDoorT32
import Derived.Deep.DeepCutAuto
import Derived.Test.YtagpnplggopoeaaGreatDoorT16
import Derived.Test.YtagpnplggopoeaaGreatDoorT12
import Derived.Test.YtagpnplggopoeaaGreatDoorT06
import Derived.Test.YtagpnplggopoeaaGreatDoorT01
import Derived.Maps.AppendAt
import Derived.Deep.RegionWith
import Derived.Test.YtagpnplggopoeaaGreatDoorT17
import Derived.Lib.BufferRead
import Derived.Deep.WholeRow
import Derived.Test.YtagpnplggopoeaaGreatDoorT02
import Derived.Deep.QuietTactic
import Derived.Sort.Walk0
set_option maxRecDepth 100000
set_option maxHeartbeats 4000000
namespace Go.Proofs.YtagpnplggopoeaaGreatDoor
open Go.RowKit
namespace Jn
def AtOr (n:Nat) (i:Int):Prop:=i=-1∨∃ k:Nat,k < n∧i=(k:Int)
theorem yei (s:ByteArray) (c:UInt8):AtOr s.size (firstIdx s c):=by
 unfold firstIdx AtOr;cases h:(List.range s.size).find? fun i=>s[i]! == c with
 | none=>exact Or.inl rfl
 | some i=>exact Or.inr ⟨i,List.mem_range.1 (List.mem_of_find?_eq_some h),rfl⟩
def ydb (n:Nat) (w:World) (e:Ending) (w':World):Prop:=(∃ i,AtOr n i∧e=.returned (.int .i64 i))∧w'=w
theorem ye5 (s:ByteArray) (w:World):Calls Tryz.prog 221 #[.string s,.string ⟨#[10]⟩] w (ydb s.size w):=by
 have HL:Hid (Calls Tryz.prog 211 #[.string s,.int .u8 ((⟨#[10]⟩:ByteArray)[0].toNat:Int)] w fun e w'=>e=.returned (.int .i64 (firstIdx s 10))∧w=w'):=Lg.zc3 s 10 w
 have HF:Hid (_):=yei s 10;have HS:Hid ((([10]:List UInt8) == s.toList)=true→0 < s.size):=fun h=>by
  rw[beq_iff_eq,ByteArray.toList_eq] at h
  have:s.data.toList.length=1:=by rw[← h]<;>rfl
  have h2:s.data.size=1:=by rw[← Array.length_toList];exact this
  show 0 < s.data.size
  omega
 generalize firstIdx s 10=fi at *;go_enter Tryz.func221,Tryz.ntmps221
 go_wp2_with fail
 all_goals first
  | (go_ret;exact ⟨⟨0,Or.inr ⟨0,HS.out (by assumption),rfl⟩,rfl⟩,rfl⟩)
  | (refine Calls.mono HL.out ?_;rintro e w1 ⟨rfl,rfl⟩;go_wp2_with fail;go_ret;exact ⟨⟨fi,HF.out,rfl⟩,rfl⟩)
def yeo (l:List UInt8) (w:World) (e:Ending) (w':World):Prop:=(∃ (a b:List UInt8) (f:Bool),a.length≤l.length∧b.length≤l.length∧(f=true→b.length < l.length)∧e=.returned (.tuple #[.string ⟨a.toArray⟩,.string ⟨b.toArray⟩,.bool f]))∧Below w.heap.size w w'
theorem results_tmp3 {fn:Func} {t u v:Tmp} (h:fn.results=#[.tmp t,.tmp u,.tmp v]) (tmps:Array Value) (P:Program) (w:World) :
  (results fn tmps).run P w=.ok (.tuple #[tmps.getD t undef,tmps.getD u undef,tmps.getD v undef]) w:=by
 simp[results,h]
theorem yfv (l:List UInt8) (w:World) (hl:l.length≤maxLen):Calls Tryz.prog 189 #[.string ⟨l.toArray⟩,.string ⟨#[10]⟩] w (yeo l w):=by
 have HI:Hid (_):=ye5 ⟨l.toArray⟩ w;have hz:=Cd.zyu l;have HX:Hid (∀ n m,(⟨l.toArray⟩:ByteArray).extract n m=⟨((l.drop n).take (m - n)).toArray⟩):=Cd.ya0 l;rw[hz] at HI;generalize hS:(⟨l.toArray⟩:ByteArray)=S at *;go_enter Tryz.func189,Tryz.ntmps189
 go_wp2_with fail;refine Calls.mono HI.out ?_;rintro e w1 ⟨⟨i,hi,rfl⟩,rfl⟩;clear HI;rcases hi with rfl | ⟨k,hk,rfl⟩
 ·go_wp2_with fail
  (try simp only[Exit.inBlock,Exit.then])
  refine bodyPost_ret (results_tmp3 rfl _ _ _) rfl ?_;exact ⟨⟨l,[],false,Nat.le_refl _,Nat.zero_le _,(fun h=>by cases h),by rw[hS]<;>rfl⟩,Below.refl _ _⟩
 ·have hw:IntKind.i64.wrap ((k:Int)+1)=(k:Int)+1:=by rw[IntKind.wrap_i64];unfold maxLen at hl;omega
  have hk1:(k:Int)≤(l.length:Int):=by omega
  have hk2:(k:Int)+1≤(l.length:Int):=by omega
  have e1:=HX.out 0 k;have e2:=HX.out (k+1) l.length;clear hl;go_wp2_with fail;go_region
  all_goals go_wp2_with fail
  all_goals
   (try simp only[Exit.inBlock,Exit.then])
   refine bodyPost_ret (results_tmp3 rfl _ _ _) rfl ?_;refine ⟨⟨_,_,true,?_,?_,fun _=>?_,rfl⟩,(Below.refl _ _).drew⟩
   ·exact Nat.le_trans (List.length_take_le _ _) (by omega)
   ·exact Nat.le_trans (List.length_take_le _ _) (by omega)
   ·exact Nat.lt_of_le_of_lt (List.length_take_le _ _) (by omega)
theorem yf5 (l:List UInt8) (w:World) (hl:l.length≤maxLen):Calls Tryz.prog 140 #[.string ⟨l.toArray⟩,.string ⟨#[10]⟩] w (yeo l w):=by
 have HI:Hid (_):=yfv l w hl;generalize hS:(⟨l.toArray⟩:ByteArray)=S at *;go_enter Tryz.func140,Tryz.ntmps140
 go_wp2_with fail;refine Calls.mono HI.out ?_;rintro e w1 ⟨⟨a,b,f,h1,h2,h3,rfl⟩,hb⟩;have HB:Hid (_):=hb;clear HI hb;generalize hA:(⟨a.toArray⟩:ByteArray)=A at *;generalize hB:(⟨b.toArray⟩:ByteArray)=B at *;go_wp2_with fail
 (try simp only[Exit.inBlock,Exit.then])
 refine bodyPost_ret (results_tmp3 rfl _ _ _) rfl ?_;exact ⟨⟨a,b,f,h1,h2,h3,by rw[hA,hB]<;>rfl⟩,HB.out⟩
open Go.RowKit
theorem yef (s:ByteArray) (c:Int) (w:World) (hs:s.size≤maxLen):Calls Tryz.prog 171 #[.string s,.int .u8 c] w (ydb s.size w):=by
 unfold maxLen at hs;go_enter Tryz.func171,Tryz.ntmps171
 have hw0:IntKind.i64.wrap ((s.size:Int) - 1)=(s.size:Int) - 1:=by rw[IntKind.wrap_i64];omega
 go_wp2_with fail;go_loopw [5] (fun i wr=>wr=w∧∃ k:Nat,k≤s.size∧i=.int .i64 ((k:Int) - 1)) (fun i _=>(intOf i+1).toNat)
 case atStart=>exact ⟨rfl,s.size,Nat.le_refl _,rfl⟩
 case round =>
  obtain ⟨rfl,k,hk,rfl⟩:=hrel;clear hw0;cases k with
  | zero =>
   have hz:¬ ((0:Int)≤((0:Nat):Int) - 1):=by omega
   go_wp2_with fail;go_ret;exact ⟨⟨-1,Or.inl rfl,rfl⟩,rfl⟩
  | succ k =>
   have e:(((k+1:Nat):Int) - 1)=(k:Int):=by omega
   rw[e];have hlt:(k:Int) < (s.size:Int):=by omega
   have hw1:IntKind.i64.wrap ((k:Int) - 1)=(k:Int) - 1:=by rw[IntKind.wrap_i64];omega
   clear e;go_wp2_with fail
   all_goals first
    | (go_ret;exact ⟨⟨(k:Int),Or.inr ⟨k,by omega,rfl⟩,rfl⟩,rfl⟩)
    | exact ⟨⟨trivial,k,by omega,rfl⟩,by simp[intOf]⟩
theorem ydw (s:ByteArray) (c:UInt8) (w:World) (hs:s.size≤maxLen):Calls Tryz.prog 129 #[.string s,.string ⟨#[c]⟩] w (ydb s.size w):=by
 have HL:Hid (∀ x:Int,Calls Tryz.prog 171 #[.string s,.int .u8 x] w (ydb s.size w)):=fun x=>yef s x w hs
 have hz:(⟨#[c]⟩:ByteArray).size=1:=rfl;generalize hC:(⟨#[c]⟩:ByteArray)=C at *;have hz2:(C.size:Int)=1:=by rw[hz]<;>rfl
 have hz3:0 < C.size:=by omega
 clear hC;go_enter Tryz.func129,Tryz.ntmps129
 go_wp2_with fail;refine Calls.mono (HL.out _) ?_;rintro e w1 ⟨⟨i,hi,rfl⟩,rfl⟩;clear HL;go_wp2_with fail;go_ret;exact ⟨⟨i,hi,rfl⟩,rfl⟩
def yen (w:World) (e:Ending) (w':World):Prop:=(∃ b,e=.returned (.bool b))∧Below w.heap.size w w'
theorem yea (s p:ByteArray) (w:World) (hs:s.size≤maxLen):Calls Tryz.prog 127 #[.string s,.string p] w (yen w):=by
 unfold maxLen at hs;by_cases hlt:p.size≤s.size
 ·have hi:(p.size:Int)≤(s.size:Int):=by omega
  have hw:IntKind.i64.wrap ((s.size:Int) - (p.size:Int))=((s.size - p.size:Nat):Int):=by rw[IntKind.wrap_i64];omega
  have hi2:((s.size - p.size:Nat):Int)≤(s.size:Int):=by omega
  go_enter Tryz.func127,Tryz.ntmps127
  go_wp2_with fail
  all_goals (go_ret;exact ⟨⟨_,rfl⟩,Below.refl _ _⟩)
 ·have hi:¬ ((p.size:Int)≤(s.size:Int)):=by omega
  go_enter Tryz.func127,Tryz.ntmps127
  go_wp2_with fail;go_ret;exact ⟨⟨_,rfl⟩,Below.refl _ _⟩
theorem yer (s p:ByteArray) (w:World) (hs:s.size≤maxLen):Calls Tryz.prog 49 #[.string s,.string p] w (yen w):=by
 have HL:Hid (_):=yea s p w hs;go_enter Tryz.func49,Tryz.ntmps49
 go_wp2_with fail;refine Calls.mono HL.out ?_;rintro e w1 ⟨⟨b,rfl⟩,hb⟩;have HB:Hid (_):=hb;clear hb HL;go_wp2_with fail;go_ret;exact ⟨⟨b,rfl⟩,HB.out⟩
open Go.RowKit
theorem yd6 (l p:List UInt8) (w:World) (hl:l.length≤maxLen) (hp:p.length≤1000) :
  Calls Tryz.prog 173 #[.string ⟨l.toArray⟩,.string ⟨p.toArray⟩] w fun e w'=>(∃ r:List UInt8,r.length≤l.length∧e=.returned (.string ⟨r.toArray⟩))∧w'=w:=by
 have HP:Hid (_):=Cd.ybi l p w hl hp;have e1:=Cd.zyu l;have e2:=Cd.zyu p;have e3:(⟨l.toArray⟩:ByteArray).extract p.length l.length=⟨(l.drop p.length).toArray⟩:=by rw[Cd.ya0,List.take_of_length_le (by simp)]
 by_cases he:l.take p.length=p
 ·have hd:decide (l.take p.length=p)=true:=decide_eq_true he;have hlt:p.length≤l.length:=by have:=congrArg List.length he;rw[List.length_take] at this;omega
  rw[hd] at HP;clear hd he;have hr:(l.drop p.length).length≤l.length:=by simp
  generalize l.drop p.length=r at *;generalize hX:(⟨r.toArray⟩:ByteArray)=X at *;generalize (⟨l.toArray⟩:ByteArray)=S at *;generalize (⟨p.toArray⟩:ByteArray)=Q at *;have hi2:(Q.size:Int)≤(S.size:Int):=by omega
  go_enter Tryz.func173,Tryz.ntmps173
  go_wp2_with fail;refine Calls.mono HP.out ?_;rintro e w1 ⟨rfl,rfl⟩;go_wp2_with fail;go_ret;exact ⟨⟨r,hr,by rw[hX]<;>rfl⟩,rfl⟩
 ·have hd:decide (l.take p.length=p)=false:=decide_eq_false he;rw[hd] at HP;clear hd he e3;generalize hX:(⟨l.toArray⟩:ByteArray)=S at *;generalize (⟨p.toArray⟩:ByteArray)=Q at *;go_enter Tryz.func173,Tryz.ntmps173
  go_wp2_with fail;refine Calls.mono HP.out ?_;rintro e w1 ⟨rfl,rfl⟩;go_wp2_with fail;go_ret;exact ⟨⟨l,Nat.le_refl _,by rw[hX]<;>rfl⟩,rfl⟩
theorem ydr (l p:List UInt8) (w:World) (hl:l.length≤maxLen) (hp:p.length≤1000) :
  Calls Tryz.prog 130 #[.string ⟨l.toArray⟩,.string ⟨p.toArray⟩] w fun e w'=>(∃ r:List UInt8,r.length≤l.length∧e=.returned (.string ⟨r.toArray⟩))∧w'=w:=by
 have HP:Hid (_):=yd6 l p w hl hp;generalize hX:(⟨l.toArray⟩:ByteArray)=S at *;generalize (⟨p.toArray⟩:ByteArray)=Q at *;go_enter Tryz.func130,Tryz.ntmps130
 go_wp2_with fail;refine Calls.mono HP.out ?_;rintro e w1 ⟨⟨r,hr,rfl⟩,rfl⟩;generalize hY:(⟨r.toArray⟩:ByteArray)=Y at *;go_wp2_with fail;go_ret;exact ⟨⟨r,hr,by rw[hY]<;>rfl⟩,rfl⟩
open Go.RowKit
def B64 (v:Int):Prop:=-9223372036854775808≤v∧v≤9223372036854775807
theorem ydq (x:Int):B64 (wrap64 x):=by
 unfold B64 wrap64;omega
def qy0 (w:World) (e:Ending) (w':World):Prop:=(∃ n b,B64 n∧e=.returned (.tuple #[.int .i64 n,.bool b]))∧w'=w
theorem yda:B64 0:=by
 unfold B64;omega
theorem ydl (l:List UInt8) (w:World) (hl:l.length≤maxLen) :
  Calls Tryz.prog 142 #[.string ⟨l.toArray⟩] w (qy0 w):=by
 have HC:Hid (_):=Cd.zuu l [45] w hl (by decide)
 have HT:Hid (_):=ydr l [43] w hl (by decide)
 obtain ⟨r,mi,hr,hc⟩:∃ (r:List UInt8) (mi:Bool),r.length≤maxLen∧((mi=true∧Cd.cutV l [45]=.tuple #[.string ⟨r.toArray⟩,.bool true])∨(mi=false∧r=l∧Cd.cutV l [45]=.tuple #[.string ⟨l.toArray⟩,.bool false])):=by
  by_cases he:l.take [(45:UInt8)].length=[45]
  ·exact ⟨l.drop [(45:UInt8)].length,true,by simp;omega,Or.inl ⟨rfl,if_pos he⟩⟩
  ·exact ⟨l,false,hl,Or.inr ⟨rfl,rfl,if_neg he⟩⟩
 refine Or.elim hc ?ga ?gb
 case' ga =>
  rintro ⟨rfl,h⟩;rw[h] at HC;have hz:=Cd.zyu r;clear hc h HT;generalize (⟨l.toArray⟩:ByteArray)=S at *;generalize (⟨r.toArray⟩:ByteArray)=R at *;go_enter Tryz.func142,Tryz.ntmps142
  go_wp2_with fail;refine Calls.mono HC.out ?_;rintro e w1 ⟨rfl,rfl⟩;clear HC;go_wp2_with fail
 case' gb =>
  rintro ⟨rfl,rfl,h⟩;rw[h] at HC;clear hc h;generalize (⟨r.toArray⟩:ByteArray)=S at *;go_enter Tryz.func142,Tryz.ntmps142
  go_wp2_with fail;refine Calls.mono HC.out ?_;rintro e w1 ⟨rfl,rfl⟩;clear HC;go_wp2_with fail;refine Calls.mono HT.out ?_;rintro e w1 ⟨⟨r,hr2,rfl⟩,rfl⟩;have hr3:r.length≤maxLen:=Nat.le_trans hr2 hr;clear HT hr hr2 hl;have hr:=hr3;have hz:=Cd.zyu r;generalize (⟨r.toArray⟩:ByteArray)=R at *;clear hr3;go_wp2_with fail
 all_goals
  go_loopw [6,20] (fun n i wr=>wr=w1∧∃ (v:Int) (j:Nat),j≤r.length∧B64 v∧n=.int .i64 v∧i=.int .i64 j) (fun _ i _=>r.length - (intOf i).toNat)
  case atStart=>exact ⟨rfl,0,0,by omega,yda,rfl,rfl⟩
  case round =>
   obtain ⟨rfl,v,j,hj,hv,rfl,rfl⟩:=hrel;have HV:Hid (B64 v):=hv;clear hv;by_cases hlt:j < r.length
   ·have hlt':(j:Int) < (r.length:Int):=by omega
    have hw1:wrap64 ((j:Int)+1)=(j:Int)+1:=by unfold maxLen at hr;unfold wrap64;omega
    have hw2:IntKind.i64.wrap ((j:Int)+1)=(j:Int)+1:=by rw[IntKind.wrap_i64];unfold maxLen at hr;omega
    go_upto_region 8 with fail
    go_cut [8] (fun v8 wx=>wx=wr∧∃ dv:Int,v8=.int .i64 dv)
    case first =>
     go_wp2_with fail
     all_goals go_meet
     all_goals exact ⟨rfl,_,rfl⟩
    case rest =>
     obtain ⟨rfl,dv,rfl⟩:=hcut;go_wp2_with fail
     all_goals first
      | exact ⟨⟨trivial,wrap64 _,j+1,(by omega),ydq _,rfl,(by go_num)⟩,(by simp[intOf];omega)⟩
      | (go_ret2;exact ⟨⟨_,_,yda,rfl⟩,rfl⟩)
   ·obtain rfl:j=r.length:=by omega
    have hne:¬ ((r.length:Int) < (r.length:Int)):=by omega
    go_wp2_with fail
    all_goals
     go_ret2
     first
      | exact ⟨⟨_,_,yda,rfl⟩,rfl⟩
      | exact ⟨⟨_,_,HV.out,rfl⟩,rfl⟩
      | exact ⟨⟨_,_,ydq _,rfl⟩,rfl⟩
open Go.RowKit
structure Je (w:World) (E:Nat→Addr):Prop where
 s:Lg.Snt w E
 t:w.cell? ⟨2,0,none⟩=some (.iface 359 (.pointer (some (E 10))))
 b:∃ c t,w.heap[(E 10).block]?=some (.cells c t (0,0))
 ne:∀ i,1≤i→i≤9→E i≠E 10
theorem Je.below {w w':World} {E:Nat→Addr} (h:Je w E) (k:Below w.heap.size w w'):Je w' E:=by
 refine ⟨h.s.below k,?_,?_,h.ne⟩
 ·rw[k.cell (p:=⟨2,0,none⟩) (lt_of_cell h.t)];exact h.t
 ·obtain ⟨c,t,hb⟩:=h.b;exact ⟨c,t,by rw[k.block _ (Array.getElem?_eq_some_iff.1 hb).1];exact hb⟩
def FJ (w:World) (f:Nat) (ev:Value):Prop:=∃ s,w.heap[f]?=some (.cells #[.string s,ev] 100)
theorem FJ.below {w w':World} {f:Nat} {ev:Value} (h:FJ w f ev) (k:Below w.heap.size w w'):FJ w' f ev:=by
 obtain ⟨s,hs⟩:=h;exact ⟨s,by rw[k.block _ (Array.getElem?_eq_some_iff.1 hs).1];exact hs⟩
theorem ycy {w:World} {o:Obj}:(w.alloc o).heap[w.heap.size]?=some o:=by
 show (w.heap.push o)[w.heap.size]?=_
 rw[Array.getElem?_push,if_pos rfl]
def yfb (E:Nat→Addr) (l:List UInt8) (w:World) (e:Ending) (w':World):Prop:=Below w.heap.size w w' ∧
 ((∃ a b:List UInt8,a.length≤l.length∧b.length < l.length∧e=.returned (.tuple #[.string ⟨a.toArray⟩,.string ⟨b.toArray⟩,.nilIface])) ∨
  (∃ f,e=.returned (.tuple #[.string ⟨#[]⟩,.string ⟨#[]⟩,.iface 98 (.pointer (some ⟨f,0,none⟩))])∧FJ w' f (.iface 359 (.pointer (some (E 10))))))
theorem ydv (E:Nat→Addr) (l:List UInt8) (w:World) (hl:l.length≤maxLen) (g:Je w E):Calls Tryz.prog 80 #[.string ⟨l.toArray⟩] w (yfb E l w):=by
 have HI:Hid (_):=yf5 l w hl;have G0:Hid (_):=g;clear g;generalize hS:(⟨l.toArray⟩:ByteArray)=S at *;go_enter Tryz.func80,Tryz.ntmps80
 go_wp2_with fail;refine Calls.mono HI.out ?_;rintro e w1 ⟨⟨a,b,f,h1,h2,h3,rfl⟩,hb⟩;have HB:Hid (_):=hb;have c1:=(G0.out.below hb).t;clear HI hb;generalize hA:(⟨a.toArray⟩:ByteArray)=A at *;generalize hB:(⟨b.toArray⟩:ByteArray)=B at *;cases f with
 | true =>
  have h4:=h3 rfl;go_wp2_with fail
  (try simp only[Exit.inBlock,Exit.then])
  refine bodyPost_ret (results_tmp3 rfl _ _ _) rfl ?_;exact ⟨HB.out,Or.inl ⟨a,b,h1,h4,by rw[hA,hB]<;>rfl⟩⟩
 | false =>
  go_wp2_with fail;go_region
  all_goals go_wp2_with fail
  all_goals
   (try simp only[Exit.inBlock,Exit.then])
   refine bodyPost_ret (results_tmp3 rfl _ _ _) rfl ?_;exact ⟨(HB.out.alloc HB.out.size _).drew,Or.inr ⟨_,rfl,_,ycy⟩⟩
open Go.RowKit
theorem yf4:(Tryz.prog.info? 3).map (fun i=>(i.zero,i.size,i.bytes))=some (some (.int .i64 0),1,8):=by kernel_rfl
def iC (xs:List Int):List Value:=xs.map fun x=>.int .i64 x
def strN:Value→Nat
 | .string s=>s.size
 | _=>0
theorem yft (t:Value) (w:World):(binOp BinOp.eql 55 .nilIface (.iface 359 t)).run Tryz.prog w=.ok (.bool false) w:=by kernel_rfl
theorem yff (t:Value) (w:World):Calls Tryz.prog 40 #[.nilIface,.iface 359 t] w fun e w'=>e=.returned (.bool false)∧w'=w:=by
 have he:=yft t w;go_enter Tryz.func40,Tryz.ntmps40
 go_wp2_with fail;go_ret;exact ⟨rfl,rfl⟩
def qqo (E:Nat→Addr) (l:List UInt8) (w:World) (e:Ending) (w':World):Prop:=Below w.heap.size w w' ∧
 ((∃ v xs,e=.returned (.tuple #[v,.nilIface])∧w'.ownsRow w.heap.size 3 1 v xs.length (iC xs)∧xs.length≤l.length∧∀ x∈xs,B64 x) ∨
  (∃ f,e=.returned (.tuple #[.slice none 0 0,.iface 98 (.pointer (some ⟨f,0,none⟩))])∧FJ w' f (.iface 359 (.pointer (some (E 9))))))
theorem ydo (E:Nat→Addr) (l:List UInt8) (w:World) (hl:l.length≤10000000) (g:Je w E):Calls Tryz.prog 82 #[.string ⟨l.toArray⟩] w (qqo E l w):=by
 have G0:Hid (_):=g;obtain ⟨i0,hi,hz0,hz1,hz2⟩:=info_parts yf4;clear g;generalize hS:(⟨l.toArray⟩:ByteArray)=S at *;go_enter Tryz.func82,Tryz.ntmps82
 go_wp2_with fail;go_loopw [0,4] (fun sl va wr=>∃ (s:List UInt8) (xs:List Int),sl=.string ⟨s.toArray⟩∧s.length+xs.length≤l.length∧Hid (Below w.heap.size w wr∧wr.ownsRow w.heap.size 3 1 va xs.length (iC xs)∧∀ x∈xs,B64 x)) (fun sl _ _=>strN sl)
 case atStart=>exact ⟨l,[],by rw[hS],by simp,Below.refl _ _,World.ownsRow_nil _ _ _ _,fun x hx=>by cases hx⟩
 case round =>
  obtain ⟨s,xs,rfl,hsl,hr⟩:=hrel;have G1:Hid (Je wr E):=G0.out.below hr.out.1;have HL:Hid (_):=ydv E s wr (by unfold maxLen;omega) G1.out
  have hms:strN (.string ⟨s.toArray⟩)=s.length:=Cd.zyu s;obtain ⟨va0,vn,vc,rfl⟩:=Ref.qad hr.out.2.1;generalize hQ:(⟨s.toArray⟩:ByteArray)=Q at *;go_wp2_with fail;refine Calls.mono HL.out ?_;rintro e w1 ⟨b1,⟨a,b,ha,hb,rfl⟩ | ⟨f,rfl,hf⟩⟩
  ·have c1:=(G1.out.below b1).t;have c9:=(G1.out.below b1).s.v9;have HF:Hid (Below w.heap.size w w1∧w1.ownsRow w.heap.size 3 1 (.slice va0 vn vc) xs.length (iC xs)):=⟨hr.out.1.trans (b1.mono hr.out.1.size),qah hr.out.2.1 ((Tch.refl (fun _=>False) wr).below b1) (fun _ _ h=>h)⟩
   have HN:Hid (_):=yff (.pointer (some (E 10))) w1;have HLA:Hid (_):=ydw ⟨a.toArray⟩ 33 w1 (by rw[Cd.zyu];unfold maxLen;omega)
   have hza:=Cd.zyu a;have HX:Hid (∀ n,(⟨a.toArray⟩:ByteArray).extract n a.length=⟨(a.drop n).toArray⟩):=fun n=>by rw[Cd.ya0,List.take_of_length_le (by simp)]
   have HNU:Hid (∀ n,Calls Tryz.prog 142 #[.string ⟨(a.drop n).toArray⟩] w1 (qy0 w1)):=fun n=>ydl (a.drop n) w1 (by rw[List.length_drop];unfold maxLen;omega)
   rw[hza] at HLA;clear b1 HL;generalize hA:(⟨a.toArray⟩:ByteArray)=A at *;generalize hB:(⟨b.toArray⟩:ByteArray)=B at *;go_wp2_with fail;refine Calls.mono HN.out ?_;rintro e w2 ⟨rfl,rfl⟩;clear HN;go_wp2_with fail;refine Calls.mono HLA.out ?_;rintro e w3 ⟨⟨i,hi,rfl⟩,rfl⟩;clear HLA;obtain ⟨k,hk,hki,hkw⟩:∃ k:Nat,k≤a.length∧IntKind.i64.wrap (i+1)=(k:Int)∧(i < 0∨0≤i):=by
    rcases hi with rfl | ⟨k,hk,rfl⟩
    ·exact ⟨0,Nat.zero_le _,by rw[IntKind.wrap_i64]<;>rfl,Or.inl (by decide)⟩
    ·exact ⟨k+1,hk,by rw[IntKind.wrap_i64];omega,Or.inr (by omega)⟩
   have hk2:(k:Int)≤(a.length:Int):=by omega
   have hex:=HX.out k;have HNk:Hid (_):=HNU.out k;generalize (⟨(a.drop k).toArray⟩:ByteArray)=D at *;clear hi HNU HX;go_wp2_with fail;refine Calls.mono HNk.out ?_;rintro e w4 ⟨⟨n,bk,hn,rfl⟩,rfl⟩;clear HNk;have HNB:Hid (B64 n):=hn;clear hn;rcases hkw with hneg | hpos
   ·go_wp2_with fail;go_region
    all_goals go_wp2_with fail
    all_goals
     go_ret2;exact ⟨(HF.out.1.alloc HF.out.1.size _).drew,Or.inr ⟨_,rfl,_,ycy⟩⟩
   ·have hpos2:¬ i < 0:=by omega
    cases bk with
    | false =>
     go_wp2_with fail;go_region
     all_goals go_wp2_with fail
     all_goals
      go_ret2;exact ⟨(HF.out.1.alloc HF.out.1.size _).drew,Or.inr ⟨_,rfl,_,ycy⟩⟩
    | true =>
     have hsz:=HF.out.1.size;have hxl:xs.length≤10000000:=by omega
     have hmb:strN (.string B) < strN (.string Q):=by rw[hms,← hB];show (⟨b.toArray⟩:ByteArray).size < _;rw[Cd.zyu];exact hb
     go_wp2_with (first
      | (at_builtin;refine wpList_append_own_at _ rfl _ _ 22 rfl w.heap.size 3 i0 (.int .i64 0) 1 8 Tryz.underlying22 hi hz0 hz1 hz2 rfl (by decide) _ _ _ rfl (HF.out.2.alloc _) ⟨w4.heap.size,0,none⟩ 1 1 [.int .i64 n] rfl rfl ?c1 ?c2 ?c3 ?c4 ?c5 ?_)
      | fail)
     case c1 =>
      intro j u hj;match j,hj with
      | 0,hj=>simp at hj;subst hj;simp[Addr.add]
     case c2=>intro u hu;simp at hu;subst hu;rfl
     case c3=>unfold maxLen;omega
     case c4=>omega
     case c5=>simp;omega
     ·intro v' w5 hown' hgrow _ hloc;have HQ:Hid (Below w.heap.size w w5∧w5.ownsRow w.heap.size 3 1 v' (xs++[n]).length (iC (xs++[n]))∧∀ x∈xs++[n],B64 x):=by
       refine ⟨HF.out.1.trans ?_,?_,fun x hx=>(List.mem_append.1 hx).elim (hr.out.2.2 x) (fun h=>by rw[List.mem_singleton.1 h];exact HNB.out)⟩
       ·have hT:Tch (fun k=>(Value.slice va0 vn vc).ownBlock=some k) w4 w5:=((Tch.refl _ _).alloc _).grown hgrow fun k hk=>Or.inl hk
        exact hT.qbg hsz fun k hk=>(HF.out.2.lt k hk).1
       ·rw[List.length_append];have e:iC (xs++[n])=iC xs++[.int .i64 n]:=by simp[iC]
        rw[e];exact hown'
      clear hown' hgrow hloc;go_wp2;exact ⟨⟨b,xs++[n],by rw[hB],by rw[List.length_append];simp only[List.length_cons,List.length_nil];omega,HQ.out⟩,hmb⟩
  ·have c1:=(G1.out.below b1).t;have HF:Hid (FJ w1 f _∧Below w.heap.size w w1∧w1.ownsRow w.heap.size 3 1 (.slice va0 vn vc) xs.length (iC xs)):=⟨hf,hr.out.1.trans (b1.mono hr.out.1.size),qah hr.out.2.1 ((Tch.refl (fun _=>False) wr).below b1) (fun _ _ h=>h)⟩
   have hc2:w1.cell? ⟨f,1,none⟩=some (.iface 359 (.pointer (some (E 10)))):=by
    obtain ⟨st,hst⟩:=hf;simp[World.cell?,hst]
   have HI:Hid (_):=ydy f (E 10) w1 hc2;clear b1 hf HL hc2;go_wp2_with fail;refine Calls.mono HI.out ?_;rintro e w2 ⟨rfl,rfl⟩;go_wp2_with fail;go_ret2;exact ⟨HF.out.2.1,Or.inl ⟨_,xs,rfl,HF.out.2.2,by omega,hr.out.2.2⟩⟩
open Go.RowKit
def yfc (n:Nat) (w:World) (e:Ending) (w':World):Prop:=Below w.heap.size w w'∧∃ h:List UInt8,h.length≤2 * n+4∧e=.returned (.string ⟨h.toArray⟩)
theorem yfk {w:World} {B:Nat} {v:Value} {o:List UInt8} (h:w.ownsRow B 5 1 v o.length (Lg.qbk o)):(convert 184 9 v).run Tryz.prog w=.ok (.string ⟨o.toArray⟩) w:=by
 rcases h.2 with ⟨rfl,h2⟩ | ⟨g,cap,cur,rfl,hB,hh,hn,hm,hz,ht⟩
 ·obtain rfl:o=[]:=List.eq_nil_of_length_eq_zero h2;exact Lib.run_convert_nil_bytes w _ _ 5 0 Tryz.underlying184 Tryz.underlying5 Tryz.underlying9
 ·refine run_convert_bytes_back (P:=Tryz.prog) w _ _ 5 ⟨g,0,none⟩ cap o Tryz.underlying184 Tryz.underlying5 Tryz.underlying9 (Lib.bytes_of_row hh ?_);rw[Nat.mul_one] at ht;exact ht
theorem yc2 (s:ByteArray) (w:World) (hs:s.size≤1000000):Calls Tryz.prog 41 #[.string s] w (yfc s.size w):=by
 obtain ⟨i0,hi,hz0,hz1,hz2⟩:=info_parts Lg.zau;have S0:Hid (Below w.heap.size w (w.alloc (.cells #[.int .u8 34] 5))∧(w.alloc (.cells #[.int .u8 34] 5)).ownsRow w.heap.size 5 1 (.slice (some ⟨w.heap.size,0,none⟩) 1 1) ([34]:List UInt8).length (Lg.qbk [34])) :=
  ⟨(Below.refl _ _).alloc (Nat.le_refl _) _,World.ownsRow_lit (base:=w.heap.size) (e:=5) (size:=1) w #[.int .u8 34] 1 (Nat.le_refl _) (by decide) rfl⟩
 go_enter Tryz.func41,Tryz.ntmps41
 go_wp2_with fail;go_loopw [3,9] (fun v i wr=>∃ (j:Nat) (o:List UInt8),j≤s.size∧i=.int .i64 j∧o.length≤2 * j+1∧Hid (Below w.heap.size w wr∧wr.ownsRow w.heap.size 5 1 v o.length (Lg.qbk o))) (fun _ i _=>s.size - (intOf i).toNat)
 case atStart=>exact ⟨0,[34],by omega,rfl,by simp,S0.out⟩
 case round =>
  obtain ⟨j,o,hj,rfl,ho,hr⟩:=hrel;obtain ⟨va,vn,vc,rfl⟩:=Ref.qad hr.out.2;have hzr:w.heap.size≤wr.heap.size:=hr.out.1.size;clear S0;by_cases hlt:j < s.size
  ·have hlt':(j:Int) < (s.size:Int):=by omega
   generalize hc:s[j]=c at *;by_cases h10:c=10
   ·subst h10;go_wp2_with (first
     | (at_builtin;refine Lib.wpList_append_own_string _ rfl _ _ 184 9 rfl w.heap.size 5 i0 Tryz.underlying184 Tryz.underlying9 hi hz0 hz1 hz2 _ _ _ rfl hr.out.2 ⟨#[92,110]⟩ rfl ?d1 ?d2 ?d3 ?_)
     | fail)
    case d1=>unfold maxLen;show o.length+2≤_;omega
    case d2=>show o.length+2≤_;omega
    case d3=>omega
    ·intro v' w5 hown' hgrow _;have HQ:Hid (Below w.heap.size w w5∧w5.ownsRow w.heap.size 5 1 v' (o++[92,110]).length (Lg.qbk (o++[92,110]))):=by
      refine ⟨hr.out.1.trans ?_,?_⟩
      ·have hT:Tch (fun k=>(Value.slice va vn vc).ownBlock=some k) wr w5:=(Tch.refl _ _).grown hgrow fun k hk=>Or.inl hk
       exact hT.qbg hzr fun k hk=>(hr.out.2.lt k hk).1
      ·rw[List.length_append,Lg.qeu];exact hown'
     clear hown' hgrow;go_wp2;exact ⟨⟨j+1,o++[92,110],by omega,by go_num,by rw[List.length_append];simp only[List.length_cons,List.length_nil];omega,HQ.out⟩,by simp[intOf];omega⟩
   ·have h10b:((c.toNat:Int) == 10)=false:=by
     rw[beq_eq_false_iff_ne];intro h;exact h10 (UInt8.toNat_inj.1 (by show c.toNat=10;omega))
    by_cases h92:c=92
    ·subst h92;clear h10b;go_wp2_with (first
      | (at_builtin;refine wpList_append_own_at _ rfl _ _ 184 rfl w.heap.size 5 i0 (.int .u8 0) 1 1 Tryz.underlying184 hi hz0 hz1 hz2 rfl (by decide) _ _ _ rfl (hr.out.2.alloc _) ⟨wr.heap.size,0,none⟩ 2 2 [.int .u8 92,.int .u8 92] rfl rfl ?p1 ?p2 ?p3 ?p4 ?p5 ?_)
      | fail)
     case p1 =>
      intro j u hj;match j,hj with
      | 0,hj=>simp at hj;subst hj;simp[Addr.add]
      | 1,hj=>simp at hj;subst hj;simp[Addr.add]
     case p2=>intro u hu;simp at hu;rcases hu with rfl | rfl<;>rfl
     case p3=>unfold maxLen;omega
     case p4=>omega
     case p5=>simp;omega
     ·intro v' w5 hown' hgrow _ hloc;have HQ:Hid (Below w.heap.size w w5∧w5.ownsRow w.heap.size 5 1 v' (o++[92,92]).length (Lg.qbk (o++[92,92]))):=by
       refine ⟨hr.out.1.trans ?_,?_⟩
       ·have hT:Tch (fun k=>(Value.slice va vn vc).ownBlock=some k) wr w5:=((Tch.refl _ _).alloc _).grown hgrow fun k hk=>Or.inl hk
        exact hT.qbg hzr fun k hk=>(hr.out.2.lt k hk).1
       ·rw[List.length_append,Lg.qeu];exact hown'
      clear hown' hgrow hloc;go_wp2;exact ⟨⟨j+1,o++[92,92],by omega,by go_num,by rw[List.length_append];simp only[List.length_cons,List.length_nil];omega,HQ.out⟩,by simp[intOf];omega⟩
    ·by_cases h34:c=34
     ·subst h34;clear h10b;go_wp2_with (first
       | (at_builtin;refine wpList_append_own_at _ rfl _ _ 184 rfl w.heap.size 5 i0 (.int .u8 0) 1 1 Tryz.underlying184 hi hz0 hz1 hz2 rfl (by decide) _ _ _ rfl (hr.out.2.alloc _) ⟨wr.heap.size,0,none⟩ 2 2 [.int .u8 92,.int .u8 34] rfl rfl ?q1 ?q2 ?q3 ?q4 ?q5 ?_)
       | fail)
      case q1 =>
       intro j u hj;match j,hj with
       | 0,hj=>simp at hj;subst hj;simp[Addr.add]
       | 1,hj=>simp at hj;subst hj;simp[Addr.add]
      case q2=>intro u hu;simp at hu;rcases hu with rfl | rfl<;>rfl
      case q3=>unfold maxLen;omega
      case q4=>omega
      case q5=>simp;omega
      ·intro v' w5 hown' hgrow _ hloc;have HQ:Hid (Below w.heap.size w w5∧w5.ownsRow w.heap.size 5 1 v' (o++[92,34]).length (Lg.qbk (o++[92,34]))):=by
        refine ⟨hr.out.1.trans ?_,?_⟩
        ·have hT:Tch (fun k=>(Value.slice va vn vc).ownBlock=some k) wr w5:=((Tch.refl _ _).alloc _).grown hgrow fun k hk=>Or.inl hk
         exact hT.qbg hzr fun k hk=>(hr.out.2.lt k hk).1
        ·rw[List.length_append,Lg.qeu];exact hown'
       clear hown' hgrow hloc;go_wp2;exact ⟨⟨j+1,o++[92,34],by omega,by go_num,by rw[List.length_append];simp only[List.length_cons,List.length_nil];omega,HQ.out⟩,by simp[intOf];omega⟩
     ·have h92b:((c.toNat:Int) == 92)=false:=by
       rw[beq_eq_false_iff_ne];intro h;exact h92 (UInt8.toNat_inj.1 (by show c.toNat=92;omega))
      have h34b:((c.toNat:Int) == 34)=false:=by
       rw[beq_eq_false_iff_ne];intro h;exact h34 (UInt8.toNat_inj.1 (by show c.toNat=34;omega))
      go_wp2_with (first
       | (at_builtin;refine wpList_append_own_at _ rfl _ _ 184 rfl w.heap.size 5 i0 (.int .u8 0) 1 1 Tryz.underlying184 hi hz0 hz1 hz2 rfl (by decide) _ _ _ rfl (hr.out.2.alloc _) ⟨wr.heap.size,0,none⟩ 1 1 [.int .u8 (c.toNat:Int)] rfl rfl ?r1 ?r2 ?r3 ?r4 ?r5 ?_)
       | fail)
      case r1 =>
       intro j u hj;match j,hj with
       | 0,hj=>simp at hj;subst hj;simp[Addr.add]
      case r2=>intro u hu;simp at hu;subst hu;rfl
      case r3=>unfold maxLen;omega
      case r4=>omega
      case r5=>simp;omega
      ·intro v' w5 hown' hgrow _ hloc;have HQ:Hid (Below w.heap.size w w5∧w5.ownsRow w.heap.size 5 1 v' (o++[c]).length (Lg.qbk (o++[c]))):=by
        refine ⟨hr.out.1.trans ?_,?_⟩
        ·have hT:Tch (fun k=>(Value.slice va vn vc).ownBlock=some k) wr w5:=((Tch.refl _ _).alloc _).grown hgrow fun k hk=>Or.inl hk
         exact hT.qbg hzr fun k hk=>(hr.out.2.lt k hk).1
        ·rw[List.length_append,Lg.qeu];exact hown'
       clear hown' hgrow hloc;go_wp2;exact ⟨⟨j+1,o++[c],by omega,by go_num,by rw[List.length_append];simp only[List.length_cons,List.length_nil];omega,HQ.out⟩,by simp[intOf];omega⟩
  ·obtain rfl:j=s.size:=by omega
   have hne:¬ ((s.size:Int) < (s.size:Int)):=by omega
   go_wp2_with (first
    | (at_builtin;refine wpList_append_own_at _ rfl _ _ 184 rfl w.heap.size 5 i0 (.int .u8 0) 1 1 Tryz.underlying184 hi hz0 hz1 hz2 rfl (by decide) _ _ _ rfl (hr.out.2.alloc _) ⟨wr.heap.size,0,none⟩ 2 2 [.int .u8 34,.int .u8 10] rfl rfl ?z1 ?z2 ?z3 ?z4 ?z5 ?_)
    | fail)
   case z2=>exact ⟨rfl,rfl⟩
   case z3=>unfold maxLen;omega
   case z4=>omega
   case z5=>omega
   ·intro v' w5 hown' hgrow _ hloc;have HQ:Hid (Below w.heap.size w w5∧w5.ownsRow w.heap.size 5 1 v' (o++[34,10]).length (Lg.qbk (o++[34,10]))):=by
     refine ⟨hr.out.1.trans ?_,?_⟩
     ·have hT:Tch (fun k=>(Value.slice va vn vc).ownBlock=some k) wr w5:=((Tch.refl _ _).alloc _).grown hgrow fun k hk=>Or.inl hk
      exact hT.qbg hzr fun k hk=>(hr.out.2.lt k hk).1
     ·rw[List.length_append,Lg.qeu];exact hown'
    clear hown' hgrow hloc;have hcv:=yfk HQ.out.2;obtain ⟨vb,vm,vk,rfl⟩:=Ref.qad HQ.out.2;have hle:(o++[34,10]).length≤2 * s.size+4:=by rw[List.length_append];simp only[List.length_cons,List.length_nil];omega
    generalize o++[34,10]=oo at *;generalize hO:(⟨oo.toArray⟩:ByteArray)=OO at *;go_wp2_with fail;go_ret;exact ⟨HQ.out.1,oo,hle,by rw[hO]<;>rfl⟩
open Go.RowKit
theorem yev (l p:List UInt8) (w:World) (hl:l.length≤maxLen) (hp:p.length≤1000):Calls Tryz.prog 81 #[.string ⟨l.toArray⟩,.string ⟨p.toArray⟩] w fun e w'=>(∃ b,e=.returned (.bool b))∧w'=w:=by
 have HP:Hid (_):=Cd.ybi l p w hl hp;generalize decide (l.take p.length=p)=bb at *;generalize (⟨l.toArray⟩:ByteArray)=S at *;generalize (⟨p.toArray⟩:ByteArray)=Q at *;go_enter Tryz.func81,Tryz.ntmps81
 go_wp2_with fail;refine Calls.mono HP.out ?_;rintro e w1 ⟨rfl,rfl⟩;go_wp2_with fail;go_ret;exact ⟨⟨bb,rfl⟩,rfl⟩
def BadJ (E:Nat→Addr) (w:World) (f:Nat):Prop :=
 (∃ g,FJ w f (.iface 98 (.pointer (some ⟨g,0,none⟩)))∧FJ w g (.iface 359 (.pointer (some (E 10)))))∨FJ w f (.iface 359 (.pointer (some (E 9))))
def zkf (E:Nat→Addr) (l:List UInt8) (w:World) (e:Ending) (w':World):Prop:=Below w.heap.size w w' ∧
 ((∃ v xs,e=.returned (.tuple #[v,.nilIface])∧w'.ownsRow w.heap.size 3 1 v xs.length (iC xs)∧xs.length≤l.length∧∀ x∈xs,B64 x) ∨
  (∃ f,e=.returned (.tuple #[.slice none 0 0,.iface 98 (.pointer (some ⟨f,0,none⟩))])∧BadJ E w' f))
theorem ydk {w:World} {a b:Nat} {e:TypeId} {z n:Nat} {v:Value} {cs:List Value} (h:w.ownsRow a e z v n cs) (hb:b≤a):w.ownsRow b e z v n cs:=by
 obtain ⟨h1,h2⟩:=h;refine ⟨h1,?_⟩;rcases h2 with h2 | ⟨g,cap,cur,k1,k2,k3⟩
 ·exact Or.inl h2
 ·exact Or.inr ⟨g,cap,cur,k1,Nat.le_trans hb k2,k3⟩
theorem qj0 (E:Nat→Addr) (l:List UInt8) (s:ByteArray) (w:World) (hl:l.length≤10000000) (hs:s.size≤400) (g:Je w E):Calls Tryz.prog 39 #[.string ⟨l.toArray⟩,.string s] w (zkf E l w):=by
 have G0:Hid (_):=g;have HL:Hid (_):=ydv E l w (by unfold maxLen;omega) g
 have HP:Hid (∀ p:List UInt8,p.length≤1000→∀ W,Calls Tryz.prog 81 #[.string ⟨l.toArray⟩,.string ⟨p.toArray⟩] W fun e w'=>(∃ b,e=.returned (.bool b))∧w'=W):=fun p hp W=>yev l p W (by unfold maxLen;omega) hp
 clear g;generalize (⟨l.toArray⟩:ByteArray)=S at *;go_enter Tryz.func39,Tryz.ntmps39
 go_wp2_with fail;refine Calls.mono HL.out ?_;rintro e w1 ⟨b1,⟨a,b,ha,hb,rfl⟩ | ⟨f,rfl,hf⟩⟩
 ·have HB:Hid (Below w.heap.size w w1):=b1;have HH:Hid (_):=yc2 s w1 (by omega)
  clear b1 HL;generalize (⟨a.toArray⟩:ByteArray)=A at *;generalize hB:(⟨b.toArray⟩:ByteArray)=B at *;go_wp2_with fail;refine Calls.mono HH.out ?_;rintro e w2 ⟨b2,h,hh,rfl⟩;have HB2:Hid (Below w.heap.size w w2):=HB.out.trans (b2.mono HB.out.size);have HP2:Hid (_):=HP.out h (by omega) w2
  clear b2 HH HB HP;generalize (⟨h.toArray⟩:ByteArray)=H at *;go_wp2_with fail;refine Calls.mono HP2.out ?_;rintro e w3 ⟨⟨bb,rfl⟩,rfl⟩;clear HP2;have c9:=(G0.out.below HB2.out).s.v9;cases bb with
  | true =>
   have HA:Hid (_):=ydo E b w3 (by omega) (G0.out.below HB2.out)
   rw[hB] at HA;go_wp2_with fail;refine Calls.mono HA.out ?_;rintro e w4 ⟨b4,⟨v,xs,rfl,ho,hx,hx2⟩ | ⟨f,rfl,hf⟩⟩
   ·have HF:Hid (zkf E l w (.returned (.tuple #[v,.nilIface])) w4):=⟨HB2.out.trans (b4.mono HB2.out.size),Or.inl ⟨v,xs,rfl,ydk ho HB2.out.size,by omega,hx2⟩⟩
    obtain ⟨v0,v1,v2,rfl⟩:=Ref.qad ho;clear b4 ho hx hx2 HA;go_wp2_with fail;go_ret2;exact HF.out
   ·have HF:Hid (zkf E l w (.returned (.tuple #[.slice none 0 0,.iface 98 (.pointer (some ⟨f,0,none⟩))])) w4):=⟨HB2.out.trans (b4.mono HB2.out.size),Or.inr ⟨f,rfl,Or.inr hf⟩⟩;clear b4 hf HA;go_wp2_with fail;go_ret2;exact HF.out
  | false =>
   go_wp2_with fail;go_region
   all_goals go_wp2_with fail
   all_goals
    go_ret2;exact ⟨(HB2.out.alloc HB2.out.size _).drew,Or.inr ⟨_,rfl,Or.inr ⟨_,ycy⟩⟩⟩
 ·have HF:Hid (Below w.heap.size w w1∧FJ w1 f (.iface 359 (.pointer (some (E 10))))):=⟨b1,hf⟩;clear b1 hf HL HP;go_wp2_with fail
  all_goals (try go_region)
  all_goals (try go_wp2_with fail)
  all_goals
   go_ret2
   first
    | exact ⟨(HF.out.1.alloc HF.out.1.size _).drew,Or.inr ⟨_,rfl,Or.inl ⟨f,⟨_,ycy⟩,(HF.out.2.below ((Below.refl _ _).alloc (Nat.le_refl _) _)).below (Below.refl _ _).drew⟩⟩⟩
    | exact ⟨HF.out.1.alloc HF.out.1.size _,Or.inr ⟨_,rfl,Or.inl ⟨f,⟨_,ycy⟩,HF.out.2.below ((Below.refl _ _).alloc (Nat.le_refl _) _)⟩⟩⟩
end Jn
open Go.RowKit
namespace Fi
def Bk (w:World) (b:Nat) (v:Value):Prop:=∃ n,w.heap[b]?=some (.cells #[v,.int .i64 0,.int .i64 n,.int .i64 (-1),.bool false] 42)
theorem cells5 {w:World} {k:Nat} {a b c d e:Value} {t:TypeId} (hh:w.heap[k]?=some (.cells #[a,b,c,d,e] t)) :
  w.cell? ⟨k,0,none⟩=some a∧w.cell? ⟨k,1,none⟩=some b∧w.cell? ⟨k,2,none⟩=some c∧w.cell? ⟨k,3,none⟩=some d∧w.cell? ⟨k,4,none⟩=some e∧(∀ o,w.frozen? ⟨k,o,none⟩=false)∧k < w.heap.size:=by
 refine ⟨?_,?_,?_,?_,?_,?_,lt_of_block hh⟩<;>simp[World.cell?,World.frozen?,hh]
theorem qn2 (b:Nat) (v:Value) (w:World) (h:Bk w b v):Calls Tryz.prog 13 #[.pointer (some ⟨b,0,none⟩)] w fun e w'=>e=.returned (.bool true)∧Bk w' b v∧Tch (·=b) w w':=by
 obtain ⟨n,hn⟩:=h;have HN:Hid (_):=hn;obtain ⟨c0,c1,c2,c3,c4,cf,cl⟩:=cells5 hn;clear hn;go_enter Tryz.func13,Tryz.ntmps13
 go_wp2_with fail;go_ret;refine ⟨rfl,⟨wrap64 (n+1),?_⟩,(Tch.refl (·=b) w).setCell (p:=⟨b,2,none⟩) (Or.inl rfl) _⟩
 rw[Ref.heap_set _ HN.out]
 all_goals rfl
open Go.RowKit
theorem yc1 {w:World} {B:Nat} {e:TypeId} {v:Value} {n:Nat} {xs:List Value} (h:w.ownsRow B e 1 v n xs) {i:Nat} (hi:i < n):∃ g cap,v=.slice (some ⟨g,0,none⟩) n cap∧∀ k x,xs[k]?=some x→w.cell? ⟨g,k,none⟩=some x:=by
 obtain ⟨hl,h⟩:=h;rcases h with ⟨rfl,h2⟩ | ⟨g,cap,cur,rfl,hg,hh,h4,h5,h6,h7⟩
 ·omega
 ·refine ⟨g,cap,rfl,fun k x hk=>?_⟩
  have e:cur.toList[k]?=some x:=by
   have hk2:k < n * 1:=by
    have:=(List.getElem?_eq_some_iff.1 hk).1
    omega
   rw[← h7,List.getElem?_take_of_lt hk2] at hk;exact hk
  simp only[World.cell?,hh];rw[← Array.getElem?_toList];exact e
def ycl:List ByteArray→ByteArray→Nat×Bool
 | [],_=>(0,false)
 | n::r,k=>if Op.bytesLess n.toList k.toList then ((ycl r k).1+1,(ycl r k).2) else (0,n.toList == k.toList)
theorem ydi (k:ByteArray):∀ (N:List ByteArray),(∀ n∈N,Op.bytesLess n.toList k.toList=true)→ycl N k=(N.length,false)
 | [],_=>rfl
 | n::r,h=>by
  rw[ycl,if_pos (h n (by simp)),ydi k r (fun m hm=>h m (by simp[hm]))]
  all_goals rfl
theorem ydz (k:ByteArray):∀ (N:List ByteArray) (j:Nat) (hj:j < N.length),(∀ i (hi:i < j),Op.bytesLess (N[i]'(by omega)).toList k.toList=true)→Op.bytesLess N[j].toList k.toList=false→ycl N k=(j,N[j].toList == k.toList)
 | [],j,hj,_,_=>absurd hj (Nat.not_lt_zero _)
 | n::r,0,hj,_,h=>by
  rw[ycl,if_neg (by simpa using h)]
  all_goals rfl
 | n::r,j+1,hj,h0,h=>by
  rw[ycl,if_pos (show Op.bytesLess n.toList k.toList=true from h0 0 (by omega)),ydz k r j (by simpa using hj) (fun i hi=>h0 (i+1) (by omega)) h]
  all_goals rfl
structure FsAt (w:World) (B b D:Nat) (v:Value) (Q:List (Nat×ByteArray)):Prop where
 bk:Bk w b v
 row:w.ownsRow B 46 1 v Q.length (Q.map fun q=>.pointer (some ⟨q.1,0,none⟩))
 fl:∀ q∈Q,∃ d h,w.heap[q.1]?=some (.cells #[.string q.2,.string d,.int .i64 h] 48)∧d.size≤D
 n:Q.length≤12
 lo:B≤b∧∀ q∈Q,B≤q.1
def yfd (N:List ByteArray) (s:ByteArray) (n:Nat) (w:World) (e:Ending) (w':World):Prop:=(∃ (i:Nat) (ok:Bool),i≤n∧(ok=true→i < n)∧ycl N s=(i,ok)∧e=.returned (.tuple #[.int .i64 (i:Int),.bool ok]))∧Below w.heap.size w w'
theorem qie (B b D:Nat) (v:Value) (Q:List (Nat×ByteArray)) (s:ByteArray) (w:World) (h:FsAt w B b D v Q):Calls Tryz.prog 14 #[.pointer (some ⟨b,0,none⟩),.string s] w (yfd (Q.map (·.2)) s Q.length w):=by
 obtain ⟨n,hn⟩:=h.bk;obtain ⟨c0,c1,c2,c3,c4,cf,cl⟩:=cells5 hn;obtain ⟨va,vn,vc,rfl⟩:=Ref.qad h.row;have H:Hid (_):=h;obtain rfl:vn=Q.length:=by
  rcases h.row.2 with ⟨h1,h2⟩ | ⟨g,cap,cur,h1,_⟩
  ·cases h1;exact h2.symm
  ·cases h1;rfl
 have hql:=h.n;clear h hn c1 c2 c3 c4;go_enter Tryz.func14,Tryz.ntmps14
 go_wp2_with fail;go_loopw [6] (fun i wr=>wr=w∧∃ j:Nat,j≤Q.length∧i=.int .i64 j∧∀ k (hk:k < Q.length),k < j→Op.bytesLess Q[k].2.toList s.toList=true) (fun i _=>Q.length - (intOf i).toNat)
 case atStart=>exact ⟨rfl,0,by omega,rfl,fun k _ h=>absurd h (Nat.not_lt_zero _)⟩
 case round =>
  obtain ⟨rfl,j,hj,rfl,hbe⟩:=hrel;have HBe:Hid (_):=hbe;clear hbe;by_cases hlt:j < Q.length
  ·have hlt':(j:Int) < (Q.length:Int):=by omega
   obtain ⟨g,cap,e,hc⟩:=yc1 H.out.row hlt;cases e;have hcj:=hc j (.pointer (some ⟨Q[j].1,0,none⟩)) (by simp[hlt])
   obtain ⟨d,hh,hf,_⟩:=H.out.fl Q[j] (List.getElem_mem hlt);obtain ⟨d0,d1,d2,df⟩:wr.cell? ⟨Q[j].1,0,none⟩=some (.string Q[j].2)∧wr.cell? ⟨Q[j].1,1,none⟩=some (.string d)∧wr.cell? ⟨Q[j].1,2,none⟩=some (.int .i64 hh)∧Q[j].1 < wr.heap.size:=by
    refine ⟨?_,?_,?_,lt_of_block hf⟩<;>simp[World.cell?,hf]
   obtain ⟨q,hq⟩:∃ q,q=Q[j]:=⟨_,rfl⟩;have HQ:Hid (_):=hq;rw[← hq] at hcj d0 d1 d2 df;clear hc hf hq;cases hle:Op.bytesLess q.2.toList s.toList with
   | true =>
    go_wp2_with fail;refine ⟨⟨trivial,j+1,by omega,by go_num,fun k hk hkj=>?_⟩,by simp[intOf];omega⟩
    by_cases e:k=j
    ·subst e;rw[← HQ.out];exact hle
    ·exact HBe.out k hk (by omega)
   | false =>
    have HL:Hid (_):=hle;go_wp2_with fail;go_region
    all_goals go_wp2_with fail
    all_goals
     go_ret2;refine ⟨⟨j,_,hj,fun _=>hlt,?_,rfl⟩,(Below.refl _ _).drew⟩
     have:=ydz s (Q.map (·.2)) j (by simpa using hlt) (fun i hi=>by simpa using HBe.out i (by omega) hi) (by simpa [← HQ.out] using HL.out)
     simpa [← HQ.out] using this
  ·obtain rfl:j=Q.length:=by omega
   have hne:¬ ((Q.length:Int) < (Q.length:Int)):=by omega
   go_wp2_with fail;go_region
   all_goals go_wp2_with fail
   all_goals
    go_ret2;refine ⟨⟨Q.length,false,Nat.le_refl _,(fun h=>by cases h),?_,rfl⟩,(Below.refl _ _).drew⟩
    have:=ydi s (Q.map (·.2)) (fun n hn=>by
     obtain ⟨x,hx,rfl⟩:=List.mem_map.1 hn;obtain ⟨k,hk,rfl⟩:=List.getElem_of_mem hx;exact HBe.out k hk hk)
    simpa using this
def qol (D:Nat) (w:World) (e:Ending) (w':World):Prop:=(∃ (d:ByteArray) (ok:Bool),d.size≤D∧e=.returned (.tuple #[.string d,.bool ok]))∧Below w.heap.size w w'
theorem Bk.below {w w':World} {b:Nat} {v:Value} (h:Bk w b v) (k:Below w.heap.size w w'):Bk w' b v:=by
 obtain ⟨n,hn⟩:=h;exact ⟨n,by rw[k.block _ (lt_of_block hn)];exact hn⟩
theorem FsAt.below {w w':World} {B b D:Nat} {v:Value} {Q:List (Nat×ByteArray)} (h:FsAt w B b D v Q) (k:Below w.heap.size w w'):FsAt w' B b D v Q:=by
 refine ⟨h.bk.below k,qah h.row ((Tch.refl (fun _=>False) w).below k) (fun _ _ h=>h),fun q hq=>?_,h.n,h.lo⟩
 obtain ⟨d,x,hf,hd⟩:=h.fl q hq;exact ⟨d,x,by rw[k.block _ (lt_of_block hf)];exact hf,hd⟩
theorem qj0 (B b D:Nat) (v:Value) (Q:List (Nat×ByteArray)) (s:ByteArray) (w:World) (h:FsAt w B b D v Q):Calls Tryz.prog 38 #[.pointer (some ⟨b,0,none⟩),.string s] w (qol D w):=by
 have HF:Hid (_):=qie B b D v Q s w h;have H:Hid (_):=h;clear h;go_enter Tryz.func38,Tryz.ntmps38
 go_wp2_with fail;refine Calls.mono HF.out ?_;rintro e w1 ⟨⟨i,ok,hi,hok,_,rfl⟩,hb⟩;have HB:Hid (_):=hb;have H1:Hid (_):=H.out.below hb;clear HF hb;cases ok with
 | false =>
  go_wp2_with fail;go_ret2;exact ⟨⟨⟨#[]⟩,false,Nat.zero_le _,rfl⟩,HB.out⟩
 | true =>
  have hlt:=hok rfl;obtain ⟨n,hn⟩:=H1.out.bk;obtain ⟨c0,c1,c2,c3,c4,cf,cl⟩:=cells5 hn;obtain ⟨g,cap,rfl,hc⟩:=yc1 H1.out.row hlt;have hlt':(i:Int) < (Q.length:Int):=by omega
  have hcj:=hc i (.pointer (some ⟨Q[i].1,0,none⟩)) (by simp[hlt])
  obtain ⟨d,hh,hf,hd⟩:=H1.out.fl Q[i] (List.getElem_mem hlt);obtain ⟨d0,d1,d2,df⟩:w1.cell? ⟨Q[i].1,0,none⟩=some (.string Q[i].2)∧w1.cell? ⟨Q[i].1,1,none⟩=some (.string d)∧w1.cell? ⟨Q[i].1,2,none⟩=some (.int .i64 hh)∧Q[i].1 < w1.heap.size:=by
   refine ⟨?_,?_,?_,lt_of_block hf⟩<;>simp[World.cell?,hf]
  generalize Q[i]=q at *;clear hc hf hn c1 c2 c3 c4 hok;go_wp2_with fail
  all_goals (try go_region)
  all_goals (try go_wp2_with fail)
  all_goals
   go_ret2
   first
    | exact ⟨⟨d,true,hd,rfl⟩,HB.out⟩
    | exact ⟨⟨d,true,hd,rfl⟩,HB.out.drew⟩
open Go.RowKit
theorem zf9 {w:World} {B e z n b:Nat} {v:Value} {cs:List Value} {c:Array Value} {t:TypeId} {fr:Nat×Nat} (h:w.ownsRow B e z v n cs) (hb:w.heap[b]?=some (.cells c t fr)) (hte:t≠e):v.ownBlock≠some b:=by
 intro e1;rcases h.2 with ⟨rfl,_⟩ | ⟨g,cap,cur,rfl,_,hh,_⟩
 ·cases e1
 ·cases e1;rw[hb] at hh;cases hh;exact hte rfl
theorem FsAt.turn {w w':World} {B b D D':Nat} {q:Nat×ByteArray} {v:Value} {Q:List (Nat×ByteArray)} (h:FsAt w B b D v Q) (hq:q∈Q) (hD:D≤D') (t:Tch (·=q.1) w w') (hf:∃ d x,w'.heap[q.1]?=some (.cells #[.string q.2,.string d,.int .i64 x] 48)∧d.size≤D'):FsAt w' B b D' v Q:=by
 obtain ⟨n,hn⟩:=h.bk;obtain ⟨d0,x0,hf0,_⟩:=h.fl q hq;have hbq:b≠q.1:=by
  intro e;rw[e] at hn;rw[hn] at hf0
  have:=congrArg (fun o:Option Obj=>match o with
   | some (.cells c _ _)=>c.size
   | _=>0) hf0
  simp at this
 refine ⟨⟨n,by rw[t.block b (lt_of_block hn) hbq];exact hn⟩,qah h.row t (fun k hk e=>zf9 h.row hf0 (by decide) (by rw[hk,e])),fun q' hq'=>?_,h.n,h.lo⟩
 obtain ⟨d,x,hx,hd⟩:=h.fl q' hq';by_cases e:q'.1=q.1
 ·rw[e] at hx ⊢;rw[hf0] at hx;have e2:q.2=q'.2:=by
   have:=congrArg (fun o:Option Obj=>match o with
    | some (.cells c _ _)=>c[0]?
    | _=>none) hx
   simpa using this
  rw[← e2];exact hf
 ·exact ⟨d,x,by rw[t.block q'.1 (lt_of_block hx) e];exact hx,Nat.le_trans hd hD⟩
theorem FsAt.step {w w':World} {B b D:Nat} {v:Value} {Q:List (Nat×ByteArray)} (h:FsAt w B b D v Q) (t:Tch (·=b) w w') (hb:Bk w' b v):FsAt w' B b D v Q:=by
 obtain ⟨n,hn⟩:=h.bk;refine ⟨hb,qah h.row t (fun k hk e=>zf9 h.row hn (by decide) (by rw[hk,e])),fun q hq=>?_,h.n,h.lo⟩
 obtain ⟨d,x,hf,hd⟩:=h.fl q hq;have hbq:q.1≠b:=by
  intro e;rw[e] at hf;rw[hn] at hf
  have:=congrArg (fun o:Option Obj=>match o with
   | some (.cells c _ _)=>c.size
   | _=>0) hf
  simp at this
 exact ⟨d,x,by rw[t.block q.1 (lt_of_block hf) hbq];exact hf,hd⟩
def FT (b:Nat) (Q:List (Nat×ByteArray)) (k:Nat):Prop:=k=b∨∃ q∈Q,k=q.1
def ydp (B b D D':Nat) (v:Value) (Q:List (Nat×ByteArray)) (ok:Bool) (w:World) (e:Ending) (w':World):Prop:=e=.returned (.bool ok)∧FsAt w' B b (D+D') v Q∧Tch (FT b Q) w w'
theorem ycx (B b D:Nat) (v:Value) (Q:List (Nat×ByteArray)) (s d:ByteArray) (w:World) (h:FsAt w B b D v Q) (hD:D+d.size≤1000000000000) (ok0:Bool) (h0:(ycl (Q.map (·.2)) s).2=ok0):Calls Tryz.prog 6 #[.pointer (some ⟨b,0,none⟩),.string s,.string d] w (ydp B b D d.size v Q ok0 w):=by
 have HS:Hid (_):=qn2 b v w h.bk;have HF:Hid (∀ w1,FsAt w1 B b D v Q→_):=fun w1 h1=>qie B b D v Q s w1 h1
 have H:Hid (_):=h;clear h;go_enter Tryz.func6,Tryz.ntmps6
 go_wp2_with fail;refine Calls.mono HS.out ?_;rintro e w1 ⟨rfl,hb1,ht1⟩;have H1:Hid (FsAt w1 B b D v Q∧Tch (FT b Q) w w1):=⟨H.out.step ht1 hb1,ht1.mono fun k _ hk=>Or.inl hk⟩
 clear hb1 ht1 HS;go_wp2_with fail;refine Calls.mono (HF.out w1 H1.out.1) ?_;rintro e w2 ⟨⟨i,ok,hi,hok,hfn,rfl⟩,hb⟩;have H2:Hid (FsAt w2 B b D v Q∧Tch (FT b Q) w w2):=⟨H1.out.1.below hb,H1.out.2.trans (((Tch.refl (fun _=>False) w1).below hb).mono fun _ _ h=>h.elim)⟩
 obtain rfl:ok=ok0:=by rw[hfn] at h0;exact h0
 clear HF H1 H hb hfn h0;obtain ⟨n,hn⟩:=H2.out.1.bk;obtain ⟨c0,c1,c2,c3,c4,cf,cl⟩:=cells5 hn;clear hn;cases ok with
 | false =>
  go_wp2_with fail;go_region
  all_goals go_wp2_with fail
  go_ret;refine ⟨rfl,?_,H2.out.2.drew⟩;refine FsAt.below (w:=w2) ?_ (Below.refl _ _).drew;exact ⟨H2.out.1.bk,H2.out.1.row,fun q hq=>by
   obtain ⟨d,x,h1,h2⟩:=H2.out.1.fl q hq;exact ⟨d,x,h1,by omega⟩,H2.out.1.n,H2.out.1.lo⟩
 | true =>
  have hlt:=hok rfl;have hlt':(i:Int) < (Q.length:Int):=by omega
  obtain ⟨g,cap,rfl,hc⟩:=yc1 H2.out.1.row hlt;have hcj:=hc i (.pointer (some ⟨Q[i].1,0,none⟩)) (by simp[hlt])
  obtain ⟨d',hh,hf,hd⟩:=H2.out.1.fl Q[i] (List.getElem_mem hlt);obtain ⟨d0,d1,d2,df,dz⟩:w2.cell? ⟨Q[i].1,0,none⟩=some (.string Q[i].2)∧w2.cell? ⟨Q[i].1,1,none⟩=some (.string d')∧w2.cell? ⟨Q[i].1,2,none⟩=some (.int .i64 hh)∧Q[i].1 < w2.heap.size∧∀ o,w2.frozen? ⟨Q[i].1,o,none⟩=false:=by
   refine ⟨?_,?_,?_,lt_of_block hf,?_⟩<;>simp[World.cell?,World.frozen?,hf]
  have hmem:Q[i]∈Q:=List.getElem_mem hlt;obtain ⟨q,hq⟩:∃ q,q=Q[i]:=⟨_,rfl⟩;rw[← hq] at hcj d0 d1 d2 df dz hmem hf;have HF:Hid (_):=hf;clear hc hq hok hf;go_wp2_with fail;go_region
  all_goals go_wp2_with fail
  all_goals (try go_region)
  all_goals (try go_wp2_with fail)
  go_ret;have hset:(w2.setCell ⟨q.1,1,none⟩ (.string (d'++d))).heap[q.1]?=some (.cells #[.string q.2,.string (d'++d),.int .i64 hh] 48):=by
   rw[Ref.heap_set _ HF.out]
   all_goals rfl
  have ht:Tch (·=q.1) w2 (w2.setCell ⟨q.1,1,none⟩ (.string (d'++d))):=(Tch.refl (·=q.1) w2).setCell (p:=⟨q.1,1,none⟩) (Or.inl rfl) _
  have hF:=H2.out.1.turn (D':=D+d.size) hmem (by omega) ht ⟨_,_,hset,by rw[ByteArray.size_append];omega⟩
  exact ⟨rfl,hF.below (Below.refl _ _).drew.drew,(H2.out.2.trans (ht.mono fun k _ hk=>Or.inr ⟨q,hmem,hk⟩)).drew.drew⟩
theorem ydt (B b D:Nat) (v:Value) (Q:List (Nat×ByteArray)) (s:ByteArray) (w:World) (h:FsAt w B b D v Q) (ok0:Bool) (h0:(ycl (Q.map (·.2)) s).2=ok0):Calls Tryz.prog 7 #[.pointer (some ⟨b,0,none⟩),.string s] w (ydp B b D 0 v Q ok0 w):=by
 have HS:Hid (_):=qn2 b v w h.bk;have HF:Hid (∀ w1,FsAt w1 B b D v Q→_):=fun w1 h1=>qie B b D v Q s w1 h1
 have H:Hid (_):=h;clear h;go_enter Tryz.func7,Tryz.ntmps7
 go_wp2_with fail;refine Calls.mono HS.out ?_;rintro e w1 ⟨rfl,hb1,ht1⟩;have H1:Hid (FsAt w1 B b D v Q∧Tch (FT b Q) w w1):=⟨H.out.step ht1 hb1,ht1.mono fun k _ hk=>Or.inl hk⟩
 clear hb1 ht1 HS;go_wp2_with fail;refine Calls.mono (HF.out w1 H1.out.1) ?_;rintro e w2 ⟨⟨i,ok,hi,hok,hfn,rfl⟩,hb⟩;have H2:Hid (FsAt w2 B b D v Q∧Tch (FT b Q) w w2):=⟨H1.out.1.below hb,H1.out.2.trans (((Tch.refl (fun _=>False) w1).below hb).mono fun _ _ h=>h.elim)⟩
 obtain rfl:ok=ok0:=by rw[hfn] at h0;exact h0
 clear HF H1 H hb hfn h0;obtain ⟨n,hn⟩:=H2.out.1.bk;obtain ⟨c0,c1,c2,c3,c4,cf,cl⟩:=cells5 hn;clear hn;cases ok with
 | false =>
  go_wp2_with fail;go_ret;exact ⟨rfl,H2.out.1,H2.out.2⟩
 | true =>
  have hlt:=hok rfl;have hlt':(i:Int) < (Q.length:Int):=by omega
  obtain ⟨g,cap,rfl,hc⟩:=yc1 H2.out.1.row hlt;have hcj:=hc i (.pointer (some ⟨Q[i].1,0,none⟩)) (by simp[hlt])
  obtain ⟨d',hh,hf,hd⟩:=H2.out.1.fl Q[i] (List.getElem_mem hlt);obtain ⟨d0,d1,d2,df,dz⟩:w2.cell? ⟨Q[i].1,0,none⟩=some (.string Q[i].2)∧w2.cell? ⟨Q[i].1,1,none⟩=some (.string d')∧w2.cell? ⟨Q[i].1,2,none⟩=some (.int .i64 hh)∧Q[i].1 < w2.heap.size∧∀ o,w2.frozen? ⟨Q[i].1,o,none⟩=false:=by
   refine ⟨?_,?_,?_,lt_of_block hf,?_⟩<;>simp[World.cell?,World.frozen?,hf]
  have hmem:Q[i]∈Q:=List.getElem_mem hlt;obtain ⟨q,hq⟩:∃ q,q=Q[i]:=⟨_,rfl⟩;rw[← hq] at hcj d0 d1 d2 df dz hmem hf;have HF:Hid (_):=hf;clear hc hq hok hf;go_wp2_with fail;go_region
  all_goals go_wp2_with fail
  go_ret;have ht:Tch (·=q.1) w2 (w2.setCell ⟨q.1,2,none⟩ (.int .i64 (d'.size:Int))):=(Tch.refl (·=q.1) w2).setCell (p:=⟨q.1,2,none⟩) (Or.inl rfl) _
  have hset:(w2.setCell ⟨q.1,2,none⟩ (.int .i64 (d'.size:Int))).heap[q.1]?=some (.cells #[.string q.2,.string d',.int .i64 (d'.size:Int)] 48):=by
   rw[Ref.heap_set _ HF.out]
   all_goals rfl
  have hF:=H2.out.1.turn (D':=D) hmem (by omega) ht ⟨_,_,hset,hd⟩
  first
   | exact ⟨rfl,hF.below (Below.refl _ _).drew,(H2.out.2.trans (ht.mono fun k _ hk=>Or.inr ⟨q,hmem,hk⟩)).drew⟩
   | exact ⟨rfl,hF.below (Below.refl _ _).drew.drew,(H2.out.2.trans (ht.mono fun k _ hk=>Or.inr ⟨q,hmem,hk⟩)).drew.drew⟩
open Go.RowKit Go.Shelf Go.Lib Go.Sort
theorem ycz (l:List UInt8):Op.bytesLess l l=false:=by
 rw[bytesLess_eq];exact decide_eq_false (List.lt_irrefl l)
theorem yez (a b:List UInt8) (h1:Op.bytesLess a b=false) (h2:Op.bytesLess b a=false):a=b:=by
 rw[bytesLess_eq] at h1 h2;exact List.le_antisymm (of_decide_eq_false h2) (of_decide_eq_false h1)
theorem ydh (k:ByteArray):∀ (N:List ByteArray) (i:Nat),ycl N k=(i,true)→(ycl (N.set i k) k).2=true
 | [],i,h=>by cases h
 | n::r,i,h=>by
  rw[ycl] at h;by_cases hl:Op.bytesLess n.toList k.toList=true
  ·rw[if_pos hl] at h;simp only[Prod.mk.injEq] at h;obtain ⟨rfl,h2⟩:=h;rw[List.set_cons_succ,ycl,if_pos hl];exact ydh k r _ (Prod.ext rfl h2)
  ·rw[if_neg hl] at h;simp only[Prod.mk.injEq] at h;obtain ⟨rfl,h2⟩:=h;rw[List.set_cons_zero,ycl,if_neg (by rw[ycz];simp)]
   simp
theorem yej (n k:ByteArray) (h:(ycl [n] k).2=false):(if Op.bytesLess k.toList n.toList then ycl [k,n] k else ycl [n,k] k).2=true:=by
 have hk:ycl [k] k=(0,true):=by rw[ycl,if_neg (by rw[ycz];simp)];simp
 by_cases hl:Op.bytesLess k.toList n.toList=true
 ·rw[if_pos hl,ycl,if_neg (by rw[ycz];simp)]
  simp
 ·rw[if_neg hl];by_cases hl2:Op.bytesLess n.toList k.toList=true
  ·rw[ycl,if_pos hl2,hk]
  ·exfalso;rw[ycl,if_neg hl2] at h;simp only[Bool.not_eq_true] at hl hl2
   have:=yez _ _ hl hl2
   rw[this] at h;simp at h
theorem ye0 (bx b g n c:Nat) (W:World) (G:Nat→Nat) (nm:Nat→ByteArray) (h0:W.cell? ⟨bx,0,none⟩=some (.pointer (some ⟨b,0,none⟩))) (h1:W.cell? ⟨b,0,none⟩=some (.slice (some ⟨g,0,none⟩) n c))
  (hc:∀ t,t < n→W.cell? ⟨g,t,none⟩=some (.pointer (some ⟨G t,0,none⟩))) (hn:∀ t,t < n→W.cell? ⟨G t,0,none⟩=some (.string (nm (G t)))) (i j:Nat) (hi:i < n) (hj:j < n) :
  Calls Tryz.prog 16 #[.int .i64 i,.int .i64 j,.pointer (some ⟨bx,0,none⟩)] W fun e w'=>e=.returned (.bool (Op.bytesLess (nm (G i)).toList (nm (G j)).toList))∧∃ q,w'=W.drewN q:=by
 have ci:=hc i hi;have cj:=hc j hj;have ni:=hn i hi;have nj:=hn j hj;clear hc hn;go_enter Tryz.func16,Tryz.ntmps16
 go_wp2;go_quiet (fail)
 go_wp2;go_ret;exact ⟨rfl,nq,rfl⟩
theorem yfm {α:Type} [Inhabited α] {enc:α→Value} {w:World} {B:Nat} {e:TypeId} {g n c m:Nat} {xs:List Value} {d:Array α} {os:Array Obj} (h:w.ownsRow B e 1 (.slice (some ⟨g,0,none⟩) n c) n xs) (hd:d.size=n) :
  (grow (putRow enc (Sort.ahead w m) g 0 d) os).ownsRow B e 1 (.slice (some ⟨g,0,none⟩) n c) n (d.toList.map enc)∧Tch (·=g) w (grow (putRow enc (Sort.ahead w m) g 0 d) os):=by
 rcases h.2 with ⟨h',_⟩ | ⟨g',cap,cur,h',hb,hg,hnc,hcm,hcs,htake⟩
 ·cases h'
 ·cases h';have hz:g < w.heap.size:=(Array.getElem?_eq_some_iff.1 hg).1;have hgz:g < (putRow enc (Sort.ahead w m) g 0 d).heap.size:=by rw[size_putRow];exact hz
  have e1:(grow (putRow enc (Sort.ahead w m) g 0 d) os).heap[g]?=some (.cells (putCells enc 0 d cur) e (0,0)):=by
   rw[heap_grow_old _ os hgz];show ((w.heap.modify g (onCells (putCells enc 0 d))))[g]?=_
   rw[Array.getElem?_modify,if_pos rfl,hg]
   all_goals rfl
  refine ⟨⟨by simp[hd],Or.inr ⟨g,_,_,rfl,hb,e1,hnc,hcm,by simp[putCells,hcs],?_⟩⟩,⟨rfl,rfl,rfl,by rw[size_grow,size_putRow];exact Nat.le_add_right _ _,fun k hk hn=>?_⟩⟩
  ·apply List.ext_getElem?
   intro k;rw[Nat.mul_one];by_cases hk:k < n
   ·rw[List.getElem?_take_of_lt hk,List.getElem?_map,Array.getElem?_toList,Array.getElem?_toList];simp only[putCells,Array.getElem?_mapIdx];have hkc:k < cur.size:=by omega
    have hkd:k < d.size:=by omega
    rw[Array.getElem?_eq_getElem hkc,Array.getElem?_eq_getElem hkd,Option.map_some,Option.map_some,if_pos ⟨Nat.zero_le _,by omega⟩,Nat.sub_zero,getElem!_pos d k hkd]
   ·rw[List.getElem?_eq_none (by rw[List.length_take];omega),List.getElem?_eq_none (by simp;omega)]
  ·rw[heap_grow_old _ os (by rw[size_putRow];exact hk)]
   show ((w.heap.modify g (onCells (putCells enc 0 d))))[k]?=_
   rw[Array.getElem?_modify,if_neg (fun e=>hn e.symm)]
theorem yfq {α:Type} [Inhabited α] (lt:α→α→Bool) (a b:α):Sort.insertionSort lt #[a,b] 0 2=if lt b a then #[b,a] else #[a,b]:=by
 unfold Sort.insertionSort;rw[Sort.insOuter,if_pos (by decide),Sort.insOuter,if_neg (by decide)]
 unfold Sort.insInner;by_cases h:lt b a=true
 ·rw[if_pos (by simpa using h),if_pos h]
  all_goals rfl
 ·rw[if_neg (by simpa using h),if_neg h]
end Fi
end Go.Proofs.YtagpnplggopoeaaGreatDoor
