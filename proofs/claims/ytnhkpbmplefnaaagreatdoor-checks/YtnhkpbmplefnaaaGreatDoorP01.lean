import Derived.Test.YtnhkpbmplefnaaaGreatDoorProg
import Derived.Test.YtnhkpbmplefnaaaGreatDoorP00
import Derived.Deep.QuietTactic
import Derived.BigQuiet
namespace Go.Proofs.YtnhkpbmplefnaaaGreatDoor
open Go.RowKit
namespace Lg
theorem letter_any (c:UInt8) (w:World) :
  Calls Tryz.prog 163 #[.int .u8 c.toNat] w fun e w'=>e=.returned (.bool (Px.isSmall c))∧w=w':=by
 have e1:Hid (Px.isSmall c=(decide (97≤(c.toNat:Int)) && decide ((c.toNat:Int)≤122))):=by
  unfold Hid Px.isSmall;rw[Bool.eq_iff_iff];simp;omega
 go_enter Tryz.func163,Tryz.ntmps163
 go_wp2
 all_goals
  go_ret
  exact ⟨Ref.ret_bool (by rw[e1.out,Bool.eq_iff_iff];simp;try omega),rfl⟩
theorem digit_any (c:UInt8) (w:World) :
  Calls Tryz.prog 166 #[.int .u8 c.toNat] w fun e w'=>e=.returned (.bool (Px.isDig c))∧w=w':=by
 have e1:Hid (Px.isDig c=(decide (48≤(c.toNat:Int)) && decide ((c.toNat:Int)≤57))):=by
  unfold Hid Px.isDig;rw[Bool.eq_iff_iff];simp;omega
 go_enter Tryz.func166,Tryz.ntmps166
 go_wp2
 all_goals
  go_ret
  exact ⟨Ref.ret_bool (by rw[e1.out,Bool.eq_iff_iff];simp;try omega),rfl⟩
theorem blank_any (c:UInt8) (w:World) :
  Calls Tryz.prog 162 #[.int .u8 c.toNat] w fun e w'=>e=.returned (.bool (Px.isBlank c))∧w=w':=by
 have e1:Hid (Px.isBlank c=(((c.toNat:Int) == 32) || ((c.toNat:Int) == 10))):=by
  unfold Hid Px.isBlank;rw[Bool.eq_iff_iff];simp[← UInt8.toNat_inj];omega
 cases h1:((c.toNat:Int) == 32)
 all_goals
  go_enter Tryz.func162,Tryz.ntmps162
  go_wp2
  go_ret
  exact ⟨Ref.ret_bool (by rw[e1.out,h1];simp),rfl⟩
theorem kept_split (m:List UInt8):Px.isKept m=((m == [108,101,116]) || (m == [99,97,108,108]) || (m == [97,115]) || (m == [117,110,100,111]) || (m == [116,114,105,101,115]) || (m == [105,102]) || (m == [101,108,115,101]) || (m == [116,114,121]) || (m == [114,101,112,101,97,116]) || (m == [102,97,105,108]) || (m == [116,114,117,101]) || (m == [102,97,108,115,101]) || (m == [110,111,116])):=by
 rw[Bool.eq_iff_iff];simp[Px.isKept,Px.keptWords,or_assoc]
set_option maxHeartbeats 1000000 in
theorem kept_any (x:ByteArray) (w:World) :
  Calls Tryz.prog 192 #[.string x] w fun e w'=>e=.returned (.bool (Px.isKept x.toList))∧w=w':=by
 have e1:Hid (_):=kept_split x.toList
 go_enter Tryz.func192,Tryz.ntmps192
 go_wp2
 all_goals
  go_ret
  exact ⟨Ref.ret_bool (by rw[e1.out];first | (simp[*];done) | (exfalso;simp_all;done)),rfl⟩
set_option maxRecDepth 100000 in
theorem row_letters (x:ByteArray) (w:World) (hx:x.size≤maxLen) :
  Calls Tryz.prog 165 #[.string x,.func (.func 163) #[] #[]] w fun e w'=>e=.returned (.string (x.extract 0 (Px.runOf Px.isSmall x 0)))∧w=w':=by
 unfold maxLen at hx
 go_enter Tryz.func165,Tryz.ntmps165
 go_wp2_with fail
 go_loop [5] (fun i=>∃ k:Nat,k≤x.size∧i=.int .i64 k∧Hid (∀ j (hj:j < x.size),0≤j→j < k→Px.isSmall x[j]=true)) (fun i=>x.size - (intOf i).toNat)
 case atStart=>exact ⟨0,by omega,rfl,by intro j hj h1 h2;omega⟩
 case round =>
  obtain ⟨k,hk,rfl,hall⟩:=hrel
  by_cases hlt:k < x.size
  ·cases hp:Px.isSmall x[k]
   ·have hr:Hid (Px.runOf Px.isSmall x 0=k):=Px.runOf_eq _ _ _ _ (by omega) hk hall (fun _=>hp)
    go_wp2_with (first | (go_at_call 163;refine (letter_any _ _).mono ?_;rintro e w' ⟨rfl,rfl⟩))
    go_ret
    exact ⟨by rw[hr.out];rfl,rfl⟩
   ·go_wp2_with (first | (go_at_call 163;refine (letter_any _ _).mono ?_;rintro e w' ⟨rfl,rfl⟩))
    exact ⟨⟨k+1,by omega,by go_num,Ref.all_step hall hlt hp⟩,by simp[intOf];omega⟩
  ·have hr:Hid (Px.runOf Px.isSmall x 0=k):=Px.runOf_eq _ _ _ _ (by omega) hk hall (fun h=>absurd h hlt)
   go_wp2_with fail
   go_ret
   exact ⟨by rw[hr.out];rfl,rfl⟩
set_option maxRecDepth 100000 in
theorem row_digits (x:ByteArray) (w:World) (hx:x.size≤maxLen) :
  Calls Tryz.prog 165 #[.string x,.func (.func 166) #[] #[]] w fun e w'=>e=.returned (.string (x.extract 0 (Px.runOf Px.isDig x 0)))∧w=w':=by
 unfold maxLen at hx
 go_enter Tryz.func165,Tryz.ntmps165
 go_wp2_with fail
 go_loop [5] (fun i=>∃ k:Nat,k≤x.size∧i=.int .i64 k∧Hid (∀ j (hj:j < x.size),0≤j→j < k→Px.isDig x[j]=true)) (fun i=>x.size - (intOf i).toNat)
 case atStart=>exact ⟨0,by omega,rfl,by intro j hj h1 h2;omega⟩
 case round =>
  obtain ⟨k,hk,rfl,hall⟩:=hrel
  by_cases hlt:k < x.size
  ·cases hp:Px.isDig x[k]
   ·have hr:Hid (Px.runOf Px.isDig x 0=k):=Px.runOf_eq _ _ _ _ (by omega) hk hall (fun _=>hp)
    go_wp2_with (first | (go_at_call 166;refine (digit_any _ _).mono ?_;rintro e w' ⟨rfl,rfl⟩))
    go_ret
    exact ⟨by rw[hr.out];rfl,rfl⟩
   ·go_wp2_with (first | (go_at_call 166;refine (digit_any _ _).mono ?_;rintro e w' ⟨rfl,rfl⟩))
    exact ⟨⟨k+1,by omega,by go_num,Ref.all_step hall hlt hp⟩,by simp[intOf];omega⟩
  ·have hr:Hid (Px.runOf Px.isDig x 0=k):=Px.runOf_eq _ _ _ _ (by omega) hk hall (fun h=>absurd h hlt)
   go_wp2_with fail
   go_ret
   exact ⟨by rw[hr.out];rfl,rfl⟩
theorem run_index (args:Array Value) (w:World):(callFunc 210 args).run Tryz.prog w=((Extern.BytealgIndexByte.indexByte args).run Tryz.prog w).andThen fun v w'=>.ok (.value v) w' :=
 run_callFunc_extern Tryz.func210 (by kernel_rfl) (by kernel_rfl) (by kernel_rfl) (e:=Extern.BytealgIndexByte.indexByte) (by kernel_rfl) args w
set_option maxRecDepth 100000 in
theorem lite_index (s:ByteArray) (c:UInt8) (w:World) :
  Calls Tryz.prog 193 #[.string s,.int .u8 c.toNat] w fun e w'=>e=.returned (.int .i64 (firstIdx s c))∧w=w':=by
 go_enter Tryz.func193,Tryz.ntmps193
 go_wp2_with fail
 rw[run_index,run_indexByte_string]
 simp only[Result.andThen]
 rw[Oper.upon_value]
 go_wp2
 go_ret
 exact ⟨Ref.ret_int (by simp),rfl⟩
set_option maxRecDepth 100000 in
theorem index_any (s:ByteArray) (c:UInt8) (w:World) :
  Calls Tryz.prog 167 #[.string s,.int .u8 c.toNat] w fun e w'=>e=.returned (.int .i64 (firstIdx s c))∧w=w':=by
 go_enter Tryz.func167,Tryz.ntmps167
 go_wp2_with (first | (go_at_call 193;refine (lite_index _ _ _).mono ?_;rintro e w' ⟨rfl,rfl⟩))
 go_ret
 exact ⟨rfl,rfl⟩
theorem mark_index (c:UInt8):decide (0≤firstIdx ⟨#[59,61,40,41,123,125,60,35,43,45,42,47]⟩ c)=Px.isMark c:=by
 have h:∀ n:Fin 256,decide (0≤firstIdx ⟨#[59,61,40,41,123,125,60,35,43,45,42,47]⟩ (UInt8.ofNat n.val))=Px.isMark (UInt8.ofNat n.val):=by decide +kernel
 have:=h ⟨c.toNat,c.toNat_lt⟩
 simpa using this
open Go.RowKit
theorem word_kept (x:ByteArray) (a:Nat) (w:World) (hk:Px.isKept x.toList=true) :
  Calls Tryz.prog 164 #[.string x,.int .i64 (a:Int)] w fun e w'=>e=.returned (.tuple #[.agg #[.int .i64 1,.string x,.int .i64 (a:Int)],.bool true])∧Below w.heap.size w w':=by
 go_enter Tryz.func164,Tryz.ntmps164
 go_wp2_with (first | (go_at_call 192;refine (kept_any _ _).mono ?_;rintro e w' ⟨rfl,rfl⟩))
 exact bodyPost_ret (v:=.tuple #[.agg #[.int .i64 1,.string x,.int .i64 (a:Int)],.bool true]) (by simp[results,Tryz.results164,go_sem]) rfl ⟨rfl,(Below.refl _ _).alloc (Nat.le_refl _) _⟩
theorem word_plain (x:ByteArray) (a:Nat) (w:World) (hk:Px.isKept x.toList=false) :
  Calls Tryz.prog 164 #[.string x,.int .i64 (a:Int)] w fun e w'=>e=.returned (.tuple #[.agg #[.int .i64 2,.string x,.int .i64 (a:Int)],.bool (decide ((x.size:Int)≤8))])∧Below w.heap.size w w':=by
 go_enter Tryz.func164,Tryz.ntmps164
 go_wp2_with (first | (go_at_call 192;refine (kept_any _ _).mono ?_;rintro e w' ⟨rfl,rfl⟩))
 exact bodyPost_ret (v:=.tuple #[.agg #[.int .i64 2,.string x,.int .i64 (a:Int)],.bool (decide ((x.size:Int)≤8))]) (by simp[results,Tryz.results164,go_sem]) rfl ⟨rfl,(Below.refl _ _).alloc (Nat.le_refl _) _⟩
def kd (k:Nat):Nat:=if k=107 then 1 else if k=119 then 2 else if k=110 then 3 else 0
def SgV (s:ByteArray) (t:Px.Tok) (v:Value):Prop :=
 ∃ (k:Nat) (x:ByteArray),v=.tuple #[.agg #[.int .i64 (k:Int),.string x,.int .i64 (t.a:Int)],.bool (t.k != 63)]∧(t.k≠63→k=kd t.k∧x=s.extract t.a t.b)
theorem rest_size (s:ByteArray) (a:Nat):(s.extract a s.size).size=s.size - a:=by simp
theorem rest_get (s:ByteArray) (a j:Nat) (h:j < (s.extract a s.size).size):(s.extract a s.size)[j]=s[a+j]'(by simp at h;omega):=by simp[ByteArray.getElem_extract]
theorem rest_run (p:UInt8→Bool) (s:ByteArray) (a:Nat) (ha:a≤s.size):a+Px.runOf p (s.extract a s.size) 0=Px.runOf p s a:=by
 symm
 have hz:=rest_size s a
 have h2:=Px.runOf_le p (s.extract a s.size) 0 (Nat.zero_le _)
 refine Px.runOf_eq p s a _ (by omega) (by omega) (fun j hj h1 h3=>?_) (fun h=>?_)
 ·have hj':j - a < (s.extract a s.size).size:=by omega
  have e:=Px.runTo_all p (s.extract a s.size) ((s.extract a s.size).size - 0) 0 (j - a) hj' (Nat.zero_le _) (by unfold Px.runOf at h3;omega)
  rw[rest_get s a _ hj'] at e
  have:a+(j - a)=j:=by omega
  simp only[this] at e
  exact e
 ·have hj':Px.runOf p (s.extract a s.size) 0 < (s.extract a s.size).size:=by omega
  have e:=Px.runTo_stop p (s.extract a s.size) ((s.extract a s.size).size - 0) 0 (Nat.le_refl _) hj'
  have e':p (s.extract a s.size)[Px.runOf p (s.extract a s.size) 0]=false:=e
  rw[rest_get s a _ hj'] at e'
  exact e'
theorem rest_row (s:ByteArray) (a n:Nat) (h:a+n≤s.size):(s.extract a s.size).extract 0 n=s.extract a (a+n):=by
 rw[ByteArray.extract_extract]
 congr 1
 omega
theorem cells3b {w w1:World} {a b c:Value} {t:TypeId} (h:Below (w.alloc (.cells #[a,b,c] t)).heap.size (w.alloc (.cells #[a,b,c] t)) w1) :
  w1.cell? ⟨w.heap.size,0,none⟩=some a∧w1.cell? ⟨w.heap.size,1,none⟩=some b∧w1.cell? ⟨w.heap.size,2,none⟩=some c∧∀ o,w1.frozen? ⟨w.heap.size,o,none⟩=false:=by
 have g:w1.heap[w.heap.size]?=some (.cells #[a,b,c] t):=by
  rw[h.block _ (by simp)]
  show (w.heap.push _)[w.heap.size]?=_
  rw[Array.getElem?_push,if_pos rfl]
 refine ⟨?_,?_,?_,?_⟩<;>simp[World.cell?,World.frozen?,g]
theorem below_set3 {w w1:World} (h:Below w.heap.size w w1) (a b c:Value):Below w.heap.size w (((w1.setCell ⟨w.heap.size,0,none⟩ a).setCell ⟨w.heap.size,1,none⟩ b).setCell ⟨w.heap.size,2,none⟩ c) :=
 ((h.setCell (p:=⟨w.heap.size,0,none⟩) (Nat.le_refl _) a).setCell (p:=⟨w.heap.size,1,none⟩) (Nat.le_refl _) b).setCell (p:=⟨w.heap.size,2,none⟩) (Nat.le_refl _) c
theorem sg_mark {s:ByteArray} {i k:Nat} (hr:Hid (Px.runOf Px.isBlank s i=k)) (hlt:k < s.size) (hsm:Px.isSmall s[k]=false) (hdg:Px.isDig s[k]=false) :
  SgV s (Px.tok s i) (.tuple #[.agg #[.int .i64 1,.string ((s.extract k s.size).extract 0 1),.int .i64 (k:Int)],.bool (decide (0≤firstIdx ⟨#[59,61,40,41,123,125,60,35,43,45,42,47]⟩ s[k]))]):=by
 rw[mark_index,rest_row s k 1 (by omega)]
 unfold Px.tok
 rw[hr.out]
 cases hm:Px.isMark s[k]
 ·rw[Px.tokAt_none hlt hsm hdg hm]
  exact ⟨1,_,rfl,fun h=>absurd rfl h⟩
 ·rw[Px.tokAt_mark hlt hsm hdg hm]
  exact ⟨1,_,rfl,fun _=>⟨rfl,rfl⟩⟩
theorem sg_num {s:ByteArray} {i k b:Nat} (hr:Hid (Px.runOf Px.isBlank s i=k)) (hlt:k < s.size) (hsm:Px.isSmall s[k]=false) (hdg:Px.isDig s[k]=true) (hb:Hid (Px.runOf Px.isDig s k=b)) (_h2:b≤s.size) :
  SgV s (Px.tok s i) (.tuple #[.agg #[.int .i64 3,.string (s.extract k b),.int .i64 (k:Int)],.bool (decide (((b - k:Nat):Int)≤4))]):=by
 unfold Px.tok
 rw[hr.out]
 by_cases hl:4 < b - k
 ·rw[Px.tokAt_digs hlt hsm hdg hb.out hl,show decide (((b - k:Nat):Int)≤4)=false from by simp;omega]
  exact ⟨3,_,rfl,fun h=>absurd rfl h⟩
 ·rw[Px.tokAt_num hlt hsm hdg hb.out hl,show decide (((b - k:Nat):Int)≤4)=true from by simp;omega]
  exact ⟨3,_,rfl,fun _=>⟨rfl,rfl⟩⟩
theorem sg_kept {s:ByteArray} {i k b:Nat} (hr:Hid (Px.runOf Px.isBlank s i=k)) (hlt:k < s.size) (hsm:Px.isSmall s[k]=true) (hb:Hid (Px.runOf Px.isSmall s k=b)) (hk:Px.isKept (s.extract k b).toList=true) :
  SgV s (Px.tok s i) (.tuple #[.agg #[.int .i64 1,.string (s.extract k b),.int .i64 (k:Int)],.bool true]):=by
 unfold Px.tok
 rw[hr.out,Px.tokAt_kept hlt hsm hb.out hk]
 exact ⟨1,_,rfl,fun _=>⟨rfl,rfl⟩⟩
theorem sg_word {s:ByteArray} {i k b:Nat} (hr:Hid (Px.runOf Px.isBlank s i=k)) (hlt:k < s.size) (hsm:Px.isSmall s[k]=true) (hb:Hid (Px.runOf Px.isSmall s k=b)) (hk:Px.isKept (s.extract k b).toList=false) (_h2:b≤s.size) :
  SgV s (Px.tok s i) (.tuple #[.agg #[.int .i64 2,.string (s.extract k b),.int .i64 (k:Int)],.bool (decide (((b - k:Nat):Int)≤8))]):=by
 unfold Px.tok
 rw[hr.out]
 by_cases hl:8 < b - k
 ·rw[Px.tokAt_long hlt hsm hb.out hk hl,show decide (((b - k:Nat):Int)≤8)=false from by simp;omega]
  exact ⟨2,_,rfl,fun h=>absurd rfl h⟩
 ·rw[Px.tokAt_word hlt hsm hb.out hk hl,show decide (((b - k:Nat):Int)≤8)=true from by simp;omega]
  exact ⟨2,_,rfl,fun _=>⟨rfl,rfl⟩⟩
set_option maxRecDepth 100000 in
set_option maxHeartbeats 4000000 in
theorem sign_any (s:ByteArray) (i:Nat) (w:World) (hi:i≤s.size) (hs:s.size≤maxLen) :
  Calls Tryz.prog 117 #[.string s,.int .i64 i] w fun e w'=>(∃ v,e=.returned v∧SgV s (Px.tok s i) v)∧Below w.heap.size w w':=by
 have hs':=hs
 unfold maxLen at hs
 go_enter Tryz.func117,Tryz.ntmps117
 go_wp2_with fail
 go_loop [1] (fun x=>∃ k:Nat,i≤k∧k≤s.size∧x=.int .i64 k∧Hid (∀ j (hj:j < s.size),i≤j→j < k→Px.isBlank s[j]=true)) (fun x=>s.size - (intOf x).toNat)
 case atStart=>exact ⟨i,by omega,hi,rfl,by intro j hj h1 h2;omega⟩
 case round =>
  obtain ⟨k,hk1,hk2,rfl,hall⟩:=hrel
  by_cases hlt:k < s.size
  ·cases hbl:Px.isBlank s[k]
   ·have hr:Hid (Px.runOf Px.isBlank s i=k):=Px.runOf_eq _ _ _ _ hk1 hk2 hall (fun _=>hbl)
    have heq:((k:Int) == (s.size:Int))=false:=by rw[beq_eq_false_iff_ne];omega
    have r0:(s.extract k s.size)[0]'(by rw[rest_size];omega)=s[k]:=by rw[rest_get];simp
    have hrz:0 < (s.extract k s.size).size:=by rw[rest_size];omega
    clear hall
    go_wp2_with (first | (go_at_call 162;refine (blank_any _ _).mono ?_;rintro e w' ⟨rfl,rfl⟩))
    cases hsm:Px.isSmall s[k]
    ·cases hdg:Px.isDig s[k]
     ·refine (letter_any _ _).mono ?_
      rintro e w' ⟨rfl,rfl⟩
      go_wp2_with (first | (go_at_call 166;refine (digit_any _ _).mono ?_;rintro e w' ⟨rfl,rfl⟩))
      go_region_with (go_at_call 167;refine (index_any _ _ _).mono ?_;rintro e w' ⟨rfl,rfl⟩)
      all_goals
       go_wp2_with fail
       refine bodyPost_ret (v:=.tuple #[.agg #[.int .i64 1,.string ((s.extract k s.size).extract 0 1),.int .i64 (k:Int)],.bool (decide (0≤firstIdx ⟨#[59,61,40,41,123,125,60,35,43,45,42,47]⟩ s[k]))]) (by simp[results,Tryz.results117,go_sem]) rfl ⟨⟨_,rfl,sg_mark hr hlt hsm hdg⟩,?_⟩
       first | exact ((Below.refl _ _).alloc (Nat.le_refl _) _).drew | exact (Below.refl _ _).alloc (Nat.le_refl _) _ | exact ((Below.refl _ _).drew.alloc (Nat.le_refl _) _)
     ·refine (letter_any _ _).mono ?_
      rintro e w' ⟨rfl,rfl⟩
      have RL:∀ w',Calls Tryz.prog 165 #[.string (s.extract k s.size),.func (.func 166) #[] #[]] w' fun e w''=>e=.returned (.string (s.extract k (Px.runOf Px.isDig s k)))∧w'=w'':=by
       intro w'
       have h:=row_digits (s.extract k s.size) w' (by rw[rest_size];omega)
       rw[rest_row s k _ (by rw[rest_run _ _ _ hk2];exact Px.runOf_le _ _ _ hk2),rest_run _ _ _ hk2] at h
       exact h
      have HRL:Hid (_):=RL
      clear RL
      generalize hb:Px.runOf Px.isDig s k=b at *
      have HB:Hid (Px.runOf Px.isDig s k=b):=hb
      have hb1:k≤b:=by rw[← hb];exact Px.runOf_ge _ _ _
      have hb2:b≤s.size:=by rw[← hb];exact Px.runOf_le _ _ _ hk2
      clear hb
      go_wp2_with (first | (go_at_call 166;refine (digit_any _ _).mono ?_;rintro e w' ⟨rfl,rfl⟩) | (go_at_call 165;refine (HRL.out _).mono ?_;rintro e w' ⟨rfl,rfl⟩))
      refine bodyPost_ret (v:=.tuple #[.agg #[.int .i64 3,.string (s.extract k b),.int .i64 (k:Int)],.bool (decide (((b - k:Nat):Int)≤4))]) (by simp[results,Tryz.results117,go_sem]) rfl ⟨⟨_,rfl,sg_num hr hlt hsm hdg HB hb2⟩,?_⟩
      exact (Below.refl _ _).alloc (Nat.le_refl _) _
    ·refine (letter_any _ _).mono ?_
     rintro e w' ⟨rfl,rfl⟩
     have RL:∀ w',Calls Tryz.prog 165 #[.string (s.extract k s.size),.func (.func 163) #[] #[]] w' fun e w''=>e=.returned (.string (s.extract k (Px.runOf Px.isSmall s k)))∧w'=w'':=by
      intro w'
      have h:=row_letters (s.extract k s.size) w' (by rw[rest_size];omega)
      rw[rest_row s k _ (by rw[rest_run _ _ _ hk2];exact Px.runOf_le _ _ _ hk2),rest_run _ _ _ hk2] at h
      exact h
     have HRL:Hid (_):=RL
     clear RL
     generalize hb:Px.runOf Px.isSmall s k=b at *
     have HB:Hid (Px.runOf Px.isSmall s k=b):=hb
     have hb1:k≤b:=by rw[← hb];exact Px.runOf_ge _ _ _
     have hb2:b≤s.size:=by rw[← hb];exact Px.runOf_le _ _ _ hk2
     clear hb
     go_wp2_with (first | (go_at_call 165;refine (HRL.out _).mono ?_;rintro e w' ⟨rfl,rfl⟩))
     cases hkp:Px.isKept (s.extract k b).toList
     ·refine (word_plain _ k _ hkp).mono ?_
      rintro e w1 ⟨rfl,hbw⟩
      obtain ⟨q0,q1,q2,qf⟩:=cells3b hbw
      have BW:Hid (Below w.heap.size w w1):=((Below.refl _ _).alloc (Nat.le_refl _) _).trans (hbw.mono (by simp))
      clear hbw
      go_wp2_with fail
      refine bodyPost_ret (v:=.tuple #[.agg #[.int .i64 2,.string (s.extract k b),.int .i64 (k:Int)],.bool (decide (((b - k:Nat):Int)≤8))]) (by simp[results,Tryz.results117,go_sem,q0,q1,q2]) rfl ⟨⟨_,rfl,sg_word hr hlt hsm HB hkp hb2⟩,?_⟩
      exact below_set3 BW.out _ _ _
     ·refine (word_kept _ k _ hkp).mono ?_
      rintro e w1 ⟨rfl,hbw⟩
      obtain ⟨q0,q1,q2,qf⟩:=cells3b hbw
      have BW:Hid (Below w.heap.size w w1):=((Below.refl _ _).alloc (Nat.le_refl _) _).trans (hbw.mono (by simp))
      clear hbw
      go_wp2_with fail
      refine bodyPost_ret (v:=.tuple #[.agg #[.int .i64 1,.string (s.extract k b),.int .i64 (k:Int)],.bool true]) (by simp[results,Tryz.results117,go_sem,q0,q1,q2]) rfl ⟨⟨_,rfl,sg_kept hr hlt hsm HB hkp⟩,?_⟩
      exact below_set3 BW.out _ _ _
   ·go_wp2_with (first | (go_at_call 162;refine (blank_any _ _).mono ?_;rintro e w' ⟨rfl,rfl⟩))
    exact ⟨⟨k+1,by omega,by omega,by go_num,Ref.all_step hall hlt hbl⟩,by simp[intOf];omega⟩
  ·have hr:Hid (Px.runOf Px.isBlank s i=k):=Px.runOf_eq _ _ _ _ hk1 hk2 hall (fun h=>absurd h hlt)
   obtain rfl:k=s.size:=by omega
   go_wp2_with fail
   refine bodyPost_ret (v:=.tuple #[.agg #[.int .i64 0,.string ⟨#[]⟩,.int .i64 (s.size:Int)],.bool true]) (by simp[results,Tryz.results117,go_sem]) rfl ⟨⟨_,rfl,?_⟩,(Below.refl _ _).alloc (Nat.le_refl _) _⟩
   have e:Px.tok s i=⟨0,s.size,s.size⟩:=by unfold Px.tok;rw[hr.out];exact Px.tokAt_end (by omega)
   rw[e]
   exact ⟨0,⟨#[]⟩,rfl,fun _=>⟨rfl,by simp;rfl⟩⟩
end Lg
open Go.RowKit
namespace Ref
structure Dom (s:ByteArray) (n:Nat) (st:Px.Ps):Prop where
 tk:Px.Tk s st.t
 room:s.size - st.t.a < n
 n0:0≤st.nest
 n1:st.nest+n≤1000000
theorem Dom.good {s:ByteArray} {n:Nat} {st st':Px.Ps} (h:Dom s n st) (g:Px.Good s st st'):Dom s n st' :=
 ⟨g.tk,by have:=h.room;have:=g.lt;omega,by rw[g.nest];exact h.n0,by rw[g.nest];exact h.n1⟩
theorem onB_txt {s:ByteArray} {t:Px.Tok} {x:ByteArray} (h:Px.onB s t x=true):s.extract t.a t.b=x:=by
 unfold Px.onB at h
 simp only[Bool.and_eq_true,beq_iff_eq] at h
 have:=h.2
 rw[ByteArray.toList_eq,ByteArray.toList_eq] at this
 exact Go.WideShapes.bytes_inj this
def PartOk (b:Nat) (s:ByteArray) (n:Nat) (sum:Bool) (g:Px.Ps→Except Nat (Px.Ex×Px.Ps)):Prop :=
 ∀ (st:Px.Ps) (w:World),Dom s n st→PenAt w b s st.t (-1) st.nest st.deep →
  Calls Tryz.prog 203 #[.pointer (some ⟨b,0,none⟩),.bool sum] w (ExPost b s w (g st))
def penM (s:ByteArray) (b:Nat) (w:World):Nat :=
 match w.heap[b]? with
 | some (Obj.cells c _ _)=>(match c[5]?,c[3]? with
  | some (Value.int _ bad),some (Value.int _ a)=>if 0≤bad then 0 else s.size+1 - a.toNat
  | _,_=>0)
 | _=>0
theorem penM_ok {s:ByteArray} {b:Nat} {w:World} {t:Px.Tok} {nest deep:Int} (p:PenAt w b s t (-1) nest deep):penM s b w=s.size+1 - t.a:=by
 simp[penM,p.h]
theorem penM_bad {s:ByteArray} {b:Nat} {w:World} {t:Px.Tok} {bad nest deep:Int} (p:PenAt w b s t bad nest deep) (h:0≤bad):penM s b w=0:=by
 simp[penM,p.h,h]
def RowRel (b:Nat) (s:ByteArray) (n:Nat) (g:Px.Ps→Except Nat (Px.Ex×Px.Ps)) (oa ob:UInt8) (pl:Nat) (R:Except Nat (Px.Ex×Px.Ps)) (w wr:World) (q:Nat):Prop :=
 Kp b w wr ∧
 ((∃ x st m,ExAt wr x (In w wr) q∧PenAt wr b s st.t (-1) st.nest st.deep∧Dom s n st∧Px.chain s g oa ob m pl x st=R∧s.size - st.t.a < m) ∨
  (∃ p t nest deep,R=.error p∧w.heap.size≤q∧(∃ v0 v1 v2 v3 v4 v5,wr.heap[q]?=some (.cells #[v0,v1,v2,v3,v4,v5] 255))∧PenAt wr b s t ((p:Nat):Int) nest deep))
theorem row_step {b:Nat} {s:ByteArray} {n:Nat} {g:Px.Ps→Except Nat (Px.Ex×Px.Ps)} {oa ob:UInt8} {pl:Nat} {R:Except Nat (Px.Ex×Px.Ps)} {w wr w2 w3 W:World} {q q2:Nat} {x:Px.Ex} {st1:Px.Ps} {m:Nat} {o:UInt8} {O:Obj}
  (hb:b < w.heap.size) (hg:Px.Goes s g) (KR:Kp b w wr) (X:ExAt wr x (In w wr) q) (D1:Dom s n st1) (hd:Px.Good s st1 (Px.nx s st1)) (K2:Kp b wr w2) (hm:s.size - st1.t.a < m+1) (_ho:o.toNat < 256)
  (CH:(match g (Px.nx s st1) with
   | .error p=>.error p
   | .ok (k,st')=>Px.chain s g oa ob m pl ⟨o.toNat,0,Px.nowt,pl,st1.t.a,some x,some k⟩ st')=R)
  (H3:ExPost b s (w2.alloc O) (g (Px.nx s st1)) (.returned (.pointer (some ⟨q2,0,none⟩))) w3)
  (hW:W.heap=(w3.heap.push (.cells #[.pointer (some ⟨q,0,none⟩),.pointer (some ⟨q2,0,none⟩)] 179)).push (.cells #[.int .u8 (o.toNat:Int),.int .i64 0,.string ⟨#[]⟩,.int .i64 (pl:Int),.int .i64 (st1.t.a:Int),.slice (some ⟨w3.heap.size,0,none⟩) 2 2] 255))
  (hK:Kp b w3 W):RowRel b s n g oa ob pl R w W (w3.heap.size+1)∧penM s b W < s.size+1 - st1.t.a:=by
 obtain ⟨k3,q2',he,h3⟩:=H3
 obtain rfl:q2=q2':=by simpa using he
 have kw3:Kp b wr w3:=K2.trans k3.of_alloc
 have kw:Kp b w W:=(KR.trans kw3).trans hK
 have s1:=KR.size
 have s2:=kw3.size
 have s3:=K2.size
 have hz:W.heap.size=w3.heap.size+2:=by rw[hW];simp
 have hpen:∀ {t:Px.Tok} {bad nest deep:Int},PenAt w3 b s t bad nest deep→PenAt W b s t bad nest deep:=fun p=>⟨by rw[hW,push2_old p.lt];exact p.h⟩
 have hd1:=D1.tk.le
 have hd2:=D1.tk.ab
 cases hr:g (Px.nx s st1) with
 | error p =>
  rw[hr] at CH h3
  obtain ⟨hq,hv,t,nest,deep,hp⟩:=h3
  refine ⟨⟨kw,Or.inr ⟨p,t,nest,deep,CH.symm,by omega,⟨_,_,_,_,_,_,by rw[hW];exact push2_two⟩,hpen hp⟩⟩,?_⟩
  rw[penM_bad (hpen hp) (by omega)]
  omega
 | ok r =>
  obtain ⟨k,st'⟩:=r
  rw[hr] at CH h3
  obtain ⟨hk,hp⟩:=h3
  have g1:=hd.trans (hg _ _ _ hd.tk hr)
  have g2:=g1.lt
  have g3:=g1.tk.ab
  have g4:=g1.tk.le
  refine ⟨⟨kw,Or.inl ⟨_,st',m,ExAt.pair (X.kp hb kw3) hk (by simp;omega) s2 (by omega) hW,hpen hp,D1.good g1,CH,by omega⟩⟩,?_⟩
  rw[penM_ok (hpen hp)]
  omega
set_option maxHeartbeats 1000000 in
theorem row_ok (b:Nat) (s:ByteArray) (n:Nat) (sum:Bool) (g:Px.Ps→Except Nat (Px.Ex×Px.Ps)) (hp:PartOk b s n sum g) (hg:Px.Goes s g) (oa ob:UInt8) (st:Px.Ps) (w:World) (hD:Dom s n st) (p:PenAt w b s st.t (-1) st.nest st.deep) (hs:s.size≤maxLen) :
  Calls Tryz.prog 179 #[.pointer (some ⟨b,0,none⟩),.string ⟨#[oa]⟩,.string ⟨#[ob]⟩,.bool sum] w (ExPost b s w (Px.row s g oa ob st)):=by
 obtain ⟨c0,c1,c2,c3,c4,c5,c6,c7,f,hb⟩:=p.cells
 have HP:Hid (PenAt w b s st.t (-1) st.nest st.deep):=p
 have HD:Hid (Dom s n st):=hD
 have HG:Hid (Px.Goes s g):=hg
 clear p hD hg
 go_enter Tryz.func179,Tryz.ntmps179
 go_wp2_with fail
 refine (hp st _ HD.out HP.out).mono ?_
 rintro e w1 ⟨k1,q,rfl,h1⟩
 have R0:Hid (RowRel b s n g oa ob st.t.a (Px.row s g oa ob st) w w1 q):=by
  refine ⟨k1,?_⟩
  unfold Px.row
  cases hr:g st with
  | error p1 =>
   rw[hr] at h1
   obtain ⟨hq,hv,t,nest,deep,hpen⟩:=h1
   exact Or.inr ⟨p1,t,nest,deep,rfl,hq,hv,hpen⟩
  | ok r =>
   obtain ⟨x,st1⟩:=r
   rw[hr] at h1
   have g1:=HG.out _ _ _ HD.out.tk hr
   exact Or.inl ⟨x,st1,s.size+1,h1.1,h1.2,HD.out.good g1,rfl,by omega⟩
 clear h1 k1 c0 c1 c2 c3 c4 c5 c6 c7 f
 go_wp2_with fail
 go_loopw [10] (fun v wr=>∃ q,v=.pointer (some ⟨q,0,none⟩)∧Hid (RowRel b s n g oa ob st.t.a (Px.row s g oa ob st) w wr q)) (fun _ wr=>penM s b wr)
 case atStart=>exact ⟨q,rfl,R0⟩
 case round =>
  obtain ⟨q,rfl,hR⟩:=hrel
  obtain ⟨kr,hcase⟩:=hR.out
  clear hR R0
  have KR:Hid (Kp b w wr):=kr
  clear kr
  rcases hcase with ⟨x,st1,m,hx,p1,hD1,hch,hm⟩ | ⟨pe,t,nest,deep,hRe,hq,hv,p1⟩
  ·obtain ⟨m,rfl⟩:∃ m',m=m'+1:=⟨m - 1,by omega⟩
   have X:Hid (ExAt wr x (In w wr) q):=hx
   have P1:Hid (PenAt wr b s st1.t (-1) st1.nest st1.deep):=p1
   have D1:Hid (Dom s n st1):=hD1
   have CH:Hid (Px.chain s g oa ob (m+1) st.t.a x st1=Px.row s g oa ob st):=hch
   clear hx p1 hD1 hch
   cases ha:Px.onB s st1.t ⟨#[oa]⟩
   ·cases hob:Px.onB s st1.t ⟨#[ob]⟩
    ·go_wp2_with (first | (go_at_call 176;refine (on_ok b s _ st1.t st1.nest st1.deep _ P1.out).mono ?_;rintro e w' ⟨rfl,rfl⟩))
     go_ret
     refine ⟨KR.out,q,rfl,?_⟩
     rw[← CH.out,Px.chain,if_neg (by simp[ha]),if_neg (by simp[hob])]
     exact ⟨X.out,P1.out⟩
    ·go_wp2_with (first | (go_at_call 176;refine (on_ok b s _ st1.t st1.nest st1.deep _ P1.out).mono ?_;rintro e w' ⟨rfl,rfl⟩))
     refine (next_ok b s st1.t st1.nest st1.deep _ P1.out D1.out.tk.le hs).mono ?_
     unfold signV
     rw[onB_txt hob]
     rintro e w2 ⟨rfl,p2,k2⟩
     have P2:Hid (PenAt w2 b s (Px.tok s st1.t.b) (-1) st1.nest st1.deep):=p2
     have K2:Hid (Kp b wr w2):=k2
     have hb2:b < w2.heap.size:=p2.lt
     clear p2 k2
     go_wp2_with fail
     refine (hp (Px.nx s st1) _ (D1.out.good (Px.good_on D1.out.tk hob)) (P2.out.alloc _)).mono ?_
     rintro e w3 ⟨k3,q2,rfl,h3⟩
     obtain ⟨a0,a1,a2,a3,af⟩:=cells4 (one_new k3 hb2)
     have hz3:w2.heap.size < w3.heap.size:=by have:=k3.size;simp at this;omega
     have H3:Hid (ExPost b s (w2.alloc _) (g (Px.nx s st1)) (.returned (.pointer (some ⟨q2,0,none⟩))) w3):=⟨k3,q2,rfl,h3⟩
     clear k3 h3
     go_wp2_with fail
     go_region
     go_wp2
     obtain ⟨r1,r2⟩:=row_step (n:=n) (oa:=oa) (ob:=ob) (R:=Px.row s g oa ob st) (pl:=st.t.a) (o:=ob) (W:=((w3.alloc (.cells #[.pointer (some ⟨q,0,none⟩),.pointer (some ⟨q2,0,none⟩)] 179)).alloc (.cells #[.int .u8 (ob.toNat:Int),.int .i64 0,.string ⟨#[]⟩,.int .i64 (st.t.a:Int),.int .i64 (st1.t.a:Int),.slice (some ⟨w3.heap.size,0,none⟩) 2 2] 255)).drew)
      hb HG.out KR.out X.out D1.out (Px.good_on D1.out.tk hob) K2.out hm ob.toNat_lt (by rw[← CH.out,Px.chain,if_neg (by simp[ha]),if_pos hob];cases g (Px.nx s st1)<;>rfl) H3.out rfl (((Kp.refl _ _).alloc _).alloc _).drew
     exact ⟨⟨w3.heap.size+1,rfl,r1⟩,by rw[penM_ok P1.out];exact r2⟩
   ·go_wp2_with (first | (go_at_call 176;refine (on_ok b s _ st1.t st1.nest st1.deep _ P1.out).mono ?_;rintro e w' ⟨rfl,rfl⟩))
    refine (next_ok b s st1.t st1.nest st1.deep _ P1.out D1.out.tk.le hs).mono ?_
    unfold signV
    rw[onB_txt ha]
    rintro e w2 ⟨rfl,p2,k2⟩
    have P2:Hid (PenAt w2 b s (Px.tok s st1.t.b) (-1) st1.nest st1.deep):=p2
    have K2:Hid (Kp b wr w2):=k2
    have hb2:b < w2.heap.size:=p2.lt
    clear p2 k2
    go_wp2_with fail
    refine (hp (Px.nx s st1) _ (D1.out.good (Px.good_on D1.out.tk ha)) (P2.out.alloc _)).mono ?_
    rintro e w3 ⟨k3,q2,rfl,h3⟩
    obtain ⟨a0,a1,a2,a3,af⟩:=cells4 (one_new k3 hb2)
    have hz3:w2.heap.size < w3.heap.size:=by have:=k3.size;simp at this;omega
    have H3:Hid (ExPost b s (w2.alloc _) (g (Px.nx s st1)) (.returned (.pointer (some ⟨q2,0,none⟩))) w3):=⟨k3,q2,rfl,h3⟩
    clear k3 h3
    go_wp2_with fail
    go_region
    go_wp2
    obtain ⟨r1,r2⟩:=row_step (n:=n) (oa:=oa) (ob:=ob) (R:=Px.row s g oa ob st) (pl:=st.t.a) (o:=oa) (W:=((w3.alloc (.cells #[.pointer (some ⟨q,0,none⟩),.pointer (some ⟨q2,0,none⟩)] 179)).alloc (.cells #[.int .u8 (oa.toNat:Int),.int .i64 0,.string ⟨#[]⟩,.int .i64 (st.t.a:Int),.int .i64 (st1.t.a:Int),.slice (some ⟨w3.heap.size,0,none⟩) 2 2] 255)).drew)
     hb HG.out KR.out X.out D1.out (Px.good_on D1.out.tk ha) K2.out hm oa.toNat_lt (by rw[← CH.out,Px.chain,if_pos ha];cases g (Px.nx s st1)<;>rfl) H3.out rfl (((Kp.refl _ _).alloc _).alloc _).drew
    exact ⟨⟨w3.heap.size+1,rfl,r1⟩,by rw[penM_ok P1.out];exact r2⟩
  ·have P1:Hid (PenAt wr b s t (pe:Int) nest deep):=p1
   have V:Hid (_∧_∧_):=⟨hRe,hq,hv⟩
   clear p1 hRe hq hv
   go_wp2_with (first | (go_at_call 176;refine (on_bad b s _ t (pe:Int) nest deep _ P1.out (by omega)).mono ?_;rintro e w' ⟨rfl,rfl⟩))
   go_ret
   refine ⟨KR.out,q,rfl,?_⟩
   rw[V.out.1]
   exact ⟨V.out.2.1,V.out.2.2,t,nest,deep,P1.out⟩
open Go.RowKit
def AtomOk (b:Nat) (s:ByteArray) (n:Nat) (g:Px.Ps→Except Nat (Px.Ex×Px.Ps)):Prop :=
 ∀ (st:Px.Ps) (w:World),Dom s n st→PenAt w b s st.t (-1) st.nest st.deep →
  Calls Tryz.prog 213 #[.pointer (some ⟨b,0,none⟩)] w (ExPost b s w (g st))
theorem part_false (b:Nat) (s:ByteArray) (n:Nat) (g:Px.Ps→Except Nat (Px.Ex×Px.Ps)) (h:AtomOk b s n g):PartOk b s n false g:=by
 intro st w hD p
 have HD:Hid (Dom s n st∧PenAt w b s st.t (-1) st.nest st.deep):=⟨hD,p⟩
 clear hD p
 go_enter Tryz.func203,Tryz.ntmps203
 go_wp2_with fail
 refine (h st _ HD.out.1 HD.out.2).mono ?_
 rintro e w1 ⟨k1,q,rfl,h1⟩
 have H1:Hid (_∧_):=⟨k1,h1⟩
 clear k1 h1
 go_wp2_with fail
 go_ret
 exact ⟨H1.out.1,q,rfl,H1.out.2⟩
theorem part_true (b:Nat) (s:ByteArray) (n:Nat) (g:Px.Ps→Except Nat (Px.Ex×Px.Ps)) (h:AtomOk b s n g) (hg:Px.Goes s g) (hs:s.size≤maxLen):PartOk b s n true (Px.term s g):=by
 intro st w hD p
 have HG:Hid (Px.Goes s g):=hg
 have HD:Hid (Dom s n st∧PenAt w b s st.t (-1) st.nest st.deep):=⟨hD,p⟩
 clear hD p hg
 go_enter Tryz.func203,Tryz.ntmps203
 go_wp2_with fail
 refine (row_ok b s n false g (part_false b s n g h) HG.out 42 47 st _ HD.out.1 HD.out.2 hs).mono ?_
 rintro e w1 ⟨k1,q,rfl,h1⟩
 have H1:Hid (_∧_):=⟨k1,h1⟩
 clear k1 h1
 go_wp2_with fail
 go_ret
 exact ⟨H1.out.1,q,rfl,H1.out.2⟩
theorem sum_ok (b:Nat) (s:ByteArray) (n:Nat) (g:Px.Ps→Except Nat (Px.Ex×Px.Ps)) (h:AtomOk b s n g) (hg:Px.Goes s g) (hs:s.size≤maxLen) (st:Px.Ps) (w:World) (hD:Dom s n st) (p:PenAt w b s st.t (-1) st.nest st.deep) :
  Calls Tryz.prog 179 #[.pointer (some ⟨b,0,none⟩),.string ⟨#[43]⟩,.string ⟨#[45]⟩,.bool true] w (ExPost b s w (Px.sum s g st)) :=
 row_ok b s n true (Px.term s g) (part_true b s n g h hg hs) (Px.term_goes hg) 43 45 st w hD p hs
theorem cmp_none {s:ByteArray} {t:Px.Tok} (h1:Px.onB s t ⟨#[60]⟩=false) (h2:Px.onB s t ⟨#[61]⟩=false) (h3:Px.onB s t ⟨#[35]⟩=false):Px.cmpOf s t=none:=by
 simp[Px.cmpOf,h1,h2,h3]
def ExprOk (b:Nat) (s:ByteArray) (n:Nat) (g:Px.Ps→Except Nat (Px.Ex×Px.Ps)):Prop :=
 ∀ (st:Px.Ps) (w:World),Dom s n st→PenAt w b s st.t (-1) st.nest st.deep →
  Calls Tryz.prog 130 #[.pointer (some ⟨b,0,none⟩)] w (ExPost b s w (Px.expr s g st))
set_option maxHeartbeats 1000000 in
theorem expr_ok (b:Nat) (s:ByteArray) (n:Nat) (g:Px.Ps→Except Nat (Px.Ex×Px.Ps)) (h:AtomOk b s n g) (hg:Px.Goes s g) (hs:s.size≤maxLen):ExprOk b s n g:=by
 intro st w hD p
 obtain ⟨c0,c1,c2,c3,c4,c5,c6,c7,f,hb⟩:=p.cells
 have HG:Hid (Px.Goes s g):=hg
 have HD:Hid (Dom s n st∧PenAt w b s st.t (-1) st.nest st.deep):=⟨hD,p⟩
 clear hD p hg
 go_enter Tryz.func130,Tryz.ntmps130
 go_wp2_with fail
 refine (sum_ok b s n g h HG.out hs st _ HD.out.1 HD.out.2).mono ?_
 rintro e w1 ⟨k1,q,rfl,h1⟩
 clear c0 c1 c2 c3 c4 c5 c6 c7 f
 cases hr:Px.sum s g st with
 | error pe =>
  have e1:Hid (Px.expr s g st=.error pe):=by unfold Hid Px.expr;rw[hr]
  rw[hr] at h1
  obtain ⟨hq,hv,t,nest,deep,p1⟩:=h1
  have P1:Hid (PenAt w1 b s t (pe:Int) nest deep):=p1
  have V:Hid (_∧_∧_):=⟨k1,hq,hv⟩
  clear k1 hq hv p1 hr
  go_wp2_with (first | (go_at_call 176;refine (on_bad b s _ t (pe:Int) nest deep _ P1.out (by omega)).mono ?_;rintro e w' ⟨rfl,rfl⟩))
  go_ret
  rw[e1.out]
  exact ⟨V.out.1,q,rfl,V.out.2.1,V.out.2.2,t,nest,deep,P1.out⟩
 | ok r =>
  obtain ⟨x,st1⟩:=r
  have HR:Hid (Px.sum s g st=.ok (x,st1)):=hr
  rw[hr] at h1
  obtain ⟨hx,p1⟩:=h1
  have X:Hid (Kp b w w1∧ExAt w1 x (In w w1) q):=⟨k1,hx⟩
  have P1:Hid (PenAt w1 b s st1.t (-1) st1.nest st1.deep):=p1
  have D1:Hid (Dom s n st1):=HD.out.1.good (Px.sum_goes HG.out _ _ _ HD.out.1.tk hr)
  clear k1 hx p1 hr
  have fin:∀ (o:UInt8) (hc:Px.cmpOf s st1.t=some o.toNat) (w2 w3 W:World) (q2:Nat) (O:Obj) (K2:Kp b w1 w2) (H3:ExPost b s (w2.alloc O) (Px.sum s g (Px.nx s st1)) (.returned (.pointer (some ⟨q2,0,none⟩))) w3)
   (hW:W.heap=(w3.heap.push (.cells #[.pointer (some ⟨q,0,none⟩),.pointer (some ⟨q2,0,none⟩)] 179)).push (.cells #[.int .u8 (o.toNat:Int),.int .i64 0,.string ⟨#[]⟩,.int .i64 (st.t.a:Int),.int .i64 (st1.t.a:Int),.slice (some ⟨w3.heap.size,0,none⟩) 2 2] 255))
   (hK:Kp b w3 W),ExPost b s w (Px.expr s g st) (.returned (.pointer (some ⟨w3.heap.size+1,0,none⟩))) W:=by
   intro o hc w2 w3 W q2 O K2 H3 hW hK
   obtain ⟨k3,q2',he,h3⟩:=H3
   obtain rfl:q2=q2':=by simpa using he
   have kw3:Kp b w1 w3:=K2.trans k3.of_alloc
   have kw:Kp b w W:=(X.out.1.trans kw3).trans hK
   have s1:=X.out.1.size
   have s2:=kw3.size
   have s3:=K2.size
   have hpen:∀ {t:Px.Tok} {bad nest deep:Int},PenAt w3 b s t bad nest deep→PenAt W b s t bad nest deep:=fun p=>⟨by rw[hW,push2_old p.lt];exact p.h⟩
   refine ⟨kw,_,rfl,?_⟩
   unfold Px.expr
   rw[HR.out]
   simp only[hc]
   cases hr:Px.sum s g (Px.nx s st1) with
   | error p =>
    rw[hr] at h3
    obtain ⟨hq,hv,t,nest,deep,hp⟩:=h3
    exact ⟨by omega,⟨_,_,_,_,_,_,by rw[hW];exact push2_two⟩,t,nest,deep,hpen hp⟩
   | ok r =>
    obtain ⟨k,st'⟩:=r
    rw[hr] at h3
    obtain ⟨hk,hp⟩:=h3
    exact ⟨ExAt.pair (X.out.2.kp hb kw3) hk (by simp;omega) s2 (by omega) hW,hpen hp⟩
  have FIN:Hid (_):=fin
  clear fin
  cases h60:Px.onB s st1.t ⟨#[60]⟩
  ·cases h61:Px.onB s st1.t ⟨#[61]⟩
   ·cases h35:Px.onB s st1.t ⟨#[35]⟩
    ·go_wp2_with (first | (go_at_call 176;refine (on_ok b s _ st1.t st1.nest st1.deep _ P1.out).mono ?_;rintro e w' ⟨rfl,rfl⟩))
     go_ret
     refine ⟨X.out.1,q,rfl,?_⟩
     unfold Px.expr
     rw[HR.out]
     simp only[cmp_none h60 h61 h35]
     exact ⟨X.out.2,P1.out⟩
    ·go_wp2_with (first | (go_at_call 176;refine (on_ok b s _ st1.t st1.nest st1.deep _ P1.out).mono ?_;rintro e w' ⟨rfl,rfl⟩))
     refine (next_ok b s st1.t st1.nest st1.deep _ P1.out D1.out.tk.le hs).mono ?_
     unfold signV
     rw[onB_txt h35]
     rintro e w2 ⟨rfl,p2,k2⟩
     have P2:Hid (PenAt w2 b s (Px.tok s st1.t.b) (-1) st1.nest st1.deep):=p2
     have K2:Hid (Kp b w1 w2):=k2
     have hb2:b < w2.heap.size:=p2.lt
     clear p2 k2
     go_wp2_with fail
     refine (sum_ok b s n g h HG.out hs (Px.nx s st1) _ (D1.out.good (Px.good_on D1.out.tk h35)) (P2.out.alloc _)).mono ?_
     rintro e w3 ⟨k3,q2,rfl,h3⟩
     obtain ⟨a0,a1,a2,a3,af⟩:=cells4 (one_new k3 hb2)
     have hz3:w2.heap.size < w3.heap.size:=by have:=k3.size;simp at this;omega
     have H3:Hid (ExPost b s (w2.alloc _) (Px.sum s g (Px.nx s st1)) (.returned (.pointer (some ⟨q2,0,none⟩))) w3):=⟨k3,q2,rfl,h3⟩
     clear k3 h3
     go_wp2_with fail
     go_region
     go_wp2
     go_ret
     exact FIN.out 35 (by simp[Px.cmpOf,h60,h61,h35]) w2 w3 _ q2 _ K2.out H3.out rfl (((Kp.refl _ _).alloc _).alloc _).drew
   ·go_wp2_with (first | (go_at_call 176;refine (on_ok b s _ st1.t st1.nest st1.deep _ P1.out).mono ?_;rintro e w' ⟨rfl,rfl⟩))
    refine (next_ok b s st1.t st1.nest st1.deep _ P1.out D1.out.tk.le hs).mono ?_
    unfold signV
    rw[onB_txt h61]
    rintro e w2 ⟨rfl,p2,k2⟩
    have P2:Hid (PenAt w2 b s (Px.tok s st1.t.b) (-1) st1.nest st1.deep):=p2
    have K2:Hid (Kp b w1 w2):=k2
    have hb2:b < w2.heap.size:=p2.lt
    clear p2 k2
    go_wp2_with fail
    refine (sum_ok b s n g h HG.out hs (Px.nx s st1) _ (D1.out.good (Px.good_on D1.out.tk h61)) (P2.out.alloc _)).mono ?_
    rintro e w3 ⟨k3,q2,rfl,h3⟩
    obtain ⟨a0,a1,a2,a3,af⟩:=cells4 (one_new k3 hb2)
    have hz3:w2.heap.size < w3.heap.size:=by have:=k3.size;simp at this;omega
    have H3:Hid (ExPost b s (w2.alloc _) (Px.sum s g (Px.nx s st1)) (.returned (.pointer (some ⟨q2,0,none⟩))) w3):=⟨k3,q2,rfl,h3⟩
    clear k3 h3
    go_wp2_with fail
    go_region
    go_wp2
    go_ret
    exact FIN.out 61 (by simp[Px.cmpOf,h60,h61]) w2 w3 _ q2 _ K2.out H3.out rfl (((Kp.refl _ _).alloc _).alloc _).drew
  ·go_wp2_with (first | (go_at_call 176;refine (on_ok b s _ st1.t st1.nest st1.deep _ P1.out).mono ?_;rintro e w' ⟨rfl,rfl⟩))
   refine (next_ok b s st1.t st1.nest st1.deep _ P1.out D1.out.tk.le hs).mono ?_
   unfold signV
   rw[onB_txt h60]
   rintro e w2 ⟨rfl,p2,k2⟩
   have P2:Hid (PenAt w2 b s (Px.tok s st1.t.b) (-1) st1.nest st1.deep):=p2
   have K2:Hid (Kp b w1 w2):=k2
   have hb2:b < w2.heap.size:=p2.lt
   clear p2 k2
   go_wp2_with fail
   refine (sum_ok b s n g h HG.out hs (Px.nx s st1) _ (D1.out.good (Px.good_on D1.out.tk h60)) (P2.out.alloc _)).mono ?_
   rintro e w3 ⟨k3,q2,rfl,h3⟩
   obtain ⟨a0,a1,a2,a3,af⟩:=cells4 (one_new k3 hb2)
   have hz3:w2.heap.size < w3.heap.size:=by have:=k3.size;simp at this;omega
   have H3:Hid (ExPost b s (w2.alloc _) (Px.sum s g (Px.nx s st1)) (.returned (.pointer (some ⟨q2,0,none⟩))) w3):=⟨k3,q2,rfl,h3⟩
   clear k3 h3
   go_wp2_with fail
   go_region
   go_wp2
   go_ret
   exact FIN.out 60 (by simp[Px.cmpOf,h60]) w2 w3 _ q2 _ K2.out H3.out rfl (((Kp.refl _ _).alloc _).alloc _).drew
open Go.RowKit
theorem dig_extract {s:ByteArray} {t:Px.Tok} (h:Px.Tk s t) (hk:t.k=110):(s.extract t.a t.b).size≤4∧∀ j (hj:j < (s.extract t.a t.b).size),Px.isDig (s.extract t.a t.b)[j]=true:=by
 obtain ⟨h1,h2⟩:=h.num hk
 have hz:(s.extract t.a t.b).size=t.b - t.a:=by
  have:=h.le;simp;omega
 refine ⟨by omega,fun j hj=>?_⟩
 have e:(s.extract t.a t.b)[j]=s[t.a+j]'(by have:=h.le;omega):=by
  simp[ByteArray.getElem_extract]
 rw[e]
 exact h2 _ _ (by omega) (by omega)
theorem onB_lit {s:ByteArray} {t:Px.Tok} (hk:t.k=107) (l:List UInt8):Px.onB s t ⟨⟨l⟩⟩=((s.extract t.a t.b).toList == l):=by
 unfold Px.onB
 rw[hk,ByteArray.toList_eq ⟨⟨l⟩⟩]
 simp
theorem cells6 {w:World} {k:Nat} {a b c d e f:Value} {t:TypeId} (h:w.heap[k]?=some (.cells #[a,b,c,d,e,f] t)) :
  w.cell? ⟨k,0,none⟩=some a∧w.cell? ⟨k,1,none⟩=some b∧w.cell? ⟨k,2,none⟩=some c∧w.cell? ⟨k,3,none⟩=some d∧w.cell? ⟨k,4,none⟩=some e∧w.cell? ⟨k,5,none⟩=some f∧∀ o,w.frozen? ⟨k,o,none⟩=false:=by
 refine ⟨?_,?_,?_,?_,?_,?_,?_⟩<;>simp[World.cell?,World.frozen?,h]
theorem two_kept {b:Nat} {w W w1:World} {o p:Obj} (hW:W.heap=(w.heap.push o).push p) (h:Kp b W w1) (hb:b < w.heap.size):w1.heap[w.heap.size]?=some o∧w1.heap[w.heap.size+1]?=some p∧w.heap.size+2≤w1.heap.size:=by
 have e0:W.heap.size=w.heap.size+2:=by rw[hW];simp
 have:=h.size
 refine ⟨?_,?_,by omega⟩
 ·rw[h.block _ (by omega) (by omega),hW];exact push2_one
 ·rw[h.block _ (by omega) (by omega),hW];exact push2_two
theorem leaf_post {b:Nat} {s:ByteArray} {w w':World} {st:Px.Ps} {op n pl:Nat} {word:ByteArray} {T:Obj} (hb:b < w.heap.size)
  (k:Kp b ((w.alloc (.cells #[.int .u8 (op:Int),.int .i64 (n:Int),.string word,.int .i64 (pl:Int),.int .i64 (pl:Int),.slice none 0 0] 255)).alloc T).drew w') (p:PenAt w' b s st.t (-1) st.nest st.deep) :
  ExPost b s w (.ok (Px.leaf op n word pl,st)) (.returned (.pointer (some ⟨w.heap.size,0,none⟩))) w':=by
 obtain ⟨h1,h2,h3⟩:=two_kept rfl k hb
 exact ⟨((((Kp.refl b w).alloc _).alloc _).drew).trans k,_,rfl,⟨⟨Nat.le_refl _,by omega⟩,h1⟩,p⟩
set_option maxHeartbeats 2000000 in
theorem atom_num (b:Nat) (s:ByteArray) (n:Nat) (hs:s.size≤maxLen) (st:Px.Ps) (w:World) (hD:Dom s (n+1) st) (p:PenAt w b s st.t (-1) st.nest st.deep) (hk:st.t.k=110) :
  Calls Tryz.prog 213 #[.pointer (some ⟨b,0,none⟩)] w (ExPost b s w (Px.atom s (n+1) st)):=by
 obtain ⟨c0,c1,c2,c3,c4,c5,c6,c7,f,hb⟩:=p.cells
 have HD:Hid (Dom s (n+1) st∧PenAt w b s st.t (-1) st.nest st.deep):=⟨hD,p⟩
 have e1:Hid (Px.atom s (n+1) st=.ok (Px.leaf 110 (Px.valOf (Px.txt s st.t).toList) Px.nowt st.t.a,Px.nx s st)):=by
  unfold Hid;rw[Px.atom,if_pos hk]
 have V:Hid (_∧_):=dig_extract hD.tk hk
 have t1:((st.t.k:Int) == 110)=true:=by rw[hk];rfl
 clear hD p hk
 go_enter Tryz.func213,Tryz.ntmps213
 go_wp2_with fail
 go_region
 go_wp2_with fail
 refine (value_any _ _ V.out.1 V.out.2).mono ?_
 rintro e w' ⟨rfl,hw⟩
 rw[hw]
 clear hw
 go_wp2_with fail
 refine (next_ok b s st.t st.nest st.deep _ ((HD.out.2.alloc _).alloc _).drew HD.out.1.tk.le hs).mono ?_
 rintro e w2 ⟨rfl,p2,k2⟩
 have P2:Hid (_∧_):=⟨p2,k2⟩
 clear p2 k2
 go_wp2_with fail
 go_ret
 rw[e1.out]
 exact leaf_post hb P2.out.2 P2.out.1
set_option maxHeartbeats 2000000 in
theorem atom_word (b:Nat) (s:ByteArray) (n:Nat) (hs:s.size≤maxLen) (st:Px.Ps) (w:World) (hD:Dom s (n+1) st) (p:PenAt w b s st.t (-1) st.nest st.deep) (hk:st.t.k=119) :
  Calls Tryz.prog 213 #[.pointer (some ⟨b,0,none⟩)] w (ExPost b s w (Px.atom s (n+1) st)):=by
 obtain ⟨c0,c1,c2,c3,c4,c5,c6,c7,f,hb⟩:=p.cells
 have HD:Hid (Dom s (n+1) st∧PenAt w b s st.t (-1) st.nest st.deep):=⟨hD,p⟩
 have e1:Hid (Px.atom s (n+1) st=.ok (Px.leaf 119 0 (Px.txt s st.t) st.t.a,Px.nx s st)):=by
  unfold Hid;rw[Px.atom,if_neg (by omega),if_pos hk]
 have t1:((st.t.k:Int) == 110)=false:=by rw[hk];rfl
 have t2:((st.t.k:Int) == 119)=true:=by rw[hk];rfl
 clear hD p hk
 go_enter Tryz.func213,Tryz.ntmps213
 go_wp2_with fail
 go_region
 go_wp2_with fail
 refine (next_ok b s st.t st.nest st.deep _ ((HD.out.2.alloc _).alloc _).drew HD.out.1.tk.le hs).mono ?_
 rintro e w2 ⟨rfl,p2,k2⟩
 have P2:Hid (_∧_):=⟨p2,k2⟩
 clear p2 k2
 go_wp2_with fail
 go_ret
 rw[e1.out]
 exact leaf_post hb P2.out.2 P2.out.1
set_option maxHeartbeats 2000000 in
theorem atom_true (b:Nat) (s:ByteArray) (n:Nat) (hs:s.size≤maxLen) (st:Px.Ps) (w:World) (hD:Dom s (n+1) st) (p:PenAt w b s st.t (-1) st.nest st.deep) (ho:Px.onB s st.t ⟨#[116,114,117,101]⟩=true) :
  Calls Tryz.prog 213 #[.pointer (some ⟨b,0,none⟩)] w (ExPost b s w (Px.atom s (n+1) st)):=by
 obtain ⟨c0,c1,c2,c3,c4,c5,c6,c7,f,hb⟩:=p.cells
 have HD:Hid (Dom s (n+1) st∧PenAt w b s st.t (-1) st.nest st.deep):=⟨hD,p⟩
 have hk:=Px.onB_k ho
 have e1:Hid (Px.atom s (n+1) st=.ok (Px.leaf 116 1 Px.nowt st.t.a,Px.nx s st)):=by
  unfold Hid;rw[Px.atom,if_neg (by omega),if_neg (by omega),if_pos ho]
 have t1:((st.t.k:Int) == 110)=false:=by rw[hk];rfl
 have t2:((st.t.k:Int) == 119)=false:=by rw[hk];rfl
 have t3:((st.t.k:Int) == 107)=true:=by rw[hk];rfl
 have t4:((s.extract st.t.a st.t.b).toList == [116,114,117,101])=true:=by rw[← onB_lit hk];exact ho
 clear hD p hk ho
 go_enter Tryz.func213,Tryz.ntmps213
 go_wp2_with fail
 go_region
 go_wp2_with fail
 refine (next_ok b s st.t st.nest st.deep _ ((HD.out.2.alloc _).alloc _).drew HD.out.1.tk.le hs).mono ?_
 rintro e w2 ⟨rfl,p2,k2⟩
 have P2:Hid (_∧_):=⟨p2,k2⟩
 clear p2 k2
 go_wp2_with fail
 go_ret
 rw[e1.out]
 exact leaf_post hb P2.out.2 P2.out.1
set_option maxHeartbeats 2000000 in
theorem atom_false (b:Nat) (s:ByteArray) (n:Nat) (hs:s.size≤maxLen) (st:Px.Ps) (w:World) (hD:Dom s (n+1) st) (p:PenAt w b s st.t (-1) st.nest st.deep) (hk:st.t.k=107) (h1:Px.onB s st.t ⟨#[116,114,117,101]⟩=false) (ho:Px.onB s st.t ⟨#[102,97,108,115,101]⟩=true) :
  Calls Tryz.prog 213 #[.pointer (some ⟨b,0,none⟩)] w (ExPost b s w (Px.atom s (n+1) st)):=by
 obtain ⟨c0,c1,c2,c3,c4,c5,c6,c7,f,hb⟩:=p.cells
 have HD:Hid (Dom s (n+1) st∧PenAt w b s st.t (-1) st.nest st.deep):=⟨hD,p⟩
 have e1:Hid (Px.atom s (n+1) st=.ok (Px.leaf 116 0 Px.nowt st.t.a,Px.nx s st)):=by
  unfold Hid;rw[Px.atom,if_neg (by omega),if_neg (by omega),if_neg (by simp[h1]),if_pos ho]
 have t1:((st.t.k:Int) == 110)=false:=by rw[hk];rfl
 have t2:((st.t.k:Int) == 119)=false:=by rw[hk];rfl
 have t3:((st.t.k:Int) == 107)=true:=by rw[hk];rfl
 have t4:((s.extract st.t.a st.t.b).toList == [116,114,117,101])=false:=by rw[← onB_lit hk];exact h1
 have t5:((s.extract st.t.a st.t.b).toList == [102,97,108,115,101])=true:=by rw[← onB_lit hk];exact ho
 clear hD p hk ho h1
 go_enter Tryz.func213,Tryz.ntmps213
 go_wp2_with fail
 go_region
 go_wp2_with fail
 refine (next_ok b s st.t st.nest st.deep _ ((HD.out.2.alloc _).alloc _).drew HD.out.1.tk.le hs).mono ?_
 rintro e w2 ⟨rfl,p2,k2⟩
 have P2:Hid (_∧_):=⟨p2,k2⟩
 clear p2 k2
 go_wp2_with fail
 go_ret
 rw[e1.out]
 exact leaf_post hb P2.out.2 P2.out.1
open Go.RowKit
def PSt (w:World) (b:Nat) (s:ByteArray) (r:Except Nat Px.Ps):Prop :=
 match r with
 | .ok st=>PenAt w b s st.t (-1) st.nest st.deep∧Px.Tk s st.t
 | .error p=>∃ t nest deep,PenAt w b s t ((p:Nat):Int) nest deep
theorem PSt.lt {w:World} {b:Nat} {s:ByteArray} {r:Except Nat Px.Ps} (h:PSt w b s r):b < w.heap.size:=by
 cases r with
 | error p=>obtain ⟨t,nest,deep,hp⟩:=h;exact hp.lt
 | ok st=>exact h.1.lt
theorem PSt.eqv {w w':World} {b:Nat} {s:ByteArray} {r:Except Nat Px.Ps} (h:PSt w b s r) (he:w'.heap[b]?=w.heap[b]?):PSt w' b s r:=by
 cases r with
 | error p=>obtain ⟨t,nest,deep,hp⟩:=h;exact ⟨t,nest,deep,⟨by rw[he];exact hp.h⟩⟩
 | ok st=>exact ⟨⟨by rw[he];exact h.1.h⟩,h.2⟩
theorem PSt.alloc {w:World} {b:Nat} {s:ByteArray} {r:Except Nat Px.Ps} (h:PSt w b s r) (o:Obj):PSt (w.alloc o) b s r:=h.eqv (Below.heap_alloc _ _ _ h.lt)
theorem PSt.setN {w:World} {b k o:Nat} {s:ByteArray} {r:Except Nat Px.Ps} (h:PSt w b s r) (hk:b≠k) (v:Value):PSt (w.setCell ⟨k,o,none⟩ v) b s r:=h.eqv (heap_set_ne _ hk)
def onR (s:ByteArray) (r:Except Nat Px.Ps) (x:ByteArray):Bool :=
 match r with
 | .ok st=>Px.onB s st.t x
 | .error _=>false
theorem onU (b:Nat) (s x:ByteArray) (r:Except Nat Px.Ps) (w:World) (p:PSt w b s r) :
  Calls Tryz.prog 176 #[.pointer (some ⟨b,0,none⟩),.string x] w fun e w'=>e=.returned (.bool (onR s r x))∧w=w':=by
 cases r with
 | error pe=>obtain ⟨t,nest,deep,hp⟩:=p;exact on_bad b s x t _ nest deep w hp (by omega)
 | ok st=>exact on_ok b s x st.t st.nest st.deep w p.1
def gotR (s:ByteArray) (r:Except Nat Px.Ps) (x:ByteArray):Except Nat Px.Ps :=
 match r with
 | .ok st=>if Px.onB s st.t x then .ok (Px.nx s st) else .ok st
 | .error p=>.error p
theorem gotU (b:Nat) (s x:ByteArray) (r:Except Nat Px.Ps) (w:World) (p:PSt w b s r) (hs:s.size≤maxLen) :
  Calls Tryz.prog 127 #[.pointer (some ⟨b,0,none⟩),.string x] w fun e w'=>e=.returned (.bool (onR s r x))∧Kp b w w'∧PSt w' b s (gotR s r x):=by
 cases r with
 | error pe =>
  obtain ⟨t,nest,deep,hp⟩:=p
  refine (got_bad b s x t _ nest deep w hp (by omega)).mono ?_
  rintro e w' ⟨rfl,rfl⟩
  exact ⟨rfl,Kp.refl _ _,t,nest,deep,hp⟩
 | ok st =>
  cases ho:Px.onB s st.t x
  ·refine (got_no b s x st.t st.nest st.deep w p.1 ho).mono ?_
   rintro e w' ⟨rfl,rfl⟩
   exact ⟨by simp[onR,ho],Kp.refl _ _,by simp[gotR,ho];exact p⟩
  ·refine (got_yes b s x st.t st.nest st.deep w p.1 p.2.le hs ho).mono ?_
   rintro e w' ⟨rfl,p1,k1⟩
   exact ⟨by simp[onR,ho],k1,by simp[gotR,ho];exact ⟨p1,Px.nx_tk p.2⟩⟩
theorem needU (b:Nat) (s x:ByteArray) (r:Except Nat Px.Ps) (w:World) (p:PSt w b s r) (hs:s.size≤maxLen) :
  Calls Tryz.prog 129 #[.pointer (some ⟨b,0,none⟩),.string x] w fun e w'=>e=.returned (.tuple #[])∧Kp b w w'∧PSt w' b s (r.bind (Px.need s x)):=by
 cases r with
 | error pe =>
  obtain ⟨t,nest,deep,hp⟩:=p
  refine (need_bad b s x t _ nest deep w hp (by omega)).mono ?_
  rintro e w' ⟨rfl,rfl⟩
  exact ⟨rfl,Kp.refl _ _,t,nest,deep,hp⟩
 | ok st =>
  cases ho:Px.onB s st.t x
  ·refine (need_no b s x st.t st.nest st.deep w p.1 ho).mono ?_
   rintro e w' ⟨rfl,p1,k1⟩
   exact ⟨rfl,k1,by simp[Except.bind,Px.need,ho];exact ⟨_,_,_,p1⟩⟩
  ·refine (need_yes b s x st.t st.nest st.deep w p.1 p.2.le hs ho).mono ?_
   rintro e w' ⟨rfl,p1,k1⟩
   exact ⟨rfl,k1,by simp[Except.bind,Px.need,ho];exact ⟨p1,Px.nx_tk p.2⟩⟩
def kindT (s:ByteArray) (r:Except Nat Px.Ps) (k:Nat):ByteArray :=
 match r with
 | .ok st=>if st.t.k=k then s.extract st.t.a st.t.b else ⟨#[]⟩
 | .error _=>⟨#[]⟩
def kindA (r:Except Nat Px.Ps) (k:Nat):Nat :=
 match r with
 | .ok st=>if st.t.k=k then st.t.a else 0
 | .error _=>0
theorem kindU (b:Nat) (s:ByteArray) (k:Nat) (r:Except Nat Px.Ps) (w:World) (p:PSt w b s r) (hs:s.size≤maxLen) :
  Calls Tryz.prog 128 #[.pointer (some ⟨b,0,none⟩),.int .u8 (k:Int)] w fun e w'=>(∃ v x:Int,e=.returned (.agg #[.int .u8 v,.string (kindT s r k),.int .i64 (kindA r k:Int),.int .i64 x]))∧Kp b w w'∧PSt w' b s (r.bind (Px.kind s k)):=by
 cases r with
 | error pe =>
  obtain ⟨t,nest,deep,hp⟩:=p
  refine (kind_bad b s k t _ nest deep w hp (by omega)).mono ?_
  rintro e w' ⟨rfl,p1,k1⟩
  exact ⟨⟨0,0,rfl⟩,k1,t,nest,deep,p1⟩
 | ok st =>
  by_cases ho:st.t.k=k
  ·refine (kind_yes b s k st.t st.nest st.deep w p.1 p.2.le hs (by omega)).mono ?_
   rintro e w' ⟨rfl,p1,k1⟩
   exact ⟨⟨st.t.k,st.t.b,by simp[kindT,kindA,ho,signV]⟩,k1,by simp[Except.bind,Px.kind,ho];exact ⟨p1,Px.nx_tk p.2⟩⟩
  ·refine (kind_no b s k st.t st.nest st.deep w p.1 (by omega)).mono ?_
   rintro e w' ⟨rfl,p1,k1⟩
   exact ⟨⟨0,0,by simp[kindT,kindA,ho,zeroSign]⟩,k1,by simp[Except.bind,Px.kind,ho];exact ⟨_,_,_,p1⟩⟩
theorem upU (b:Nat) (s:ByteArray) (r:Except Nat Px.Ps) (w:World) (p:PSt w b s r) (hn:∀ st,r=.ok st→0≤st.nest∧st.nest≤2000000) :
  Calls Tryz.prog 181 #[.pointer (some ⟨b,0,none⟩)] w fun e w'=>e=.returned (.tuple #[])∧Kp b w w'∧PSt w' b s (r.map Px.upp):=by
 cases r with
 | error pe =>
  obtain ⟨t,nest,deep,hp⟩:=p
  refine (up_ok b s t _ nest deep w hp).mono ?_
  rintro e w' ⟨rfl,p1,k1⟩
  exact ⟨rfl,k1,t,_,deep,p1⟩
 | ok st =>
  refine (up_ok b s st.t _ st.nest st.deep w p.1).mono ?_
  rintro e w' ⟨rfl,p1,k1⟩
  have h:=hn st rfl
  refine ⟨rfl,k1,?_,p.2⟩
  have e1:wrap64 (st.nest - 1)=st.nest - 1:=(by unfold wrap64;omega)
  rw[e1] at p1
  exact p1
end Ref
end Go.Proofs.YtnhkpbmplefnaaaGreatDoor
