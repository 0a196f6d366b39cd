import Derived.Test.YtnhkpbmplefnaaaGreatDoorProg
import Derived.WalkKit
import Derived.WalkSpells
import Derived.WalkLawsBesides
import Derived.Deep.RegionWith
namespace Go.Proofs.YtnhkpbmplefnaaaGreatDoor
namespace Px
def isSmall (c:UInt8):Bool:=decide (97≤c.toNat) && decide (c.toNat≤122)
def isDig (c:UInt8):Bool:=decide (48≤c.toNat) && decide (c.toNat≤57)
def isBlank (c:UInt8):Bool:=c == 32 || c == 10
def marks:List UInt8:=[61,59,40,41,123,125,60,35,43,45,42,47]
def isMark (c:UInt8):Bool:=marks.contains c
def keptWords:List (List UInt8):=[[108,101,116],[99,97,108,108],[97,115],[117,110,100,111],[116,114,105,101,115],[105,102],[101,108,115,101],[116,114,121],[114,101,112,101,97,116],[102,97,105,108],[116,114,117,101],[102,97,108,115,101],[110,111,116]]
def isKept (w:List UInt8):Bool:=keptWords.contains w
def runTo (p:UInt8→Bool) (s:ByteArray):Nat→Nat→Nat
 | 0,i=>i
 | n+1,i=>if h:i < s.size then (if p s[i] then runTo p s n (i+1) else i) else i
def runOf (p:UInt8→Bool) (s:ByteArray) (i:Nat):Nat:=runTo p s (s.size - i) i
theorem runTo_ge (p:UInt8→Bool) (s:ByteArray) (n i:Nat):i≤runTo p s n i:=by
 induction n generalizing i with
 | zero=>simp[runTo]
 | succ n ih =>
  unfold runTo
  split
  ·split
   ·have:=ih (i+1);omega
   ·omega
  ·omega
theorem runTo_le (p:UInt8→Bool) (s:ByteArray) (n i:Nat) (h:i≤s.size):runTo p s n i≤s.size:=by
 induction n generalizing i with
 | zero=>simpa [runTo] using h
 | succ n ih =>
  unfold runTo
  split
  ·split
   ·exact ih (i+1) (by omega)
   ·omega
  ·omega
theorem runTo_all (p:UInt8→Bool) (s:ByteArray) (n i:Nat):∀ k (hk:k < s.size),i≤k→k < runTo p s n i→p s[k]=true:=by
 induction n generalizing i with
 | zero=>intro k hk h1 h2;simp[runTo] at h2;omega
 | succ n ih =>
  intro k hk h1 h2
  unfold runTo at h2
  split at h2
  ·split at h2
   ·rename_i hp
    by_cases e:k=i
    ·subst e;exact hp
    ·exact ih (i+1) k hk (by omega) h2
   ·omega
  ·omega
theorem runTo_stop (p:UInt8→Bool) (s:ByteArray) (n i:Nat) (hn:s.size - i≤n):∀ (h:runTo p s n i < s.size),p s[runTo p s n i]=false:=by
 induction n generalizing i with
 | zero=>intro h;simp[runTo] at h;omega
 | succ n ih =>
  intro h
  by_cases hi:i < s.size
  ·by_cases hp:p s[i]=true
   ·have e:runTo p s (n+1) i=runTo p s n (i+1):=by rw[runTo,dif_pos hi,if_pos hp]
    simp only[e] at h ⊢
    exact ih (i+1) (by omega) h
   ·have e:runTo p s (n+1) i=i:=by rw[runTo,dif_pos hi,if_neg hp]
    simp only[e] at h ⊢
    simpa using hp
  ·have e:runTo p s (n+1) i=i:=by rw[runTo,dif_neg hi]
   simp only[e] at h
   omega
theorem runOf_ge (p:UInt8→Bool) (s:ByteArray) (i:Nat):i≤runOf p s i:=runTo_ge _ _ _ _
theorem runOf_le (p:UInt8→Bool) (s:ByteArray) (i:Nat) (h:i≤s.size):runOf p s i≤s.size:=runTo_le _ _ _ _ h
theorem runOf_eq (p:UInt8→Bool) (s:ByteArray) (i k:Nat) (h1:i≤k) (h2:k≤s.size) (ha:∀ j (hj:j < s.size),i≤j→j < k→p s[j]=true) (hs:∀ (h:k < s.size),p s[k]=false):runOf p s i=k:=by
 have g1:=runOf_ge p s i
 have g2:=runOf_le p s i (by omega)
 rcases Nat.lt_trichotomy (runOf p s i) k with h | h | h
 ·have:=runTo_stop p s (s.size - i) i (Nat.le_refl _) (by unfold runOf at h;omega)
  have h3:=ha (runOf p s i) (by omega) g1 h
  unfold runOf at h3
  rw[this] at h3;simp at h3
 ·exact h
 ·have h3:=runTo_all p s (s.size - i) i k (by omega) h1 h
  rw[hs (by omega)] at h3;simp at h3
structure Tok where
 k:Nat
 a:Nat
 b:Nat
def tokAt (s:ByteArray) (a:Nat):Tok :=
 if h:a < s.size then
  if isSmall s[a] then
   if isKept (s.extract a (runOf isSmall s a)).toList then ⟨107,a,runOf isSmall s a⟩ else if 8 < runOf isSmall s a - a then ⟨63,a,a⟩ else ⟨119,a,runOf isSmall s a⟩
  else if isDig s[a] then
   if 4 < runOf isDig s a - a then ⟨63,a,a⟩ else ⟨110,a,runOf isDig s a⟩
  else if isMark s[a] then ⟨107,a,a+1⟩ else ⟨63,a,a⟩
 else ⟨0,s.size,s.size⟩
def tok (s:ByteArray) (i:Nat):Tok:=tokAt s (runOf isBlank s i)
theorem tokAt_end {s:ByteArray} {a:Nat} (h:¬ a < s.size):tokAt s a=⟨0,s.size,s.size⟩:=by rw[tokAt,dif_neg h]
theorem tokAt_kept {s:ByteArray} {a b:Nat} (h:a < s.size) (hs:isSmall s[a]=true) (hb:runOf isSmall s a=b) (hk:isKept (s.extract a b).toList=true):tokAt s a=⟨107,a,b⟩:=by
 subst hb;rw[tokAt,dif_pos h,if_pos hs,if_pos hk]
theorem tokAt_long {s:ByteArray} {a b:Nat} (h:a < s.size) (hs:isSmall s[a]=true) (hb:runOf isSmall s a=b) (hk:isKept (s.extract a b).toList=false) (hl:8 < b - a):tokAt s a=⟨63,a,a⟩:=by
 subst hb;rw[tokAt,dif_pos h,if_pos hs,if_neg (by simp[hk]),if_pos hl]
theorem tokAt_word {s:ByteArray} {a b:Nat} (h:a < s.size) (hs:isSmall s[a]=true) (hb:runOf isSmall s a=b) (hk:isKept (s.extract a b).toList=false) (hl:¬ 8 < b - a):tokAt s a=⟨119,a,b⟩:=by
 subst hb;rw[tokAt,dif_pos h,if_pos hs,if_neg (by simp[hk]),if_neg hl]
theorem tokAt_digs {s:ByteArray} {a b:Nat} (h:a < s.size) (hs:isSmall s[a]=false) (hd:isDig s[a]=true) (hb:runOf isDig s a=b) (hl:4 < b - a):tokAt s a=⟨63,a,a⟩:=by
 subst hb;rw[tokAt,dif_pos h,if_neg (by simp[hs]),if_pos hd,if_pos hl]
theorem tokAt_num {s:ByteArray} {a b:Nat} (h:a < s.size) (hs:isSmall s[a]=false) (hd:isDig s[a]=true) (hb:runOf isDig s a=b) (hl:¬ 4 < b - a):tokAt s a=⟨110,a,b⟩:=by
 subst hb;rw[tokAt,dif_pos h,if_neg (by simp[hs]),if_pos hd,if_neg hl]
theorem tokAt_mark {s:ByteArray} {a:Nat} (h:a < s.size) (hs:isSmall s[a]=false) (hd:isDig s[a]=false) (hm:isMark s[a]=true):tokAt s a=⟨107,a,a+1⟩:=by
 rw[tokAt,dif_pos h,if_neg (by simp[hs]),if_neg (by simp[hd]),if_pos hm]
theorem tokAt_none {s:ByteArray} {a:Nat} (h:a < s.size) (hs:isSmall s[a]=false) (hd:isDig s[a]=false) (hm:isMark s[a]=false):tokAt s a=⟨63,a,a⟩:=by
 rw[tokAt,dif_pos h,if_neg (by simp[hs]),if_neg (by simp[hd]),if_neg (by simp[hm])]
end Px
open Go.RowKit
namespace Ref
theorem ret_bool {a b:Bool} (h:a=b):Ending.returned (.bool a)=.returned (.bool b):=by rw[h]
theorem small_any (c:UInt8) (w:World) :
  Calls Tryz.prog 123 #[.int .u8 c.toNat] w fun e w'=>e=.returned (.bool (Px.isSmall c))∧w'=w:=by
 have e1:Hid (Px.isSmall c=(decide (97≤(c.toNat:Int)) && decide ((c.toNat:Int)≤122))):=by
  unfold Hid Px.isSmall;rw[Bool.eq_iff_iff];simp;omega
 go_enter Tryz.func123,Tryz.ntmps123
 go_wp2
 all_goals
  go_ret
  exact ⟨ret_bool (by rw[e1.out,Bool.eq_iff_iff];simp;try omega),rfl⟩
theorem digit_any (c:UInt8) (w:World) :
  Calls Tryz.prog 125 #[.int .u8 c.toNat] w fun e w'=>e=.returned (.bool (Px.isDig c))∧w'=w:=by
 have e1:Hid (Px.isDig c=(decide (48≤(c.toNat:Int)) && decide ((c.toNat:Int)≤57))):=by
  unfold Hid Px.isDig;rw[Bool.eq_iff_iff];simp;omega
 go_enter Tryz.func125,Tryz.ntmps125
 go_wp2
 all_goals
  go_ret
  exact ⟨ret_bool (by rw[e1.out,Bool.eq_iff_iff];simp;try omega),rfl⟩
theorem mark_no {c:UInt8} {k:Nat} (hk:k < 12) (h:((((⟨#[61,59,40,41,123,125,60,35,43,45,42,47]⟩:ByteArray)[k]'hk).toNat:Int) == c.toNat)=false) (hno:c ∉ Px.marks.take k):c ∉ Px.marks.take (k+1):=by
 have e:Px.marks.take (k+1)=Px.marks.take k++[(⟨#[61,59,40,41,123,125,60,35,43,45,42,47]⟩:ByteArray)[k]'hk]:=by
  rw[List.take_succ_eq_append_getElem (by simpa [Px.marks] using hk)];rfl
 rw[e,List.mem_append]
 rintro (h1 | h1)
 ·exact hno h1
 ·simp only[List.mem_singleton] at h1
  exact absurd h (by rw[h1];simp)
theorem mark_yes {c:UInt8} {k:Nat} (hk:k < 12) (h:((((⟨#[61,59,40,41,123,125,60,35,43,45,42,47]⟩:ByteArray)[k]'hk).toNat:Int) == c.toNat)=true):Px.isMark c=true:=by
 have e:c=Px.marks[k]'(by simpa [Px.marks] using hk):=by
  apply UInt8.toNat_inj.1
  have:((⟨#[61,59,40,41,123,125,60,35,43,45,42,47]⟩:ByteArray)[k]'hk).toNat=c.toNat:=by have:=beq_iff_eq.1 h;omega
  rw[← this];rfl
 unfold Px.isMark
 rw[List.contains_iff_mem,e]
 exact List.getElem_mem _
set_option maxHeartbeats 1000000 in
theorem single_any (c:UInt8) (w:World) :
  Calls Tryz.prog 126 #[.int .u8 c.toNat] w fun e w'=>e=.returned (.bool (Px.isMark c))∧w'=w:=by
 go_enter Tryz.func126,Tryz.ntmps126
 go_wp2
 go_loop [4] (fun i=>∃ k:Nat,k≤12∧i=.int .i64 k∧Hid (c ∉ Px.marks.take k)) (fun i=>12 - (intOf i).toNat)
 case atStart=>exact ⟨0,by omega,rfl,by simp[Hid]⟩
 case round =>
  obtain ⟨k,hk,rfl,hno⟩:=hrel
  by_cases hlt:k < 12
  ·go_wp2
   ·go_ret
    exact ⟨ret_bool (mark_yes hlt ‹_›).symm,rfl⟩
   ·exact ⟨⟨k+1,by omega,by go_num,mark_no hlt ‹_› hno⟩,by simp[intOf];omega⟩
  ·obtain rfl:k=12:=by omega
   go_wp2
   go_ret
   exact ⟨ret_bool (by simpa [Px.isMark,Px.marks,Hid] using hno),rfl⟩
open Go.RowKit
theorem nat_le_12 {k:Nat} (h:k≤12):k=0∨k=1∨k=2∨k=3∨k=4∨k=5∨k=6∨k=7∨k=8∨k=9∨k=10∨k=11∨k=12:=by omega
theorem kept_yes {l m:List UInt8} (h:(l == m)=true) (hl:l∈Px.keptWords):Px.isKept m=true:=by
 rw[beq_iff_eq] at h
 unfold Px.isKept
 rw[List.contains_iff_mem,← h]
 exact hl
theorem kept_no {l m:List UInt8} {k:Nat} (h:(l == m)=false) (hk:k < Px.keptWords.length) (hl:Px.keptWords[k]=l) (hno:m ∉ Px.keptWords.take k):m ∉ Px.keptWords.take (k+1):=by
 rw[List.take_succ_eq_append_getElem hk,List.mem_append]
 rintro (h1 | h1)
 ·exact hno h1
 ·simp only[List.mem_singleton] at h1
  rw[h1,hl] at h
  simp at h
theorem kept_last {m:List UInt8} (hno:m ∉ Px.keptWords.take 12):(m == [110,111,116])=Px.isKept m:=by
 unfold Px.isKept
 rw[Bool.eq_iff_iff,List.contains_iff_mem,beq_iff_eq]
 have e:Px.keptWords=Px.keptWords.take 12++[[110,111,116]]:=rfl
 constructor
 ·rintro rfl;rw[e];simp
 ·intro h
  rw[e,List.mem_append] at h
  rcases h with h | h
  ·exact absurd h hno
  ·simpa using h
set_option maxHeartbeats 1000000 in
theorem kept_any (c:ByteArray) (w:World) :
  Calls Tryz.prog 124 #[.string c] w fun e w'=>e=.returned (.bool (Px.isKept c.toList))∧Below w.heap.size w w':=by
 go_enter Tryz.func124,Tryz.ntmps124
 go_wp2
 go_loop [4] (fun i=>∃ k:Nat,k≤12∧i=.int .i64 k∧Hid (c.toList ∉ Px.keptWords.take k)) (fun i=>12 - (intOf i).toNat)
 case atStart=>exact ⟨0,by omega,rfl,by simp[Hid]⟩
 case round =>
  obtain ⟨k,hk,rfl,hno⟩:=hrel
  rcases nat_le_12 hk with rfl | rfl | rfl | rfl | rfl | rfl | rfl | rfl | rfl | rfl | rfl | rfl | rfl
  case inr.inr.inr.inr.inr.inr.inr.inr.inr.inr.inr.inr =>
   go_wp2
   go_ret
   exact ⟨ret_bool (kept_last hno),(Below.refl _ _).alloc (Nat.le_refl _) _⟩
  all_goals
   go_wp2
   ·go_ret
    exact ⟨ret_bool (kept_yes ‹_› (by simp[Px.keptWords])).symm,(Below.refl _ _).alloc (Nat.le_refl _) _⟩
   ·exact ⟨⟨_,by decide,rfl,kept_no ‹_› (by decide) rfl hno⟩,by simp[intOf]⟩
open Go.RowKit
def signV (s:ByteArray) (t:Px.Tok):Array Value:=#[.int .u8 (t.k:Int),.string (s.extract t.a t.b),.int .i64 (t.a:Int),.int .i64 (t.b:Int)]
theorem all_step {p:UInt8→Bool} {s:ByteArray} {i k:Nat} (h:Hid (∀ j (hj:j < s.size),i≤j→j < k→p s[j]=true)) (hk:k < s.size) (hp:p s[k]=true) :
  Hid (∀ j (hj:j < s.size),i≤j→j < k+1→p s[j]=true):=by
 intro j hj h1 h2
 by_cases e:j=k
 ·subst e;exact hp
 ·exact h j hj h1 (by omega)
theorem blank32 {c:UInt8} (h:((c.toNat:Int) == 32)=true):Px.isBlank c=true:=by
 have:c=32:=UInt8.toNat_inj.1 (by have:=beq_iff_eq.1 h;simp;omega)
 subst this;rfl
theorem blank10 {c:UInt8} (h:((c.toNat:Int) == 10)=true):Px.isBlank c=true:=by
 have:c=10:=UInt8.toNat_inj.1 (by have:=beq_iff_eq.1 h;simp;omega)
 subst this;rfl
theorem blank_no {c:UInt8} (h:((c.toNat:Int) == 32)=false) (h':((c.toNat:Int) == 10)=false):Px.isBlank c=false:=by
 unfold Px.isBlank
 rw[Bool.or_eq_false_iff]
 constructor
 ·rw[beq_eq_false_iff_ne];rintro rfl;simp at h
 ·rw[beq_eq_false_iff_ne];rintro rfl;simp at h'
theorem bcell {W w1:World} (hb:Below W.heap.size W w1):(∀ b o,b < W.heap.size→w1.cell? ⟨b,o,none⟩=W.cell? ⟨b,o,none⟩)∧(∀ b o,b < W.heap.size→w1.frozen? ⟨b,o,none⟩=W.frozen? ⟨b,o,none⟩) :=
 ⟨fun b o h=>hb.cell (p:=⟨b,o,none⟩) h,fun b o h=>hb.frozen (p:=⟨b,o,none⟩) h⟩
theorem sign_eq {s:ByteArray} {i k:Nat} {t:Px.Tok} (h:Hid (Px.runOf Px.isBlank s i=k)) (ht:Px.tokAt s k=t):Ending.returned (.agg (signV s t))=.returned (.agg (signV s (Px.tok s i))):=by
 unfold Px.tok;rw[h.out,ht]
theorem below2 (w:World) (o p:Obj):Below w.heap.size w ((w.alloc o).alloc p):=((Below.refl _ _).alloc (Nat.le_refl _) _).alloc (by simp) _
theorem some4 {w w1:World} {a b c d:Value} {t:TypeId} {o:Obj} (h:Below ((w.alloc (.cells #[a,b,c,d] t)).alloc o).heap.size ((w.alloc (.cells #[a,b,c,d] t)).alloc o) w1) :
  (w1.cell? ⟨w.heap.size,0,none⟩).isSome=true∧(w1.cell? ⟨w.heap.size,1,none⟩).isSome=true∧(w1.cell? ⟨w.heap.size,2,none⟩).isSome=true∧(w1.cell? ⟨w.heap.size,3,none⟩).isSome=true:=by
 have hlt:w.heap.size < ((w.alloc (.cells #[a,b,c,d] t)).alloc o).heap.size:=by simp;omega
 rw[h.cell (p:=⟨w.heap.size,0,none⟩) hlt,h.cell (p:=⟨w.heap.size,1,none⟩) hlt,h.cell (p:=⟨w.heap.size,2,none⟩) hlt,h.cell (p:=⟨w.heap.size,3,none⟩) hlt]
 refine ⟨?_,?_,?_,?_⟩<;>simp[go_sem]
theorem below_st {w w1:World} {o p:Obj} (h:Below ((w.alloc o).alloc p).heap.size ((w.alloc o).alloc p) w1) (a b c d:Value) :
  Below w.heap.size w ((((w1.setCell ⟨w.heap.size,0,none⟩ a).setCell ⟨w.heap.size,1,none⟩ b).setCell ⟨w.heap.size,2,none⟩ c).setCell ⟨w.heap.size,3,none⟩ d) :=
 (((((below2 _ _ _).trans (h.mono (by simp;omega))).setCell (Nat.le_refl _) _).setCell (Nat.le_refl _) _).setCell (Nat.le_refl _) _).setCell (Nat.le_refl _) _
theorem empty_eq:(⟨#[]⟩:ByteArray)=ByteArray.empty:=rfl
set_option maxHeartbeats 4000000 in
theorem sign_any (s:ByteArray) (i:Nat) (w:World) (hi:i≤s.size) (hs:s.size≤maxLen) :
  Calls Tryz.prog 67 #[.string s,.int .i64 i] w fun e w'=>e=.returned (.agg (signV s (Px.tok s i)))∧Below w.heap.size w w':=by
 unfold maxLen at hs
 go_enter Tryz.func67,Tryz.ntmps67
 go_wp2
 go_loop [1] (fun x=>∃ k:Nat,i≤k∧k≤s.size∧x=.int .i64 k∧Hid (∀ j (hj:j < s.size),i≤j→j < k→Px.isBlank s[j]=true)) (fun x=>s.size - (intOf x).toNat)
 case atStart=>exact ⟨i,by omega,hi,rfl,by intro j hj h1 h2;omega⟩
 case round =>
  obtain ⟨k,hk1,hk2,rfl,hall⟩:=hrel
  by_cases hlt:k < s.size
  ·cases h32:((s[k].toNat:Int) == 32)
   ·cases h10:((s[k].toNat:Int) == 10)
    ·have hr:Hid (Px.runOf Px.isBlank s i=k):=Px.runOf_eq _ _ _ _ hk1 hk2 hall (fun _=>blank_no h32 h10)
     clear hall
     cases hsm:Px.isSmall s[k]
     ·cases hdg:Px.isDig s[k]
      ·cases hmk:Px.isMark s[k]
       all_goals
        go_wp2_with (first | (go_at_call 123;refine (small_any _ _).mono ?_;rintro e w' ⟨rfl,rfl⟩) | (go_at_call 125;refine (digit_any _ _).mono ?_;rintro e w' ⟨rfl,rfl⟩) | (go_at_call 126;refine (single_any _ _).mono ?_;rintro e w' ⟨rfl,rfl⟩))
       ·refine bodyPost_ret (v:=.agg (signV s ⟨63,k,k⟩)) (by simp[results,Tryz.results67,go_sem,signV,empty_eq]) rfl ⟨sign_eq hr (Px.tokAt_none hlt hsm hdg hmk),?_⟩
        exact below2 _ _ _
       ·refine bodyPost_ret (v:=.agg (signV s ⟨107,k,k+1⟩)) (by simp[results,Tryz.results67,go_sem,signV,empty_eq]) rfl ⟨sign_eq hr (Px.tokAt_mark hlt hsm hdg hmk),?_⟩
        exact below2 _ _ _
      ·go_wp2_with (first | (go_at_call 123;refine (small_any _ _).mono ?_;rintro e w' ⟨rfl,rfl⟩) | (go_at_call 125;refine (digit_any _ _).mono ?_;rintro e w' ⟨rfl,rfl⟩))
       go_loop [5] (fun x=>∃ b:Nat,k≤b∧b≤s.size∧x=.int .i64 b∧Hid (∀ j (hj:j < s.size),k≤j→j < b→Px.isDig s[j]=true)) (fun x=>s.size - (intOf x).toNat)
       case atStart=>exact ⟨k,by omega,hk2,rfl,by intro j hj h1 h2;omega⟩
       case round =>
        obtain ⟨b,hb1,hb2,rfl,hallb⟩:=hrel
        have last:(∀ h:b < s.size,Px.isDig s[b]=false)→Hid (Px.runOf Px.isDig s k=b):=fun h=>Px.runOf_eq _ _ _ _ hb1 hb2 hallb h
        by_cases hblt:b < s.size
        ·cases hsb:Px.isDig s[b]
         ·have hb:=last (fun _=>hsb)
          clear last hallb
          by_cases h4:4 < b - k
          all_goals
           go_wp2_with (first | (go_at_call 125;refine (digit_any _ _).mono ?_;rintro e w' ⟨rfl,rfl⟩))
          ·refine bodyPost_ret (v:=.agg (signV s ⟨63,k,k⟩)) (by simp[results,Tryz.results67,go_sem,signV,empty_eq]) rfl ⟨sign_eq hr (Px.tokAt_digs hlt hsm hdg hb.out h4),below2 _ _ _⟩
          ·refine bodyPost_ret (v:=.agg (signV s ⟨110,k,b⟩)) (by simp[results,Tryz.results67,go_sem,signV,empty_eq]) rfl ⟨sign_eq hr (Px.tokAt_num hlt hsm hdg hb.out h4),below2 _ _ _⟩
         ·clear last
          go_wp2_with (first | (go_at_call 125;refine (digit_any _ _).mono ?_;rintro e w' ⟨rfl,rfl⟩))
          exact ⟨⟨b+1,by omega,by omega,by go_num,all_step hallb hblt hsb⟩,by simp[intOf];omega⟩
        ·have hb:=last (fun h=>absurd h hblt)
         clear last hallb
         by_cases h4:4 < b - k
         all_goals
          go_wp2_with (first | (go_at_call 125;refine (digit_any _ _).mono ?_;rintro e w' ⟨rfl,rfl⟩))
         ·refine bodyPost_ret (v:=.agg (signV s ⟨63,k,k⟩)) (by simp[results,Tryz.results67,go_sem,signV,empty_eq]) rfl ⟨sign_eq hr (Px.tokAt_digs hlt hsm hdg hb.out h4),below2 _ _ _⟩
         ·refine bodyPost_ret (v:=.agg (signV s ⟨110,k,b⟩)) (by simp[results,Tryz.results67,go_sem,signV,empty_eq]) rfl ⟨sign_eq hr (Px.tokAt_num hlt hsm hdg hb.out h4),below2 _ _ _⟩
     ·go_wp2_with (first | (go_at_call 123;refine (small_any _ _).mono ?_;rintro e w' ⟨rfl,rfl⟩))
      go_loop [5] (fun x=>∃ b:Nat,k≤b∧b≤s.size∧x=.int .i64 b∧Hid (∀ j (hj:j < s.size),k≤j→j < b→Px.isSmall s[j]=true)) (fun x=>s.size - (intOf x).toNat)
      case atStart=>exact ⟨k,by omega,hk2,rfl,by intro j hj h1 h2;omega⟩
      case round =>
       obtain ⟨b,hb1,hb2,rfl,hallb⟩:=hrel
       have last:(∀ h:b < s.size,Px.isSmall s[b]=false)→Hid (Px.runOf Px.isSmall s k=b):=fun h=>Px.runOf_eq _ _ _ _ hb1 hb2 hallb h
       by_cases hblt:b < s.size
       ·cases hsb:Px.isSmall s[b]
        ·have hb:=last (fun _=>hsb)
         clear last hallb
         cases hkp:Px.isKept (s.extract k b).toList
         ·by_cases h8:8 < b - k
          all_goals
           go_wp2_with (first | (go_at_call 123;refine (small_any _ _).mono ?_;rintro e w' ⟨rfl,rfl⟩))
           refine (kept_any _ _).mono ?_
           rintro e w1 ⟨rfl,hbw⟩
           obtain ⟨hcw,hfw⟩:=bcell hbw
           obtain ⟨i0,i1,i2,i3⟩:=some4 hbw
           have hzw:w.heap.size+1 < w1.heap.size:=by have:=hbw.size;simp at this;omega
           go_wp2
          ·refine bodyPost_ret (v:=.agg (signV s ⟨63,k,k⟩)) (by simp[results,Tryz.results67,go_sem,signV,empty_eq,i0,i1,i2,i3]) rfl ⟨sign_eq hr (Px.tokAt_long hlt hsm hb.out hkp h8),?_⟩
           exact below_st hbw _ _ _ _
          ·refine bodyPost_ret (v:=.agg (signV s ⟨119,k,b⟩)) (by simp[results,Tryz.results67,go_sem,signV,empty_eq,i0,i1,i2,i3]) rfl ⟨sign_eq hr (Px.tokAt_word hlt hsm hb.out hkp h8),?_⟩
           exact below_st hbw _ _ _ _
         ·go_wp2_with (first | (go_at_call 123;refine (small_any _ _).mono ?_;rintro e w' ⟨rfl,rfl⟩))
          refine (kept_any _ _).mono ?_
          rintro e w1 ⟨rfl,hbw⟩
          obtain ⟨hcw,hfw⟩:=bcell hbw
          obtain ⟨i0,i1,i2,i3⟩:=some4 hbw
          have hzw:w.heap.size+1 < w1.heap.size:=by have:=hbw.size;simp at this;omega
          go_wp2
          refine bodyPost_ret (v:=.agg (signV s ⟨107,k,b⟩)) (by simp[results,Tryz.results67,go_sem,signV,empty_eq,i0,i1,i2,i3]) rfl ⟨sign_eq hr (Px.tokAt_kept hlt hsm hb.out hkp),?_⟩
          exact below_st hbw _ _ _ _
        ·clear last
         go_wp2_with (first | (go_at_call 123;refine (small_any _ _).mono ?_;rintro e w' ⟨rfl,rfl⟩))
         exact ⟨⟨b+1,by omega,by omega,by go_num,all_step hallb hblt hsb⟩,by simp[intOf];omega⟩
       ·have hb:=last (fun h=>absurd h hblt)
        clear last hallb
        cases hkp:Px.isKept (s.extract k b).toList
        ·by_cases h8:8 < b - k
         all_goals
          go_wp2_with (first | (go_at_call 123;refine (small_any _ _).mono ?_;rintro e w' ⟨rfl,rfl⟩))
          refine (kept_any _ _).mono ?_
          rintro e w1 ⟨rfl,hbw⟩
          obtain ⟨hcw,hfw⟩:=bcell hbw
          obtain ⟨i0,i1,i2,i3⟩:=some4 hbw
          have hzw:w.heap.size+1 < w1.heap.size:=by have:=hbw.size;simp at this;omega
          go_wp2
         ·refine bodyPost_ret (v:=.agg (signV s ⟨63,k,k⟩)) (by simp[results,Tryz.results67,go_sem,signV,empty_eq,i0,i1,i2,i3]) rfl ⟨sign_eq hr (Px.tokAt_long hlt hsm hb.out hkp h8),?_⟩
          exact below_st hbw _ _ _ _
         ·refine bodyPost_ret (v:=.agg (signV s ⟨119,k,b⟩)) (by simp[results,Tryz.results67,go_sem,signV,empty_eq,i0,i1,i2,i3]) rfl ⟨sign_eq hr (Px.tokAt_word hlt hsm hb.out hkp h8),?_⟩
          exact below_st hbw _ _ _ _
        ·go_wp2_with (first | (go_at_call 123;refine (small_any _ _).mono ?_;rintro e w' ⟨rfl,rfl⟩))
         refine (kept_any _ _).mono ?_
         rintro e w1 ⟨rfl,hbw⟩
         obtain ⟨hcw,hfw⟩:=bcell hbw
         obtain ⟨i0,i1,i2,i3⟩:=some4 hbw
         have hzw:w.heap.size+1 < w1.heap.size:=by have:=hbw.size;simp at this;omega
         go_wp2
         refine bodyPost_ret (v:=.agg (signV s ⟨107,k,b⟩)) (by simp[results,Tryz.results67,go_sem,signV,empty_eq,i0,i1,i2,i3]) rfl ⟨sign_eq hr (Px.tokAt_kept hlt hsm hb.out hkp),?_⟩
         exact below_st hbw _ _ _ _
    ·go_wp2
     exact ⟨⟨k+1,by omega,by omega,by go_num,all_step hall hlt (blank10 h10)⟩,by simp[intOf];omega⟩
   ·go_wp2
    exact ⟨⟨k+1,by omega,by omega,by go_num,all_step hall hlt (blank32 h32)⟩,by simp[intOf];omega⟩
  ·have hr:Hid (Px.runOf Px.isBlank s i=k):=Px.runOf_eq _ _ _ _ hk1 hk2 hall (fun h=>absurd h hlt)
   obtain rfl:k=s.size:=by omega
   go_wp2
   refine bodyPost_ret (v:=.agg (signV s ⟨0,s.size,s.size⟩)) (by simp[results,Tryz.results67,go_sem,signV,empty_eq]) rfl ⟨sign_eq hr (Px.tokAt_end (by omega)),(Below.refl _ _).alloc (Nat.le_refl _) _⟩
end Ref
open Go.RowKit
structure Kp (b:Nat) (w w':World):Prop where
 os:w'.os=w.os
 tape:w'.tape=w.tape
 output:w'.output=w.output
 size:w.heap.size≤w'.heap.size
 block:∀ k,k < w.heap.size→k≠b→w'.heap[k]?=w.heap[k]?
theorem Kp.refl (b:Nat) (w:World):Kp b w w:=⟨rfl,rfl,rfl,Nat.le_refl _,fun _ _ _=>rfl⟩
theorem Kp.trans {b:Nat} {w w1 w2:World} (h:Kp b w w1) (k:Kp b w1 w2):Kp b w w2 :=
 ⟨k.os.trans h.os,k.tape.trans h.tape,k.output.trans h.output,Nat.le_trans h.size k.size,fun i hi hb=>(k.block i (Nat.lt_of_lt_of_le hi h.size) hb).trans (h.block i hi hb)⟩
theorem Kp.drew {b:Nat} {w w1:World} (h:Kp b w w1):Kp b w w1.drew:=⟨h.os,h.tape,h.output,h.size,h.block⟩
theorem Kp.below {b:Nat} {w w1 w2:World} (h:Kp b w w1) (k:Below w1.heap.size w1 w2):Kp b w w2 :=
 h.trans ⟨k.os,k.tape,k.output,k.size,fun i hi _=>k.block i hi⟩
theorem Kp.alloc {b:Nat} {w w1:World} (h:Kp b w w1) (o:Obj):Kp b w (w1.alloc o) :=
 h.below ((Below.refl _ _).alloc (Nat.le_refl _) _)
theorem Kp.setCell {b:Nat} {w w1:World} (h:Kp b w w1) (p:Addr) (hp:p.block=b∨w.heap.size≤p.block) (u:Value):Kp b w (w1.setCell p u) :=
 ⟨h.os,h.tape,h.output,by simpa [World.setCell] using h.size,fun i hi hb=>by
  rw[Below.heap_setCell _ _ _ _ (by rcases hp with hp | hp<;>omega)];exact h.block i hi hb⟩
theorem Kp.setB {b o:Nat} {w w1:World} (h:Kp b w w1) (u:Value):Kp b w (w1.setCell ⟨b,o,none⟩ u):=h.setCell _ (Or.inl rfl) u
theorem Kp.setN {b k o:Nat} {w w1:World} (h:Kp b w w1) (hk:w.heap.size≤k) (u:Value):Kp b w (w1.setCell ⟨k,o,none⟩ u):=h.setCell _ (Or.inr hk) u
theorem Kp.cell {b:Nat} {w w':World} (h:Kp b w w') {k o:Nat} (hk:k < w.heap.size) (hb:k≠b):w'.cell? ⟨k,o,none⟩=w.cell? ⟨k,o,none⟩:=World.cell?_of_block (w:=w) (h.block k hk hb)
theorem Kp.toBelow {b B:Nat} {w w':World} (h:Kp b w w') (hB:B≤b) (hs:B≤w.heap.size):Below B w w':=⟨h.os,h.tape,h.output,h.size,fun k hk=>h.block k (by omega) (by omega)⟩
theorem lt_of_cell {w:World} {b o:Nat} {v:Value} (h:w.cell? ⟨b,o,none⟩=some v):b < w.heap.size:=by
 rcases Nat.lt_or_ge b w.heap.size with hb | hb
 ·exact hb
 ·have:w.heap[b]?=none:=by simp[hb]
  simp[World.cell?,this] at h
theorem cells4 {w:World} {k:Nat} {a b c d:Value} {t:TypeId} (h:w.heap[k]?=some (.cells #[a,b,c,d] t)) :
  w.cell? ⟨k,0,none⟩=some a∧w.cell? ⟨k,1,none⟩=some b∧w.cell? ⟨k,2,none⟩=some c∧w.cell? ⟨k,3,none⟩=some d∧∀ o,w.frozen? ⟨k,o,none⟩=false:=by
 refine ⟨?_,?_,?_,?_,?_⟩<;>simp[World.cell?,World.frozen?,h]
theorem two_new {w W w1:World} {o p:Obj} (hW:W.heap=(w.heap.push o).push p) (h:Below W.heap.size W w1):w1.heap[w.heap.size]?=some o∧w1.heap[w.heap.size+1]?=some p:=by
 have e0:W.heap.size=w.heap.size+2:=by rw[hW];simp
 constructor
 ·rw[h.block _ (by omega),hW,Array.getElem?_push,if_neg (by simp),Array.getElem?_push,if_pos rfl]
 ·rw[h.block _ (by omega),hW,Array.getElem?_push,if_pos (by simp)]
theorem one_new {b:Nat} {w w1:World} {o:Obj} (h:Kp b (w.alloc o) w1) (hb:b < w.heap.size):w1.heap[w.heap.size]?=some o:=by
 rw[h.block _ (by simp) (by omega)]
 show (w.heap.push o)[w.heap.size]?=some o
 rw[Array.getElem?_push,if_pos rfl]
theorem Kp.of_alloc {b:Nat} {w w1:World} {o:Obj} (h:Kp b (w.alloc o) w1):Kp b w w1:=((Kp.refl b w).alloc o).trans h
namespace Px
def onB (s:ByteArray) (t:Tok) (x:ByteArray):Bool:=t.k == 107 && (s.extract t.a t.b).toList == x.toList
def deepOf (nest deep:Int) (a:Nat):Int:=if 4≤nest∧deep < 0 then a else deep
structure Ex where
 op:Nat
 n:Nat
 word:ByteArray
 pl:Nat
 own:Nat
 l:Option Ex
 r:Option Ex
structure Sm where
 op:Nat
 word:ByteArray
 pl:Nat
 ex:Option Ex
 asw:ByteArray
 asPl:Nat
 undo:ByteArray
 n:Nat
 nPl:Nat
 one:List Sm
 two:List Sm
structure Ps where
 t:Tok
 nest:Int
 deep:Int
def nx (s:ByteArray) (st:Ps):Ps:=⟨tok s st.t.b,st.nest,st.deep⟩
def dn (st:Ps):Ps:=⟨st.t,st.nest+1,deepOf st.nest st.deep st.t.a⟩
def upp (st:Ps):Ps:=⟨st.t,st.nest - 1,st.deep⟩
def txt (s:ByteArray) (t:Tok):ByteArray:=s.extract t.a t.b
def valOf (l:List UInt8):Nat:=l.foldl (fun n c=>10 * n+(c.toNat - 48)) 0
def nowt:ByteArray:=⟨#[]⟩
def chain (s:ByteArray) (part:Ps→Except Nat (Ex×Ps)) (a b:UInt8):Nat→Nat→Ex→Ps→Except Nat (Ex×Ps)
 | 0,_,_,st=>.error st.t.a
 | n+1,pl,e,st =>
  if onB s st.t ⟨#[a]⟩ then
   match part (nx s st) with
   | .error p=>.error p
   | .ok (k,st')=>chain s part a b n pl ⟨a.toNat,0,nowt,pl,st.t.a,some e,some k⟩ st'
  else if onB s st.t ⟨#[b]⟩ then
   match part (nx s st) with
   | .error p=>.error p
   | .ok (k,st')=>chain s part a b n pl ⟨b.toNat,0,nowt,pl,st.t.a,some e,some k⟩ st'
  else .ok (e,st)
def row (s:ByteArray) (part:Ps→Except Nat (Ex×Ps)) (a b:UInt8) (st:Ps):Except Nat (Ex×Ps) :=
 match part st with
 | .error p=>.error p
 | .ok (e,st')=>chain s part a b (s.size+1) st.t.a e st'
def term (s:ByteArray) (atom:Ps→Except Nat (Ex×Ps)) (st:Ps):Except Nat (Ex×Ps):=row s atom 42 47 st
def sum (s:ByteArray) (atom:Ps→Except Nat (Ex×Ps)) (st:Ps):Except Nat (Ex×Ps):=row s (term s atom) 43 45 st
def cmpOf (s:ByteArray) (t:Tok):Option Nat:=if onB s t ⟨#[60]⟩ then some 60 else if onB s t ⟨#[61]⟩ then some 61 else if onB s t ⟨#[35]⟩ then some 35 else none
def expr (s:ByteArray) (atom:Ps→Except Nat (Ex×Ps)) (st:Ps):Except Nat (Ex×Ps) :=
 match sum s atom st with
 | .error p=>.error p
 | .ok (e,st1) =>
  match cmpOf s st1.t with
  | none=>.ok (e,st1)
  | some o =>
   match sum s atom (nx s st1) with
   | .error p=>.error p
   | .ok (k,st2)=>.ok (⟨o,0,nowt,st.t.a,st1.t.a,some e,some k⟩,st2)
def leaf (op n:Nat) (w:ByteArray) (a:Nat):Ex:=⟨op,n,w,a,a,none,none⟩
def atom (s:ByteArray):Nat→Ps→Except Nat (Ex×Ps)
 | 0,st=>.error st.t.a
 | n+1,st =>
  if st.t.k=110 then .ok (leaf 110 (valOf (txt s st.t).toList) nowt st.t.a,nx s st)
  else if st.t.k=119 then .ok (leaf 119 0 (txt s st.t) st.t.a,nx s st)
  else if onB s st.t ⟨#[116,114,117,101]⟩ then .ok (leaf 116 1 nowt st.t.a,nx s st)
  else if onB s st.t ⟨#[102,97,108,115,101]⟩ then .ok (leaf 116 0 nowt st.t.a,nx s st)
  else if onB s st.t ⟨#[110,111,116]⟩ then
   match atom s n (nx s st) with
   | .error p=>.error p
   | .ok (k,st')=>.ok (⟨33,0,nowt,st.t.a,st.t.a,some k,none⟩,st')
  else if onB s st.t ⟨#[40]⟩ then
   match expr s (atom s n) (nx s (dn st)) with
   | .error p=>.error p
   | .ok (e,st')=>if onB s st'.t ⟨#[41]⟩ then .ok ({ e with pl:=st.t.a },upp (nx s st')) else .error st'.t.a
  else .error st.t.a
def exprOf (s:ByteArray) (st:Ps):Except Nat (Ex×Ps):=expr s (atom s (s.size+1)) st
def need (s:ByteArray) (x:ByteArray) (st:Ps):Except Nat Ps:=if onB s st.t x then .ok (nx s st) else .error st.t.a
def kind (s:ByteArray) (k:Nat) (st:Ps):Except Nat Ps:=if st.t.k=k then .ok (nx s st) else .error st.t.a
def stmts (s:ByteArray) (stmt:Ps→Except Nat (Sm×Ps)) (stop:Ps→Bool):Nat→List Sm→Ps→Except Nat (List Sm×Ps)
 | 0,_,st=>.error st.t.a
 | n+1,l,st =>
  if stop st then .ok (l,st) else
   match stmt st with
   | .error p=>.error p
   | .ok (x,st')=>stmts s stmt stop n (l++[x]) st'
def block (s:ByteArray) (stmt:Ps→Except Nat (Sm×Ps)) (st:Ps):Except Nat (List Sm×Ps) :=
 if onB s st.t ⟨#[123]⟩ then
  match stmts s stmt (fun st=>onB s st.t ⟨#[125]⟩) (s.size+1) [] (nx s (dn st)) with
  | .error p=>.error p
  | .ok (l,st')=>.ok (l,upp (nx s st'))
 else .error st.t.a
def zeroS:Sm:=⟨0,nowt,0,none,nowt,0,nowt,0,0,[],[]⟩
def callAs (s:ByteArray) (x:Sm) (st:Ps):Except Nat (Sm×Ps) :=
 if onB s st.t ⟨#[97,115]⟩ then
  match kind s 119 (nx s st) with
  | .error p=>.error p
  | .ok st'=>.ok ({ x with asw:=txt s (nx s st).t,asPl:=(nx s st).t.a },st')
 else .ok (x,st)
def callUndo (s:ByteArray) (x:Sm) (st:Ps):Except Nat (Sm×Ps) :=
 if onB s st.t ⟨#[117,110,100,111]⟩ then
  match kind s 119 (nx s st) with
  | .error p=>.error p
  | .ok st'=>.ok ({ x with undo:=txt s (nx s st).t },st')
 else .ok (x,st)
def callTries (s:ByteArray) (x:Sm) (st:Ps):Except Nat (Sm×Ps) :=
 if onB s st.t ⟨#[116,114,105,101,115]⟩ then
  match kind s 110 (nx s st) with
  | .error p=>.error p
  | .ok st'=>.ok ({ x with n:=valOf (txt s (nx s st).t).toList,nPl:=(nx s st).t.a },st')
 else .ok (x,st)
def callArg (s:ByteArray) (x:Sm) (st:Ps):Except Nat (Sm×Ps) :=
 if onB s st.t ⟨#[41]⟩ then .ok (x,st) else
  match exprOf s st with
  | .error p=>.error p
  | .ok (e,st')=>.ok ({ x with ex:=some e },st')
def call (s:ByteArray) (st:Ps):Except Nat (Sm×Ps) :=
 match kind s 119 st with
 | .error p=>.error p
 | .ok st1 =>
 match need s ⟨#[40]⟩ st1 with
 | .error p=>.error p
 | .ok st2 =>
 match callArg s { zeroS with op:=99,word:=txt s st.t,pl:=st.t.a,n:=1 } st2 with
 | .error p=>.error p
 | .ok (x3,st3) =>
 match need s ⟨#[41]⟩ st3 with
 | .error p=>.error p
 | .ok st4 =>
 match callAs s x3 st4 with
 | .error p=>.error p
 | .ok (x5,st5) =>
 match callUndo s x5 st5 with
 | .error p=>.error p
 | .ok (x6,st6) =>
 match callTries s x6 st6 with
 | .error p=>.error p
 | .ok (x7,st7) =>
 match need s ⟨#[59]⟩ st7 with
 | .error p=>.error p
 | .ok st8=>.ok (x7,st8)
def letS (s:ByteArray) (st:Ps):Except Nat (Sm×Ps) :=
 match kind s 119 st with
 | .error p=>.error p
 | .ok st1 =>
 match need s ⟨#[61]⟩ st1 with
 | .error p=>.error p
 | .ok st2 =>
 match exprOf s st2 with
 | .error p=>.error p
 | .ok (e,st3) =>
 match need s ⟨#[59]⟩ st3 with
 | .error p=>.error p
 | .ok st4=>.ok ({ zeroS with op:=108,word:=txt s st.t,pl:=st.t.a,ex:=some e },st4)
def ifS (s:ByteArray) (stmt:Ps→Except Nat (Sm×Ps)) (st:Ps):Except Nat (Sm×Ps) :=
 match exprOf s st with
 | .error p=>.error p
 | .ok (e,st1) =>
 match block s stmt st1 with
 | .error p=>.error p
 | .ok (l,st2) =>
 if onB s st2.t ⟨#[101,108,115,101]⟩ then
  match block s stmt (nx s st2) with
  | .error p=>.error p
  | .ok (m,st3)=>.ok ({ zeroS with op:=105,ex:=some e,one:=l,two:=m },st3)
 else .ok ({ zeroS with op:=105,ex:=some e,one:=l },st2)
def tryS (s:ByteArray) (stmt:Ps→Except Nat (Sm×Ps)) (st:Ps):Except Nat (Sm×Ps) :=
 match block s stmt st with
 | .error p=>.error p
 | .ok (l,st1) =>
 match need s ⟨#[101,108,115,101]⟩ st1 with
 | .error p=>.error p
 | .ok st2 =>
 match block s stmt st2 with
 | .error p=>.error p
 | .ok (m,st3)=>.ok ({ zeroS with op:=116,one:=l,two:=m },st3)
def repeatS (s:ByteArray) (stmt:Ps→Except Nat (Sm×Ps)) (st:Ps):Except Nat (Sm×Ps) :=
 match kind s 110 st with
 | .error p=>.error p
 | .ok st1 =>
 match block s stmt st1 with
 | .error p=>.error p
 | .ok (l,st2)=>.ok ({ zeroS with op:=114,n:=valOf (txt s st.t).toList,nPl:=st.t.a,one:=l },st2)
def failS (s:ByteArray) (st:Ps):Except Nat (Sm×Ps) :=
 match need s ⟨#[102,97,105,108]⟩ st with
 | .error p=>.error p
 | .ok st1 =>
 match need s ⟨#[59]⟩ st1 with
 | .error p=>.error p
 | .ok st2=>.ok ({ zeroS with op:=102 },st2)
def stmt (s:ByteArray):Nat→Ps→Except Nat (Sm×Ps)
 | 0,st=>.error st.t.a
 | n+1,st =>
  if onB s st.t ⟨#[108,101,116]⟩ then letS s (nx s st)
  else if onB s st.t ⟨#[99,97,108,108]⟩ then call s (nx s st)
  else if onB s st.t ⟨#[105,102]⟩ then ifS s (stmt s n) (nx s st)
  else if onB s st.t ⟨#[116,114,121]⟩ then tryS s (stmt s n) (nx s st)
  else if onB s st.t ⟨#[114,101,112,101,97,116]⟩ then repeatS s (stmt s n) (nx s st)
  else failS s st
def read (s:ByteArray):Except (Nat×Nat) (List Sm) :=
 if 300 < s.size then .error (1,0) else
  match stmts s (stmt s (s.size+1)) (fun st=>st.t.k == 0) (s.size+1) [] ⟨tok s 0,0,-1⟩ with
  | .error p=>.error (2,p)
  | .ok (l,st)=>if 0≤st.deep then .error (3,st.deep.toNat) else .ok l
end Px
open Go.RowKit
namespace Ref
structure PenAt (w:World) (b:Nat) (s:ByteArray) (t:Px.Tok) (bad nest deep:Int):Prop where
 h:w.heap[b]?=some (.cells #[.string s,.int .u8 (t.k:Int),.string (s.extract t.a t.b),.int .i64 (t.a:Int),.int .i64 (t.b:Int),.int .i64 bad,.int .i64 nest,.int .i64 deep] 173)
theorem PenAt.cells {w:World} {b:Nat} {s:ByteArray} {t:Px.Tok} {bad nest deep:Int} (p:PenAt w b s t bad nest deep) :
  w.cell? ⟨b,0,none⟩=some (.string s)∧w.cell? ⟨b,1,none⟩=some (.int .u8 (t.k:Int))∧w.cell? ⟨b,2,none⟩=some (.string (s.extract t.a t.b))∧w.cell? ⟨b,3,none⟩=some (.int .i64 (t.a:Int)) ∧
  w.cell? ⟨b,4,none⟩=some (.int .i64 (t.b:Int))∧w.cell? ⟨b,5,none⟩=some (.int .i64 bad)∧w.cell? ⟨b,6,none⟩=some (.int .i64 nest)∧w.cell? ⟨b,7,none⟩=some (.int .i64 deep)∧(∀ o,w.frozen? ⟨b,o,none⟩=false)∧b < w.heap.size:=by
 have hb:b < w.heap.size:=by
  rcases Nat.lt_or_ge b w.heap.size with hb | hb
  ·exact hb
  ·have:=p.h;simp[hb] at this
 refine ⟨?_,?_,?_,?_,?_,?_,?_,?_,?_,hb⟩<;>simp[World.cell?,World.frozen?,p.h]
theorem PenAt.lt {w:World} {b:Nat} {s:ByteArray} {t:Px.Tok} {bad nest deep:Int} (p:PenAt w b s t bad nest deep):b < w.heap.size:=p.cells.2.2.2.2.2.2.2.2.2
theorem PenAt.later {w w1:World} {b B:Nat} {s:ByteArray} {t:Px.Tok} {bad nest deep:Int} (p:PenAt w b s t bad nest deep) (h:Below B w w1) (hB:b < B):PenAt w1 b s t bad nest deep:=⟨by rw[h.block b hB];exact p.h⟩
theorem PenAt.alloc {w:World} {b:Nat} {s:ByteArray} {t:Px.Tok} {bad nest deep:Int} (p:PenAt w b s t bad nest deep) (o:Obj):PenAt (w.alloc o) b s t bad nest deep:=p.later ((Below.refl _ _).alloc (Nat.le_refl _) _) p.lt
theorem PenAt.drew {w:World} {b:Nat} {s:ByteArray} {t:Px.Tok} {bad nest deep:Int} (p:PenAt w b s t bad nest deep):PenAt w.drew b s t bad nest deep:=⟨p.h⟩
theorem PenAt.setN {w:World} {b k o:Nat} {s:ByteArray} {t:Px.Tok} {bad nest deep:Int} (p:PenAt w b s t bad nest deep) (h:b≠k) (v:Value):PenAt (w.setCell ⟨k,o,none⟩ v) b s t bad nest deep:=⟨by rw[Below.heap_setCell _ _ _ _ h];exact p.h⟩
theorem heap_set {w:World} {b o:Nat} {c:Array Value} {t:TypeId} {f:Nat×Nat} (v:Value) (h:w.heap[b]?=some (.cells c t f)):(w.setCell ⟨b,o,none⟩ v).heap[b]?=some (.cells (c.setIfInBounds o v) t f):=by
 simp[World.setCell,Array.getElem?_modify,h]
theorem heap_set_ne {w:World} {b k o:Nat} (v:Value) (h:b≠k):(w.setCell ⟨k,o,none⟩ v).heap[b]?=w.heap[b]?:=Below.heap_setCell _ _ _ _ h
theorem on_ok (b:Nat) (s x:ByteArray) (t:Px.Tok) (nest deep:Int) (w:World) (p:PenAt w b s t (-1) nest deep) :
  Calls Tryz.prog 176 #[.pointer (some ⟨b,0,none⟩),.string x] w fun e w'=>e=.returned (.bool (Px.onB s t x))∧w=w':=by
 obtain ⟨c0,c1,c2,c3,c4,c5,c6,c7,f,hb⟩:=p.cells
 clear p
 cases hk:((t.k:Int) == 107)
 all_goals
  go_enter Tryz.func176,Tryz.ntmps176
  go_wp2
  go_ret
 ·exact ⟨ret_bool (by unfold Px.onB;rw[(by rw[beq_eq_false_iff_ne] at hk ⊢;omega:(t.k == 107)=false)];rfl),rfl⟩
 ·exact ⟨ret_bool (by unfold Px.onB;rw[(by rw[beq_iff_eq] at hk ⊢;omega:(t.k == 107)=true)];rfl),rfl⟩
theorem on_bad (b:Nat) (s x:ByteArray) (t:Px.Tok) (bad nest deep:Int) (w:World) (p:PenAt w b s t bad nest deep) (h0:0≤bad) :
  Calls Tryz.prog 176 #[.pointer (some ⟨b,0,none⟩),.string x] w fun e w'=>e=.returned (.bool false)∧w=w':=by
 obtain ⟨c0,c1,c2,c3,c4,c5,c6,c7,f,hb⟩:=p.cells
 clear p
 go_enter Tryz.func176,Tryz.ntmps176
 go_wp2
 go_ret
 exact ⟨rfl,rfl⟩
theorem fail_ok (b:Nat) (s:ByteArray) (t:Px.Tok) (nest deep:Int) (w:World) (p:PenAt w b s t (-1) nest deep) :
  Calls Tryz.prog 178 #[.pointer (some ⟨b,0,none⟩)] w fun e w'=>e=.returned (.tuple #[])∧PenAt w' b s t t.a nest deep∧Kp b w w':=by
 obtain ⟨c0,c1,c2,c3,c4,c5,c6,c7,f,hb⟩:=p.cells
 have H:=p.h
 have HH:Hid (w.heap[b]?=_):=H
 clear p H
 go_enter Tryz.func178,Tryz.ntmps178
 go_wp2
 go_end0
 exact ⟨rfl,⟨by rw[heap_set _ HH.out];simp⟩,(Kp.refl _ _).setB _⟩
theorem fail_bad (b:Nat) (s:ByteArray) (t:Px.Tok) (bad nest deep:Int) (w:World) (p:PenAt w b s t bad nest deep) (h0:0≤bad) :
  Calls Tryz.prog 178 #[.pointer (some ⟨b,0,none⟩)] w fun e w'=>e=.returned (.tuple #[])∧w=w':=by
 obtain ⟨c0,c1,c2,c3,c4,c5,c6,c7,f,hb⟩:=p.cells
 clear p
 go_enter Tryz.func178,Tryz.ntmps178
 go_wp2
 go_end0
 exact ⟨rfl,rfl⟩
theorem down_ok (b:Nat) (s:ByteArray) (t:Px.Tok) (nest deep:Int) (w:World) (p:PenAt w b s t (-1) nest deep) (hn:0≤nest) (hn':nest≤1000000) :
  Calls Tryz.prog 180 #[.pointer (some ⟨b,0,none⟩)] w fun e w'=>e=.returned (.tuple #[])∧PenAt w' b s t (-1) (nest+1) (Px.deepOf nest deep t.a)∧Kp b w w':=by
 obtain ⟨c0,c1,c2,c3,c4,c5,c6,c7,f,hb⟩:=p.cells
 have H:=p.h
 have HH:Hid (w.heap[b]?=_):=H
 clear p H
 by_cases h4:4≤nest
 ·by_cases hd:deep < 0
  ·go_enter Tryz.func180,Tryz.ntmps180
   go_wp2
   go_end0
   exact ⟨rfl,⟨by rw[Px.deepOf,if_pos ⟨h4,hd⟩,heap_set _ (heap_set _ HH.out)];simp⟩,((Kp.refl _ _).setB _).setB _⟩
  ·go_enter Tryz.func180,Tryz.ntmps180
   go_wp2
   go_end0
   exact ⟨rfl,⟨by rw[Px.deepOf,if_neg (by omega),heap_set _ HH.out];simp⟩,(Kp.refl _ _).setB _⟩
 ·go_enter Tryz.func180,Tryz.ntmps180
  go_wp2
  go_end0
  exact ⟨rfl,⟨by rw[Px.deepOf,if_neg (by omega),heap_set _ HH.out];simp⟩,(Kp.refl _ _).setB _⟩
theorem up_ok (b:Nat) (s:ByteArray) (t:Px.Tok) (bad nest deep:Int) (w:World) (p:PenAt w b s t bad nest deep) :
  Calls Tryz.prog 181 #[.pointer (some ⟨b,0,none⟩)] w fun e w'=>e=.returned (.tuple #[])∧PenAt w' b s t bad (wrap64 (nest - 1)) deep∧Kp b w w':=by
 obtain ⟨c0,c1,c2,c3,c4,c5,c6,c7,f,hb⟩:=p.cells
 have H:=p.h
 have HH:Hid (w.heap[b]?=_):=H
 clear p H
 go_enter Tryz.func181,Tryz.ntmps181
 go_wp2
 go_end0
 exact ⟨rfl,⟨by rw[heap_set _ HH.out];simp⟩,(Kp.refl _ _).setB _⟩
theorem next_ok (b:Nat) (s:ByteArray) (t:Px.Tok) (nest deep:Int) (w:World) (p:PenAt w b s t (-1) nest deep) (ht:t.b≤s.size) (hs:s.size≤maxLen) :
  Calls Tryz.prog 177 #[.pointer (some ⟨b,0,none⟩)] w fun e w'=>e=.returned (.agg (signV s t))∧PenAt w' b s (Px.tok s t.b) (-1) nest deep∧Kp b w w':=by
 obtain ⟨c0,c1,c2,c3,c4,c5,c6,c7,f,hb⟩:=p.cells
 have P2:=(fun (o q:Obj)=>((p.alloc o).alloc q).drew)
 have HP:Hid (∀ o q:Obj,PenAt ((w.alloc o).alloc q).drew b s t (-1) nest deep):=P2
 clear p P2
 go_enter Tryz.func177,Tryz.ntmps177
 go_wp2
 go_region_with (go_at_call 67;refine (sign_any s t.b _ ht hs).mono ?_;unfold signV;rintro e w1 ⟨rfl,hbw⟩;have p1:=(HP.out _ _).later hbw (by simp;omega);obtain ⟨d0,d1,d2,d3,d4,d5,d6,d7,df,hdb⟩:=p1.cells;have hp1:Hid (PenAt w1 b s t (-1) nest deep):=p1;clear p1;obtain ⟨n0,n1⟩:=two_new (w:=w) (by rfl) hbw;obtain ⟨a0,a1,a2,a3,af⟩:=cells4 n0;obtain ⟨g0,g1,g2,g3,gf⟩:=cells4 n1;clear n0 n1)
 all_goals
  have hne:¬ w.heap.size=b:=by omega
  have hne':¬ w.heap.size+1=b:=by omega
  go_wp2
  refine bodyPost_ret (v:=.agg (signV s t)) (by simp[results,Tryz.results177,go_sem,signV, *]) rfl ⟨rfl,?_,?_⟩
  ·exact ⟨by rw[heap_set_ne _ (by omega),heap_set_ne _ (by omega),heap_set_ne _ (by omega),heap_set_ne _ (by omega),heap_set _ (heap_set _ (heap_set _ (heap_set _ hp1.out.h)))];simp⟩
  ·exact (((((((((((Kp.refl b w).alloc _).alloc _).drew.below hbw).setB _).setB _).setB _).setB _).setN (Nat.le_refl _) _).setN (Nat.le_refl _) _).setN (Nat.le_refl _) _).setN (Nat.le_refl _) _
open Go.RowKit
theorem got_yes (b:Nat) (s x:ByteArray) (t:Px.Tok) (nest deep:Int) (w:World) (p:PenAt w b s t (-1) nest deep) (ht:t.b≤s.size) (hs:s.size≤maxLen) (ho:Px.onB s t x=true) :
  Calls Tryz.prog 127 #[.pointer (some ⟨b,0,none⟩),.string x] w fun e w'=>e=.returned (.bool true)∧PenAt w' b s (Px.tok s t.b) (-1) nest deep∧Kp b w w':=by
 have HP:Hid (PenAt w b s t (-1) nest deep):=p
 clear p
 go_enter Tryz.func127,Tryz.ntmps127
 go_wp2_with fail
 refine (on_ok b s x t nest deep _ HP.out).mono ?_
 rintro e w' ⟨rfl,rfl⟩
 go_wp2_with fail
 refine (next_ok b s t nest deep _ HP.out ht hs).mono ?_
 rintro e w1 ⟨rfl,p1,k1⟩
 have P1:Hid (_∧_):=⟨p1,k1⟩
 clear p1 k1
 go_wp2_with fail
 go_ret
 exact ⟨rfl,P1.out⟩
theorem got_no (b:Nat) (s x:ByteArray) (t:Px.Tok) (nest deep:Int) (w:World) (p:PenAt w b s t (-1) nest deep) (ho:Px.onB s t x=false) :
  Calls Tryz.prog 127 #[.pointer (some ⟨b,0,none⟩),.string x] w fun e w'=>e=.returned (.bool false)∧w=w':=by
 have HP:Hid (PenAt w b s t (-1) nest deep):=p
 clear p
 go_enter Tryz.func127,Tryz.ntmps127
 go_wp2_with fail
 refine (on_ok b s x t nest deep _ HP.out).mono ?_
 rintro e w' ⟨rfl,rfl⟩
 go_wp2_with fail
 go_ret
 exact ⟨rfl,rfl⟩
theorem got_bad (b:Nat) (s x:ByteArray) (t:Px.Tok) (bad nest deep:Int) (w:World) (p:PenAt w b s t bad nest deep) (h0:0≤bad) :
  Calls Tryz.prog 127 #[.pointer (some ⟨b,0,none⟩),.string x] w fun e w'=>e=.returned (.bool false)∧w=w':=by
 have HP:Hid (PenAt w b s t bad nest deep):=p
 clear p
 go_enter Tryz.func127,Tryz.ntmps127
 go_wp2_with fail
 refine (on_bad b s x t bad nest deep _ HP.out h0).mono ?_
 rintro e w' ⟨rfl,rfl⟩
 go_wp2_with fail
 go_ret
 exact ⟨rfl,rfl⟩
theorem need_yes (b:Nat) (s x:ByteArray) (t:Px.Tok) (nest deep:Int) (w:World) (p:PenAt w b s t (-1) nest deep) (ht:t.b≤s.size) (hs:s.size≤maxLen) (ho:Px.onB s t x=true) :
  Calls Tryz.prog 129 #[.pointer (some ⟨b,0,none⟩),.string x] w fun e w'=>e=.returned (.tuple #[])∧PenAt w' b s (Px.tok s t.b) (-1) nest deep∧Kp b w w':=by
 have HP:Hid (PenAt w b s t (-1) nest deep):=p
 clear p
 go_enter Tryz.func129,Tryz.ntmps129
 go_wp2_with fail
 refine (got_yes b s x t nest deep _ HP.out ht hs ho).mono ?_
 rintro e w1 ⟨rfl,p1,k1⟩
 have P1:Hid (_∧_):=⟨p1,k1⟩
 clear p1 k1
 go_wp2_with fail
 go_end0
 exact ⟨rfl,P1.out⟩
theorem need_no (b:Nat) (s x:ByteArray) (t:Px.Tok) (nest deep:Int) (w:World) (p:PenAt w b s t (-1) nest deep) (ho:Px.onB s t x=false) :
  Calls Tryz.prog 129 #[.pointer (some ⟨b,0,none⟩),.string x] w fun e w'=>e=.returned (.tuple #[])∧PenAt w' b s t t.a nest deep∧Kp b w w':=by
 have HP:Hid (PenAt w b s t (-1) nest deep):=p
 clear p
 go_enter Tryz.func129,Tryz.ntmps129
 go_wp2_with fail
 refine (got_no b s x t nest deep _ HP.out ho).mono ?_
 rintro e w1 ⟨rfl,rfl⟩
 go_wp2_with fail
 refine (fail_ok b s t nest deep _ HP.out).mono ?_
 rintro e w1 ⟨rfl,p1,k1⟩
 have P1:Hid (_∧_):=⟨p1,k1⟩
 clear p1 k1
 go_wp2_with fail
 go_end0
 exact ⟨rfl,P1.out⟩
theorem need_bad (b:Nat) (s x:ByteArray) (t:Px.Tok) (bad nest deep:Int) (w:World) (p:PenAt w b s t bad nest deep) (h0:0≤bad) :
  Calls Tryz.prog 129 #[.pointer (some ⟨b,0,none⟩),.string x] w fun e w'=>e=.returned (.tuple #[])∧w=w':=by
 have HP:Hid (PenAt w b s t bad nest deep):=p
 clear p
 go_enter Tryz.func129,Tryz.ntmps129
 go_wp2_with fail
 refine (got_bad b s x t bad nest deep _ HP.out h0).mono ?_
 rintro e w1 ⟨rfl,rfl⟩
 go_wp2_with fail
 refine (fail_bad b s t bad nest deep _ HP.out h0).mono ?_
 rintro e w1 ⟨rfl,rfl⟩
 go_wp2_with fail
 go_end0
 exact ⟨rfl,rfl⟩
theorem kind_yes (b:Nat) (s:ByteArray) (k:Nat) (t:Px.Tok) (nest deep:Int) (w:World) (p:PenAt w b s t (-1) nest deep) (ht:t.b≤s.size) (hs:s.size≤maxLen) (ho:(t.k:Int)=k) :
  Calls Tryz.prog 128 #[.pointer (some ⟨b,0,none⟩),.int .u8 k] w fun e w'=>e=.returned (.agg (signV s t))∧PenAt w' b s (Px.tok s t.b) (-1) nest deep∧Kp b w w':=by
 obtain ⟨c0,c1,c2,c3,c4,c5,c6,c7,f,hb⟩:=p.cells
 have HP:Hid (∀ o:Obj,PenAt (w.alloc o) b s t (-1) nest deep):=fun o=>p.alloc o
 have hk:((t.k:Int) != k)=false:=by simp[ho]
 have HO:Hid ((t.k:Int)=k):=ho
 clear p ho
 go_enter Tryz.func128,Tryz.ntmps128
 go_wp2_with fail
 refine (next_ok b s t nest deep _ (HP.out _) ht hs).mono ?_
 unfold signV
 rintro e w1 ⟨rfl,p1,k1⟩
 obtain ⟨a0,a1,a2,a3,af⟩:=cells4 (one_new k1 hb)
 have P1:Hid (_∧_):=⟨p1,k1⟩
 clear p1 k1
 go_wp2_with fail
 refine bodyPost_ret (v:=.agg (signV s t)) (by simp[results,Tryz.results128,go_sem,signV, *]) rfl ⟨rfl,?_,?_⟩
 ·exact (((P1.out.1.setN (by omega) _).setN (by omega) _).setN (by omega) _).setN (by omega) _
 ·exact (((P1.out.2.of_alloc.setN (Nat.le_refl _) _).setN (Nat.le_refl _) _).setN (Nat.le_refl _) _).setN (Nat.le_refl _) _
def zeroSign:Array Value:=#[.int .u8 0,.string ⟨#[]⟩,.int .i64 0,.int .i64 0]
theorem kind_no (b:Nat) (s:ByteArray) (k:Nat) (t:Px.Tok) (nest deep:Int) (w:World) (p:PenAt w b s t (-1) nest deep) (ho:(t.k:Int)≠k) :
  Calls Tryz.prog 128 #[.pointer (some ⟨b,0,none⟩),.int .u8 k] w fun e w'=>e=.returned (.agg zeroSign)∧PenAt w' b s t t.a nest deep∧Kp b w w':=by
 obtain ⟨c0,c1,c2,c3,c4,c5,c6,c7,f,hb⟩:=p.cells
 have HP:Hid (∀ o:Obj,PenAt (w.alloc o) b s t (-1) nest deep):=fun o=>p.alloc o
 have hk:((t.k:Int) != k)=true:=by simp[ho]
 clear p ho
 go_enter Tryz.func128,Tryz.ntmps128
 go_wp2_with fail
 refine (fail_ok b s t nest deep _ (HP.out _)).mono ?_
 rintro e w1 ⟨rfl,p1,k1⟩
 obtain ⟨a0,a1,a2,a3,af⟩:=cells4 (one_new k1 hb)
 have P1:Hid (_∧_):=⟨p1,k1⟩
 clear p1 k1
 go_wp2_with fail
 refine bodyPost_ret (v:=.agg zeroSign) (by simp[results,Tryz.results128,go_sem,zeroSign, *]) rfl ⟨rfl,?_,?_⟩
 ·exact (((P1.out.1.setN (by omega) _).setN (by omega) _).setN (by omega) _).setN (by omega) _
 ·exact (((P1.out.2.of_alloc.setN (Nat.le_refl _) _).setN (Nat.le_refl _) _).setN (Nat.le_refl _) _).setN (Nat.le_refl _) _
theorem kind_bad (b:Nat) (s:ByteArray) (k:Nat) (t:Px.Tok) (bad nest deep:Int) (w:World) (p:PenAt w b s t bad nest deep) (h0:0≤bad) :
  Calls Tryz.prog 128 #[.pointer (some ⟨b,0,none⟩),.int .u8 k] w fun e w'=>e=.returned (.agg zeroSign)∧PenAt w' b s t bad nest deep∧Kp b w w':=by
 obtain ⟨c0,c1,c2,c3,c4,c5,c6,c7,f,hb⟩:=p.cells
 have HP:Hid (∀ o:Obj,PenAt (w.alloc o) b s t bad nest deep):=fun o=>p.alloc o
 clear p
 go_enter Tryz.func128,Tryz.ntmps128
 go_wp2_with fail
 refine (fail_bad b s t bad nest deep _ (HP.out _) h0).mono ?_
 rintro e w1 ⟨rfl,rfl⟩
 go_wp2_with fail
 refine bodyPost_ret (v:=.agg zeroSign) (by simp[results,Tryz.results128,go_sem,zeroSign, *]) rfl ⟨rfl,?_,?_⟩
 ·exact HP.out _
 ·exact (Kp.refl _ _).alloc _
end Ref
namespace Px
theorem runOf_gt {p:UInt8→Bool} {s:ByteArray} {i:Nat} (h:i < s.size) (hp:p s[i]=true):i < runOf p s i:=by
 unfold runOf
 obtain ⟨n,hn⟩:∃ n,s.size - i=n+1:=⟨s.size - i - 1,by omega⟩
 rw[hn,runTo,dif_pos h,if_pos hp]
 have:=runTo_ge p s n (i+1)
 omega
structure Tk (s:ByteArray) (t:Tok):Prop where
 ab:t.a≤t.b
 le:t.b≤s.size
 lt:t.k≠0→t.k≠63→t.a < t.b
 kinds:t.k=0∨t.k=63∨t.k=107∨t.k=110∨t.k=119
 fin:t.k=0→t.a=s.size
 num:t.k=110→t.b - t.a≤4∧∀ j (hj:j < s.size),t.a≤j→j < t.b→isDig s[j]=true
theorem tokAt_tk (s:ByteArray) (a:Nat) (ha:a≤s.size):Tk s (tokAt s a)∧a≤(tokAt s a).a:=by
 by_cases h:a < s.size
 ·cases hs:isSmall s[a]
  ·cases hd:isDig s[a]
   ·cases hm:isMark s[a]
    ·rw[tokAt_none h hs hd hm];exact ⟨⟨by simp,by simp;omega,by simp,by simp,by simp,by simp⟩,by simp⟩
    ·rw[tokAt_mark h hs hd hm];exact ⟨⟨by simp,by simp;omega,by simp,by simp,by simp,by simp⟩,by simp⟩
   ·by_cases hl:4 < runOf isDig s a - a
    ·rw[tokAt_digs h hs hd rfl hl];exact ⟨⟨by simp,by simp;omega,by simp,by simp,by simp,by simp⟩,by simp⟩
    ·rw[tokAt_num h hs hd rfl hl]
     have g:=runOf_gt h hd
     have l:=runOf_le isDig s a ha
     exact ⟨⟨by simp;omega,by simpa using l,by intro _ _;exact g,by simp,by simp,by intro _;exact ⟨by simp;omega,fun j hj h1 h2=>runTo_all isDig s _ a j hj h1 h2⟩⟩,by simp⟩
  ·have g:=runOf_gt h hs
   have l:=runOf_le isSmall s a ha
   cases hk:isKept (s.extract a (runOf isSmall s a)).toList
   ·by_cases hl:8 < runOf isSmall s a - a
    ·rw[tokAt_long h hs rfl hk hl];exact ⟨⟨by simp,by simp;omega,by simp,by simp,by simp,by simp⟩,by simp⟩
    ·rw[tokAt_word h hs rfl hk hl];exact ⟨⟨by simp;omega,by simpa using l,by intro _ _;exact g,by simp,by simp,by simp⟩,by simp⟩
   ·rw[tokAt_kept h hs rfl hk];exact ⟨⟨by simp;omega,by simpa using l,by intro _ _;exact g,by simp,by simp,by simp⟩,by simp⟩
 ·rw[tokAt_end h];exact ⟨⟨by simp,by simp,by simp,by simp,by simp,by simp⟩,by simpa using ha⟩
theorem tok_tk (s:ByteArray) (i:Nat) (hi:i≤s.size):Tk s (tok s i)∧i≤(tok s i).a:=by
 have h:=tokAt_tk s (runOf isBlank s i) (runOf_le _ _ _ hi)
 have g:=runOf_ge isBlank s i
 exact ⟨h.1,Nat.le_trans g h.2⟩
theorem onB_k {s:ByteArray} {t:Tok} {x:ByteArray} (h:onB s t x=true):t.k=107:=by
 unfold onB at h;simp at h;exact h.1
theorem nx_tk {s:ByteArray} {st:Ps} (h:Tk s st.t):Tk s (nx s st).t:=(tok_tk s st.t.b h.le).1
theorem nx_lt {s:ByteArray} {st:Ps} (h:Tk s st.t) (h0:st.t.k≠0) (h1:st.t.k≠63):st.t.a < (nx s st).t.a:=Nat.lt_of_lt_of_le (h.lt h0 h1) (tok_tk s st.t.b h.le).2
structure Good (s:ByteArray) (st st':Ps):Prop where
 tk:Tk s st'.t
 lt:st.t.a < st'.t.a
 nest:st'.nest=st.nest
theorem Good.trans {s:ByteArray} {a b c:Ps} (h:Good s a b) (k:Good s b c):Good s a c:=⟨k.tk,Nat.lt_trans h.lt k.lt,k.nest.trans h.nest⟩
theorem good_nx {s:ByteArray} {st:Ps} (h:Tk s st.t) (h0:st.t.k≠0) (h1:st.t.k≠63):Good s st (nx s st):=⟨nx_tk h,nx_lt h h0 h1,rfl⟩
theorem good_on {s x:ByteArray} {st:Ps} (h:Tk s st.t) (ho:onB s st.t x=true):Good s st (nx s st):=good_nx h (by rw[onB_k ho];decide) (by rw[onB_k ho];decide)
def Goes {α:Type} (s:ByteArray) (g:Ps→Except Nat (α×Ps)):Prop:=∀ st x st',Tk s st.t→g st=.ok (x,st')→Good s st st'
theorem chain_goes {s:ByteArray} {g:Ps→Except Nat (Ex×Ps)} (hg:Goes s g) (a b:UInt8) (n:Nat):∀ (pl:Nat) (e:Ex) (st:Ps) (x:Ex) (st':Ps),Tk s st.t→chain s g a b n pl e st=.ok (x,st')→Tk s st'.t∧st.t.a≤st'.t.a∧st'.nest=st.nest:=by
 induction n with
 | zero=>intro pl e st x st' _ h;simp[chain] at h
 | succ n ih =>
  intro pl e st x st' ht h
  rw[chain] at h
  by_cases ha:onB s st.t ⟨#[a]⟩=true
  ·rw[if_pos ha] at h
   have g1:=good_on ht ha
   cases hp:g (nx s st) with
   | error p=>rw[hp] at h;cases h
   | ok r =>
    obtain ⟨k,st1⟩:=r
    rw[hp] at h
    have g2:=g1.trans (hg _ _ _ g1.tk hp)
    obtain ⟨i1,i2,i3⟩:=ih _ _ _ _ _ g2.tk h
    exact ⟨i1,by have:=g2.lt;omega,by rw[i3,g2.nest]⟩
  ·rw[if_neg ha] at h
   by_cases hb:onB s st.t ⟨#[b]⟩=true
   ·rw[if_pos hb] at h
    have g1:=good_on ht hb
    cases hp:g (nx s st) with
    | error p=>rw[hp] at h;cases h
    | ok r =>
     obtain ⟨k,st1⟩:=r
     rw[hp] at h
     have g2:=g1.trans (hg _ _ _ g1.tk hp)
     obtain ⟨i1,i2,i3⟩:=ih _ _ _ _ _ g2.tk h
     exact ⟨i1,by have:=g2.lt;omega,by rw[i3,g2.nest]⟩
   ·rw[if_neg hb] at h
    cases h
    exact ⟨ht,Nat.le_refl _,rfl⟩
theorem row_goes {s:ByteArray} {g:Ps→Except Nat (Ex×Ps)} (hg:Goes s g) (a b:UInt8):Goes s (row s g a b):=by
 intro st x st' ht h
 unfold row at h
 cases hp:g st with
 | error p=>rw[hp] at h;cases h
 | ok r =>
  obtain ⟨e,st1⟩:=r
  rw[hp] at h
  have g1:=hg _ _ _ ht hp
  obtain ⟨i1,i2,i3⟩:=chain_goes hg a b _ _ _ _ _ _ g1.tk h
  exact ⟨i1,by have:=g1.lt;omega,by rw[i3,g1.nest]⟩
theorem term_goes {s:ByteArray} {g:Ps→Except Nat (Ex×Ps)} (hg:Goes s g):Goes s (term s g):=row_goes hg _ _
theorem sum_goes {s:ByteArray} {g:Ps→Except Nat (Ex×Ps)} (hg:Goes s g):Goes s (sum s g):=row_goes (term_goes hg) _ _
theorem cmpOf_k {s:ByteArray} {t:Tok} {o:Nat} (h:cmpOf s t=some o):t.k=107:=by
 unfold cmpOf at h
 split at h
 ·rename_i h1;exact onB_k h1
 ·split at h
  ·rename_i h1;exact onB_k h1
  ·split at h
   ·rename_i h1;exact onB_k h1
   ·cases h
theorem expr_goes {s:ByteArray} {g:Ps→Except Nat (Ex×Ps)} (hg:Goes s g):Goes s (expr s g):=by
 intro st x st' ht h
 unfold expr at h
 cases hp:sum s g st with
 | error p=>rw[hp] at h;cases h
 | ok r =>
  obtain ⟨e,st1⟩:=r
  rw[hp] at h
  have g1:=sum_goes hg _ _ _ ht hp
  simp only at h
  cases hc:cmpOf s st1.t with
  | none=>rw[hc] at h;cases h;exact g1
  | some o =>
   rw[hc] at h
   have g2:=g1.trans (good_nx g1.tk (by rw[cmpOf_k hc];decide) (by rw[cmpOf_k hc];decide))
   simp only at h
   cases hq:sum s g (nx s st1) with
   | error p=>rw[hq] at h;cases h
   | ok r2 =>
    obtain ⟨k,st2⟩:=r2
    rw[hq] at h
    cases h
    exact g2.trans (sum_goes hg _ _ _ g2.tk hq)
theorem atom_goes (s:ByteArray) (n:Nat):Goes s (atom s n):=by
 induction n with
 | zero=>intro st x st' _ h;simp[atom] at h
 | succ n ih =>
  intro st x st' ht h
  rw[atom] at h
  split at h
  ·rename_i hk;cases h;exact good_nx ht (by omega) (by omega)
  ·split at h
   ·rename_i hk;cases h;exact good_nx ht (by omega) (by omega)
   ·split at h
    ·rename_i hk;cases h;exact good_on ht hk
    ·split at h
     ·rename_i hk;cases h;exact good_on ht hk
     ·split at h
      ·rename_i hk
       have g1:=good_on ht hk
       cases hp:atom s n (nx s st) with
       | error p=>rw[hp] at h;cases h
       | ok r =>
        obtain ⟨k,st1⟩:=r
        rw[hp] at h
        cases h
        exact g1.trans (ih _ _ _ g1.tk hp)
      ·split at h
       ·rename_i hk
        have g1:=good_on ht hk
        cases hp:expr s (atom s n) (nx s (dn st)) with
        | error p=>rw[hp] at h;cases h
        | ok r =>
         obtain ⟨k,st1⟩:=r
         rw[hp] at h
         simp only at h
         have g2:=expr_goes ih _ _ _ (show Tk s (nx s (dn st)).t from g1.tk) hp
         split at h
         ·rename_i hc
          cases h
          have g3:=good_on g2.tk hc
          have h1:st.t.a < (nx s (dn st)).t.a:=g1.lt
          have h2:=g2.lt
          have h3:=g3.lt
          refine ⟨g3.tk,?_,?_⟩
          ·show st.t.a < (nx s st1).t.a;omega
          ·show st1.nest - 1=st.nest
           rw[g2.nest];show st.nest+1 - 1=st.nest;omega
         ·cases h
       ·cases h
end Px
open Go.RowKit
namespace Ref
def ExAt (w:World):Px.Ex→(Nat→Prop)→Nat→Prop
 | ⟨op,n,word,pl,own,none,none⟩,ok,q=>ok q∧w.heap[q]?=some (.cells #[.int .u8 (op:Int),.int .i64 (n:Int),.string word,.int .i64 (pl:Int),.int .i64 (own:Int),.slice none 0 0] 255)
 | ⟨op,n,word,pl,own,some l,none⟩,ok,q=>ok q∧∃ kb lq,ok kb∧kb≠q∧w.heap[q]?=some (.cells #[.int .u8 (op:Int),.int .i64 (n:Int),.string word,.int .i64 (pl:Int),.int .i64 (own:Int),.slice (some ⟨kb,0,none⟩) 1 1] 255) ∧
   w.heap[kb]?=some (.cells #[.pointer (some ⟨lq,0,none⟩)] 179)∧ExAt w l (fun k=>ok k∧k≠q∧k≠kb) lq
 | ⟨op,n,word,pl,own,some l,some r⟩,ok,q=>ok q∧∃ kb lq rq,ok kb∧kb≠q∧w.heap[q]?=some (.cells #[.int .u8 (op:Int),.int .i64 (n:Int),.string word,.int .i64 (pl:Int),.int .i64 (own:Int),.slice (some ⟨kb,0,none⟩) 2 2] 255) ∧
   w.heap[kb]?=some (.cells #[.pointer (some ⟨lq,0,none⟩),.pointer (some ⟨rq,0,none⟩)] 179)∧ExAt w l (fun k=>ok k∧k≠q∧k≠kb) lq∧ExAt w r (fun k=>ok k∧k≠q∧k≠kb) rq
 | ⟨_,_,_,_,_,none,some _⟩,_,_=>False
theorem ExAt.mono {w:World} {x:Px.Ex} {ok ok':Nat→Prop} {q:Nat} (h:ExAt w x ok q) (hk:∀ k,ok k→ok' k):ExAt w x ok' q:=by
 match x with
 | ⟨op,n,word,pl,own,none,none⟩=>exact ⟨hk _ h.1,h.2⟩
 | ⟨op,n,word,pl,own,some l,none⟩ =>
  obtain ⟨h1,kb,lq,h2,h3,h4,h5,h6⟩:=h
  exact ⟨hk _ h1,kb,lq,hk _ h2,h3,h4,h5,h6.mono fun k hk'=>⟨hk _ hk'.1,hk'.2⟩⟩
 | ⟨op,n,word,pl,own,some l,some r⟩ =>
  obtain ⟨h1,kb,lq,rq,h2,h3,h4,h5,h6,h7⟩:=h
  exact ⟨hk _ h1,kb,lq,rq,hk _ h2,h3,h4,h5,h6.mono fun k hk'=>⟨hk _ hk'.1,hk'.2⟩,h7.mono fun k hk'=>⟨hk _ hk'.1,hk'.2⟩⟩
 | ⟨_,_,_,_,_,none,some _⟩=>exact h.elim
theorem ExAt.keep {w w':World} {x:Px.Ex} {ok:Nat→Prop} {q:Nat} (h:ExAt w x ok q) (hk:∀ k,ok k→w'.heap[k]?=w.heap[k]?):ExAt w' x ok q:=by
 match x with
 | ⟨op,n,word,pl,own,none,none⟩=>exact ⟨h.1,by rw[hk _ h.1];exact h.2⟩
 | ⟨op,n,word,pl,own,some l,none⟩ =>
  obtain ⟨h1,kb,lq,h2,h3,h4,h5,h6⟩:=h
  exact ⟨h1,kb,lq,h2,h3,by rw[hk _ h1];exact h4,by rw[hk _ h2];exact h5,h6.keep fun k hk'=>hk _ hk'.1⟩
 | ⟨op,n,word,pl,own,some l,some r⟩ =>
  obtain ⟨h1,kb,lq,rq,h2,h3,h4,h5,h6,h7⟩:=h
  exact ⟨h1,kb,lq,rq,h2,h3,by rw[hk _ h1];exact h4,by rw[hk _ h2];exact h5,h6.keep fun k hk'=>hk _ hk'.1,h7.keep fun k hk'=>hk _ hk'.1⟩
 | ⟨_,_,_,_,_,none,some _⟩=>exact h.elim
theorem ExAt.root {w:World} {x:Px.Ex} {ok:Nat→Prop} {q:Nat} (h:ExAt w x ok q):ok q∧∃ v,w.heap[q]?=some (.cells #[.int .u8 (x.op:Int),.int .i64 (x.n:Int),.string x.word,.int .i64 (x.pl:Int),.int .i64 (x.own:Int),v] 255):=by
 match x with
 | ⟨op,n,word,pl,own,none,none⟩=>exact ⟨h.1,_,h.2⟩
 | ⟨op,n,word,pl,own,some l,none⟩ =>
  obtain ⟨h1,kb,lq,h2,h3,h4,h5,h6⟩:=h
  exact ⟨h1,_,h4⟩
 | ⟨op,n,word,pl,own,some l,some r⟩ =>
  obtain ⟨h1,kb,lq,rq,h2,h3,h4,h5,h6,h7⟩:=h
  exact ⟨h1,_,h4⟩
 | ⟨_,_,_,_,_,none,some _⟩=>exact h.elim
theorem ExAt.place {w:World} {x:Px.Ex} {ok:Nat→Prop} {q:Nat} (h:ExAt w x ok q) (a:Nat):ExAt (w.setCell ⟨q,3,none⟩ (.int .i64 (a:Int))) { x with pl:=a } ok q:=by
 match x with
 | ⟨op,n,word,pl,own,none,none⟩=>exact ⟨h.1,by rw[heap_set _ h.2];simp⟩
 | ⟨op,n,word,pl,own,some l,none⟩ =>
  obtain ⟨h1,kb,lq,h2,h3,h4,h5,h6⟩:=h
  exact ⟨h1,kb,lq,h2,h3,by rw[heap_set _ h4];simp,by rw[heap_set_ne _ h3];exact h5,h6.keep fun k hk'=>heap_set_ne _ hk'.2.1⟩
 | ⟨op,n,word,pl,own,some l,some r⟩ =>
  obtain ⟨h1,kb,lq,rq,h2,h3,h4,h5,h6,h7⟩:=h
  exact ⟨h1,kb,lq,rq,h2,h3,by rw[heap_set _ h4];simp,by rw[heap_set_ne _ h3];exact h5,h6.keep fun k hk'=>heap_set_ne _ hk'.2.1,h7.keep fun k hk'=>heap_set_ne _ hk'.2.1⟩
 | ⟨_,_,_,_,_,none,some _⟩=>exact h.elim
def In (w w':World) (k:Nat):Prop:=w.heap.size≤k∧k < w'.heap.size
theorem ExAt.kp {b:Nat} {w w1 w2:World} {x:Px.Ex} {q:Nat} (h:ExAt w1 x (In w w1) q) (hb:b < w.heap.size) (k:Kp b w1 w2):ExAt w2 x (In w w1) q :=
 h.keep fun i hi=>k.block i hi.2 (by have:=hi.1;omega)
theorem push2_old {h:Array Obj} {o p:Obj} {k:Nat} (hk:k < h.size):((h.push o).push p)[k]?=h[k]?:=by
 rw[Array.getElem?_push,if_neg (by simp;omega),Array.getElem?_push,if_neg (by omega)]
theorem push2_one {h:Array Obj} {o p:Obj}:((h.push o).push p)[h.size]?=some o:=by
 rw[Array.getElem?_push,if_neg (by simp),Array.getElem?_push,if_pos rfl]
theorem push2_two {h:Array Obj} {o p:Obj}:((h.push o).push p)[h.size+1]?=some p:=by
 rw[Array.getElem?_push,if_pos (by simp)]
theorem ExAt.pair {w wr wq w3 W:World} {x y:Px.Ex} {q q2 o pl own:Nat} (hx:ExAt w3 x (In w wr) q) (hy:ExAt w3 y (In wq w3) q2) (h1:w.heap.size≤wq.heap.size) (h2:wr.heap.size≤w3.heap.size) (h3:w.heap.size≤w3.heap.size)
  (hW:W.heap=(w3.heap.push (.cells #[.pointer (some ⟨q,0,none⟩),.pointer (some ⟨q2,0,none⟩)] 179)).push (.cells #[.int .u8 (o:Int),.int .i64 0,.string ⟨#[]⟩,.int .i64 (pl:Int),.int .i64 (own:Int),.slice (some ⟨w3.heap.size,0,none⟩) 2 2] 255)) :
  ExAt W ⟨o,0,Px.nowt,pl,own,some x,some y⟩ (In w W) (w3.heap.size+1):=by
 have hz:W.heap.size=w3.heap.size+2:=by rw[hW];simp
 refine ⟨⟨by omega,by omega⟩,w3.heap.size,q,q2,⟨by omega,by omega⟩,by omega,?_,?_,?_,?_⟩
 ·rw[hW];exact push2_two
 ·rw[hW];exact push2_one
 ·exact (hx.keep fun k hk=>by rw[hW];exact push2_old (by have:=hk.2;omega)).mono fun k hk=>⟨⟨hk.1,by have:=hk.2;omega⟩,by have:=hk.2;omega,by have:=hk.2;omega⟩
 ·exact (hy.keep fun k hk=>by rw[hW];exact push2_old (by have:=hk.2;omega)).mono fun k hk=>⟨⟨by have:=hk.1;omega,by have:=hk.2;omega⟩,by have:=hk.2;omega,by have:=hk.2;omega⟩
def ExPost (b:Nat) (s:ByteArray) (w:World) (r:Except Nat (Px.Ex×Px.Ps)) (e:Ending) (w':World):Prop :=
 Kp b w w'∧∃ q,e=.returned (.pointer (some ⟨q,0,none⟩)) ∧
  match r with
  | .ok (x,st)=>ExAt w' x (In w w') q∧PenAt w' b s st.t (-1) st.nest st.deep
  | .error p=>w.heap.size≤q∧(∃ v0 v1 v2 v3 v4 v5,w'.heap[q]?=some (.cells #[v0,v1,v2,v3,v4,v5] 255))∧∃ t nest deep,PenAt w' b s t (p:Int) nest deep
theorem val_bound (l:List UInt8) (n:Nat):(∀ c∈l,c.toNat≤57)→l.foldl (fun n c=>10 * n+(c.toNat - 48)) n≤(n+1) * 10 ^ l.length - 1:=by
 induction l generalizing n with
 | nil=>intro _;simp
 | cons c l ih =>
  intro h
  have h1:=h c (by simp)
  have h2:=ih (10 * n+(c.toNat - 48)) (fun d hd=>h d (by simp[hd]))
  simp only[List.foldl_cons,List.length_cons]
  refine Nat.le_trans h2 ?_
  have:(10 * n+(c.toNat - 48)+1) * 10 ^ l.length≤(n+1) * 10 ^ (l.length+1):=by
   rw[Nat.pow_succ,← Nat.mul_assoc,Nat.mul_right_comm]
   exact Nat.mul_le_mul_right _ (by omega)
  omega
theorem val_snoc (l:List UInt8) (c:UInt8):Px.valOf (l++[c])=10 * Px.valOf l+(c.toNat - 48):=by
 simp[Px.valOf]
theorem ret_int {k:IntKind} {a b:Int} (h:a=b):Ending.returned (.int k a)=.returned (.int k b):=by rw[h]
theorem take_snoc (s:ByteArray) (k:Nat) (h:k < s.size):s.data.toList.take (k+1)=s.data.toList.take k++[s[k]]:=by
 rw[List.take_succ_eq_append_getElem (by simpa using h)];rfl
theorem value_any (x:ByteArray) (w:World) (hx:x.size≤4) (hd:∀ j (hj:j < x.size),Px.isDig x[j]=true) :
  Calls Tryz.prog 133 #[.string x] w fun e w'=>e=.returned (.int .i64 (Px.valOf x.toList:Nat))∧w'=w:=by
 have HD:Hid (∀ j (hj:j < x.size),Px.isDig x[j]=true):=hd
 clear hd
 go_enter Tryz.func133,Tryz.ntmps133
 go_wp2
 go_loop [3,4] (fun n i=>∃ k v:Nat,k≤x.size∧i=.int .i64 k∧n=.int .i64 v∧Hid (v=Px.valOf (x.data.toList.take k))) (fun _ i=>x.size - (intOf i).toNat)
 case atStart=>exact ⟨0,0,by omega,rfl,rfl,rfl⟩
 case round =>
  obtain ⟨k,v,hk,rfl,rfl,hv⟩:=hrel
  by_cases hlt:k < x.size
  ·have hdk:=HD.out k hlt
   unfold Px.isDig at hdk
   simp only[Bool.and_eq_true,decide_eq_true_eq] at hdk
   have d1:(48:Int)≤x[k].toNat:=by omega
   have d2:(x[k].toNat:Int)≤57:=by omega
   have hb:v≤1000:=by
    have h1:=val_bound (x.data.toList.take k) 0 (by
     intro c hc
     obtain ⟨j,hj,rfl⟩:=List.getElem_of_mem hc
     simp only[List.length_take,Array.length_toList] at hj
     have h2:=HD.out j (by show j < x.data.size;omega)
     unfold Px.isDig at h2
     simp only[Bool.and_eq_true,decide_eq_true_eq] at h2
     simpa using (show x.data[j].toNat≤57 from h2.2))
    have h3:(x.data.toList.take k).length≤3:=by simp;omega
    have h4:10 ^ (x.data.toList.take k).length≤10 ^ 3:=Nat.pow_le_pow_right (by omega) h3
    have h5:v=List.foldl (fun n c=>10 * n+(c.toNat - 48)) 0 (x.data.toList.take k):=hv
    omega
   clear hdk
   go_wp2
   refine ⟨⟨k+1,10 * v+(x[k].toNat - 48),by omega,by go_num,?_,?_⟩,by simp[intOf];omega⟩
   ·have:(10 * (v:Int)+((x[k].toNat:Int) - 48))=((10 * v+(x[k].toNat - 48):Nat):Int):=by omega
    rw[this]
   ·show _=_
    rw[take_snoc x k hlt,val_snoc,← hv.out]
  ·obtain rfl:k=x.size:=by omega
   go_wp2
   go_ret
   exact ⟨ret_int (by rw[hv.out,ByteArray.toList_eq,List.take_of_length_le (by simp)]),rfl⟩
end Ref
end Go.Proofs.YtnhkpbmplefnaaaGreatDoor
