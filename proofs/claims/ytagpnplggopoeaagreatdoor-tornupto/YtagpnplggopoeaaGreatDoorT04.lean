import Derived.Test.YtagpnplggopoeaaGreatDoorProg
import Derived.Test.YtagpnplggopoeaaGreatDoorT00
import Derived.WalkKit
import Derived.WalkSpells
import Derived.WalkLawsBesides
import Derived.Deep.RegionWith
set_option maxRecDepth 100000
set_option maxHeartbeats 4000000
namespace Go.Proofs.YtagpnplggopoeaaGreatDoor
open Go.RowKit
namespace Ref
theorem qcv {a b:Bool} (h:a=b):Ending.returned (.bool a)=.returned (.bool b):=by rw[h]
theorem qcu (c:UInt8) (w:World) :
  Calls Tryz.prog 155 #[.int .u8 c.toNat] w fun e w'=>e=.returned (.bool (Px.qal c))∧w'=w:=by
 have e1:Hid (Px.qal c=(decide (97≤(c.toNat:Int)) && decide ((c.toNat:Int)≤122))):=by
  unfold Hid Px.qal;rw[Bool.eq_iff_iff];simp;omega
 go_enter Tryz.func155,Tryz.ntmps155
 go_wp2
 all_goals
  go_ret;exact ⟨qcv (by rw[e1.out,Bool.eq_iff_iff];simp;try omega),rfl⟩
theorem qb0 (c:UInt8) (w:World) :
  Calls Tryz.prog 157 #[.int .u8 c.toNat] w fun e w'=>e=.returned (.bool (Px.qba c))∧w'=w:=by
 have e1:Hid (Px.qba c=(decide (48≤(c.toNat:Int)) && decide ((c.toNat:Int)≤57))):=by
  unfold Hid Px.qba;rw[Bool.eq_iff_iff];simp;omega
 go_enter Tryz.func157,Tryz.ntmps157
 go_wp2
 all_goals
  go_ret;exact ⟨qcv (by rw[e1.out,Bool.eq_iff_iff];simp;try omega),rfl⟩
theorem ztd {c:UInt8} {k:Nat} (hk:k < 12) (h:((((⟨#[61,59,40,41,123,125,60,35,43,45,42,47]⟩:ByteArray)[k]'hk).toNat:Int) == c.toNat)=false) (hno:c ∉ Px.marks.take k):c ∉ Px.marks.take (k+1):=by
 have e:Px.marks.take (k+1)=Px.marks.take k++[(⟨#[61,59,40,41,123,125,60,35,43,45,42,47]⟩:ByteArray)[k]'hk]:=by
  rw[List.take_succ_eq_append_getElem (by simpa [Px.marks] using hk)];rfl
 rw[e,List.mem_append];rintro (h1 | h1)
 ·exact hno h1
 ·simp only[List.mem_singleton] at h1;exact absurd h (by rw[h1];simp)
theorem zm2 {c:UInt8} {k:Nat} (hk:k < 12) (h:((((⟨#[61,59,40,41,123,125,60,35,43,45,42,47]⟩:ByteArray)[k]'hk).toNat:Int) == c.toNat)=true):Px.qd9 c=true:=by
 have e:c=Px.marks[k]'(by simpa [Px.marks] using hk):=by
  apply UInt8.toNat_inj.1
  have:((⟨#[61,59,40,41,123,125,60,35,43,45,42,47]⟩:ByteArray)[k]'hk).toNat=c.toNat:=by have:=beq_iff_eq.1 h;omega
  rw[← this];rfl
 unfold Px.qd9;rw[List.contains_iff_mem,e];exact List.getElem_mem _
theorem zcb (c:UInt8) (w:World) :
  Calls Tryz.prog 158 #[.int .u8 c.toNat] w fun e w'=>e=.returned (.bool (Px.qd9 c))∧w'=w:=by
 go_enter Tryz.func158,Tryz.ntmps158
 go_wp2;go_loop [4] (fun i=>∃ k:Nat,k≤12∧i=.int .i64 k∧Hid (c ∉ Px.marks.take k)) (fun i=>12 - (intOf i).toNat)
 case atStart=>exact ⟨0,by omega,rfl,by simp[Hid]⟩
 case round =>
  obtain ⟨k,hk,rfl,hno⟩:=hrel;by_cases hlt:k < 12
  ·go_wp2
   ·go_ret;exact ⟨qcv (zm2 hlt ‹_›).symm,rfl⟩
   ·exact ⟨⟨k+1,by omega,by go_num,ztd hlt ‹_› hno⟩,by simp[intOf];omega⟩
  ·obtain rfl:k=12:=by omega
   go_wp2;go_ret;exact ⟨qcv (by simpa [Px.qd9,Px.marks,Hid] using hno),rfl⟩
open Go.RowKit
theorem zg9 {k:Nat} (h:k≤12):k=0∨k=1∨k=2∨k=3∨k=4∨k=5∨k=6∨k=7∨k=8∨k=9∨k=10∨k=11∨k=12:=by omega
theorem znz {l m:List UInt8} (h:(l == m)=true) (hl:l∈Px.qcx):Px.qcf m=true:=by
 rw[beq_iff_eq] at h;unfold Px.qcf;rw[List.contains_iff_mem,← h];exact hl
theorem ztu {l m:List UInt8} {k:Nat} (h:(l == m)=false) (hk:k < Px.qcx.length) (hl:Px.qcx[k]=l) (hno:m ∉ Px.qcx.take k):m ∉ Px.qcx.take (k+1):=by
 rw[List.take_succ_eq_append_getElem hk,List.mem_append];rintro (h1 | h1)
 ·exact hno h1
 ·simp only[List.mem_singleton] at h1;rw[h1,hl] at h;simp at h
theorem zhx {m:List UInt8} (hno:m ∉ Px.qcx.take 12):(m == [110,111,116])=Px.qcf m:=by
 unfold Px.qcf;rw[Bool.eq_iff_iff,List.contains_iff_mem,beq_iff_eq];have e:Px.qcx=Px.qcx.take 12++[[110,111,116]]:=rfl;constructor
 ·rintro rfl;rw[e];simp
 ·intro h;rw[e,List.mem_append] at h;rcases h with h | h
  ·exact absurd h hno
  ·simpa using h
theorem qic (c:ByteArray) (w:World) :
  Calls Tryz.prog 156 #[.string c] w fun e w'=>e=.returned (.bool (Px.qcf c.toList))∧Below w.heap.size w w':=by
 go_enter Tryz.func156,Tryz.ntmps156
 go_wp2;go_loop [4] (fun i=>∃ k:Nat,k≤12∧i=.int .i64 k∧Hid (c.toList ∉ Px.qcx.take k)) (fun i=>12 - (intOf i).toNat)
 case atStart=>exact ⟨0,by omega,rfl,by simp[Hid]⟩
 case round =>
  obtain ⟨k,hk,rfl,hno⟩:=hrel;rcases zg9 hk with rfl | rfl | rfl | rfl | rfl | rfl | rfl | rfl | rfl | rfl | rfl | rfl | rfl
  case inr.inr.inr.inr.inr.inr.inr.inr.inr.inr.inr.inr =>
   go_wp2;go_ret;exact ⟨qcv (zhx hno),(Below.refl _ _).alloc (Nat.le_refl _) _⟩
  all_goals
   go_wp2
   ·go_ret;exact ⟨qcv (znz ‹_› (by simp[Px.qcx])).symm,(Below.refl _ _).alloc (Nat.le_refl _) _⟩
   ·exact ⟨⟨_,by decide,rfl,ztu ‹_› (by decide) rfl hno⟩,by simp[intOf]⟩
open Go.RowKit
def qcl (s:ByteArray) (t:Px.Tok):Array Value:=#[.int .u8 (t.k:Int),.string (s.extract t.a t.b),.int .i64 (t.a:Int),.int .i64 (t.b:Int)]
theorem qil {p:UInt8→Bool} {s:ByteArray} {i k:Nat} (h:Hid (∀ j (hj:j < s.size),i≤j→j < k→p s[j]=true)) (hk:k < s.size) (hp:p s[k]=true) :
  Hid (∀ j (hj:j < s.size),i≤j→j < k+1→p s[j]=true):=by
 intro j hj h1 h2;by_cases e:j=k
 ·subst e;exact hp
 ·exact h j hj h1 (by omega)
theorem zu5 {c:UInt8} (h:((c.toNat:Int) == 32)=true):Px.qbi c=true:=by
 have:c=32:=UInt8.toNat_inj.1 (by have:=beq_iff_eq.1 h;simp;omega)
 subst this;rfl
theorem zu6 {c:UInt8} (h:((c.toNat:Int) == 10)=true):Px.qbi c=true:=by
 have:c=10:=UInt8.toNat_inj.1 (by have:=beq_iff_eq.1 h;simp;omega)
 subst this;rfl
theorem zo4 {c:UInt8} (h:((c.toNat:Int) == 32)=false) (h':((c.toNat:Int) == 10)=false):Px.qbi c=false:=by
 unfold Px.qbi;rw[Bool.or_eq_false_iff];constructor
 ·rw[beq_eq_false_iff_ne];rintro rfl;simp at h
 ·rw[beq_eq_false_iff_ne];rintro rfl;simp at h'
theorem zo6 {W w1:World} (hb:Below W.heap.size W w1):(∀ b o,b < W.heap.size→w1.cell? ⟨b,o,none⟩=W.cell? ⟨b,o,none⟩)∧(∀ b o,b < W.heap.size→w1.frozen? ⟨b,o,none⟩=W.frozen? ⟨b,o,none⟩) :=
 ⟨fun b o h=>hb.cell (p:=⟨b,o,none⟩) h,fun b o h=>hb.frozen (p:=⟨b,o,none⟩) h⟩
theorem qfh {s:ByteArray} {i k:Nat} {t:Px.Tok} (h:Hid (Px.qbc Px.qbi s i=k)) (ht:Px.qev s k=t):Ending.returned (.agg (qcl s t))=.returned (.agg (qcl s (Px.tok s i))):=by
 unfold Px.tok;rw[h.out,ht]
theorem qqi (w:World) (o p:Obj):Below w.heap.size w ((w.alloc o).alloc p):=((Below.refl _ _).alloc (Nat.le_refl _) _).alloc (by simp) _
theorem zlg {w w1:World} {a b c d:Value} {t:TypeId} {o:Obj} (h:Below ((w.alloc (.cells #[a,b,c,d] t)).alloc o).heap.size ((w.alloc (.cells #[a,b,c,d] t)).alloc o) w1) :
  (w1.cell? ⟨w.heap.size,0,none⟩).isSome=true∧(w1.cell? ⟨w.heap.size,1,none⟩).isSome=true∧(w1.cell? ⟨w.heap.size,2,none⟩).isSome=true∧(w1.cell? ⟨w.heap.size,3,none⟩).isSome=true:=by
 have hlt:w.heap.size < ((w.alloc (.cells #[a,b,c,d] t)).alloc o).heap.size:=by simp;omega
 rw[h.cell (p:=⟨w.heap.size,0,none⟩) hlt,h.cell (p:=⟨w.heap.size,1,none⟩) hlt,h.cell (p:=⟨w.heap.size,2,none⟩) hlt,h.cell (p:=⟨w.heap.size,3,none⟩) hlt];refine ⟨?_,?_,?_,?_⟩<;>simp[go_sem]
theorem qka {w w1:World} {o p:Obj} (h:Below ((w.alloc o).alloc p).heap.size ((w.alloc o).alloc p) w1) (a b c d:Value) :
  Below w.heap.size w ((((w1.setCell ⟨w.heap.size,0,none⟩ a).setCell ⟨w.heap.size,1,none⟩ b).setCell ⟨w.heap.size,2,none⟩ c).setCell ⟨w.heap.size,3,none⟩ d) :=
 (((((qqi _ _ _).trans (h.mono (by simp;omega))).setCell (Nat.le_refl _) _).setCell (Nat.le_refl _) _).setCell (Nat.le_refl _) _).setCell (Nat.le_refl _) _
theorem qd4:(⟨#[]⟩:ByteArray)=ByteArray.empty:=rfl
theorem qn3 (s:ByteArray) (i:Nat) (w:World) (hi:i≤s.size) (hs:s.size≤maxLen) :
  Calls Tryz.prog 124 #[.string s,.int .i64 i] w fun e w'=>e=.returned (.agg (qcl s (Px.tok s i)))∧Below w.heap.size w w':=by
 unfold maxLen at hs;go_enter Tryz.func124,Tryz.ntmps124
 go_wp2;go_loop [1] (fun x=>∃ k:Nat,i≤k∧k≤s.size∧x=.int .i64 k∧Hid (∀ j (hj:j < s.size),i≤j→j < k→Px.qbi s[j]=true)) (fun x=>s.size - (intOf x).toNat)
 case atStart=>exact ⟨i,by omega,hi,rfl,by intro j hj h1 h2;omega⟩
 case round =>
  obtain ⟨k,hk1,hk2,rfl,hall⟩:=hrel;by_cases hlt:k < s.size
  ·cases h32:((s[k].toNat:Int) == 32)
   ·cases h10:((s[k].toNat:Int) == 10)
    ·have hr:Hid (Px.qbc Px.qbi s i=k):=Px.qel _ _ _ _ hk1 hk2 hall (fun _=>zo4 h32 h10)
     clear hall;cases hsm:Px.qal s[k]
     ·cases hdg:Px.qba s[k]
      ·cases hmk:Px.qd9 s[k]
       all_goals
        go_wp2_with (first | (go_at_call 155;refine (qcu _ _).mono ?_;rintro e w' ⟨rfl,rfl⟩) | (go_at_call 157;refine (qb0 _ _).mono ?_;rintro e w' ⟨rfl,rfl⟩) | (go_at_call 158;refine (zcb _ _).mono ?_;rintro e w' ⟨rfl,rfl⟩))
       ·refine bodyPost_ret (v:=.agg (qcl s ⟨63,k,k⟩)) (by simp[results,Tryz.results124,go_sem,qcl,qd4]) rfl ⟨qfh hr (Px.qgl hlt hsm hdg hmk),?_⟩
        exact qqi _ _ _
       ·refine bodyPost_ret (v:=.agg (qcl s ⟨107,k,k+1⟩)) (by simp[results,Tryz.results124,go_sem,qcl,qd4]) rfl ⟨qfh hr (Px.qfe hlt hsm hdg hmk),?_⟩
        exact qqi _ _ _
      ·go_wp2_with (first | (go_at_call 155;refine (qcu _ _).mono ?_;rintro e w' ⟨rfl,rfl⟩) | (go_at_call 157;refine (qb0 _ _).mono ?_;rintro e w' ⟨rfl,rfl⟩))
       go_loop [5] (fun x=>∃ b:Nat,k≤b∧b≤s.size∧x=.int .i64 b∧Hid (∀ j (hj:j < s.size),k≤j→j < b→Px.qba s[j]=true)) (fun x=>s.size - (intOf x).toNat)
       case atStart=>exact ⟨k,by omega,hk2,rfl,by intro j hj h1 h2;omega⟩
       case round =>
        obtain ⟨b,hb1,hb2,rfl,hallb⟩:=hrel;have last:(∀ h:b < s.size,Px.qba s[b]=false)→Hid (Px.qbc Px.qba s k=b):=fun h=>Px.qel _ _ _ _ hb1 hb2 hallb h
        by_cases hblt:b < s.size
        ·cases hsb:Px.qba s[b]
         ·have hb:=last (fun _=>hsb)
          clear last hallb;by_cases h4:4 < b - k
          all_goals
           go_wp2_with (first | (go_at_call 157;refine (qb0 _ _).mono ?_;rintro e w' ⟨rfl,rfl⟩))
          ·refine bodyPost_ret (v:=.agg (qcl s ⟨63,k,k⟩)) (by simp[results,Tryz.results124,go_sem,qcl,qd4]) rfl ⟨qfh hr (Px.qfg hlt hsm hdg hb.out h4),qqi _ _ _⟩
          ·refine bodyPost_ret (v:=.agg (qcl s ⟨110,k,b⟩)) (by simp[results,Tryz.results124,go_sem,qcl,qd4]) rfl ⟨qfh hr (Px.qfw hlt hsm hdg hb.out h4),qqi _ _ _⟩
         ·clear last;go_wp2_with (first | (go_at_call 157;refine (qb0 _ _).mono ?_;rintro e w' ⟨rfl,rfl⟩))
          exact ⟨⟨b+1,by omega,by omega,by go_num,qil hallb hblt hsb⟩,by simp[intOf];omega⟩
        ·have hb:=last (fun h=>absurd h hblt)
         clear last hallb;by_cases h4:4 < b - k
         all_goals
          go_wp2_with (first | (go_at_call 157;refine (qb0 _ _).mono ?_;rintro e w' ⟨rfl,rfl⟩))
         ·refine bodyPost_ret (v:=.agg (qcl s ⟨63,k,k⟩)) (by simp[results,Tryz.results124,go_sem,qcl,qd4]) rfl ⟨qfh hr (Px.qfg hlt hsm hdg hb.out h4),qqi _ _ _⟩
         ·refine bodyPost_ret (v:=.agg (qcl s ⟨110,k,b⟩)) (by simp[results,Tryz.results124,go_sem,qcl,qd4]) rfl ⟨qfh hr (Px.qfw hlt hsm hdg hb.out h4),qqi _ _ _⟩
     ·go_wp2_with (first | (go_at_call 155;refine (qcu _ _).mono ?_;rintro e w' ⟨rfl,rfl⟩))
      go_loop [5] (fun x=>∃ b:Nat,k≤b∧b≤s.size∧x=.int .i64 b∧Hid (∀ j (hj:j < s.size),k≤j→j < b→Px.qal s[j]=true)) (fun x=>s.size - (intOf x).toNat)
      case atStart=>exact ⟨k,by omega,hk2,rfl,by intro j hj h1 h2;omega⟩
      case round =>
       obtain ⟨b,hb1,hb2,rfl,hallb⟩:=hrel;have last:(∀ h:b < s.size,Px.qal s[b]=false)→Hid (Px.qbc Px.qal s k=b):=fun h=>Px.qel _ _ _ _ hb1 hb2 hallb h
       by_cases hblt:b < s.size
       ·cases hsb:Px.qal s[b]
        ·have hb:=last (fun _=>hsb)
         clear last hallb;cases hkp:Px.qcf (s.extract k b).toList
         ·by_cases h8:8 < b - k
          all_goals
           go_wp2_with (first | (go_at_call 155;refine (qcu _ _).mono ?_;rintro e w' ⟨rfl,rfl⟩))
           refine (qic _ _).mono ?_;rintro e w1 ⟨rfl,hbw⟩;obtain ⟨hcw,hfw⟩:=zo6 hbw;obtain ⟨i0,i1,i2,i3⟩:=zlg hbw;have hzw:w.heap.size+1 < w1.heap.size:=by have:=hbw.size;simp at this;omega
           go_wp2
          ·refine bodyPost_ret (v:=.agg (qcl s ⟨63,k,k⟩)) (by simp[results,Tryz.results124,go_sem,qcl,qd4,i0,i1,i2,i3]) rfl ⟨qfh hr (Px.qff hlt hsm hb.out hkp h8),?_⟩
           exact qka hbw _ _ _ _
          ·refine bodyPost_ret (v:=.agg (qcl s ⟨119,k,b⟩)) (by simp[results,Tryz.results124,go_sem,qcl,qd4,i0,i1,i2,i3]) rfl ⟨qfh hr (Px.qeq hlt hsm hb.out hkp h8),?_⟩
           exact qka hbw _ _ _ _
         ·go_wp2_with (first | (go_at_call 155;refine (qcu _ _).mono ?_;rintro e w' ⟨rfl,rfl⟩))
          refine (qic _ _).mono ?_;rintro e w1 ⟨rfl,hbw⟩;obtain ⟨hcw,hfw⟩:=zo6 hbw;obtain ⟨i0,i1,i2,i3⟩:=zlg hbw;have hzw:w.heap.size+1 < w1.heap.size:=by have:=hbw.size;simp at this;omega
          go_wp2;refine bodyPost_ret (v:=.agg (qcl s ⟨107,k,b⟩)) (by simp[results,Tryz.results124,go_sem,qcl,qd4,i0,i1,i2,i3]) rfl ⟨qfh hr (Px.qer hlt hsm hb.out hkp),?_⟩
          exact qka hbw _ _ _ _
        ·clear last;go_wp2_with (first | (go_at_call 155;refine (qcu _ _).mono ?_;rintro e w' ⟨rfl,rfl⟩))
         exact ⟨⟨b+1,by omega,by omega,by go_num,qil hallb hblt hsb⟩,by simp[intOf];omega⟩
       ·have hb:=last (fun h=>absurd h hblt)
        clear last hallb;cases hkp:Px.qcf (s.extract k b).toList
        ·by_cases h8:8 < b - k
         all_goals
          go_wp2_with (first | (go_at_call 155;refine (qcu _ _).mono ?_;rintro e w' ⟨rfl,rfl⟩))
          refine (qic _ _).mono ?_;rintro e w1 ⟨rfl,hbw⟩;obtain ⟨hcw,hfw⟩:=zo6 hbw;obtain ⟨i0,i1,i2,i3⟩:=zlg hbw;have hzw:w.heap.size+1 < w1.heap.size:=by have:=hbw.size;simp at this;omega
          go_wp2
         ·refine bodyPost_ret (v:=.agg (qcl s ⟨63,k,k⟩)) (by simp[results,Tryz.results124,go_sem,qcl,qd4,i0,i1,i2,i3]) rfl ⟨qfh hr (Px.qff hlt hsm hb.out hkp h8),?_⟩
          exact qka hbw _ _ _ _
         ·refine bodyPost_ret (v:=.agg (qcl s ⟨119,k,b⟩)) (by simp[results,Tryz.results124,go_sem,qcl,qd4,i0,i1,i2,i3]) rfl ⟨qfh hr (Px.qeq hlt hsm hb.out hkp h8),?_⟩
          exact qka hbw _ _ _ _
        ·go_wp2_with (first | (go_at_call 155;refine (qcu _ _).mono ?_;rintro e w' ⟨rfl,rfl⟩))
         refine (qic _ _).mono ?_;rintro e w1 ⟨rfl,hbw⟩;obtain ⟨hcw,hfw⟩:=zo6 hbw;obtain ⟨i0,i1,i2,i3⟩:=zlg hbw;have hzw:w.heap.size+1 < w1.heap.size:=by have:=hbw.size;simp at this;omega
         go_wp2;refine bodyPost_ret (v:=.agg (qcl s ⟨107,k,b⟩)) (by simp[results,Tryz.results124,go_sem,qcl,qd4,i0,i1,i2,i3]) rfl ⟨qfh hr (Px.qer hlt hsm hb.out hkp),?_⟩
         exact qka hbw _ _ _ _
    ·go_wp2;exact ⟨⟨k+1,by omega,by omega,by go_num,qil hall hlt (zu6 h10)⟩,by simp[intOf];omega⟩
   ·go_wp2;exact ⟨⟨k+1,by omega,by omega,by go_num,qil hall hlt (zu5 h32)⟩,by simp[intOf];omega⟩
  ·have hr:Hid (Px.qbc Px.qbi s i=k):=Px.qel _ _ _ _ hk1 hk2 hall (fun h=>absurd h hlt)
   obtain rfl:k=s.size:=by omega
   go_wp2;refine bodyPost_ret (v:=.agg (qcl s ⟨0,s.size,s.size⟩)) (by simp[results,Tryz.results124,go_sem,qcl,qd4]) rfl ⟨qfh hr (Px.qgo (by omega)),(Below.refl _ _).alloc (Nat.le_refl _) _⟩
open Go.RowKit
structure PenAt (w:World) (b:Nat) (s:ByteArray) (t:Px.Tok) (bad nest deep:Int):Prop where
 h:w.heap[b]?=some (.cells #[.string s,.int .u8 (t.k:Int),.string (s.extract t.a t.b),.int .i64 (t.a:Int),.int .i64 (t.b:Int),.int .i64 bad,.int .i64 nest,.int .i64 deep] 211)
theorem PenAt.cells {w:World} {b:Nat} {s:ByteArray} {t:Px.Tok} {bad nest deep:Int} (p:PenAt w b s t bad nest deep) :
  w.cell? ⟨b,0,none⟩=some (.string s)∧w.cell? ⟨b,1,none⟩=some (.int .u8 (t.k:Int))∧w.cell? ⟨b,2,none⟩=some (.string (s.extract t.a t.b))∧w.cell? ⟨b,3,none⟩=some (.int .i64 (t.a:Int)) ∧
  w.cell? ⟨b,4,none⟩=some (.int .i64 (t.b:Int))∧w.cell? ⟨b,5,none⟩=some (.int .i64 bad)∧w.cell? ⟨b,6,none⟩=some (.int .i64 nest)∧w.cell? ⟨b,7,none⟩=some (.int .i64 deep)∧(∀ o,w.frozen? ⟨b,o,none⟩=false)∧b < w.heap.size:=by
 have hb:b < w.heap.size:=by
  rcases Nat.lt_or_ge b w.heap.size with hb | hb
  ·exact hb
  ·have:=p.h;simp[hb] at this
 refine ⟨?_,?_,?_,?_,?_,?_,?_,?_,?_,hb⟩<;>simp[World.cell?,World.frozen?,p.h]
theorem PenAt.lt {w:World} {b:Nat} {s:ByteArray} {t:Px.Tok} {bad nest deep:Int} (p:PenAt w b s t bad nest deep):b < w.heap.size:=p.cells.2.2.2.2.2.2.2.2.2
theorem PenAt.later {w w1:World} {b B:Nat} {s:ByteArray} {t:Px.Tok} {bad nest deep:Int} (p:PenAt w b s t bad nest deep) (h:Below B w w1) (hB:b < B):PenAt w1 b s t bad nest deep:=⟨by rw[h.block b hB];exact p.h⟩
theorem PenAt.alloc {w:World} {b:Nat} {s:ByteArray} {t:Px.Tok} {bad nest deep:Int} (p:PenAt w b s t bad nest deep) (o:Obj):PenAt (w.alloc o) b s t bad nest deep:=p.later ((Below.refl _ _).alloc (Nat.le_refl _) _) p.lt
theorem PenAt.drew {w:World} {b:Nat} {s:ByteArray} {t:Px.Tok} {bad nest deep:Int} (p:PenAt w b s t bad nest deep):PenAt w.drew b s t bad nest deep:=⟨p.h⟩
theorem PenAt.setN {w:World} {b k o:Nat} {s:ByteArray} {t:Px.Tok} {bad nest deep:Int} (p:PenAt w b s t bad nest deep) (h:b≠k) (v:Value):PenAt (w.setCell ⟨k,o,none⟩ v) b s t bad nest deep:=⟨by rw[Below.heap_setCell _ _ _ _ h];exact p.h⟩
theorem heap_set {w:World} {b o:Nat} {c:Array Value} {t:TypeId} {f:Nat×Nat} (v:Value) (h:w.heap[b]?=some (.cells c t f)):(w.setCell ⟨b,o,none⟩ v).heap[b]?=some (.cells (c.setIfInBounds o v) t f):=by
 simp[World.setCell,Array.getElem?_modify,h]
theorem qag {w:World} {b k o:Nat} (v:Value) (h:b≠k):(w.setCell ⟨k,o,none⟩ v).heap[b]?=w.heap[b]?:=Below.heap_setCell _ _ _ _ h
theorem qlg (b:Nat) (s x:ByteArray) (t:Px.Tok) (nest deep:Int) (w:World) (p:PenAt w b s t (-1) nest deep) :
  Calls Tryz.prog 198 #[.pointer (some ⟨b,0,none⟩),.string x] w fun e w'=>e=.returned (.bool (Px.onB s t x))∧w=w':=by
 obtain ⟨c0,c1,c2,c3,c4,c5,c6,c7,f,hb⟩:=p.cells;clear p;cases hk:((t.k:Int) == 107)
 all_goals
  go_enter Tryz.func198,Tryz.ntmps198
  go_wp2;go_ret
 ·exact ⟨qcv (by unfold Px.onB;rw[(by rw[beq_eq_false_iff_ne] at hk ⊢;omega:(t.k == 107)=false)];rfl),rfl⟩
 ·exact ⟨qcv (by unfold Px.onB;rw[(by rw[beq_iff_eq] at hk ⊢;omega:(t.k == 107)=true)];rfl),rfl⟩
theorem qpk (b:Nat) (s x:ByteArray) (t:Px.Tok) (bad nest deep:Int) (w:World) (p:PenAt w b s t bad nest deep) (h0:0≤bad) :
  Calls Tryz.prog 198 #[.pointer (some ⟨b,0,none⟩),.string x] w fun e w'=>e=.returned (.bool false)∧w=w':=by
 obtain ⟨c0,c1,c2,c3,c4,c5,c6,c7,f,hb⟩:=p.cells;clear p;go_enter Tryz.func198,Tryz.ntmps198
 go_wp2;go_ret;exact ⟨rfl,rfl⟩
theorem qp1 (b:Nat) (s:ByteArray) (t:Px.Tok) (nest deep:Int) (w:World) (p:PenAt w b s t (-1) nest deep) :
  Calls Tryz.prog 200 #[.pointer (some ⟨b,0,none⟩)] w fun e w'=>e=.returned (.tuple #[])∧PenAt w' b s t t.a nest deep∧Kp b w w':=by
 obtain ⟨c0,c1,c2,c3,c4,c5,c6,c7,f,hb⟩:=p.cells;have H:=p.h;have HH:Hid (_):=H;clear p H;go_enter Tryz.func200,Tryz.ntmps200
 go_wp2;go_end0
 exact ⟨rfl,⟨by rw[heap_set _ HH.out];simp⟩,(Kp.refl _ _).setB _⟩
theorem qtu (b:Nat) (s:ByteArray) (t:Px.Tok) (bad nest deep:Int) (w:World) (p:PenAt w b s t bad nest deep) (h0:0≤bad) :
  Calls Tryz.prog 200 #[.pointer (some ⟨b,0,none⟩)] w fun e w'=>e=.returned (.tuple #[])∧w=w':=by
 obtain ⟨c0,c1,c2,c3,c4,c5,c6,c7,f,hb⟩:=p.cells;clear p;go_enter Tryz.func200,Tryz.ntmps200
 go_wp2;go_end0
 exact ⟨rfl,rfl⟩
theorem zi2 (b:Nat) (s:ByteArray) (t:Px.Tok) (nest deep:Int) (w:World) (p:PenAt w b s t (-1) nest deep) (hn:0≤nest) (hn':nest≤1000000) :
  Calls Tryz.prog 202 #[.pointer (some ⟨b,0,none⟩)] w fun e w'=>e=.returned (.tuple #[])∧PenAt w' b s t (-1) (nest+1) (Px.qdg nest deep t.a)∧Kp b w w':=by
 obtain ⟨c0,c1,c2,c3,c4,c5,c6,c7,f,hb⟩:=p.cells;have H:=p.h;have HH:Hid (_):=H;clear p H;by_cases h4:4≤nest
 ·by_cases hd:deep < 0
  ·go_enter Tryz.func202,Tryz.ntmps202
   go_wp2;go_end0
   exact ⟨rfl,⟨by rw[Px.qdg,if_pos ⟨h4,hd⟩,heap_set _ (heap_set _ HH.out)];simp⟩,((Kp.refl _ _).setB _).setB _⟩
  ·go_enter Tryz.func202,Tryz.ntmps202
   go_wp2;go_end0
   exact ⟨rfl,⟨by rw[Px.qdg,if_neg (by omega),heap_set _ HH.out];simp⟩,(Kp.refl _ _).setB _⟩
 ·go_enter Tryz.func202,Tryz.ntmps202
  go_wp2;go_end0
  exact ⟨rfl,⟨by rw[Px.qdg,if_neg (by omega),heap_set _ HH.out];simp⟩,(Kp.refl _ _).setB _⟩
theorem zkp (b:Nat) (s:ByteArray) (t:Px.Tok) (bad nest deep:Int) (w:World) (p:PenAt w b s t bad nest deep) :
  Calls Tryz.prog 203 #[.pointer (some ⟨b,0,none⟩)] w fun e w'=>e=.returned (.tuple #[])∧PenAt w' b s t bad (wrap64 (nest - 1)) deep∧Kp b w w':=by
 obtain ⟨c0,c1,c2,c3,c4,c5,c6,c7,f,hb⟩:=p.cells;have H:=p.h;have HH:Hid (_):=H;clear p H;go_enter Tryz.func203,Tryz.ntmps203
 go_wp2;go_end0
 exact ⟨rfl,⟨by rw[heap_set _ HH.out];simp⟩,(Kp.refl _ _).setB _⟩
theorem qe4 (b:Nat) (s:ByteArray) (t:Px.Tok) (nest deep:Int) (w:World) (p:PenAt w b s t (-1) nest deep) (ht:t.b≤s.size) (hs:s.size≤maxLen) :
  Calls Tryz.prog 199 #[.pointer (some ⟨b,0,none⟩)] w fun e w'=>e=.returned (.agg (qcl s t))∧PenAt w' b s (Px.tok s t.b) (-1) nest deep∧Kp b w w':=by
 obtain ⟨c0,c1,c2,c3,c4,c5,c6,c7,f,hb⟩:=p.cells;have P2:=(fun (o q:Obj)=>((p.alloc o).alloc q).drew)
 have HP:Hid (_):=P2;clear p P2;go_enter Tryz.func199,Tryz.ntmps199
 go_wp2;go_region_with (go_at_call 124;refine (qn3 s t.b _ ht hs).mono ?_;unfold qcl;rintro e w1 ⟨rfl,hbw⟩;have p1:=(HP.out _ _).later hbw (by simp;omega);obtain ⟨d0,d1,d2,d3,d4,d5,d6,d7,df,hdb⟩:=p1.cells;have hp1:Hid (PenAt w1 b s t (-1) nest deep):=p1;clear p1;obtain ⟨n0,n1⟩:=zrb (w:=w) (by rfl) hbw;obtain ⟨a0,a1,a2,a3,af⟩:=qau n0;obtain ⟨g0,g1,g2,g3,gf⟩:=qau n1;clear n0 n1)
 all_goals
  have hne:¬ w.heap.size=b:=by omega
  have hne':¬ w.heap.size+1=b:=by omega
  go_wp2;refine bodyPost_ret (v:=.agg (qcl s t)) (by simp[results,Tryz.results199,go_sem,qcl, *]) rfl ⟨rfl,?_,?_⟩
  ·exact ⟨by rw[qag _ (by omega),qag _ (by omega),qag _ (by omega),qag _ (by omega),heap_set _ (heap_set _ (heap_set _ (heap_set _ hp1.out.h)))];simp⟩
  ·exact (((((((((((Kp.refl b w).alloc _).alloc _).drew.below hbw).setB _).setB _).setB _).setB _).setN (Nat.le_refl _) _).setN (Nat.le_refl _) _).setN (Nat.le_refl _) _).setN (Nat.le_refl _) _
open Go.RowKit
theorem qkt (b:Nat) (s x:ByteArray) (t:Px.Tok) (nest deep:Int) (w:World) (p:PenAt w b s t (-1) nest deep) (ht:t.b≤s.size) (hs:s.size≤maxLen) (ho:Px.onB s t x=true) :
  Calls Tryz.prog 159 #[.pointer (some ⟨b,0,none⟩),.string x] w fun e w'=>e=.returned (.bool true)∧PenAt w' b s (Px.tok s t.b) (-1) nest deep∧Kp b w w':=by
 have HP:Hid (_):=p;clear p;go_enter Tryz.func159,Tryz.ntmps159
 go_wp2_with fail;refine (qlg b s x t nest deep _ HP.out).mono ?_;rintro e w' ⟨rfl,rfl⟩;go_wp2_with fail;refine (qe4 b s t nest deep _ HP.out ht hs).mono ?_;rintro e w1 ⟨rfl,p1,k1⟩;have P1:Hid (_∧_):=⟨p1,k1⟩;clear p1 k1;go_wp2_with fail;go_ret;exact ⟨rfl,P1.out⟩
theorem qf1 (b:Nat) (s x:ByteArray) (t:Px.Tok) (nest deep:Int) (w:World) (p:PenAt w b s t (-1) nest deep) (ho:Px.onB s t x=false) :
  Calls Tryz.prog 159 #[.pointer (some ⟨b,0,none⟩),.string x] w fun e w'=>e=.returned (.bool false)∧w=w':=by
 have HP:Hid (_):=p;clear p;go_enter Tryz.func159,Tryz.ntmps159
 go_wp2_with fail;refine (qlg b s x t nest deep _ HP.out).mono ?_;rintro e w' ⟨rfl,rfl⟩;go_wp2_with fail;go_ret;exact ⟨rfl,rfl⟩
theorem zif (b:Nat) (s x:ByteArray) (t:Px.Tok) (bad nest deep:Int) (w:World) (p:PenAt w b s t bad nest deep) (h0:0≤bad) :
  Calls Tryz.prog 159 #[.pointer (some ⟨b,0,none⟩),.string x] w fun e w'=>e=.returned (.bool false)∧w=w':=by
 have HP:Hid (_):=p;clear p;go_enter Tryz.func159,Tryz.ntmps159
 go_wp2_with fail;refine (qpk b s x t bad nest deep _ HP.out h0).mono ?_;rintro e w' ⟨rfl,rfl⟩;go_wp2_with fail;go_ret;exact ⟨rfl,rfl⟩
theorem zab (b:Nat) (s x:ByteArray) (t:Px.Tok) (nest deep:Int) (w:World) (p:PenAt w b s t (-1) nest deep) (ht:t.b≤s.size) (hs:s.size≤maxLen) (ho:Px.onB s t x=true) :
  Calls Tryz.prog 161 #[.pointer (some ⟨b,0,none⟩),.string x] w fun e w'=>e=.returned (.tuple #[])∧PenAt w' b s (Px.tok s t.b) (-1) nest deep∧Kp b w w':=by
 have HP:Hid (_):=p;clear p;go_enter Tryz.func161,Tryz.ntmps161
 go_wp2_with fail;refine (qkt b s x t nest deep _ HP.out ht hs ho).mono ?_;rintro e w1 ⟨rfl,p1,k1⟩;have P1:Hid (_∧_):=⟨p1,k1⟩;clear p1 k1;go_wp2_with fail;go_end0
 exact ⟨rfl,P1.out⟩
theorem zs9 (b:Nat) (s x:ByteArray) (t:Px.Tok) (nest deep:Int) (w:World) (p:PenAt w b s t (-1) nest deep) (ho:Px.onB s t x=false) :
  Calls Tryz.prog 161 #[.pointer (some ⟨b,0,none⟩),.string x] w fun e w'=>e=.returned (.tuple #[])∧PenAt w' b s t t.a nest deep∧Kp b w w':=by
 have HP:Hid (_):=p;clear p;go_enter Tryz.func161,Tryz.ntmps161
 go_wp2_with fail;refine (qf1 b s x t nest deep _ HP.out ho).mono ?_;rintro e w1 ⟨rfl,rfl⟩;go_wp2_with fail;refine (qp1 b s t nest deep _ HP.out).mono ?_;rintro e w1 ⟨rfl,p1,k1⟩;have P1:Hid (_∧_):=⟨p1,k1⟩;clear p1 k1;go_wp2_with fail;go_end0
 exact ⟨rfl,P1.out⟩
theorem zac (b:Nat) (s x:ByteArray) (t:Px.Tok) (bad nest deep:Int) (w:World) (p:PenAt w b s t bad nest deep) (h0:0≤bad) :
  Calls Tryz.prog 161 #[.pointer (some ⟨b,0,none⟩),.string x] w fun e w'=>e=.returned (.tuple #[])∧w=w':=by
 have HP:Hid (_):=p;clear p;go_enter Tryz.func161,Tryz.ntmps161
 go_wp2_with fail;refine (zif b s x t bad nest deep _ HP.out h0).mono ?_;rintro e w1 ⟨rfl,rfl⟩;go_wp2_with fail;refine (qtu b s t bad nest deep _ HP.out h0).mono ?_;rintro e w1 ⟨rfl,rfl⟩;go_wp2_with fail;go_end0
 exact ⟨rfl,rfl⟩
theorem zns (b:Nat) (s:ByteArray) (k:Nat) (t:Px.Tok) (nest deep:Int) (w:World) (p:PenAt w b s t (-1) nest deep) (ht:t.b≤s.size) (hs:s.size≤maxLen) (ho:(t.k:Int)=k) :
  Calls Tryz.prog 160 #[.pointer (some ⟨b,0,none⟩),.int .u8 k] w fun e w'=>e=.returned (.agg (qcl s t))∧PenAt w' b s (Px.tok s t.b) (-1) nest deep∧Kp b w w':=by
 obtain ⟨c0,c1,c2,c3,c4,c5,c6,c7,f,hb⟩:=p.cells;have HP:Hid (∀ o:Obj,PenAt (w.alloc o) b s t (-1) nest deep):=fun o=>p.alloc o
 have hk:((t.k:Int) != k)=false:=by simp[ho]
 have HO:Hid (_):=ho;clear p ho;go_enter Tryz.func160,Tryz.ntmps160
 go_wp2_with fail;refine (qe4 b s t nest deep _ (HP.out _) ht hs).mono ?_;unfold qcl;rintro e w1 ⟨rfl,p1,k1⟩;obtain ⟨a0,a1,a2,a3,af⟩:=qau (qgr k1 hb);have P1:Hid (_∧_):=⟨p1,k1⟩;clear p1 k1;go_wp2_with fail;refine bodyPost_ret (v:=.agg (qcl s t)) (by simp[results,Tryz.results160,go_sem,qcl, *]) rfl ⟨rfl,?_,?_⟩
 ·exact (((P1.out.1.setN (by omega) _).setN (by omega) _).setN (by omega) _).setN (by omega) _
 ·exact (((P1.out.2.qdo.setN (Nat.le_refl _) _).setN (Nat.le_refl _) _).setN (Nat.le_refl _) _).setN (Nat.le_refl _) _
def qhy:Array Value:=#[.int .u8 0,.string ⟨#[]⟩,.int .i64 0,.int .i64 0]
theorem ztt (b:Nat) (s:ByteArray) (k:Nat) (t:Px.Tok) (nest deep:Int) (w:World) (p:PenAt w b s t (-1) nest deep) (ho:(t.k:Int)≠k) :
  Calls Tryz.prog 160 #[.pointer (some ⟨b,0,none⟩),.int .u8 k] w fun e w'=>e=.returned (.agg qhy)∧PenAt w' b s t t.a nest deep∧Kp b w w':=by
 obtain ⟨c0,c1,c2,c3,c4,c5,c6,c7,f,hb⟩:=p.cells;have HP:Hid (∀ o:Obj,PenAt (w.alloc o) b s t (-1) nest deep):=fun o=>p.alloc o
 have hk:((t.k:Int) != k)=true:=by simp[ho]
 clear p ho;go_enter Tryz.func160,Tryz.ntmps160
 go_wp2_with fail;refine (qp1 b s t nest deep _ (HP.out _)).mono ?_;rintro e w1 ⟨rfl,p1,k1⟩;obtain ⟨a0,a1,a2,a3,af⟩:=qau (qgr k1 hb);have P1:Hid (_∧_):=⟨p1,k1⟩;clear p1 k1;go_wp2_with fail;refine bodyPost_ret (v:=.agg qhy) (by simp[results,Tryz.results160,go_sem,qhy, *]) rfl ⟨rfl,?_,?_⟩
 ·exact (((P1.out.1.setN (by omega) _).setN (by omega) _).setN (by omega) _).setN (by omega) _
 ·exact (((P1.out.2.qdo.setN (Nat.le_refl _) _).setN (Nat.le_refl _) _).setN (Nat.le_refl _) _).setN (Nat.le_refl _) _
theorem znv (b:Nat) (s:ByteArray) (k:Nat) (t:Px.Tok) (bad nest deep:Int) (w:World) (p:PenAt w b s t bad nest deep) (h0:0≤bad) :
  Calls Tryz.prog 160 #[.pointer (some ⟨b,0,none⟩),.int .u8 k] w fun e w'=>e=.returned (.agg qhy)∧PenAt w' b s t bad nest deep∧Kp b w w':=by
 obtain ⟨c0,c1,c2,c3,c4,c5,c6,c7,f,hb⟩:=p.cells;have HP:Hid (∀ o:Obj,PenAt (w.alloc o) b s t bad nest deep):=fun o=>p.alloc o
 clear p;go_enter Tryz.func160,Tryz.ntmps160
 go_wp2_with fail;refine (qtu b s t bad nest deep _ (HP.out _) h0).mono ?_;rintro e w1 ⟨rfl,rfl⟩;go_wp2_with fail;refine bodyPost_ret (v:=.agg qhy) (by simp[results,Tryz.results160,go_sem,qhy, *]) rfl ⟨rfl,?_,?_⟩
 ·exact HP.out _
 ·exact (Kp.refl _ _).alloc _
open Go.RowKit
def ExAt (w:World):Px.Ex→(Nat→Prop)→Nat→Prop
 | ⟨op,n,word,pl,own,none,none⟩,ok,q=>ok q∧w.heap[q]?=some (.cells #[.int .u8 (op:Int),.int .i64 (n:Int),.string word,.int .i64 (pl:Int),.int .i64 (own:Int),.slice none 0 0] 280)
 | ⟨op,n,word,pl,own,some l,none⟩,ok,q=>ok q∧∃ kb lq,ok kb∧kb≠q∧w.heap[q]?=some (.cells #[.int .u8 (op:Int),.int .i64 (n:Int),.string word,.int .i64 (pl:Int),.int .i64 (own:Int),.slice (some ⟨kb,0,none⟩) 1 1] 280) ∧
   w.heap[kb]?=some (.cells #[.pointer (some ⟨lq,0,none⟩)] 268)∧ExAt w l (fun k=>ok k∧k≠q∧k≠kb) lq
 | ⟨op,n,word,pl,own,some l,some r⟩,ok,q=>ok q∧∃ kb lq rq,ok kb∧kb≠q∧w.heap[q]?=some (.cells #[.int .u8 (op:Int),.int .i64 (n:Int),.string word,.int .i64 (pl:Int),.int .i64 (own:Int),.slice (some ⟨kb,0,none⟩) 2 2] 280) ∧
   w.heap[kb]?=some (.cells #[.pointer (some ⟨lq,0,none⟩),.pointer (some ⟨rq,0,none⟩)] 268)∧ExAt w l (fun k=>ok k∧k≠q∧k≠kb) lq∧ExAt w r (fun k=>ok k∧k≠q∧k≠kb) rq
 | ⟨_,_,_,_,_,none,some _⟩,_,_=>False
theorem ExAt.mono {w:World} {x:Px.Ex} {ok ok':Nat→Prop} {q:Nat} (h:ExAt w x ok q) (hk:∀ k,ok k→ok' k):ExAt w x ok' q:=by
 match x with
 | ⟨op,n,word,pl,own,none,none⟩=>exact ⟨hk _ h.1,h.2⟩
 | ⟨op,n,word,pl,own,some l,none⟩ =>
  obtain ⟨h1,kb,lq,h2,h3,h4,h5,h6⟩:=h;exact ⟨hk _ h1,kb,lq,hk _ h2,h3,h4,h5,h6.mono fun k hk'=>⟨hk _ hk'.1,hk'.2⟩⟩
 | ⟨op,n,word,pl,own,some l,some r⟩ =>
  obtain ⟨h1,kb,lq,rq,h2,h3,h4,h5,h6,h7⟩:=h;exact ⟨hk _ h1,kb,lq,rq,hk _ h2,h3,h4,h5,h6.mono fun k hk'=>⟨hk _ hk'.1,hk'.2⟩,h7.mono fun k hk'=>⟨hk _ hk'.1,hk'.2⟩⟩
 | ⟨_,_,_,_,_,none,some _⟩=>exact h.elim
theorem ExAt.keep {w w':World} {x:Px.Ex} {ok:Nat→Prop} {q:Nat} (h:ExAt w x ok q) (hk:∀ k,ok k→w'.heap[k]?=w.heap[k]?):ExAt w' x ok q:=by
 match x with
 | ⟨op,n,word,pl,own,none,none⟩=>exact ⟨h.1,by rw[hk _ h.1];exact h.2⟩
 | ⟨op,n,word,pl,own,some l,none⟩ =>
  obtain ⟨h1,kb,lq,h2,h3,h4,h5,h6⟩:=h;exact ⟨h1,kb,lq,h2,h3,by rw[hk _ h1];exact h4,by rw[hk _ h2];exact h5,h6.keep fun k hk'=>hk _ hk'.1⟩
 | ⟨op,n,word,pl,own,some l,some r⟩ =>
  obtain ⟨h1,kb,lq,rq,h2,h3,h4,h5,h6,h7⟩:=h;exact ⟨h1,kb,lq,rq,h2,h3,by rw[hk _ h1];exact h4,by rw[hk _ h2];exact h5,h6.keep fun k hk'=>hk _ hk'.1,h7.keep fun k hk'=>hk _ hk'.1⟩
 | ⟨_,_,_,_,_,none,some _⟩=>exact h.elim
theorem ExAt.root {w:World} {x:Px.Ex} {ok:Nat→Prop} {q:Nat} (h:ExAt w x ok q):ok q∧∃ v,w.heap[q]?=some (.cells #[.int .u8 (x.op:Int),.int .i64 (x.n:Int),.string x.word,.int .i64 (x.pl:Int),.int .i64 (x.own:Int),v] 280):=by
 match x with
 | ⟨op,n,word,pl,own,none,none⟩=>exact ⟨h.1,_,h.2⟩
 | ⟨op,n,word,pl,own,some l,none⟩ =>
  obtain ⟨h1,kb,lq,h2,h3,h4,h5,h6⟩:=h;exact ⟨h1,_,h4⟩
 | ⟨op,n,word,pl,own,some l,some r⟩ =>
  obtain ⟨h1,kb,lq,rq,h2,h3,h4,h5,h6,h7⟩:=h;exact ⟨h1,_,h4⟩
 | ⟨_,_,_,_,_,none,some _⟩=>exact h.elim
theorem ExAt.place {w:World} {x:Px.Ex} {ok:Nat→Prop} {q:Nat} (h:ExAt w x ok q) (a:Nat):ExAt (w.setCell ⟨q,3,none⟩ (.int .i64 (a:Int))) { x with pl:=a } ok q:=by
 match x with
 | ⟨op,n,word,pl,own,none,none⟩=>exact ⟨h.1,by rw[heap_set _ h.2];simp⟩
 | ⟨op,n,word,pl,own,some l,none⟩ =>
  obtain ⟨h1,kb,lq,h2,h3,h4,h5,h6⟩:=h;exact ⟨h1,kb,lq,h2,h3,by rw[heap_set _ h4];simp,by rw[qag _ h3];exact h5,h6.keep fun k hk'=>qag _ hk'.2.1⟩
 | ⟨op,n,word,pl,own,some l,some r⟩ =>
  obtain ⟨h1,kb,lq,rq,h2,h3,h4,h5,h6,h7⟩:=h;exact ⟨h1,kb,lq,rq,h2,h3,by rw[heap_set _ h4];simp,by rw[qag _ h3];exact h5,h6.keep fun k hk'=>qag _ hk'.2.1,h7.keep fun k hk'=>qag _ hk'.2.1⟩
 | ⟨_,_,_,_,_,none,some _⟩=>exact h.elim
def In (w w':World) (k:Nat):Prop:=w.heap.size≤k∧k < w'.heap.size
theorem ExAt.kp {b:Nat} {w w1 w2:World} {x:Px.Ex} {q:Nat} (h:ExAt w1 x (In w w1) q) (hb:b < w.heap.size) (k:Kp b w1 w2):ExAt w2 x (In w w1) q :=
 h.keep fun i hi=>k.block i hi.2 (by have:=hi.1;omega)
theorem qlb {h:Array Obj} {o p:Obj} {k:Nat} (hk:k < h.size):((h.push o).push p)[k]?=h[k]?:=by
 rw[Array.getElem?_push,if_neg (by simp;omega),Array.getElem?_push,if_neg (by omega)]
theorem qi8 {h:Array Obj} {o p:Obj}:((h.push o).push p)[h.size]?=some o:=by
 rw[Array.getElem?_push,if_neg (by simp),Array.getElem?_push,if_pos rfl]
theorem qdu {h:Array Obj} {o p:Obj}:((h.push o).push p)[h.size+1]?=some p:=by
 rw[Array.getElem?_push,if_pos (by simp)]
theorem ExAt.pair {w wr wq w3 W:World} {x y:Px.Ex} {q q2 o pl own:Nat} (hx:ExAt w3 x (In w wr) q) (hy:ExAt w3 y (In wq w3) q2) (h1:w.heap.size≤wq.heap.size) (h2:wr.heap.size≤w3.heap.size) (h3:w.heap.size≤w3.heap.size)
  (hW:W.heap=(w3.heap.push (.cells #[.pointer (some ⟨q,0,none⟩),.pointer (some ⟨q2,0,none⟩)] 268)).push (.cells #[.int .u8 (o:Int),.int .i64 0,.string ⟨#[]⟩,.int .i64 (pl:Int),.int .i64 (own:Int),.slice (some ⟨w3.heap.size,0,none⟩) 2 2] 280)) :
  ExAt W ⟨o,0,Px.nowt,pl,own,some x,some y⟩ (In w W) (w3.heap.size+1):=by
 have hz:W.heap.size=w3.heap.size+2:=by rw[hW];simp
 refine ⟨⟨by omega,by omega⟩,w3.heap.size,q,q2,⟨by omega,by omega⟩,by omega,?_,?_,?_,?_⟩
 ·rw[hW];exact qdu
 ·rw[hW];exact qi8
 ·exact (hx.keep fun k hk=>by rw[hW];exact qlb (by have:=hk.2;omega)).mono fun k hk=>⟨⟨hk.1,by have:=hk.2;omega⟩,by have:=hk.2;omega,by have:=hk.2;omega⟩
 ·exact (hy.keep fun k hk=>by rw[hW];exact qlb (by have:=hk.2;omega)).mono fun k hk=>⟨⟨by have:=hk.1;omega,by have:=hk.2;omega⟩,by have:=hk.2;omega,by have:=hk.2;omega⟩
def qb2 (b:Nat) (s:ByteArray) (w:World) (r:Except Nat (Px.Ex×Px.Ps)) (e:Ending) (w':World):Prop :=
 Kp b w w'∧∃ q,e=.returned (.pointer (some ⟨q,0,none⟩)) ∧
  match r with
  | .ok (x,st)=>ExAt w' x (In w w') q∧PenAt w' b s st.t (-1) st.nest st.deep
  | .error p=>w.heap.size≤q∧(∃ v0 v1 v2 v3 v4 v5,w'.heap[q]?=some (.cells #[v0,v1,v2,v3,v4,v5] 280))∧∃ t nest deep,PenAt w' b s t (p:Int) nest deep
theorem qou (l:List UInt8) (n:Nat):(∀ c∈l,c.toNat≤57)→l.foldl (fun n c=>10 * n+(c.toNat - 48)) n≤(n+1) * 10 ^ l.length - 1:=by
 induction l generalizing n with
 | nil=>intro _;simp
 | cons c l ih =>
  intro h;have h1:=h c (by simp)
  have h2:=ih (10 * n+(c.toNat - 48)) (fun d hd=>h d (by simp[hd]))
  simp only[List.foldl_cons,List.length_cons];refine Nat.le_trans h2 ?_
  have:(10 * n+(c.toNat - 48)+1) * 10 ^ l.length≤(n+1) * 10 ^ (l.length+1):=by
   rw[Nat.pow_succ,← Nat.mul_assoc,Nat.mul_right_comm];exact Nat.mul_le_mul_right _ (by omega)
  omega
theorem qy4 (l:List UInt8) (c:UInt8):Px.valOf (l++[c])=10 * Px.valOf l+(c.toNat - 48):=by
 simp[Px.valOf]
theorem qsr {k:IntKind} {a b:Int} (h:a=b):Ending.returned (.int k a)=.returned (.int k b):=by rw[h]
theorem qu8 (s:ByteArray) (k:Nat) (h:k < s.size):s.data.toList.take (k+1)=s.data.toList.take k++[s[k]]:=by
 rw[List.take_succ_eq_append_getElem (by simpa using h)];rfl
theorem qot (x:ByteArray) (w:World) (hx:x.size≤4) (hd:∀ j (hj:j < x.size),Px.qba x[j]=true) :
  Calls Tryz.prog 165 #[.string x] w fun e w'=>e=.returned (.int .i64 (Px.valOf x.toList:Nat))∧w'=w:=by
 have HD:Hid (_):=hd;clear hd;go_enter Tryz.func165,Tryz.ntmps165
 go_wp2;go_loop [3,4] (fun n i=>∃ k v:Nat,k≤x.size∧i=.int .i64 k∧n=.int .i64 v∧Hid (v=Px.valOf (x.data.toList.take k))) (fun _ i=>x.size - (intOf i).toNat)
 case atStart=>exact ⟨0,0,by omega,rfl,rfl,rfl⟩
 case round =>
  obtain ⟨k,v,hk,rfl,rfl,hv⟩:=hrel;by_cases hlt:k < x.size
  ·have hdk:=HD.out k hlt;unfold Px.qba at hdk;simp only[Bool.and_eq_true,decide_eq_true_eq] at hdk;have d1:(48:Int)≤x[k].toNat:=by omega
   have d2:(x[k].toNat:Int)≤57:=by omega
   have hb:v≤1000:=by
    have h1:=qou (x.data.toList.take k) 0 (by
     intro c hc;obtain ⟨j,hj,rfl⟩:=List.getElem_of_mem hc;simp only[List.length_take,Array.length_toList] at hj;have h2:=HD.out j (by show j < x.data.size;omega)
     unfold Px.qba at h2;simp only[Bool.and_eq_true,decide_eq_true_eq] at h2
     simpa using (show x.data[j].toNat≤57 from h2.2))
    have h3:(x.data.toList.take k).length≤3:=by simp;omega
    have h4:10 ^ (x.data.toList.take k).length≤10 ^ 3:=Nat.pow_le_pow_right (by omega) h3
    have h5:v=List.foldl (fun n c=>10 * n+(c.toNat - 48)) 0 (x.data.toList.take k):=hv
    omega
   clear hdk;go_wp2;refine ⟨⟨k+1,10 * v+(x[k].toNat - 48),by omega,by go_num,?_,?_⟩,by simp[intOf];omega⟩
   ·have:(10 * (v:Int)+((x[k].toNat:Int) - 48))=((10 * v+(x[k].toNat - 48):Nat):Int):=by omega
    rw[this]
   ·show _=_
    rw[qu8 x k hlt,qy4,← hv.out]
  ·obtain rfl:k=x.size:=by omega
   go_wp2;go_ret;exact ⟨qsr (by rw[hv.out,ByteArray.toList_eq,List.take_of_length_le (by simp)]),rfl⟩
open Go.RowKit
structure Dom (s:ByteArray) (n:Nat) (st:Px.Ps):Prop where
 tk:Px.Tk s st.t
 room:s.size - st.t.a < n
 n0:0≤st.nest
 n1:st.nest+n≤1000000
theorem Dom.good {s:ByteArray} {n:Nat} {st st':Px.Ps} (h:Dom s n st) (g:Px.Good s st st'):Dom s n st' :=
 ⟨g.tk,by have:=h.room;have:=g.lt;omega,by rw[g.nest];exact h.n0,by rw[g.nest];exact h.n1⟩
theorem qpl {s:ByteArray} {t:Px.Tok} {x:ByteArray} (h:Px.onB s t x=true):s.extract t.a t.b=x:=by
 unfold Px.onB at h;simp only[Bool.and_eq_true,beq_iff_eq] at h
 have:=h.2
 rw[ByteArray.toList_eq,ByteArray.toList_eq] at this;exact Go.WideShapes.bytes_inj this
def qnl (b:Nat) (s:ByteArray) (n:Nat) (sum:Bool) (g:Px.Ps→Except Nat (Px.Ex×Px.Ps)):Prop :=
 ∀ (st:Px.Ps) (w:World),Dom s n st→PenAt w b s st.t (-1) st.nest st.deep →
  Calls Tryz.prog 226 #[.pointer (some ⟨b,0,none⟩),.bool sum] w (qb2 b s w (g st))
def penM (s:ByteArray) (b:Nat) (w:World):Nat :=
 match w.heap[b]? with
 | some (Obj.cells c _ _)=>(match c[5]?,c[3]? with
  | some (Value.int _ bad),some (Value.int _ a)=>if 0≤bad then 0 else s.size+1 - a.toNat
  | _,_=>0)
 | _=>0
theorem qmn {s:ByteArray} {b:Nat} {w:World} {t:Px.Tok} {nest deep:Int} (p:PenAt w b s t (-1) nest deep):penM s b w=s.size+1 - t.a:=by
 simp[penM,p.h]
theorem qz2 {s:ByteArray} {b:Nat} {w:World} {t:Px.Tok} {bad nest deep:Int} (p:PenAt w b s t bad nest deep) (h:0≤bad):penM s b w=0:=by
 simp[penM,p.h,h]
def zke (b:Nat) (s:ByteArray) (n:Nat) (g:Px.Ps→Except Nat (Px.Ex×Px.Ps)) (oa ob:UInt8) (pl:Nat) (R:Except Nat (Px.Ex×Px.Ps)) (w wr:World) (q:Nat):Prop :=
 Kp b w wr ∧
 ((∃ x st m,ExAt wr x (In w wr) q∧PenAt wr b s st.t (-1) st.nest st.deep∧Dom s n st∧Px.chain s g oa ob m pl x st=R∧s.size - st.t.a < m) ∨
  (∃ p t nest deep,R=.error p∧w.heap.size≤q∧(∃ v0 v1 v2 v3 v4 v5,wr.heap[q]?=some (.cells #[v0,v1,v2,v3,v4,v5] 280))∧PenAt wr b s t ((p:Nat):Int) nest deep))
theorem row_step {b:Nat} {s:ByteArray} {n:Nat} {g:Px.Ps→Except Nat (Px.Ex×Px.Ps)} {oa ob:UInt8} {pl:Nat} {R:Except Nat (Px.Ex×Px.Ps)} {w wr w2 w3 W:World} {q q2:Nat} {x:Px.Ex} {st1:Px.Ps} {m:Nat} {o:UInt8} {O:Obj}
  (hb:b < w.heap.size) (hg:Px.Goes s g) (KR:Kp b w wr) (X:ExAt wr x (In w wr) q) (D1:Dom s n st1) (hd:Px.Good s st1 (Px.nx s st1)) (K2:Kp b wr w2) (hm:s.size - st1.t.a < m+1) (_ho:o.toNat < 256)
  (CH:(match g (Px.nx s st1) with
   | .error p=>.error p
   | .ok (k,st')=>Px.chain s g oa ob m pl ⟨o.toNat,0,Px.nowt,pl,st1.t.a,some x,some k⟩ st')=R)
  (H3:qb2 b s (w2.alloc O) (g (Px.nx s st1)) (.returned (.pointer (some ⟨q2,0,none⟩))) w3)
  (hW:W.heap=(w3.heap.push (.cells #[.pointer (some ⟨q,0,none⟩),.pointer (some ⟨q2,0,none⟩)] 268)).push (.cells #[.int .u8 (o.toNat:Int),.int .i64 0,.string ⟨#[]⟩,.int .i64 (pl:Int),.int .i64 (st1.t.a:Int),.slice (some ⟨w3.heap.size,0,none⟩) 2 2] 280))
  (hK:Kp b w3 W):zke b s n g oa ob pl R w W (w3.heap.size+1)∧penM s b W < s.size+1 - st1.t.a:=by
 obtain ⟨k3,q2',he,h3⟩:=H3;obtain rfl:q2=q2':=by simpa using he
 have kw3:Kp b wr w3:=K2.trans k3.qdo;have kw:Kp b w W:=(KR.trans kw3).trans hK;have s1:=KR.size;have s2:=kw3.size;have s3:=K2.size;have hz:W.heap.size=w3.heap.size+2:=by rw[hW];simp
 have hpen:∀ {t:Px.Tok} {bad nest deep:Int},PenAt w3 b s t bad nest deep→PenAt W b s t bad nest deep:=fun p=>⟨by rw[hW,qlb p.lt];exact p.h⟩
 have hd1:=D1.tk.le;have hd2:=D1.tk.ab;cases hr:g (Px.nx s st1) with
 | error p =>
  rw[hr] at CH h3;obtain ⟨hq,hv,t,nest,deep,hp⟩:=h3;refine ⟨⟨kw,Or.inr ⟨p,t,nest,deep,CH.symm,by omega,⟨_,_,_,_,_,_,by rw[hW];exact qdu⟩,hpen hp⟩⟩,?_⟩
  rw[qz2 (hpen hp) (by omega)]
  omega
 | ok r =>
  obtain ⟨k,st'⟩:=r;rw[hr] at CH h3;obtain ⟨hk,hp⟩:=h3;have g1:=hd.trans (hg _ _ _ hd.tk hr);have g2:=g1.lt;have g3:=g1.tk.ab;have g4:=g1.tk.le;refine ⟨⟨kw,Or.inl ⟨_,st',m,ExAt.pair (X.kp hb kw3) hk (by simp;omega) s2 (by omega) hW,hpen hp,D1.good g1,CH,by omega⟩⟩,?_⟩
  rw[qmn (hpen hp)];omega
theorem zp7 (b:Nat) (s:ByteArray) (n:Nat) (sum:Bool) (g:Px.Ps→Except Nat (Px.Ex×Px.Ps)) (hp:qnl b s n sum g) (hg:Px.Goes s g) (oa ob:UInt8) (st:Px.Ps) (w:World) (hD:Dom s n st) (p:PenAt w b s st.t (-1) st.nest st.deep) (hs:s.size≤maxLen) :
  Calls Tryz.prog 201 #[.pointer (some ⟨b,0,none⟩),.string ⟨#[oa]⟩,.string ⟨#[ob]⟩,.bool sum] w (qb2 b s w (Px.row s g oa ob st)):=by
 obtain ⟨c0,c1,c2,c3,c4,c5,c6,c7,f,hb⟩:=p.cells;have HP:Hid (_):=p;have HD:Hid (_):=hD;have HG:Hid (_):=hg;clear p hD hg;go_enter Tryz.func201,Tryz.ntmps201
 go_wp2_with fail;refine (hp st _ HD.out HP.out).mono ?_;rintro e w1 ⟨k1,q,rfl,h1⟩;have R0:Hid (zke b s n g oa ob st.t.a (Px.row s g oa ob st) w w1 q):=by
  refine ⟨k1,?_⟩;unfold Px.row;cases hr:g st with
  | error p1 =>
   rw[hr] at h1;obtain ⟨hq,hv,t,nest,deep,hpen⟩:=h1;exact Or.inr ⟨p1,t,nest,deep,rfl,hq,hv,hpen⟩
  | ok r =>
   obtain ⟨x,st1⟩:=r;rw[hr] at h1;have g1:=HG.out _ _ _ HD.out.tk hr;exact Or.inl ⟨x,st1,s.size+1,h1.1,h1.2,HD.out.good g1,rfl,by omega⟩
 clear h1 k1 c0 c1 c2 c3 c4 c5 c6 c7 f;go_wp2_with fail;go_loopw [10] (fun v wr=>∃ q,v=.pointer (some ⟨q,0,none⟩)∧Hid (zke b s n g oa ob st.t.a (Px.row s g oa ob st) w wr q)) (fun _ wr=>penM s b wr)
 case atStart=>exact ⟨q,rfl,R0⟩
 case round =>
  obtain ⟨q,rfl,hR⟩:=hrel;obtain ⟨kr,hcase⟩:=hR.out;clear hR R0;have KR:Hid (_):=kr;clear kr;rcases hcase with ⟨x,st1,m,hx,p1,hD1,hch,hm⟩ | ⟨pe,t,nest,deep,hRe,hq,hv,p1⟩
  ·obtain ⟨m,rfl⟩:∃ m',m=m'+1:=⟨m - 1,by omega⟩
   have X:Hid (_):=hx;have P1:Hid (_):=p1;have D1:Hid (_):=hD1;have CH:Hid (_):=hch;clear hx p1 hD1 hch;cases ha:Px.onB s st1.t ⟨#[oa]⟩
   ·cases hob:Px.onB s st1.t ⟨#[ob]⟩
    ·go_wp2_with (first | (go_at_call 198;refine (qlg b s _ st1.t st1.nest st1.deep _ P1.out).mono ?_;rintro e w' ⟨rfl,rfl⟩))
     go_ret;refine ⟨KR.out,q,rfl,?_⟩;rw[← CH.out,Px.chain,if_neg (by simp[ha]),if_neg (by simp[hob])]
     exact ⟨X.out,P1.out⟩
    ·go_wp2_with (first | (go_at_call 198;refine (qlg b s _ st1.t st1.nest st1.deep _ P1.out).mono ?_;rintro e w' ⟨rfl,rfl⟩))
     refine (qe4 b s st1.t st1.nest st1.deep _ P1.out D1.out.tk.le hs).mono ?_;unfold qcl;rw[qpl hob];rintro e w2 ⟨rfl,p2,k2⟩;have P2:Hid (_):=p2;have K2:Hid (_):=k2;have hb2:b < w2.heap.size:=p2.lt;clear p2 k2;go_wp2_with fail;refine (hp (Px.nx s st1) _ (D1.out.good (Px.qaf D1.out.tk hob)) (P2.out.alloc _)).mono ?_;rintro e w3 ⟨k3,q2,rfl,h3⟩;obtain ⟨a0,a1,a2,a3,af⟩:=qau (qgr k3 hb2);have hz3:w2.heap.size < w3.heap.size:=by have:=k3.size;simp at this;omega
     have H3:Hid (qb2 b s (w2.alloc _) (g (Px.nx s st1)) (.returned (.pointer (some ⟨q2,0,none⟩))) w3):=⟨k3,q2,rfl,h3⟩;clear k3 h3;go_wp2_with fail;go_region
     go_wp2;obtain ⟨r1,r2⟩:=row_step (n:=n) (oa:=oa) (ob:=ob) (R:=Px.row s g oa ob st) (pl:=st.t.a) (o:=ob) (W:=((w3.alloc (.cells #[.pointer (some ⟨q,0,none⟩),.pointer (some ⟨q2,0,none⟩)] 268)).alloc (.cells #[.int .u8 (ob.toNat:Int),.int .i64 0,.string ⟨#[]⟩,.int .i64 (st.t.a:Int),.int .i64 (st1.t.a:Int),.slice (some ⟨w3.heap.size,0,none⟩) 2 2] 280)).drew)
      hb HG.out KR.out X.out D1.out (Px.qaf D1.out.tk hob) K2.out hm ob.toNat_lt (by rw[← CH.out,Px.chain,if_neg (by simp[ha]),if_pos hob];cases g (Px.nx s st1)<;>rfl) H3.out rfl (((Kp.refl _ _).alloc _).alloc _).drew
     exact ⟨⟨w3.heap.size+1,rfl,r1⟩,by rw[qmn P1.out];exact r2⟩
   ·go_wp2_with (first | (go_at_call 198;refine (qlg b s _ st1.t st1.nest st1.deep _ P1.out).mono ?_;rintro e w' ⟨rfl,rfl⟩))
    refine (qe4 b s st1.t st1.nest st1.deep _ P1.out D1.out.tk.le hs).mono ?_;unfold qcl;rw[qpl ha];rintro e w2 ⟨rfl,p2,k2⟩;have P2:Hid (_):=p2;have K2:Hid (_):=k2;have hb2:b < w2.heap.size:=p2.lt;clear p2 k2;go_wp2_with fail;refine (hp (Px.nx s st1) _ (D1.out.good (Px.qaf D1.out.tk ha)) (P2.out.alloc _)).mono ?_;rintro e w3 ⟨k3,q2,rfl,h3⟩;obtain ⟨a0,a1,a2,a3,af⟩:=qau (qgr k3 hb2);have hz3:w2.heap.size < w3.heap.size:=by have:=k3.size;simp at this;omega
    have H3:Hid (qb2 b s (w2.alloc _) (g (Px.nx s st1)) (.returned (.pointer (some ⟨q2,0,none⟩))) w3):=⟨k3,q2,rfl,h3⟩;clear k3 h3;go_wp2_with fail;go_region
    go_wp2;obtain ⟨r1,r2⟩:=row_step (n:=n) (oa:=oa) (ob:=ob) (R:=Px.row s g oa ob st) (pl:=st.t.a) (o:=oa) (W:=((w3.alloc (.cells #[.pointer (some ⟨q,0,none⟩),.pointer (some ⟨q2,0,none⟩)] 268)).alloc (.cells #[.int .u8 (oa.toNat:Int),.int .i64 0,.string ⟨#[]⟩,.int .i64 (st.t.a:Int),.int .i64 (st1.t.a:Int),.slice (some ⟨w3.heap.size,0,none⟩) 2 2] 280)).drew)
     hb HG.out KR.out X.out D1.out (Px.qaf D1.out.tk ha) K2.out hm oa.toNat_lt (by rw[← CH.out,Px.chain,if_pos ha];cases g (Px.nx s st1)<;>rfl) H3.out rfl (((Kp.refl _ _).alloc _).alloc _).drew
    exact ⟨⟨w3.heap.size+1,rfl,r1⟩,by rw[qmn P1.out];exact r2⟩
  ·have P1:Hid (_):=p1;have V:Hid (_∧_∧_):=⟨hRe,hq,hv⟩;clear p1 hRe hq hv;go_wp2_with (first | (go_at_call 198;refine (qpk b s _ t (pe:Int) nest deep _ P1.out (by omega)).mono ?_;rintro e w' ⟨rfl,rfl⟩))
   go_ret;refine ⟨KR.out,q,rfl,?_⟩;rw[V.out.1];exact ⟨V.out.2.1,V.out.2.2,t,nest,deep,P1.out⟩
end Ref
end Go.Proofs.YtagpnplggopoeaaGreatDoor
