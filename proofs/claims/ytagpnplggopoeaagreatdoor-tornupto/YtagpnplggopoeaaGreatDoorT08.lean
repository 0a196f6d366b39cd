import Derived.Test.YtagpnplggopoeaaGreatDoorProg
import Derived.Test.YtagpnplggopoeaaGreatDoorT04
import Derived.Test.YtagpnplggopoeaaGreatDoorT00
import Derived.Deep.QuietTactic
import Derived.BigQuiet
import Derived.Test.YtagpnplggopoeaaGreatDoorT05
import Derived.Deep.MidRow
import Derived.Deep.Cut
import Derived.Deep.RegionWith
set_option maxRecDepth 100000
set_option maxHeartbeats 4000000
namespace Go.Proofs.YtagpnplggopoeaaGreatDoor
open Go.RowKit
namespace Lg
theorem qfm (c:UInt8) (w:World) :
  Calls Tryz.prog 176 #[.int .u8 c.toNat] w fun e w'=>e=.returned (.bool (Px.qal c))∧w=w':=by
 have e1:Hid (Px.qal c=(decide (97≤(c.toNat:Int)) && decide ((c.toNat:Int)≤122))):=by
  unfold Hid Px.qal;rw[Bool.eq_iff_iff];simp;omega
 go_enter Tryz.func176,Tryz.ntmps176
 go_wp2
 all_goals
  go_ret;exact ⟨Ref.qcv (by rw[e1.out,Bool.eq_iff_iff];simp;try omega),rfl⟩
theorem qb0 (c:UInt8) (w:World) :
  Calls Tryz.prog 179 #[.int .u8 c.toNat] w fun e w'=>e=.returned (.bool (Px.qba c))∧w=w':=by
 have e1:Hid (Px.qba c=(decide (48≤(c.toNat:Int)) && decide ((c.toNat:Int)≤57))):=by
  unfold Hid Px.qba;rw[Bool.eq_iff_iff];simp;omega
 go_enter Tryz.func179,Tryz.ntmps179
 go_wp2
 all_goals
  go_ret;exact ⟨Ref.qcv (by rw[e1.out,Bool.eq_iff_iff];simp;try omega),rfl⟩
theorem qwv (c:UInt8) (w:World) :
  Calls Tryz.prog 175 #[.int .u8 c.toNat] w fun e w'=>e=.returned (.bool (Px.qbi c))∧w=w':=by
 have e1:Hid (Px.qbi c=(((c.toNat:Int) == 32) || ((c.toNat:Int) == 10))):=by
  unfold Hid Px.qbi;rw[Bool.eq_iff_iff];simp[← UInt8.toNat_inj];omega
 cases h1:((c.toNat:Int) == 32)
 all_goals
  go_enter Tryz.func175,Tryz.ntmps175
  go_wp2;go_ret;exact ⟨Ref.qcv (by rw[e1.out,h1];simp),rfl⟩
theorem zc6 (m:List UInt8):Px.qcf m=((m == [108,101,116]) || (m == [99,97,108,108]) || (m == [97,115]) || (m == [117,110,100,111]) || (m == [116,114,105,101,115]) || (m == [105,102]) || (m == [101,108,115,101]) || (m == [116,114,121]) || (m == [114,101,112,101,97,116]) || (m == [102,97,105,108]) || (m == [116,114,117,101]) || (m == [102,97,108,115,101]) || (m == [110,111,116])):=by
 rw[Bool.eq_iff_iff];simp[Px.qcf,Px.qcx,or_assoc]
theorem qic (x:ByteArray) (w:World) :
  Calls Tryz.prog 210 #[.string x] w fun e w'=>e=.returned (.bool (Px.qcf x.toList))∧w=w':=by
 have e1:Hid (_):=zc6 x.toList;go_enter Tryz.func210,Tryz.ntmps210
 go_wp2
 all_goals
  go_ret;exact ⟨Ref.qcv (by rw[e1.out];first | (simp[*];done) | (exfalso;simp_all;done)),rfl⟩
theorem qxi (x:ByteArray) (w:World) (hx:x.size≤maxLen) :
  Calls Tryz.prog 178 #[.string x,.func (.func 176) #[] #[]] w fun e w'=>e=.returned (.string (x.extract 0 (Px.qbc Px.qal x 0)))∧w=w':=by
 unfold maxLen at hx;go_enter Tryz.func178,Tryz.ntmps178
 go_wp2_with fail;go_loop [5] (fun i=>∃ k:Nat,k≤x.size∧i=.int .i64 k∧Hid (∀ j (hj:j < x.size),0≤j→j < k→Px.qal x[j]=true)) (fun i=>x.size - (intOf i).toNat)
 case atStart=>exact ⟨0,by omega,rfl,by intro j hj h1 h2;omega⟩
 case round =>
  obtain ⟨k,hk,rfl,hall⟩:=hrel;by_cases hlt:k < x.size
  ·cases hp:Px.qal x[k]
   ·have hr:Hid (Px.qbc Px.qal x 0=k):=Px.qel _ _ _ _ (by omega) hk hall (fun _=>hp)
    go_wp2_with (first | (go_at_call 176;refine (qfm _ _).mono ?_;rintro e w' ⟨rfl,rfl⟩))
    go_ret;exact ⟨by rw[hr.out];rfl,rfl⟩
   ·go_wp2_with (first | (go_at_call 176;refine (qfm _ _).mono ?_;rintro e w' ⟨rfl,rfl⟩))
    exact ⟨⟨k+1,by omega,by go_num,Ref.qil hall hlt hp⟩,by simp[intOf];omega⟩
  ·have hr:Hid (Px.qbc Px.qal x 0=k):=Px.qel _ _ _ _ (by omega) hk hall (fun h=>absurd h hlt)
   go_wp2_with fail;go_ret;exact ⟨by rw[hr.out];rfl,rfl⟩
theorem zck (x:ByteArray) (w:World) (hx:x.size≤maxLen) :
  Calls Tryz.prog 178 #[.string x,.func (.func 179) #[] #[]] w fun e w'=>e=.returned (.string (x.extract 0 (Px.qbc Px.qba x 0)))∧w=w':=by
 unfold maxLen at hx;go_enter Tryz.func178,Tryz.ntmps178
 go_wp2_with fail;go_loop [5] (fun i=>∃ k:Nat,k≤x.size∧i=.int .i64 k∧Hid (∀ j (hj:j < x.size),0≤j→j < k→Px.qba x[j]=true)) (fun i=>x.size - (intOf i).toNat)
 case atStart=>exact ⟨0,by omega,rfl,by intro j hj h1 h2;omega⟩
 case round =>
  obtain ⟨k,hk,rfl,hall⟩:=hrel;by_cases hlt:k < x.size
  ·cases hp:Px.qba x[k]
   ·have hr:Hid (Px.qbc Px.qba x 0=k):=Px.qel _ _ _ _ (by omega) hk hall (fun _=>hp)
    go_wp2_with (first | (go_at_call 179;refine (qb0 _ _).mono ?_;rintro e w' ⟨rfl,rfl⟩))
    go_ret;exact ⟨by rw[hr.out];rfl,rfl⟩
   ·go_wp2_with (first | (go_at_call 179;refine (qb0 _ _).mono ?_;rintro e w' ⟨rfl,rfl⟩))
    exact ⟨⟨k+1,by omega,by go_num,Ref.qil hall hlt hp⟩,by simp[intOf];omega⟩
  ·have hr:Hid (Px.qbc Px.qba x 0=k):=Px.qel _ _ _ _ (by omega) hk hall (fun h=>absurd h hlt)
   go_wp2_with fail;go_ret;exact ⟨by rw[hr.out];rfl,rfl⟩
theorem zfi (args:Array Value) (w:World):(callFunc 231 args).run Tryz.prog w=((Extern.BytealgIndexByte.indexByte args).run Tryz.prog w).andThen fun v w'=>.ok (.value v) w' :=
 run_callFunc_extern Tryz.func231 (by kernel_rfl) (by kernel_rfl) (by kernel_rfl) (e:=Extern.BytealgIndexByte.indexByte) (by kernel_rfl) args w
theorem zc3 (s:ByteArray) (c:UInt8) (w:World) :
  Calls Tryz.prog 211 #[.string s,.int .u8 c.toNat] w fun e w'=>e=.returned (.int .i64 (firstIdx s c))∧w=w':=by
 go_enter Tryz.func211,Tryz.ntmps211
 go_wp2_with fail;rw[zfi,run_indexByte_string];simp only[Result.andThen];rw[Oper.upon_value];go_wp2;go_ret;exact ⟨Ref.qsr (by simp),rfl⟩
theorem qlu (s:ByteArray) (c:UInt8) (w:World) :
  Calls Tryz.prog 180 #[.string s,.int .u8 c.toNat] w fun e w'=>e=.returned (.int .i64 (firstIdx s c))∧w=w':=by
 go_enter Tryz.func180,Tryz.ntmps180
 go_wp2_with (first | (go_at_call 211;refine (zc3 _ _ _).mono ?_;rintro e w' ⟨rfl,rfl⟩))
 go_ret;exact ⟨rfl,rfl⟩
theorem zc1 (c:UInt8):decide (0≤firstIdx ⟨#[59,61,40,41,123,125,60,35,43,45,42,47]⟩ c)=Px.qd9 c:=by
 have h:∀ n:Fin 256,decide (0≤firstIdx ⟨#[59,61,40,41,123,125,60,35,43,45,42,47]⟩ (UInt8.ofNat n.val))=Px.qd9 (UInt8.ofNat n.val):=by decide +kernel
 have:=h ⟨c.toNat,c.toNat_lt⟩
 simpa using this
open Go.RowKit
theorem zed (x:ByteArray) (a:Nat) (w:World) (hk:Px.qcf x.toList=true) :
  Calls Tryz.prog 177 #[.string x,.int .i64 (a:Int)] w fun e w'=>e=.returned (.tuple #[.agg #[.int .i64 1,.string x,.int .i64 (a:Int)],.bool true])∧Below w.heap.size w w':=by
 go_enter Tryz.func177,Tryz.ntmps177
 go_wp2_with (first | (go_at_call 210;refine (qic _ _).mono ?_;rintro e w' ⟨rfl,rfl⟩))
 exact bodyPost_ret (v:=.tuple #[.agg #[.int .i64 1,.string x,.int .i64 (a:Int)],.bool true]) (by simp[results,Tryz.results177,go_sem]) rfl ⟨rfl,(Below.refl _ _).alloc (Nat.le_refl _) _⟩
theorem zbv (x:ByteArray) (a:Nat) (w:World) (hk:Px.qcf x.toList=false) :
  Calls Tryz.prog 177 #[.string x,.int .i64 (a:Int)] w fun e w'=>e=.returned (.tuple #[.agg #[.int .i64 2,.string x,.int .i64 (a:Int)],.bool (decide ((x.size:Int)≤8))])∧Below w.heap.size w w':=by
 go_enter Tryz.func177,Tryz.ntmps177
 go_wp2_with (first | (go_at_call 210;refine (qic _ _).mono ?_;rintro e w' ⟨rfl,rfl⟩))
 exact bodyPost_ret (v:=.tuple #[.agg #[.int .i64 2,.string x,.int .i64 (a:Int)],.bool (decide ((x.size:Int)≤8))]) (by simp[results,Tryz.results177,go_sem]) rfl ⟨rfl,(Below.refl _ _).alloc (Nat.le_refl _) _⟩
def kd (k:Nat):Nat:=if k=107 then 1 else if k=119 then 2 else if k=110 then 3 else 0
def SgV (s:ByteArray) (t:Px.Tok) (v:Value):Prop :=
 ∃ (k:Nat) (x:ByteArray),v=.tuple #[.agg #[.int .i64 (k:Int),.string x,.int .i64 (t.a:Int)],.bool (t.k != 63)]∧(t.k≠63→k=kd t.k∧x=s.extract t.a t.b)
theorem qi6 (s:ByteArray) (a:Nat):(s.extract a s.size).size=s.size - a:=by simp
theorem qst (s:ByteArray) (a j:Nat) (h:j < (s.extract a s.size).size):(s.extract a s.size)[j]=s[a+j]'(by simp at h;omega):=by simp[ByteArray.getElem_extract]
theorem qn5 (p:UInt8→Bool) (s:ByteArray) (a:Nat) (ha:a≤s.size):a+Px.qbc p (s.extract a s.size) 0=Px.qbc p s a:=by
 symm
 have hz:=qi6 s a;have h2:=Px.qdz p (s.extract a s.size) 0 (Nat.zero_le _);refine Px.qel p s a _ (by omega) (by omega) (fun j hj h1 h3=>?_) (fun h=>?_)
 ·have hj':j - a < (s.extract a s.size).size:=by omega
  have e:=Px.qhq p (s.extract a s.size) ((s.extract a s.size).size - 0) 0 (j - a) hj' (Nat.zero_le _) (by unfold Px.qbc at h3;omega)
  rw[qst s a _ hj'] at e
  have:a+(j - a)=j:=by omega
  simp only[this] at e;exact e
 ·have hj':Px.qbc p (s.extract a s.size) 0 < (s.extract a s.size).size:=by omega
  have e:=Px.qq8 p (s.extract a s.size) ((s.extract a s.size).size - 0) 0 (Nat.le_refl _) hj';have e':p (s.extract a s.size)[Px.qbc p (s.extract a s.size) 0]=false:=e;rw[qst s a _ hj'] at e';exact e'
theorem qss (s:ByteArray) (a n:Nat) (h:a+n≤s.size):(s.extract a s.size).extract 0 n=s.extract a (a+n):=by
 rw[ByteArray.extract_extract];congr 1;omega
theorem zjg {w w1:World} {a b c:Value} {t:TypeId} (h:Below (w.alloc (.cells #[a,b,c] t)).heap.size (w.alloc (.cells #[a,b,c] t)) w1) :
  w1.cell? ⟨w.heap.size,0,none⟩=some a∧w1.cell? ⟨w.heap.size,1,none⟩=some b∧w1.cell? ⟨w.heap.size,2,none⟩=some c∧∀ o,w1.frozen? ⟨w.heap.size,o,none⟩=false:=by
 have g:w1.heap[w.heap.size]?=some (.cells #[a,b,c] t):=by
  rw[h.block _ (by simp)]
  show (w.heap.push _)[w.heap.size]?=_
  rw[Array.getElem?_push,if_pos rfl]
 refine ⟨?_,?_,?_,?_⟩<;>simp[World.cell?,World.frozen?,g]
theorem qrz {w w1:World} (h:Below w.heap.size w w1) (a b c:Value):Below w.heap.size w (((w1.setCell ⟨w.heap.size,0,none⟩ a).setCell ⟨w.heap.size,1,none⟩ b).setCell ⟨w.heap.size,2,none⟩ c) :=
 ((h.setCell (p:=⟨w.heap.size,0,none⟩) (Nat.le_refl _) a).setCell (p:=⟨w.heap.size,1,none⟩) (Nat.le_refl _) b).setCell (p:=⟨w.heap.size,2,none⟩) (Nat.le_refl _) c
theorem zrx {s:ByteArray} {i k:Nat} (hr:Hid (Px.qbc Px.qbi s i=k)) (hlt:k < s.size) (hsm:Px.qal s[k]=false) (hdg:Px.qba s[k]=false) :
  SgV s (Px.tok s i) (.tuple #[.agg #[.int .i64 1,.string ((s.extract k s.size).extract 0 1),.int .i64 (k:Int)],.bool (decide (0≤firstIdx ⟨#[59,61,40,41,123,125,60,35,43,45,42,47]⟩ s[k]))]):=by
 rw[zc1,qss s k 1 (by omega)]
 unfold Px.tok;rw[hr.out];cases hm:Px.qd9 s[k]
 ·rw[Px.qgl hlt hsm hdg hm];exact ⟨1,_,rfl,fun h=>absurd rfl h⟩
 ·rw[Px.qfe hlt hsm hdg hm];exact ⟨1,_,rfl,fun _=>⟨rfl,rfl⟩⟩
theorem zwf {s:ByteArray} {i k b:Nat} (hr:Hid (Px.qbc Px.qbi s i=k)) (hlt:k < s.size) (hsm:Px.qal s[k]=false) (hdg:Px.qba s[k]=true) (hb:Hid (Px.qbc Px.qba s k=b)) (_h2:b≤s.size) :
  SgV s (Px.tok s i) (.tuple #[.agg #[.int .i64 3,.string (s.extract k b),.int .i64 (k:Int)],.bool (decide (((b - k:Nat):Int)≤4))]):=by
 unfold Px.tok;rw[hr.out];by_cases hl:4 < b - k
 ·rw[Px.qfg hlt hsm hdg hb.out hl,show decide (((b - k:Nat):Int)≤4)=false from by simp;omega]
  exact ⟨3,_,rfl,fun h=>absurd rfl h⟩
 ·rw[Px.qfw hlt hsm hdg hb.out hl,show decide (((b - k:Nat):Int)≤4)=true from by simp;omega]
  exact ⟨3,_,rfl,fun _=>⟨rfl,rfl⟩⟩
theorem zry {s:ByteArray} {i k b:Nat} (hr:Hid (Px.qbc Px.qbi s i=k)) (hlt:k < s.size) (hsm:Px.qal s[k]=true) (hb:Hid (Px.qbc Px.qal s k=b)) (hk:Px.qcf (s.extract k b).toList=true) :
  SgV s (Px.tok s i) (.tuple #[.agg #[.int .i64 1,.string (s.extract k b),.int .i64 (k:Int)],.bool true]):=by
 unfold Px.tok;rw[hr.out,Px.qer hlt hsm hb.out hk];exact ⟨1,_,rfl,fun _=>⟨rfl,rfl⟩⟩
theorem zrw {s:ByteArray} {i k b:Nat} (hr:Hid (Px.qbc Px.qbi s i=k)) (hlt:k < s.size) (hsm:Px.qal s[k]=true) (hb:Hid (Px.qbc Px.qal s k=b)) (hk:Px.qcf (s.extract k b).toList=false) (_h2:b≤s.size) :
  SgV s (Px.tok s i) (.tuple #[.agg #[.int .i64 2,.string (s.extract k b),.int .i64 (k:Int)],.bool (decide (((b - k:Nat):Int)≤8))]):=by
 unfold Px.tok;rw[hr.out];by_cases hl:8 < b - k
 ·rw[Px.qff hlt hsm hb.out hk hl,show decide (((b - k:Nat):Int)≤8)=false from by simp;omega]
  exact ⟨2,_,rfl,fun h=>absurd rfl h⟩
 ·rw[Px.qeq hlt hsm hb.out hk hl,show decide (((b - k:Nat):Int)≤8)=true from by simp;omega]
  exact ⟨2,_,rfl,fun _=>⟨rfl,rfl⟩⟩
theorem qn3 (s:ByteArray) (i:Nat) (w:World) (hi:i≤s.size) (hs:s.size≤maxLen) :
  Calls Tryz.prog 136 #[.string s,.int .i64 i] w fun e w'=>(∃ v,e=.returned v∧SgV s (Px.tok s i) v)∧Below w.heap.size w w':=by
 have hs':=hs;unfold maxLen at hs;go_enter Tryz.func136,Tryz.ntmps136
 go_wp2_with fail;go_loop [1] (fun x=>∃ k:Nat,i≤k∧k≤s.size∧x=.int .i64 k∧Hid (∀ j (hj:j < s.size),i≤j→j < k→Px.qbi s[j]=true)) (fun x=>s.size - (intOf x).toNat)
 case atStart=>exact ⟨i,by omega,hi,rfl,by intro j hj h1 h2;omega⟩
 case round =>
  obtain ⟨k,hk1,hk2,rfl,hall⟩:=hrel;by_cases hlt:k < s.size
  ·cases hbl:Px.qbi s[k]
   ·have hr:Hid (Px.qbc Px.qbi s i=k):=Px.qel _ _ _ _ hk1 hk2 hall (fun _=>hbl)
    have heq:((k:Int) == (s.size:Int))=false:=by rw[beq_eq_false_iff_ne];omega
    have r0:(s.extract k s.size)[0]'(by rw[qi6];omega)=s[k]:=by rw[qst];simp
    have hrz:0 < (s.extract k s.size).size:=by rw[qi6];omega
    clear hall;go_wp2_with (first | (go_at_call 175;refine (qwv _ _).mono ?_;rintro e w' ⟨rfl,rfl⟩))
    cases hsm:Px.qal s[k]
    ·cases hdg:Px.qba s[k]
     ·refine (qfm _ _).mono ?_;rintro e w' ⟨rfl,rfl⟩;go_wp2_with (first | (go_at_call 179;refine (qb0 _ _).mono ?_;rintro e w' ⟨rfl,rfl⟩))
      go_region_with (go_at_call 180;refine (qlu _ _ _).mono ?_;rintro e w' ⟨rfl,rfl⟩)
      all_goals
       go_wp2_with fail;refine bodyPost_ret (v:=.tuple #[.agg #[.int .i64 1,.string ((s.extract k s.size).extract 0 1),.int .i64 (k:Int)],.bool (decide (0≤firstIdx ⟨#[59,61,40,41,123,125,60,35,43,45,42,47]⟩ s[k]))]) (by simp[results,Tryz.results136,go_sem]) rfl ⟨⟨_,rfl,zrx hr hlt hsm hdg⟩,?_⟩
       first | exact ((Below.refl _ _).alloc (Nat.le_refl _) _).drew | exact (Below.refl _ _).alloc (Nat.le_refl _) _ | exact ((Below.refl _ _).drew.alloc (Nat.le_refl _) _)
     ·refine (qfm _ _).mono ?_;rintro e w' ⟨rfl,rfl⟩;have RL:∀ w',Calls Tryz.prog 178 #[.string (s.extract k s.size),.func (.func 179) #[] #[]] w' fun e w''=>e=.returned (.string (s.extract k (Px.qbc Px.qba s k)))∧w'=w'':=by
       intro w';have h:=zck (s.extract k s.size) w' (by rw[qi6];omega)
       rw[qss s k _ (by rw[qn5 _ _ _ hk2];exact Px.qdz _ _ _ hk2),qn5 _ _ _ hk2] at h
       exact h
      have HRL:Hid (_):=RL;clear RL;generalize hb:Px.qbc Px.qba s k=b at *;have HB:Hid (_):=hb;have hb1:k≤b:=by rw[← hb];exact Px.qla _ _ _
      have hb2:b≤s.size:=by rw[← hb];exact Px.qdz _ _ _ hk2
      clear hb;go_wp2_with (first | (go_at_call 179;refine (qb0 _ _).mono ?_;rintro e w' ⟨rfl,rfl⟩) | (go_at_call 178;refine (HRL.out _).mono ?_;rintro e w' ⟨rfl,rfl⟩))
      refine bodyPost_ret (v:=.tuple #[.agg #[.int .i64 3,.string (s.extract k b),.int .i64 (k:Int)],.bool (decide (((b - k:Nat):Int)≤4))]) (by simp[results,Tryz.results136,go_sem]) rfl ⟨⟨_,rfl,zwf hr hlt hsm hdg HB hb2⟩,?_⟩
      exact (Below.refl _ _).alloc (Nat.le_refl _) _
    ·refine (qfm _ _).mono ?_;rintro e w' ⟨rfl,rfl⟩;have RL:∀ w',Calls Tryz.prog 178 #[.string (s.extract k s.size),.func (.func 176) #[] #[]] w' fun e w''=>e=.returned (.string (s.extract k (Px.qbc Px.qal s k)))∧w'=w'':=by
      intro w';have h:=qxi (s.extract k s.size) w' (by rw[qi6];omega)
      rw[qss s k _ (by rw[qn5 _ _ _ hk2];exact Px.qdz _ _ _ hk2),qn5 _ _ _ hk2] at h
      exact h
     have HRL:Hid (_):=RL;clear RL;generalize hb:Px.qbc Px.qal s k=b at *;have HB:Hid (_):=hb;have hb1:k≤b:=by rw[← hb];exact Px.qla _ _ _
     have hb2:b≤s.size:=by rw[← hb];exact Px.qdz _ _ _ hk2
     clear hb;go_wp2_with (first | (go_at_call 178;refine (HRL.out _).mono ?_;rintro e w' ⟨rfl,rfl⟩))
     cases hkp:Px.qcf (s.extract k b).toList
     ·refine (zbv _ k _ hkp).mono ?_;rintro e w1 ⟨rfl,hbw⟩;obtain ⟨q0,q1,q2,qf⟩:=zjg hbw;have BW:Hid (Below w.heap.size w w1):=((Below.refl _ _).alloc (Nat.le_refl _) _).trans (hbw.mono (by simp))
      clear hbw;go_wp2_with fail;refine bodyPost_ret (v:=.tuple #[.agg #[.int .i64 2,.string (s.extract k b),.int .i64 (k:Int)],.bool (decide (((b - k:Nat):Int)≤8))]) (by simp[results,Tryz.results136,go_sem,q0,q1,q2]) rfl ⟨⟨_,rfl,zrw hr hlt hsm HB hkp hb2⟩,?_⟩
      exact qrz BW.out _ _ _
     ·refine (zed _ k _ hkp).mono ?_;rintro e w1 ⟨rfl,hbw⟩;obtain ⟨q0,q1,q2,qf⟩:=zjg hbw;have BW:Hid (Below w.heap.size w w1):=((Below.refl _ _).alloc (Nat.le_refl _) _).trans (hbw.mono (by simp))
      clear hbw;go_wp2_with fail;refine bodyPost_ret (v:=.tuple #[.agg #[.int .i64 1,.string (s.extract k b),.int .i64 (k:Int)],.bool true]) (by simp[results,Tryz.results136,go_sem,q0,q1,q2]) rfl ⟨⟨_,rfl,zry hr hlt hsm HB hkp⟩,?_⟩
      exact qrz BW.out _ _ _
   ·go_wp2_with (first | (go_at_call 175;refine (qwv _ _).mono ?_;rintro e w' ⟨rfl,rfl⟩))
    exact ⟨⟨k+1,by omega,by omega,by go_num,Ref.qil hall hlt hbl⟩,by simp[intOf];omega⟩
  ·have hr:Hid (Px.qbc Px.qbi s i=k):=Px.qel _ _ _ _ hk1 hk2 hall (fun h=>absurd h hlt)
   obtain rfl:k=s.size:=by omega
   go_wp2_with fail;refine bodyPost_ret (v:=.tuple #[.agg #[.int .i64 0,.string ⟨#[]⟩,.int .i64 (s.size:Int)],.bool true]) (by simp[results,Tryz.results136,go_sem]) rfl ⟨⟨_,rfl,?_⟩,(Below.refl _ _).alloc (Nat.le_refl _) _⟩
   have e:Px.tok s i=⟨0,s.size,s.size⟩:=by unfold Px.tok;rw[hr.out];exact Px.qgo (by omega)
   rw[e];exact ⟨0,⟨#[]⟩,rfl,fun _=>⟨rfl,by simp;rfl⟩⟩
open Go.RowKit
theorem cells3 {w:World} {k:Nat} {a b c:Value} {t:TypeId} (hh:w.heap[k]?=some (.cells #[a,b,c] t)) :
  w.cell? ⟨k,0,none⟩=some a∧w.cell? ⟨k,1,none⟩=some b∧w.cell? ⟨k,2,none⟩=some c∧∀ o,w.frozen? ⟨k,o,none⟩=false:=by
 refine ⟨?_,?_,?_,?_⟩<;>simp[World.cell?,World.frozen?,hh]
structure RdAt (w:World) (b:Nat) (s:ByteArray) (t:Px.Tok) (dep:Int) (td:Option Addr):Prop where
 h:w.heap[b]?=some (.cells #[.string s,.int .i64 (kd t.k:Int),.string (s.extract t.a t.b),.int .i64 (t.a:Int),.int .i64 dep,.pointer td] 165)
def opsC:List Value:=[.string ⟨#[43]⟩,.int .i64 1,.int .i64 1,.int .i64 1,.string ⟨#[45]⟩,.int .i64 1,.int .i64 1,.int .i64 1,.string ⟨#[42]⟩,.int .i64 2,.int .i64 1,.int .i64 1,.string ⟨#[47]⟩,.int .i64 2,.int .i64 1,.int .i64 1,
 .string ⟨#[60]⟩,.int .i64 0,.int .i64 1,.int .i64 2,.string ⟨#[61]⟩,.int .i64 0,.int .i64 0,.int .i64 2,.string ⟨#[35]⟩,.int .i64 0,.int .i64 0,.int .i64 2]
structure Gl (w:World) (b:Nat) (eT eN:Addr):Prop where
 t:w.cell? ⟨9,0,none⟩=some (.iface 359 (.pointer (some eT)))
 n:w.cell? ⟨3,0,none⟩=some (.iface 359 (.pointer (some eN)))
 ops:∀ j (hj:j < 28),w.cell? ⟨18,j,none⟩=some (opsC[j]'hj)
 lo:21≤b
theorem Gl.keep {w w':World} {b:Nat} {eT eN:Addr} (g:Gl w b eT eN) (k:Kp b w w'):Gl w' b eT eN :=
 ⟨by rw[k.cell (lt_of_cell g.t) (by have:=g.lo;omega)];exact g.t,by rw[k.cell (lt_of_cell g.n) (by have:=g.lo;omega)];exact g.n,fun j hj=>by rw[k.cell (lt_of_cell (g.ops 0 (by decide))) (by have:=g.lo;omega)];exact g.ops j hj,g.lo⟩
theorem Gl.setN {w:World} {b k o:Nat} {eT eN:Addr} {v:Value} (g:Gl w b eT eN) (hk:21≤k):Gl (w.setCell ⟨k,o,none⟩ v) b eT eN :=
 ⟨by rw[World.cell?_of_block (w:=w) (Below.heap_setCell _ _ _ _ (by show (_:Nat)≠k;dsimp only;omega))];exact g.t,by rw[World.cell?_of_block (w:=w) (Below.heap_setCell _ _ _ _ (by show (_:Nat)≠k;dsimp only;omega))];exact g.n,fun j hj=>by rw[World.cell?_of_block (w:=w) (Below.heap_setCell _ _ _ _ (by show (_:Nat)≠k;dsimp only;omega))];exact g.ops j hj,g.lo⟩
def Thrown (w':World) (base:Nat) (eT:Addr) (p:Nat) (e:Ending):Prop :=
 ∃ f,base≤f∧e=.panicked [{ v:=.iface 93 (.pointer (some ⟨f,0,none⟩)),recovered:=false }]∧w'.heap[f]?=some (.cells #[.int .i64 (p:Int),.iface 359 (.pointer (some eT))] 97)
theorem Thrown.form {w':World} {base p:Nat} {eT:Addr} {e:Ending} (h:Thrown w' base eT p e):∃ c,e=.panicked c:=by
 obtain ⟨f,h1,h2,h3⟩:=h;exact ⟨_,h2⟩
theorem Thrown.low {w':World} {base base' p:Nat} {eT:Addr} {e:Ending} (h:Thrown w' base eT p e) (hb:base'≤base):Thrown w' base' eT p e:=by
 obtain ⟨f,h1,h2,h3⟩:=h;exact ⟨f,Nat.le_trans hb h1,h2,h3⟩
theorem qq5 (w:World) (eT:Addr) (pl:Nat):(Thrown (w.alloc (.cells #[.int .i64 (pl:Int),.iface 359 (.pointer (some eT))] 97)).drew w.heap.size eT pl (.panicked [{ v:=.iface 93 (.pointer (some ⟨w.heap.size,0,none⟩)),recovered:=false }])∧Below w.heap.size w (w.alloc (.cells #[.int .i64 (pl:Int),.iface 359 (.pointer (some eT))] 97)).drew):=by
 refine ⟨⟨w.heap.size,Nat.le_refl _,rfl,?_⟩,((Below.refl _ _).alloc (Nat.le_refl _) _).drew⟩;show (w.heap.push _)[w.heap.size]?=_
 rw[Array.getElem?_push,if_pos rfl]
theorem qra (b:Nat) (v0 v1 v2 v4 v5:Value) (pl:Nat) (eT eN:Addr) (w:World) (p:w.heap[b]?=some (.cells #[v0,v1,v2,.int .i64 (pl:Int),v4,v5] 165)) (g:Gl w b eT eN) :
  Calls Tryz.prog 75 #[.pointer (some ⟨b,0,none⟩)] w fun e w'=>Thrown w' w.heap.size eT pl e∧Below w.heap.size w w':=by
 obtain ⟨c0,c1,c2,c3,c4,c5,f⟩:=Ref.qb9 p;have gt:=g.t;clear p g;go_enter Tryz.func75,Tryz.ntmps75
 go_wp2_with fail;refine wp_region_any (by kernel_rfl) ?_
 change wpAny _ _ _ _ _ _ _ (World.drew _)
 refine wpAny_take (i:=0) (v:=?_) rfl (by kernel_rfl) (by kernel_rfl) (by kernel_rfl) (fun _ _ _ h=>h) (Or.inl ⟨by rfl,?hy0⟩) ?rest0
 case hy0=>intro w;go_simp;first | done | with_reducible rfl
 refine wpAny_take (i:=1) (v:=?_) rfl (by kernel_rfl) (by kernel_rfl) (by kernel_rfl) (fun _ _ _ h=>h) (Or.inl ⟨by rfl,?hy1⟩) ?rest1
 case hy1=>intro w;go_simp;first | done | with_reducible rfl
 refine wpAny_take (i:=2) (v:=?_) rfl (by kernel_rfl) (by kernel_rfl) (by kernel_rfl) (fun _ _ _ h=>h) (Or.inl ⟨by rfl,?hy2⟩) ?rest2
 case hy2=>intro w;go_simp;first | done | with_reducible rfl
 refine wpAny_take (i:=3) (v:=?_) rfl (by kernel_rfl) (by kernel_rfl) (by kernel_rfl) (fun _ _ _ h=>h) (Or.inl ⟨by rfl,?hy3⟩) ?rest3
 case hy3=>intro w;go_simp;first | done | with_reducible rfl
 refine wpAny_ready (rs:=[4,5]) (by kernel_rfl) (by simp) ?_
 refine AllReady.cons rfl (fun K hK=>?_) (AllReady.cons rfl (fun K hK=>?_) AllReady.nil)
 ·go_simp
  refine hK _ _ ?_;clear hK K;refine wpAny_ready (rs:=[5]) (by kernel_rfl) (by simp) ?_
  refine AllReady.cons rfl (fun K hK=>?_) AllReady.nil
  go_simp
  refine hK _ _ ?_;clear hK K;refine wpAny_ready (rs:=[6]) (by kernel_rfl) (by simp) ?_
  refine AllReady.cons rfl (fun K hK=>?_) AllReady.nil
  go_simp
  refine hK _ _ ?_;clear hK K;refine wpAny_ready (rs:=[7]) (by kernel_rfl) (by simp) ?_
  refine AllReady.cons rfl (fun K hK=>?_) AllReady.nil
  go_simp
  refine hK _ _ ?_;clear hK K;refine wpAny_ready (rs:=[8]) (by kernel_rfl) (by simp) ?_
  refine AllReady.cons rfl (fun K hK=>?_) AllReady.nil
  go_simp
  refine hK _ _ ?_;clear hK K;refine wpAny_ready (rs:=[9]) (by kernel_rfl) (by simp) ?_
  refine AllReady.cons rfl (fun K hK=>?_) AllReady.nil
  go_simp
  clear hK K;exact ⟨rfl,qq5 _ _ _⟩
 ·go_simp
  refine hK _ _ ?_;clear hK K;refine wpAny_ready (rs:=[4]) (by kernel_rfl) (by simp) ?_
  refine AllReady.cons rfl (fun K hK=>?_) AllReady.nil
  go_simp
  refine hK _ _ ?_;clear hK K;refine wpAny_ready (rs:=[6]) (by kernel_rfl) (by simp) ?_
  refine AllReady.cons rfl (fun K hK=>?_) AllReady.nil
  go_simp
  refine hK _ _ ?_;clear hK K;refine wpAny_ready (rs:=[7]) (by kernel_rfl) (by simp) ?_
  refine AllReady.cons rfl (fun K hK=>?_) AllReady.nil
  go_simp
  refine hK _ _ ?_;clear hK K;refine wpAny_ready (rs:=[8]) (by kernel_rfl) (by simp) ?_
  refine AllReady.cons rfl (fun K hK=>?_) AllReady.nil
  go_simp
  refine hK _ _ ?_;clear hK K;refine wpAny_ready (rs:=[9]) (by kernel_rfl) (by simp) ?_
  refine AllReady.cons rfl (fun K hK=>?_) AllReady.nil
  go_simp
  clear hK K;exact ⟨rfl,qq5 _ _ _⟩
theorem qre (b:Nat) (s:ByteArray) (i:Nat) (v1 v2 v3:Value) (dep:Int) (td:Option Addr) (eT eN:Addr) (w:World) (p:w.heap[b]?=some (.cells #[.string s,v1,v2,v3,.int .i64 dep,.pointer td] 165)) (g:Gl w b eT eN) (hi:i≤s.size) (hs:s.size≤maxLen) :
  Calls Tryz.prog 73 #[.pointer (some ⟨b,0,none⟩),.int .i64 (i:Int)] w fun e w'=>Kp b w w' ∧
   ((Px.tok s i).k≠63→e=.returned (.tuple #[])∧RdAt w' b s (Px.tok s i) dep td)∧((Px.tok s i).k=63→Thrown w' w.heap.size eT (Px.tok s i).a e):=by
 obtain ⟨c0,c1,c2,c3,c4,c5,f⟩:=Ref.qb9 p;have hb:b < w.heap.size:=lt_of_cell c0;have G:Hid (_):=g;have P:Hid (_):=p;clear p g;go_enter Tryz.func73,Tryz.ntmps73
 go_wp2_with fail;refine (qn3 s i _ hi hs).mono ?_;rintro e w1 ⟨⟨v,rfl,k,x,rfl,hv⟩,hbw⟩;have K1:Hid (Kp b w w1):=(Kp.refl b w).below hbw;have hz1:w.heap.size≤w1.heap.size:=hbw.size;have p1:w1.heap[b]?=_:=(hbw.block b hb).trans P.out;obtain ⟨d0,d1,d2,d3,d4,d5,df⟩:=Ref.qb9 p1;have P1:Hid (_):=p1;have HV:Hid (_):=hv;have hne:¬ w1.heap.size=b:=by omega
 have hb1:b < w1.heap.size:=by omega
 clear p1 hbw hv c0 c1 c2 c3 c4 c5 f;cases hk:((Px.tok s i).k != 63)
 ·have hk':(Px.tok s i).k=63:=by simpa using hk
  have K2:Hid (Kp b w ((((w1.setCell ⟨b,1,none⟩ (.int .i64 (k:Int))).setCell ⟨b,2,none⟩ (.string x)).setCell ⟨b,3,none⟩ (.int .i64 ((Px.tok s i).a:Int))).alloc (.cells #[.int .i64 (k:Int),.string x,.int .i64 ((Px.tok s i).a:Int)] 163))):=((((K1.out.setB _).setB _).setB _).alloc _);go_wp2_with fail;refine (qra b (.string s) (.int .i64 (k:Int)) (.string x) (.int .i64 dep) (.pointer td) (Px.tok s i).a eT eN _ ?_ (G.out.keep K2.out)).mono ?_
  ·rw[Below.heap_alloc _ _ _ (by simpa [World.setCell] using hb1),Ref.heap_set _ (Ref.heap_set _ (Ref.heap_set _ P1.out))]
   simp
  rintro e w2 ⟨ht,h2⟩;obtain ⟨c,rfl⟩:=ht.form;exact ⟨rfl,K2.out.below h2,fun h=>absurd hk' h,fun _=>ht.low K2.out.size⟩
 ·have hk':(Px.tok s i).k≠63:=by simpa using hk
  obtain ⟨rfl,rfl⟩:=HV.out hk';go_wp2_with fail;go_end0
  refine ⟨((((K1.out.setB _).setB _).setB _).alloc _),fun _=>⟨rfl,⟨?_⟩⟩,fun h=>absurd h hk'⟩
  rw[Below.heap_alloc _ _ _ (by simpa [World.setCell] using hb1),Ref.heap_set _ (Ref.heap_set _ (Ref.heap_set _ P1.out))]
  simp
def DeepAt (w:World) (b:Nat) (eN:Addr) (deep:Int) (td:Option Addr):Prop :=
 (deep < 0∧td=none)∨(0≤deep∧∃ f,td=some ⟨f,0,none⟩∧f≠b∧w.heap[f]?=some (.cells #[.int .i64 deep,.iface 359 (.pointer (some eN))] 97))
theorem DeepAt.keep {w w':World} {b:Nat} {eN:Addr} {deep:Int} {td:Option Addr} (h:DeepAt w b eN deep td) (k:Kp b w w'):DeepAt w' b eN deep td:=by
 rcases h with h | ⟨h1,f,h2,h3,h4⟩
 ·exact Or.inl h
 ·exact Or.inr ⟨h1,f,h2,h3,by rw[k.block f (Array.getElem?_eq_some_iff.1 h4).1 h3];exact h4⟩
structure Rd (w:World) (b:Nat) (s:ByteArray) (st:Px.Ps) (eT eN:Addr):Prop where
 tk:Px.Tk s st.t
 k63:st.t.k≠63
 gl:Gl w b eT eN
 mem:∃ td,RdAt w b s st.t st.nest td∧DeepAt w b eN st.deep td
theorem Rd.lt {w:World} {b:Nat} {s:ByteArray} {st:Px.Ps} {eT eN:Addr} (r:Rd w b s st eT eN):b < w.heap.size:=by
 obtain ⟨td,h,_⟩:=r.mem;exact (Array.getElem?_eq_some_iff.1 h.h).1
theorem Rd.keep {w w':World} {b:Nat} {s:ByteArray} {st:Px.Ps} {eT eN:Addr} (r:Rd w b s st eT eN) (k:Kp b w w') (hb:w'.heap[b]?=w.heap[b]?):Rd w' b s st eT eN:=by
 obtain ⟨td,h,d⟩:=r.mem;exact ⟨r.tk,r.k63,r.gl.keep k,td,⟨by rw[hb];exact h.h⟩,d.keep k⟩
theorem Rd.alloc {w:World} {b:Nat} {s:ByteArray} {st:Px.Ps} {eT eN:Addr} (r:Rd w b s st eT eN) (o:Obj):Rd (w.alloc o) b s st eT eN:=r.keep ((Kp.refl _ _).alloc _) (Below.heap_alloc _ _ _ r.lt)
theorem Rd.drew {w:World} {b:Nat} {s:ByteArray} {st:Px.Ps} {eT eN:Addr} (r:Rd w b s st eT eN):Rd w.drew b s st eT eN:=r.keep (Kp.refl _ _).drew rfl
theorem Rd.setT {w:World} {b k o:Nat} {s:ByteArray} {st:Px.Ps} {eT eN:Addr} {c:Array Value} {t:TypeId} (r:Rd w b s st eT eN) (h:w.heap[k]?=some (.cells c t)) (ht:t≠97) (hk:b < k) (v:Value):Rd (w.setCell ⟨k,o,none⟩ v) b s st eT eN:=by
 obtain ⟨td,a,d⟩:=r.mem;refine ⟨r.tk,r.k63,r.gl.setN (by have:=r.gl.lo;omega),td,⟨by rw[Below.heap_setCell _ _ _ _ (by show b≠k;omega)];exact a.h⟩,?_⟩
 rcases d with d | ⟨d1,f,d2,d3,d4⟩
 ·exact Or.inl d
 ·refine Or.inr ⟨d1,f,d2,d3,?_⟩;rw[Below.heap_setCell _ _ _ _ (by show f≠k;rintro rfl;rw[h] at d4;simp at d4;exact ht d4.2)]
  exact d4
def fin {α:Type} (r:Except Nat (α×Px.Ps)):Except Nat (α×Px.Ps) :=
 match r with
 | .ok (x,st)=>if st.t.k=63 then .error st.t.a else .ok (x,st)
 | .error p=>.error p
def Out {α:Type} (b:Nat) (s:ByteArray) (eT eN:Addr) (w:World) (r:Except Nat (α×Px.Ps)) (V:World→α→Value→Prop) (e:Ending) (w':World):Prop :=
 Kp b w w'∧((∃ x st v,r=.ok (x,st)∧e=.returned v∧V w' x v∧Rd w' b s st eT eN)∨∃ p,fin r=.error p∧Thrown w' w.heap.size eT p e)
theorem qn2 (b:Nat) (s:ByteArray) (st:Px.Ps) (eT eN:Addr) (w:World) (r:Rd w b s st eT eN) (hs:s.size≤maxLen) :
  Calls Tryz.prog 212 #[.pointer (some ⟨b,0,none⟩)] w
   (Out b s eT eN w (.ok (st.t,Px.nx s st)) (fun _ t v=>v=.agg #[.int .i64 (kd t.k:Int),.string (s.extract t.a t.b),.int .i64 (t.a:Int)])):=by
 obtain ⟨td,ra,rd⟩:=r.mem;obtain ⟨c0,c1,c2,c3,c4,c5,f⟩:=Ref.qb9 ra.h;have hb:=r.lt;have R:Hid (_):=r;have RA:Hid (RdAt w b s st.t st.nest td∧DeepAt w b eN st.deep td):=⟨ra,rd⟩;have hab:=r.tk.ab;have hle:=r.tk.le;have hse:(s.extract st.t.a st.t.b).size=st.t.b - st.t.a:=by simp;omega
 unfold maxLen at hs;clear r ra rd;go_enter Tryz.func212,Tryz.ntmps212
 have hi:((st.t.a:Int)+((st.t.b - st.t.a:Nat):Int))=((st.t.b:Nat):Int):=by omega
 go_wp2_with fail;have P1:Hid ((_:World).heap[b]?=_):=(Below.heap_alloc (w.alloc (.cells #[.int .i64 0,.string ⟨#[]⟩,.int .i64 0] 163)) (.cells #[.int .i64 (kd st.t.k:Int),.string (s.extract st.t.a st.t.b),.int .i64 (st.t.a:Int)] 163) b (by simp;omega)).trans ((Below.heap_alloc w (.cells #[.int .i64 0,.string ⟨#[]⟩,.int .i64 0] 163) b hb).trans RA.out.1.h)
 have K0:Hid (Kp b w ((w.alloc (.cells #[.int .i64 0,.string ⟨#[]⟩,.int .i64 0] 163)).alloc (.cells #[.int .i64 (kd st.t.k:Int),.string (s.extract st.t.a st.t.b),.int .i64 (st.t.a:Int)] 163))):=((Kp.refl b w).alloc _).alloc _;refine (qre b s st.t.b _ _ _ _ _ eT eN _ P1.out (R.out.gl.keep K0.out) hle (by unfold maxLen;omega)).mono ?_
 rintro e w1 ⟨k1,h1,h2⟩;by_cases hk:(Px.tok s st.t.b).k=63
 ·have ht:=h2 hk;obtain ⟨c,rfl⟩:=ht.form;exact ⟨rfl,K0.out.trans k1,Or.inr ⟨_,if_pos hk,ht.low K0.out.size⟩⟩
 ·obtain ⟨rfl,a1⟩:=h1 hk;obtain ⟨g1,g2,g3⟩:=Ref.qg4 rfl k1 hb;obtain ⟨d0,d1,d2,df⟩:=cells3 g2;obtain ⟨u0,u1,u2,uf⟩:=cells3 g1;have A1:Hid (Kp b _ w1∧RdAt w1 b s (Px.tok s st.t.b) st.nest td):=⟨k1,a1⟩;clear k1 a1 h1 h2 g1 g2 c0 c1 c2 c3 c4 c5 f P1;go_wp2_with fail;have KW:∀ a1 a2 a3,Kp b w (((w1.setCell ⟨w.heap.size,0,none⟩ a1).setCell ⟨w.heap.size,1,none⟩ a2).setCell ⟨w.heap.size,2,none⟩ a3):=fun a1 a2 a3=>(((K0.out.trans A1.out.1).setN (Nat.le_refl _) _).setN (Nat.le_refl _) _).setN (Nat.le_refl _) _
  refine bodyPost_ret (v:=.agg #[.int .i64 (kd st.t.k:Int),.string (s.extract st.t.a st.t.b),.int .i64 (st.t.a:Int)]) (by simp[results,Tryz.results212,go_sem, *]) rfl ⟨KW _ _ _,Or.inl ⟨_,_,_,rfl,rfl,rfl,?_⟩⟩
  exact ⟨Px.qnn R.out.tk,hk,R.out.gl.keep (KW _ _ _),td,⟨by rw[Ref.qag _ (by omega),Ref.qag _ (by omega),Ref.qag _ (by omega)];exact A1.out.2.h⟩,RA.out.2.keep (KW _ _ _)⟩
open Go.RowKit
theorem zko {x:ByteArray} {k v:Nat} (hx:x.size≤4) (hd:∀ j (hj:j < x.size),Px.qba x[j]=true) (hk:k < x.size) (hv:v=Px.valOf (x.data.toList.take k)):v≤1000:=by
 have h1:=Ref.qou (x.data.toList.take k) 0 (by
  intro c hc;obtain ⟨j,hj,rfl⟩:=List.getElem_of_mem hc;simp only[List.length_take,Array.length_toList] at hj;have h2:=hd j (by show j < x.data.size;omega)
  unfold Px.qba at h2;simp only[Bool.and_eq_true,decide_eq_true_eq] at h2
  simpa using (show x.data[j].toNat≤57 from h2.2))
 have h3:(x.data.toList.take k).length≤3:=by simp;omega
 have h4:10 ^ (x.data.toList.take k).length≤10 ^ 3:=Nat.pow_le_pow_right (by omega) h3
 have h5:v=List.foldl (fun n c=>10 * n+(c.toNat - 48)) 0 (x.data.toList.take k):=hv
 omega
theorem qw6 (x:ByteArray) (w:World) (hx:x.size≤4) (hd:∀ j (hj:j < x.size),Px.qba x[j]=true) :
  Calls Tryz.prog 218 #[.string x] w fun e w'=>e=.returned (.int .i64 (Px.valOf x.toList:Nat))∧w'=w:=by
 have HD:Hid (_):=hd;clear hd;go_enter Tryz.func218,Tryz.ntmps218
 go_wp2;go_loop [3,7] (fun vv vi=>∃ (k v:Nat),k≤x.size∧vi=.int .i64 k∧vv=.int .i64 v∧Hid (v=Px.valOf (x.data.toList.take k))) (fun _ vi=>x.size - (RowKit.intOf vi).toNat)
 case atStart=>exact ⟨0,0,Nat.zero_le _,rfl,rfl,rfl⟩
 case round =>
  obtain ⟨k,v,hk,rfl,rfl,hv⟩:=hrel;by_cases hlt:k < x.size
  ·have hdk:=HD.out k hlt;unfold Px.qba at hdk;simp only[Bool.and_eq_true,decide_eq_true_eq] at hdk;have d1:(48:Int)≤x[k].toNat:=by omega
   have d2:(x[k].toNat:Int)≤57:=by omega
   have hb:v≤1000:=zko hx HD.out hlt hv.out;clear hdk;go_wp2;go_round
   case rel =>
    refine ⟨k+1,10 * v+(x[k].toNat - 48),by omega,by go_num,?_,?_⟩
    ·congr 1;omega
    ·show _=_
     rw[Ref.qu8 x k hlt,Ref.qy4,← hv.out]
   case measure=>simp[RowKit.intOf];omega
  ·obtain rfl:k=x.size:=by omega
   go_wp2;go_ret
   have:Px.valOf x.toList=v:=by rw[hv.out,ByteArray.toList_eq,List.take_of_length_le (by simp)]
   exact ⟨by rw[this];rfl,rfl⟩
open Go.RowKit
theorem qni {α β:Type} {x:α} {y:β} {st:Px.Ps} {p:Nat} (h:fin (.ok (x,st))=.error p):fin (.ok (y,st))=.error p:=by
 unfold fin at h ⊢;simp only at h ⊢;split at h
 ·rename_i h1;rw[if_pos h1];cases h;rfl
 ·cases h
theorem qb3 {α:Type} {x:α} {st:Px.Ps} {p:Nat} (h:fin (.ok (x,st))=.error p):st.t.k=63∧p=st.t.a:=by
 unfold fin at h;simp only at h;split at h
 ·rename_i h1;cases h;exact ⟨h1,rfl⟩
 ·cases h
theorem zhy {k:Nat}:((kd k:Int) != 1)=!(k == 107):=by
 unfold kd;by_cases h:k=107
 ·simp[h]
 ·by_cases h1:k=119
  ·simp[h1]
  ·by_cases h2:k=110
   ·simp[h2]
   ·simp[h,h1,h2]
theorem zql {k:Nat}:((kd k:Int) != 2)=!(k == 119):=by
 unfold kd;by_cases h:k=107
 ·simp[h]
 ·by_cases h1:k=119
  ·simp[h1]
  ·by_cases h2:k=110
   ·simp[h2]
   ·simp[h,h1,h2]
theorem zan {k:Nat}:((kd k:Int) != 3)=!(k == 110):=by
 unfold kd;by_cases h:k=107
 ·simp[h]
 ·by_cases h1:k=119
  ·simp[h1]
  ·by_cases h2:k=110
   ·simp[h2]
   ·simp[h,h1,h2]
theorem Rd.cells {w:World} {b:Nat} {s:ByteArray} {st:Px.Ps} {eT eN:Addr} (r:Rd w b s st eT eN):∃ td,
  w.cell? ⟨b,0,none⟩=some (.string s)∧w.cell? ⟨b,1,none⟩=some (.int .i64 (kd st.t.k:Int))∧w.cell? ⟨b,2,none⟩=some (.string (s.extract st.t.a st.t.b))∧w.cell? ⟨b,3,none⟩=some (.int .i64 (st.t.a:Int)) ∧
  w.cell? ⟨b,4,none⟩=some (.int .i64 st.nest)∧w.cell? ⟨b,5,none⟩=some (.pointer td)∧∀ o,w.frozen? ⟨b,o,none⟩=false:=by
 obtain ⟨td,ra,rd⟩:=r.mem;exact ⟨td,Ref.qb9 ra.h⟩
theorem qpd (b:Nat) (s:ByteArray) (st:Px.Ps) (eT eN:Addr) (w:World) (r:Rd w b s st eT eN) :
  Calls Tryz.prog 75 #[.pointer (some ⟨b,0,none⟩)] w fun e w'=>Thrown w' w.heap.size eT st.t.a e∧Kp b w w':=by
 obtain ⟨td,ra,rd⟩:=r.mem;refine (qra b _ _ _ _ _ st.t.a eT eN w ra.h r.gl).mono ?_;rintro e w' ⟨h1,h2⟩;exact ⟨h1,(Kp.refl _ _).below h2⟩
theorem qek (b:Nat) (s x:ByteArray) (st:Px.Ps) (eT eN:Addr) (w:World) (r:Rd w b s st eT eN) (hs:s.size≤maxLen) (ho:Px.onB s st.t x=true) :
  Calls Tryz.prog 181 #[.pointer (some ⟨b,0,none⟩),.string x] w (Out b s eT eN w (.ok ((),Px.nx s st)) (fun _ _ v=>v=.bool true)):=by
 obtain ⟨td,c0,c1,c2,c3,c4,c5,f⟩:=r.cells;have R:Hid (_):=r;unfold Px.onB at ho;simp only[Bool.and_eq_true] at ho;obtain ⟨h1,h2⟩:=ho;have k1:((kd st.t.k:Int) != 1)=false:=by rw[zhy,h1];rfl
 clear r h1;go_enter Tryz.func181,Tryz.ntmps181
 go_wp2_with fail;refine (qn2 b s st eT eN _ R.out hs).mono ?_;rintro e w1 ⟨k1,⟨t,st1,v,he,rfl,rfl,r1⟩ | ⟨p,hp,ht⟩⟩
 ·cases he;have R1:Hid (_∧_):=⟨k1,r1⟩;clear k1 r1 c0 c1 c2 c3 c4 c5 f;go_wp2_with fail;go_ret;exact ⟨R1.out.1,Or.inl ⟨_,_,_,rfl,rfl,rfl,R1.out.2⟩⟩
 ·obtain ⟨c,rfl⟩:=ht.form;exact ⟨rfl,k1,Or.inr ⟨p,qni hp,ht⟩⟩
theorem qbn (b:Nat) (s x:ByteArray) (st:Px.Ps) (eT eN:Addr) (w:World) (r:Rd w b s st eT eN) (ho:Px.onB s st.t x=false) :
  Calls Tryz.prog 181 #[.pointer (some ⟨b,0,none⟩),.string x] w fun e w'=>e=.returned (.bool false)∧w=w':=by
 obtain ⟨td,c0,c1,c2,c3,c4,c5,f⟩:=r.cells;clear r;unfold Px.onB at ho;cases hk:(st.t.k == 107)
 ·have k1:((kd st.t.k:Int) != 1)=true:=by rw[zhy,hk];rfl
  clear ho hk;go_enter Tryz.func181,Tryz.ntmps181
  go_wp2_with fail;go_ret;exact ⟨rfl,rfl⟩
 ·have k1:((kd st.t.k:Int) != 1)=false:=by rw[zhy,hk];rfl
  rw[hk,Bool.true_and] at ho;clear hk;go_enter Tryz.func181,Tryz.ntmps181
  go_wp2_with fail;go_ret;exact ⟨rfl,rfl⟩
def qcb (s:ByteArray) (x:ByteArray) (st:Px.Ps):Except Nat (Unit×Px.Ps):=if Px.onB s st.t x then .ok ((),Px.nx s st) else .error st.t.a
theorem qge (b:Nat) (s x:ByteArray) (st:Px.Ps) (eT eN:Addr) (w:World) (r:Rd w b s st eT eN) (hs:s.size≤maxLen) :
  Calls Tryz.prog 188 #[.pointer (some ⟨b,0,none⟩),.string x] w (Out b s eT eN w (qcb s x st) (fun _ _ v=>v=.tuple #[])):=by
 have R:Hid (_):=r;clear r;cases ho:Px.onB s st.t x
 ·go_enter Tryz.func188,Tryz.ntmps188
  go_wp2_with fail;refine (qbn b s x st eT eN _ R.out ho).mono ?_;rintro e w1 ⟨rfl,rfl⟩;go_wp2_with fail;refine (qpd b s st eT eN _ R.out).mono ?_;rintro e w1 ⟨ht,k1⟩;obtain ⟨c,rfl⟩:=ht.form;exact ⟨rfl,k1,Or.inr ⟨_,by rw[qcb,if_neg (by simp[ho])];rfl,ht⟩⟩
 ·go_enter Tryz.func188,Tryz.ntmps188
  go_wp2_with fail;refine (qek b s x st eT eN _ R.out hs ho).mono ?_;rintro e w1 ⟨k1,⟨t,st1,v,he,rfl,rfl,r1⟩ | ⟨p,hp,ht⟩⟩
  ·cases he;have R1:Hid (_∧_):=⟨k1,r1⟩;clear k1 r1;go_wp2_with fail;go_end0
   exact ⟨R1.out.1,Or.inl ⟨_,_,_,by rw[qcb,if_pos ho],rfl,rfl,R1.out.2⟩⟩
  ·obtain ⟨c,rfl⟩:=ht.form;exact ⟨rfl,k1,Or.inr ⟨p,by rw[qcb,if_pos ho];exact hp,ht⟩⟩
def qda (s:ByteArray) (k:Nat) (st:Px.Ps):Except Nat (Px.Tok×Px.Ps):=if st.t.k=k then .ok (st.t,Px.nx s st) else .error st.t.a
def SgAt (s:ByteArray) (t:Px.Tok) (v:Value):Prop:=v=.agg #[.int .i64 (kd t.k:Int),.string (s.extract t.a t.b),.int .i64 (t.a:Int)]
theorem qmr (b:Nat) (s:ByteArray) (k kk:Nat) (hkk:(k=119∧kk=2)∨(k=110∧kk=3)) (st:Px.Ps) (eT eN:Addr) (w:World) (r:Rd w b s st eT eN) (hs:s.size≤maxLen) :
  Calls Tryz.prog 217 #[.pointer (some ⟨b,0,none⟩),.int .i64 (kk:Int)] w (Out b s eT eN w (qda s k st) (fun _ t v=>SgAt s t v)):=by
 obtain ⟨td,c0,c1,c2,c3,c4,c5,f⟩:=r.cells;have hb:=r.lt;have R:Hid (_):=r;have hq:((kd st.t.k:Int) != (kk:Int))=!(st.t.k == k):=by
  rcases hkk with ⟨rfl,rfl⟩ | ⟨rfl,rfl⟩
  ·exact zql
  ·exact zan
 clear r hkk;cases ho:(st.t.k == k)
 ·rw[ho] at hq;have ho':¬ st.t.k=k:=by simpa using ho
  go_enter Tryz.func217,Tryz.ntmps217
  go_wp2_with fail;refine (qpd b s st eT eN _ (R.out.alloc _)).mono ?_;rintro e w1 ⟨ht,k1⟩;obtain ⟨c,rfl⟩:=ht.form;exact ⟨rfl,k1.qdo,Or.inr ⟨_,by rw[qda,if_neg ho'];rfl,ht.low (by simp)⟩⟩
 ·rw[ho] at hq;have ho':Hid (st.t.k=k):=(by simpa using ho:st.t.k=k)
  clear ho;go_enter Tryz.func217,Tryz.ntmps217
  go_wp2_with fail;refine (qn2 b s st eT eN _ (R.out.alloc _) hs).mono ?_;rintro e w1 ⟨k1,⟨t,st1,v,he,rfl,rfl,r1⟩ | ⟨p,hp,ht⟩⟩
  ·cases he;have g1:=qgr k1 hb;obtain ⟨d0,d1,d2,df⟩:=cells3 g1;have R1:Hid (_∧_∧_):=⟨k1,r1,g1⟩;clear k1 r1 c0 c1 c2 c3 c4 c5 f g1;go_wp2_with fail;refine bodyPost_ret (v:=.agg #[.int .i64 (kd st.t.k:Int),.string (s.extract st.t.a st.t.b),.int .i64 (st.t.a:Int)]) (by simp[results,Tryz.results217,go_sem, *]) rfl ?_
   have g2:=R1.out.2.2;have g3:=Ref.heap_set (o:=0) (.int .i64 (kd st.t.k:Int)) g2;have g4:=Ref.heap_set (o:=1) (.string (s.extract st.t.a st.t.b)) g3;exact ⟨((R1.out.1.qdo.setN (Nat.le_refl _) _).setN (Nat.le_refl _) _).setN (Nat.le_refl _) _,Or.inl ⟨_,_,_,by rw[qda,if_pos ho'.out],rfl,rfl,((R1.out.2.1.setT g2 (by decide) hb _).setT g3 (by decide) hb _).setT g4 (by decide) hb _⟩⟩
  ·obtain ⟨c,rfl⟩:=ht.form;exact ⟨rfl,k1.qdo,Or.inr ⟨p,by rw[qda,if_pos ho'.out];exact hp,ht.low (by simp)⟩⟩
open Go.RowKit
def VarAt (w:World) (x:ByteArray) (a:Nat) (ok:Nat→Prop) (q:Nat):Prop:=ok q∧w.heap[q]?=some (.cells #[.string x,.int .i64 (a:Int)] 257)
def NumAt (w:World) (n a:Nat) (ok:Nat→Prop) (q:Nat):Prop:=ok q∧w.heap[q]?=some (.cells #[.int .i64 (n:Int),.int .i64 (a:Int)] 299)
theorem new1 {w:World} {o:Obj}:(w.alloc o).heap[w.heap.size]?=some o:=by
 show (w.heap.push o)[w.heap.size]?=_
 rw[Array.getElem?_push,if_pos rfl]
theorem zqc {w:World} {o:Obj} {n:Nat} (h:w.heap.size=n):(w.alloc o).heap[n]?=some o:=by rw[← h];exact new1
theorem new2 {w:World} {o p:Obj}:((w.alloc o).alloc p).heap[w.heap.size+1]?=some p:=Ref.qdu
theorem qh0 (b:Nat) (s:ByteArray) (st:Px.Ps) (eT eN:Addr) (w:World) (r:Rd w b s st eT eN) (hs:s.size≤maxLen) :
  Calls Tryz.prog 215 #[.pointer (some ⟨b,0,none⟩)] w (Out b s eT eN w (qda s 119 st) (fun _ t v=>v=.string (s.extract t.a t.b))):=by
 have R:Hid (_):=r;clear r;go_enter Tryz.func215,Tryz.ntmps215
 go_wp2_with fail;refine (qmr b s 119 2 (Or.inl ⟨rfl,rfl⟩) st eT eN _ R.out hs).mono ?_;rintro e w1 ⟨k1,⟨t,st1,v,he,rfl,hv,r1⟩ | ⟨p,hp,ht⟩⟩
 ·unfold SgAt at hv;subst hv;have R1:Hid (_∧_∧_):=⟨k1,r1,he⟩;clear k1 r1 he;have hfd:∀ W:World,(Instr.field 163 (.agg #[.int .i64 (kd t.k:Int),.string (s.extract t.a t.b),.int .i64 (t.a:Int)]) 1).run Tryz.prog W=.ok (.string (s.extract t.a t.b)) W:=fun _=>by kernel_rfl
  go_wp2_with fail;go_ret;exact ⟨R1.out.1,Or.inl ⟨_,_,_,R1.out.2.2,rfl,rfl,R1.out.2.1⟩⟩
 ·obtain ⟨c,rfl⟩:=ht.form;exact ⟨rfl,k1,Or.inr ⟨p,hp,ht⟩⟩
theorem qce (b:Nat) (s:ByteArray) (st:Px.Ps) (eT eN:Addr) (w:World) (r:Rd w b s st eT eN) (hs:s.size≤maxLen) :
  Calls Tryz.prog 213 #[.pointer (some ⟨b,0,none⟩)] w (Out b s eT eN w (qda s 119 st) (fun w' t v=>∃ q,v=Ref.ptr q∧VarAt w' (s.extract t.a t.b) t.a (Ref.In w w') q)):=by
 have R:Hid (_):=r;clear r;go_enter Tryz.func213,Tryz.ntmps213
 go_wp2_with fail;refine (qmr b s 119 2 (Or.inl ⟨rfl,rfl⟩) st eT eN _ R.out hs).mono ?_;rintro e w1 ⟨k1,⟨t,st1,v,he,rfl,hv,r1⟩ | ⟨p,hp,ht⟩⟩
 ·unfold SgAt at hv;subst hv;have R1:Hid (_∧_∧_):=⟨k1,r1,he⟩;clear k1 r1 he;go_wp2_with fail;go_ret;have z:=R1.out.1.size;exact ⟨(R1.out.1.alloc _).alloc _,Or.inl ⟨_,_,_,R1.out.2.2,rfl,⟨_,rfl,⟨⟨by omega,by simp⟩,new2⟩⟩,(R1.out.2.1.alloc _).alloc _⟩⟩
 ·obtain ⟨c,rfl⟩:=ht.form;exact ⟨rfl,k1,Or.inr ⟨p,hp,ht⟩⟩
theorem qd2 (b:Nat) (s:ByteArray) (st:Px.Ps) (eT eN:Addr) (w:World) (r:Rd w b s st eT eN) (hs:s.size≤maxLen) :
  Calls Tryz.prog 186 #[.pointer (some ⟨b,0,none⟩)] w (Out b s eT eN w (qda s 110 st) (fun w' t v=>∃ q,v=Ref.ptr q∧NumAt w' (Px.valOf (s.extract t.a t.b).toList) t.a (Ref.In w w') q)):=by
 have R:Hid (_):=r;clear r;go_enter Tryz.func186,Tryz.ntmps186
 go_wp2_with fail;refine (qmr b s 110 3 (Or.inr ⟨rfl,rfl⟩) st eT eN _ R.out hs).mono ?_;rintro e w1 ⟨k1,⟨t,st1,v,he,rfl,hv,r1⟩ | ⟨p,hp,ht⟩⟩
 ·unfold SgAt at hv;subst hv;have hT:t=st.t∧st.t.k=110:=by
   unfold qda at he;split at he
   ·rename_i hk;cases he;exact ⟨rfl,hk⟩
   ·cases he
  obtain ⟨rfl,hk⟩:=hT;obtain ⟨hn1,hn2⟩:=R.out.tk.num hk;have hlt:=R.out.tk.lt (by omega) (by omega)
  have hle:=R.out.tk.le;have hx:(s.extract st.t.a st.t.b).size≤4:=by simp;omega
  have HX:Hid (∀ j (hj:j < (s.extract st.t.a st.t.b).size),Px.qba (s.extract st.t.a st.t.b)[j]=true):=fun j hj=>by
   rw[ByteArray.getElem_extract];simp only[ByteArray.size_extract] at hj;exact hn2 _ (by omega) (by omega) (by omega)
  have R1:Hid (_∧_∧_):=⟨k1,r1,he⟩;clear k1 r1 he hn1 hn2 hlt hle hk;go_wp2_with fail;go_region_with (go_at_call 218;refine (qw6 _ _ hx HX.out).mono ?_;rintro e w2 ⟨rfl,rfl⟩)
  all_goals
   go_wp2_with fail;go_ret;have z:=R1.out.1.size;refine ⟨((R1.out.1.alloc _).alloc _).drew,Or.inl ⟨_,_,_,R1.out.2.2,rfl,⟨_,rfl,⟨⟨by omega,by simp⟩,?_⟩⟩,((R1.out.2.1.alloc _).alloc _).drew⟩⟩
   exact new2
 ·obtain ⟨c,rfl⟩:=ht.form;exact ⟨rfl,k1,Or.inr ⟨p,hp,ht⟩⟩
theorem zim {α β:Type} {x:α} {y:β} {st st':Px.Ps} {p:Nat} (h:fin (.ok (x,st))=.error p) (ht:st'.t=st.t):fin (.ok (y,st'))=.error p:=by
 obtain ⟨h1,h2⟩:=qb3 h;unfold fin;simp only;rw[ht,if_pos h1,h2]
def qs6 (s:ByteArray) (x:ByteArray) (st:Px.Ps):Except Nat (Unit×Px.Ps):=if Px.onB s st.t x then .ok ((),Px.nx s (Px.dn st)) else .error st.t.a
def qsl (s:ByteArray) (x:ByteArray) (st:Px.Ps):Except Nat (Unit×Px.Ps):=if Px.onB s st.t x then .ok ((),Px.upp (Px.nx s st)) else .error st.t.a
theorem Rd.with {w w':World} {b:Nat} {s:ByteArray} {st st':Px.Ps} {eT eN:Addr} {td:Option Addr} (r:Rd w b s st eT eN) (k:Kp b w w') (ht:st'.t=st.t) (ha:RdAt w' b s st.t st'.nest td) (hd:DeepAt w' b eN st'.deep td):Rd w' b s st' eT eN :=
 ⟨by rw[ht];exact r.tk,by rw[ht];exact r.k63,r.gl.keep k,td,by rw[ht];exact ha,hd⟩
theorem qz7 (b:Nat) (s x:ByteArray) (st:Px.Ps) (eT eN:Addr) (w:World) (r:Rd w b s st eT eN) (hs:s.size≤maxLen) (hn0:0≤st.nest) (hn1:st.nest≤1000000) :
  Calls Tryz.prog 219 #[.pointer (some ⟨b,0,none⟩),.string x] w (Out b s eT eN w (qs6 s x st) (fun _ _ v=>v=.tuple #[])):=by
 obtain ⟨td,c0,c1,c2,c3,c4,c5,f⟩:=r.cells;have R:Hid (_):=r;clear r;go_enter Tryz.func219,Tryz.ntmps219
 go_wp2_with fail;refine (qge b s x st eT eN _ R.out hs).mono ?_;rintro e w1 ⟨k1,⟨t,st1,v,he,rfl,rfl,r1⟩ | ⟨p,hp,ht⟩⟩
 ·clear c0 c1 c2 c3 c4 c5 f;obtain ⟨td1,ra,rd⟩:=r1.mem;obtain ⟨c0,c1,c2,c3,c4,c5,f⟩:=Ref.qb9 ra.h;have ho:Px.onB s st.t x=true∧st1=Px.nx s st:=by
   unfold qcb at he;split at he
   ·rename_i ho;cases he;exact ⟨ho,rfl⟩
   ·cases he
  obtain ⟨ho,rfl⟩:=ho;have e1:qs6 s x st=.ok ((),Px.nx s (Px.dn st)):=by rw[qs6,if_pos ho]
  have gn:=r1.gl.n;have hb1:=r1.lt;have hnest:(Px.nx s st).nest=st.nest:=rfl;have hdeep:(Px.nx s st).deep=st.deep:=rfl;rw[hnest] at c4;rw[hdeep] at rd;have R1:Hid (Kp b w w1∧Rd w1 b s (Px.nx s st) eT eN∧RdAt w1 b s (Px.nx s st).t (Px.nx s st).nest td1∧qs6 s x st=.ok ((),Px.nx s (Px.dn st))):=⟨k1,r1,ra,e1⟩;clear k1 r1 ra he ho e1;by_cases h4:4≤st.nest
  ·rcases rd with ⟨d1,rfl⟩ | ⟨d1,ff,rfl,d3,d4⟩
   ·go_wp2_with fail;go_end0
    have hz:((w1.setCell ⟨b,4,none⟩ (.int .i64 (st.nest+1))).setCell ⟨b,5,none⟩ (.pointer (some ⟨w1.heap.size,0,none⟩))).heap.size=w1.heap.size:=by simp[World.setCell]
    refine ⟨((R1.out.1.setB _).setB _).alloc _,Or.inl ⟨_,_,_,R1.out.2.2.2,rfl,rfl,R1.out.2.1.with (td:=some ⟨w1.heap.size,0,none⟩) ((((Kp.refl _ _).setB _).setB _).alloc _) rfl ⟨?_⟩ ?_⟩⟩
    ·rw[Below.heap_alloc _ _ _ (by rw[hz];exact hb1),Ref.heap_set _ (Ref.heap_set _ R1.out.2.2.1.h)];simp;rfl
    ·refine Or.inr ⟨?_,w1.heap.size,rfl,by omega,?_⟩
     ·show 0≤Px.qdg st.nest st.deep st.t.a
      unfold Px.qdg;rw[if_pos ⟨h4,d1⟩];omega
     ·show (World.alloc _ _).heap[w1.heap.size]?=some (Obj.cells #[.int .i64 (Px.qdg st.nest st.deep st.t.a),_] _)
      unfold Px.qdg;rw[if_pos ⟨h4,d1⟩];exact zqc hz
   ·have D4:Hid (_):=d4;clear d4;go_wp2_with fail;go_end0
    refine ⟨R1.out.1.setB _,Or.inl ⟨_,_,_,R1.out.2.2.2,rfl,rfl,R1.out.2.1.with (td:=some ⟨ff,0,none⟩) ((Kp.refl _ _).setB _) rfl ⟨?_⟩ (DeepAt.keep ?_ ((Kp.refl _ _).setB _))⟩⟩
    ·rw[Ref.heap_set _ R1.out.2.2.1.h];simp;rfl
    ·refine Or.inr ⟨?_,ff,rfl,d3,?_⟩
     ·show 0≤Px.qdg st.nest st.deep st.t.a
      unfold Px.qdg;rw[if_neg (by omega)];exact d1
     ·show _=some (Obj.cells #[.int .i64 (Px.qdg st.nest st.deep st.t.a),_] _)
      unfold Px.qdg;rw[if_neg (by omega)];exact D4.out
  ·have RD:Hid (_):=rd;clear rd;go_wp2_with fail;go_end0
   refine ⟨R1.out.1.setB _,Or.inl ⟨_,_,_,R1.out.2.2.2,rfl,rfl,R1.out.2.1.with (td:=td1) ((Kp.refl _ _).setB _) rfl ⟨?_⟩ (DeepAt.keep ?_ ((Kp.refl _ _).setB _))⟩⟩
   ·rw[Ref.heap_set _ R1.out.2.2.1.h];simp;rfl
   ·show DeepAt w1 b eN (Px.qdg st.nest st.deep st.t.a) td1
    unfold Px.qdg;rw[if_neg (by omega)];exact RD.out
 ·obtain ⟨c,rfl⟩:=ht.form;refine ⟨rfl,k1,Or.inr ⟨p,?_,ht⟩⟩;unfold qcb at hp;unfold qs6;split at hp
  ·rename_i ho;rw[if_pos ho];exact zim hp rfl
  ·rename_i ho;rw[if_neg ho];exact hp
theorem qzp (b:Nat) (s x:ByteArray) (st:Px.Ps) (eT eN:Addr) (w:World) (r:Rd w b s st eT eN) (hs:s.size≤maxLen) (hn0:0≤st.nest) (hn1:st.nest≤2000000) :
  Calls Tryz.prog 220 #[.pointer (some ⟨b,0,none⟩),.string x] w (Out b s eT eN w (qsl s x st) (fun _ _ v=>v=.tuple #[])):=by
 have R:Hid (_):=r;clear r;go_enter Tryz.func220,Tryz.ntmps220
 go_wp2_with fail;refine (qge b s x st eT eN _ R.out hs).mono ?_;rintro e w1 ⟨k1,⟨t,st1,v,he,rfl,rfl,r1⟩ | ⟨p,hp,ht⟩⟩
 ·obtain ⟨td1,ra,rd⟩:=r1.mem;obtain ⟨c0,c1,c2,c3,c4,c5,f⟩:=Ref.qb9 ra.h;have ho:Px.onB s st.t x=true∧st1=Px.nx s st:=by
   unfold qcb at he;split at he
   ·rename_i ho;cases he;exact ⟨ho,rfl⟩
   ·cases he
  obtain ⟨ho,rfl⟩:=ho;have e1:qsl s x st=.ok ((),Px.upp (Px.nx s st)):=by rw[qsl,if_pos ho]
  have hnest:(Px.nx s st).nest=st.nest:=rfl;rw[hnest] at c4;have R1:Hid (Kp b w w1∧Rd w1 b s (Px.nx s st) eT eN∧RdAt w1 b s (Px.nx s st).t (Px.nx s st).nest td1∧DeepAt w1 b eN (Px.nx s st).deep td1∧qsl s x st=.ok ((),Px.upp (Px.nx s st))):=⟨k1,r1,ra,rd,e1⟩;clear k1 r1 ra rd he ho e1;go_wp2_with fail;go_end0
  refine ⟨R1.out.1.setB _,Or.inl ⟨_,_,_,R1.out.2.2.2.2,rfl,rfl,R1.out.2.1.with (td:=td1) ((Kp.refl _ _).setB _) rfl ⟨?_⟩ (DeepAt.keep R1.out.2.2.2.1 ((Kp.refl _ _).setB _))⟩⟩
  rw[Ref.heap_set _ R1.out.2.2.1.h];simp;rfl
 ·obtain ⟨c,rfl⟩:=ht.form;refine ⟨rfl,k1,Or.inr ⟨p,?_,ht⟩⟩;unfold qcb at hp;unfold qsl;split at hp
  ·rename_i ho;rw[if_pos ho];exact zim hp rfl
  ·rename_i ho;rw[if_neg ho];exact hp
open Go.RowKit
def opsA:Array Value:=opsC.toArray
def tx:Nat→ByteArray
 | 0=>⟨#[43]⟩ | 1=>⟨#[45]⟩ | 2=>⟨#[42]⟩ | 3=>⟨#[47]⟩ | 4=>⟨#[60]⟩ | 5=>⟨#[61]⟩ | _=>⟨#[35]⟩
def lv:Nat→Int
 | 0=>1 | 1=>1 | 2=>2 | 3=>2 | _=>0
def tkk:Nat→Int
 | 5=>0 | 6=>0 | _=>1
def mkk:Nat→Int
 | 0=>1 | 1=>1 | 2=>1 | 3=>1 | _=>2
theorem zsu (W:World):(Instr.index 355 (.agg opsA) (.int .i64 0)).run Tryz.prog W=.ok (.agg #[.string (tx 0),.int .i64 (lv 0),.int .i64 (tkk 0),.int .i64 (mkk 0)]) W:=by kernel_rfl
theorem zst (W:World):(Instr.index 355 (.agg opsA) (.int .i64 1)).run Tryz.prog W=.ok (.agg #[.string (tx 1),.int .i64 (lv 1),.int .i64 (tkk 1),.int .i64 (mkk 1)]) W:=by kernel_rfl
theorem zss (W:World):(Instr.index 355 (.agg opsA) (.int .i64 2)).run Tryz.prog W=.ok (.agg #[.string (tx 2),.int .i64 (lv 2),.int .i64 (tkk 2),.int .i64 (mkk 2)]) W:=by kernel_rfl
theorem zsr (W:World):(Instr.index 355 (.agg opsA) (.int .i64 3)).run Tryz.prog W=.ok (.agg #[.string (tx 3),.int .i64 (lv 3),.int .i64 (tkk 3),.int .i64 (mkk 3)]) W:=by kernel_rfl
theorem zsq (W:World):(Instr.index 355 (.agg opsA) (.int .i64 4)).run Tryz.prog W=.ok (.agg #[.string (tx 4),.int .i64 (lv 4),.int .i64 (tkk 4),.int .i64 (mkk 4)]) W:=by kernel_rfl
theorem zsp (W:World):(Instr.index 355 (.agg opsA) (.int .i64 5)).run Tryz.prog W=.ok (.agg #[.string (tx 5),.int .i64 (lv 5),.int .i64 (tkk 5),.int .i64 (mkk 5)]) W:=by kernel_rfl
theorem zso (W:World):(Instr.index 355 (.agg opsA) (.int .i64 6)).run Tryz.prog W=.ok (.agg #[.string (tx 6),.int .i64 (lv 6),.int .i64 (tkk 6),.int .i64 (mkk 6)]) W:=by kernel_rfl
theorem zgu (i:Nat) (hi:i < 7) (W:World):(Instr.index 355 (.agg opsA) (.int .i64 (i:Int))).run Tryz.prog W=.ok (.agg #[.string (tx i),.int .i64 (lv i),.int .i64 (tkk i),.int .i64 (mkk i)]) W:=by
 have h:i=0∨i=1∨i=2∨i=3∨i=4∨i=5∨i=6:=by omega
 rcases h with rfl | rfl | rfl | rfl | rfl | rfl | rfl
 ·exact zsu W
 ·exact zst W
 ·exact zss W
 ·exact zsr W
 ·exact zsq W
 ·exact zsp W
 ·exact zso W
theorem Gl.range {w:World} {b:Nat} {eT eN:Addr} (g:Gl w b eT eN):w.rangeAt 18 0 opsC:=fun j v hv=>by
 obtain ⟨h1,h2⟩:=List.getElem?_eq_some_iff.1 hv;rw[Nat.zero_add,← h2];exact g.ops j h1
theorem zkk {Q:Exit→Act→World→Prop} {ops:Array Oper} {rest:List Oper} {op:Oper} {a:Act} {w:World} {b:Nat} {eT eN:Addr} (g:Gl w b eT eN) (hgd:op.guard=none) (x:Operand) (ho:op.op=.load 355 x)
  (hx:a.eval x=.pointer (some ⟨18,0,none⟩)) (h:wpList Tryz.prog ops Q rest (a.put op.dst (.agg opsA)) w):wpList Tryz.prog ops Q (op::rest) a w :=
 wpList_load_mid hgd _ x ho _ 0 hx opsC (.array 7 354) g.range (by kernel_rfl) rfl (by kernel_rfl) h
def qb6 (s:ByteArray) (t:Px.Tok) (l:Int):Nat→Nat→Option Nat
 | 0,_=>none
 | n+1,i=>if lv i=l∧Px.onB s t (tx i)=true then some i else qb6 s t l n (i+1)
def opU (s:ByteArray) (l:Int) (st:Px.Ps):Except Nat (Option Nat×Px.Ps) :=
 match qb6 s st.t l 7 0 with
 | some i=>.ok (some i,Px.nx s st)
 | none=>.ok (none,st)
theorem qjb (b:Nat) (s:ByteArray) (l:Int) (st:Px.Ps) (eT eN:Addr) (w:World) (r:Rd w b s st eT eN) (hs:s.size≤maxLen) :
  Calls Tryz.prog 233 #[.pointer (some ⟨b,0,none⟩),.int .i64 l] w
   (Out b s eT eN w (opU s l st) (fun _ o v=>v=.tuple #[.int .i64 (o.getD 0:Nat),.int .i64 (st.t.a:Int),.bool o.isSome])):=by
 obtain ⟨td,c0,c1,c2,c3,c4,c5,f⟩:=r.cells;have hb:=r.lt;have R:Hid (_):=r;clear r;go_enter Tryz.func233,Tryz.ntmps233
 go_upto_region 2 with fail
 refine wp_region_lit (zkk R.out.gl rfl _ rfl rfl ?_);go_wp2_with fail;clear c0 c1 c2 c3 c4 c5 f;go_loopw [16] (fun vi wr=>∃ i:Nat,vi=.int .i64 i∧i≤7∧Hid (Kp b w wr∧Rd wr b s st eT eN∧qb6 s st.t l 7 0=qb6 s st.t l (7 - i) i)) (fun vi _=>7 - (intOf vi).toNat)
 case atStart=>exact ⟨0,rfl,by omega,Kp.refl _ _,R.out,rfl⟩
 case round =>
  obtain ⟨i,rfl,hi,HR⟩:=hrel;by_cases hlt:i < 7
  ·have hix:=zgu i hlt;by_cases hl:lv i=l
   ·subst hl;cases ho:Px.onB s st.t (tx i)
    ·have hnext:Hid (qb6 s st.t (lv i) 7 0=qb6 s st.t (lv i) (7 - (i+1)) (i+1)):=HR.out.2.2.trans (by rw[show 7 - i=(7 - (i+1))+1 by omega,qb6,if_neg (by simp[ho])])
     go_wp2_with fail;refine (qbn b s (tx i) st eT eN _ (HR.out.2.1.alloc _) ho).mono ?_;rintro e w1 ⟨rfl,rfl⟩;go_wp2_with fail;exact ⟨⟨i+1,by go_num,by omega,HR.out.1.alloc _,HR.out.2.1.alloc _,hnext.out⟩,by simp[intOf];omega⟩
    ·have hfound:Hid (opU s (lv i) st=.ok (some i,Px.nx s st)):=by
      unfold Hid opU;rw[HR.out.2.2,show 7 - i=(7 - (i+1))+1 by omega,qb6,if_pos ⟨rfl,ho⟩]
     go_wp2_with fail;refine (qek b s (tx i) st eT eN _ (HR.out.2.1.alloc _) hs ho).mono ?_;rintro e w1 ⟨k1,⟨t,st1,v,he,rfl,rfl,r1⟩ | ⟨p,hp,ht⟩⟩
     ·cases he;have R1:Hid (_∧_):=⟨k1,r1⟩;clear k1 r1;go_wp2_with fail;go_ret3
      exact ⟨HR.out.1.trans R1.out.1.qdo,Or.inl ⟨_,_,_,hfound.out,rfl,rfl,R1.out.2⟩⟩
     ·obtain ⟨c,rfl⟩:=ht.form;exact ⟨rfl,HR.out.1.trans k1.qdo,Or.inr ⟨p,by rw[hfound.out];exact qni hp,ht.low (by have:=HR.out.1.size;simp;omega)⟩⟩
   ·have hl':(lv i == l)=false:=by simpa using hl
    have hnext:Hid (qb6 s st.t l 7 0=qb6 s st.t l (7 - (i+1)) (i+1)):=HR.out.2.2.trans (by rw[show 7 - i=(7 - (i+1))+1 by omega,qb6,if_neg (by simp[hl])])
    clear hl;go_wp2_with fail;exact ⟨⟨i+1,by go_num,by omega,HR.out.1.alloc _,HR.out.2.1.alloc _,hnext.out⟩,by simp[intOf];omega⟩
  ·obtain rfl:i=7:=by omega
   have hnone:Hid (opU s l st=.ok (none,st)):=by
    unfold Hid opU;rw[HR.out.2.2];rfl
   go_wp2_with fail;go_ret3
   exact ⟨HR.out.1,Or.inl ⟨_,_,_,hnone.out,rfl,rfl,HR.out.2.1⟩⟩
theorem zwo (s:ByteArray) (st:Px.Ps):qb6 s st.t 1 7 0=if Px.onB s st.t ⟨#[43]⟩=true then some 0 else if Px.onB s st.t ⟨#[45]⟩=true then some 1 else none:=by
 simp[qb6,lv,tx]
theorem zsv (s:ByteArray) (st:Px.Ps):qb6 s st.t 2 7 0=if Px.onB s st.t ⟨#[42]⟩=true then some 2 else if Px.onB s st.t ⟨#[47]⟩=true then some 3 else none:=by
 simp[qb6,lv,tx]
theorem zqb (s:ByteArray) (st:Px.Ps):qb6 s st.t 0 7 0=if Px.onB s st.t ⟨#[60]⟩=true then some 4 else if Px.onB s st.t ⟨#[61]⟩=true then some 5 else if Px.onB s st.t ⟨#[35]⟩=true then some 6 else none:=by
 simp[qb6,lv,tx]
open Go.RowKit
def opIx (o:Nat):Nat:=if o=43 then 0 else if o=45 then 1 else if o=42 then 2 else if o=47 then 3 else if o=60 then 4 else if o=61 then 5 else 6
def XAt (w:World):Px.Ex→(Nat→Prop)→Value→Prop
 | ⟨op,n,word,_,own,none,none⟩,ok,v=>∃ q,ok q ∧
   ((op=110∧v=.iface 290 (Ref.ptr q)∧w.heap[q]?=some (.cells #[.int .i64 (n:Int),.int .i64 (own:Int)] 299)) ∨
    (op=119∧v=.iface 249 (Ref.ptr q)∧w.heap[q]?=some (.cells #[.string word,.int .i64 (own:Int)] 257)) ∨
    (op=116∧v=.iface 300 (Ref.ptr q)∧w.heap[q]?=some (.cells #[.bool (n == 1)] 302)))
 | ⟨op,_,_,_,own,some l,none⟩,ok,v=>op=33∧∃ q tl ql,ok q∧v=.iface 303 (Ref.ptr q)∧w.heap[q]?=some (.cells #[.iface tl (Ref.ptr ql),.int .i64 (own:Int)] 305)∧XAt w l ok (.iface tl (Ref.ptr ql))
 | ⟨op,_,_,_,own,some l,some r⟩,ok,v=>∃ q tl ql tr qr,ok q∧v=.iface 306 (Ref.ptr q)∧w.heap[q]?=some (.cells #[.int .i64 (opIx op:Int),.iface tl (Ref.ptr ql),.iface tr (Ref.ptr qr),.int .i64 (own:Int)] 309)∧XAt w l ok (.iface tl (Ref.ptr ql))∧XAt w r ok (.iface tr (Ref.ptr qr))
 | ⟨_,_,_,_,_,none,some _⟩,_,_=>False
theorem XAt.form {w:World} {x:Px.Ex} {ok:Nat→Prop} {v:Value} (h:XAt w x ok v):∃ t q,v=.iface t (Ref.ptr q):=by
 match x with
 | ⟨op,n,word,pl,own,none,none⟩ =>
  obtain ⟨q,h1,⟨h2,h3,h4⟩ | ⟨h2,h3,h4⟩ | ⟨h2,h3,h4⟩⟩:=h<;>exact ⟨_,q,h3⟩
 | ⟨op,n,word,pl,own,some l,none⟩=>obtain ⟨h0,q,tl,ql,h1,h2,h3⟩:=h;exact ⟨_,q,h2⟩
 | ⟨op,n,word,pl,own,some l,some r⟩=>obtain ⟨q,tl,ql,tr,qr,h1,h2,h3⟩:=h;exact ⟨_,q,h2⟩
 | ⟨_,_,_,_,_,none,some _⟩=>exact h.elim
theorem XAt.mono {w:World} {x:Px.Ex} {ok ok':Nat→Prop} {v:Value} (h:XAt w x ok v) (hk:∀ k,ok k→ok' k):XAt w x ok' v:=by
 match x with
 | ⟨op,n,word,pl,own,none,none⟩=>obtain ⟨q,h1,h2⟩:=h;exact ⟨q,hk _ h1,h2⟩
 | ⟨op,n,word,pl,own,some l,none⟩=>obtain ⟨h0,q,tl,ql,h1,h2,h3,h4⟩:=h;exact ⟨h0,q,tl,ql,hk _ h1,h2,h3,h4.mono hk⟩
 | ⟨op,n,word,pl,own,some l,some r⟩=>obtain ⟨q,tl,ql,tr,qr,h1,h2,h3,h4,h5⟩:=h;exact ⟨q,tl,ql,tr,qr,hk _ h1,h2,h3,h4.mono hk,h5.mono hk⟩
 | ⟨_,_,_,_,_,none,some _⟩=>exact h.elim
theorem XAt.keep {w w':World} {x:Px.Ex} {ok:Nat→Prop} {v:Value} (h:XAt w x ok v) (hk:∀ k,ok k→w'.heap[k]?=w.heap[k]?):XAt w' x ok v:=by
 match x with
 | ⟨op,n,word,pl,own,none,none⟩=>obtain ⟨q,h1,h2⟩:=h;exact ⟨q,h1,by rw[hk _ h1];exact h2⟩
 | ⟨op,n,word,pl,own,some l,none⟩=>obtain ⟨h0,q,tl,ql,h1,h2,h3,h4⟩:=h;exact ⟨h0,q,tl,ql,h1,h2,by rw[hk _ h1];exact h3,h4.keep hk⟩
 | ⟨op,n,word,pl,own,some l,some r⟩=>obtain ⟨q,tl,ql,tr,qr,h1,h2,h3,h4,h5⟩:=h;exact ⟨q,tl,ql,tr,qr,h1,h2,by rw[hk _ h1];exact h3,h4.keep hk,h5.keep hk⟩
 | ⟨_,_,_,_,_,none,some _⟩=>exact h.elim
theorem XAt.place {w:World} {x:Px.Ex} {ok:Nat→Prop} {v:Value} (h:XAt w x ok v) (a:Nat):XAt w { x with pl:=a } ok v:=by
 match x with
 | ⟨op,n,word,pl,own,none,none⟩=>exact h
 | ⟨op,n,word,pl,own,some l,none⟩=>exact h
 | ⟨op,n,word,pl,own,some l,some r⟩=>exact h
 | ⟨_,_,_,_,_,none,some _⟩=>exact h.elim
theorem XAt.kp {b:Nat} {w w1 w2:World} {x:Px.Ex} {v:Value} (h:XAt w1 x (Ref.In w w1) v) (hb:b < w.heap.size) (k:Kp b w1 w2):XAt w2 x (Ref.In w w2) v :=
 (h.keep fun i hi=>k.block i hi.2 (by have:=hi.1;omega)).mono fun i hi=>⟨hi.1,Nat.lt_of_lt_of_le hi.2 k.size⟩
theorem XAt.pair {w wr w3:World} {x y:Px.Ex} {tl ql tr qr o pl own:Nat} {b:Nat} (hb:b < w.heap.size) (hx:XAt wr x (Ref.In w wr) (.iface tl (Ref.ptr ql))) (k:Kp b wr w3) (h1:Kp b w wr) (hy:XAt w3 y (Ref.In wr w3) (.iface tr (Ref.ptr qr))) :
  XAt (w3.alloc (.cells #[.int .i64 (opIx o:Int),.iface tl (Ref.ptr ql),.iface tr (Ref.ptr qr),.int .i64 (own:Int)] 309)) ⟨o,0,Px.nowt,pl,own,some x,some y⟩ (Ref.In w (w3.alloc (.cells #[.int .i64 (opIx o:Int),.iface tl (Ref.ptr ql),.iface tr (Ref.ptr qr),.int .i64 (own:Int)] 309))) (.iface 306 (Ref.ptr w3.heap.size)):=by
 have s1:=h1.size;have s2:=k.size;refine ⟨w3.heap.size,tl,ql,tr,qr,⟨by omega,by simp⟩,rfl,new1,?_,?_⟩
 ·exact (hx.kp hb k).kp hb ((Kp.refl b w3).alloc _)
 ·exact ((hy.keep fun i hi=>Below.heap_alloc _ _ _ hi.2).mono fun i hi=>⟨by have:=hi.1;omega,by have:=hi.2;simp;omega⟩)
def rdM (s:ByteArray) (b:Nat) (w:World):Nat :=
 match w.heap[b]? with
 | some (Obj.cells c _ _)=>(match c[3]? with
  | some (Value.int _ a)=>s.size+1 - a.toNat
  | _=>0)
 | _=>0
theorem qvo {w:World} {b:Nat} {s:ByteArray} {st:Px.Ps} {eT eN:Addr} (r:Rd w b s st eT eN):rdM s b w=s.size+1 - st.t.a:=by
 obtain ⟨td,ra,_⟩:=r.mem;simp[rdM,ra.h]
theorem qee {s:ByteArray} {t:Px.Tok} (h:t.k=63) (x:ByteArray):Px.onB s t x=false:=by
 unfold Px.onB;rw[h];rfl
theorem qdf {α:Type} {r:Except Nat (α×Px.Ps)} {p:Nat} (h:fin r=.error p):r=.error p∨∃ x st,r=.ok (x,st)∧st.t.k=63∧p=st.t.a:=by
 cases r with
 | error q=>left;exact h
 | ok y =>
  obtain ⟨x,st⟩:=y;obtain ⟨h1,h2⟩:=qb3 h;exact Or.inr ⟨x,st,rfl,h1,h2⟩
theorem qbt {α:Type} (x:α) {st:Px.Ps} (h:st.t.k=63):fin (.ok (x,st))=.error st.t.a:=by
 unfold fin;simp only;rw[if_pos h]
def Late {α:Type} (g:Px.Ps→Except Nat (α×Px.Ps)):Prop:=∀ st,st.t.k=63→fin (g st)=.error st.t.a
theorem zds (s:ByteArray) (g:Px.Ps→Except Nat (Px.Ex×Px.Ps)) (a b:UInt8) (m pl:Nat) (e:Px.Ex) (st:Px.Ps) (h:st.t.k=63):fin (Px.chain s g a b m pl e st)=.error st.t.a:=by
 cases m with
 | zero=>rfl
 | succ m=>rw[Px.chain,if_neg (by simp[qee h]),if_neg (by simp[qee h])];exact qbt _ h
theorem qgt {s:ByteArray} {g:Px.Ps→Except Nat (Px.Ex×Px.Ps)} {a b:UInt8} {m pl:Nat} {f:Px.Ex→Px.Ex} {r:Except Nat (Px.Ex×Px.Ps)} {p:Nat} (h:fin r=.error p) :
  fin (match r with
   | .error p=>.error p
   | .ok (k,st')=>Px.chain s g a b m pl (f k) st')=.error p:=by
 rcases qdf h with rfl | ⟨x,st,rfl,h1,rfl⟩
 ·rfl
 ·exact zds s g a b m pl _ st h1
theorem qsq (s:ByteArray) {g:Px.Ps→Except Nat (Px.Ex×Px.Ps)} (hg:Late g) (a b:UInt8):Late (Px.row s g a b):=by
 intro st h
 have:=hg st h
 unfold Px.row;exact qgt (f:=id) this
theorem qzj (s:ByteArray) {g:Px.Ps→Except Nat (Px.Ex×Px.Ps)} (hg:Late g):Late (Px.sum s g):=qsq s (qsq s hg _ _) _ _
theorem zqv {s:ByteArray} {t:Px.Tok} (h:t.k=63):Px.qec s t=none:=by
 unfold Px.qec;rw[qee h,qee h,qee h];rfl
theorem qwh (s:ByteArray) {g:Px.Ps→Except Nat (Px.Ex×Px.Ps)} (hg:Late g):Late (Px.expr s g):=by
 intro st h
 have:=qzj s hg st h
 unfold Px.expr;rcases qdf this with h1 | ⟨x,st1,h1,h2,h3⟩
 ·rw[h1];rfl
 ·rw[h1];simp only;rw[zqv h2];simp only;rw[h3];exact qbt _ h2
theorem qjt (s:ByteArray) (n:Nat):Late (Px.atom s n):=by
 intro st h;cases n with
 | zero=>rfl
 | succ n =>
  rw[Px.atom,if_neg (by omega),if_neg (by omega),if_neg (by simp[qee h]),if_neg (by simp[qee h]),if_neg (by simp[qee h]),if_neg (by simp[qee h])]
  rfl
theorem qkv (s:ByteArray):Late (Px.qa4 s):=qwh s (qjt s _)
open Go.RowKit
def XV (w:World):World→Px.Ex→Value→Prop:=fun w' x v=>XAt w' x (Ref.In w w') v
def qnq (b:Nat) (s:ByteArray) (n:Nat) (eT eN:Addr) (F:Nat) (g:Px.Ps→Except Nat (Px.Ex×Px.Ps)):Prop :=
 ∀ (st:Px.Ps) (w:World),Ref.Dom s n st→Rd w b s st eT eN→Calls Tryz.prog F #[.pointer (some ⟨b,0,none⟩)] w (Out b s eT eN w (g st) (XV w))
def zkj (b:Nat) (s:ByteArray) (n:Nat) (eT eN:Addr) (g:Px.Ps→Except Nat (Px.Ex×Px.Ps)) (oa ob:UInt8) (pl:Nat) (R:Except Nat (Px.Ex×Px.Ps)) (w wr:World) (v:Value):Prop :=
 Kp b w wr∧∃ x st m,XAt wr x (Ref.In w wr) v∧Rd wr b s st eT eN∧Ref.Dom s n st∧Px.chain s g oa ob m pl x st=R∧s.size - st.t.a < m
theorem qtx {s:ByteArray} {g:Px.Ps→Except Nat (Px.Ex×Px.Ps)} {oa ob:UInt8} {l:Int} (hop:∀ st:Px.Ps,qb6 s st.t l 7 0=if Px.onB s st.t ⟨#[oa]⟩=true then some (opIx oa.toNat) else if Px.onB s st.t ⟨#[ob]⟩=true then some (opIx ob.toNat) else none)
  {st:Px.Ps} {i m pl:Nat} {x:Px.Ex} (h:qb6 s st.t l 7 0=some i):st.t.k=107∧∃ o:Nat,i=opIx o∧Px.chain s g oa ob (m+1) pl x st=(match g (Px.nx s st) with
   | .error p=>.error p
   | .ok (k,st')=>Px.chain s g oa ob m pl ⟨o,0,Px.nowt,pl,st.t.a,some x,some k⟩ st'):=by
 rw[hop] at h;split at h
 ·rename_i h1;cases h;refine ⟨Px.qjc h1,oa.toNat,rfl,?_⟩;rw[Px.chain,if_pos h1];cases g (Px.nx s st)<;>rfl
 ·split at h
  ·rename_i h1 h2;cases h;refine ⟨Px.qjc h2,ob.toNat,rfl,?_⟩;rw[Px.chain,if_neg h1,if_pos h2];cases g (Px.nx s st)<;>rfl
  ·cases h
theorem zjf {s:ByteArray} {g:Px.Ps→Except Nat (Px.Ex×Px.Ps)} {oa ob:UInt8} {l:Int} (hop:∀ st:Px.Ps,qb6 s st.t l 7 0=if Px.onB s st.t ⟨#[oa]⟩=true then some (opIx oa.toNat) else if Px.onB s st.t ⟨#[ob]⟩=true then some (opIx ob.toNat) else none)
  {st:Px.Ps} {m pl:Nat} {x:Px.Ex} (h:qb6 s st.t l 7 0=none):Px.chain s g oa ob (m+1) pl x st=.ok (x,st):=by
 rw[hop] at h;split at h
 ·cases h
 ·split at h
  ·cases h
  ·rename_i h1 h2;rw[Px.chain,if_neg h1,if_neg h2]
theorem zje {b:Nat} {s:ByteArray} {n:Nat} {eT eN:Addr} {g:Px.Ps→Except Nat (Px.Ex×Px.Ps)} {oa ob:UInt8} {pl:Nat} {R:Except Nat (Px.Ex×Px.Ps)} {w wr w2 w3:World} {tl ql tr qr o m:Nat} {x y:Px.Ex} {st1 st':Px.Ps}
  (hb:b < w.heap.size) (hg:Px.Goes s g) (KR:Kp b w wr) (X:XAt wr x (Ref.In w wr) (.iface tl (Ref.ptr ql))) (D1:Ref.Dom s n st1) (hk:st1.t.k=107) (K2:Kp b wr w2) (K3:Kp b w2 w3) (hm:s.size - st1.t.a < m+1)
  (CH:(match g (Px.nx s st1) with
   | .error p=>.error p
   | .ok (k,st')=>Px.chain s g oa ob m pl ⟨o,0,Px.nowt,pl,st1.t.a,some x,some k⟩ st')=R) (hr:g (Px.nx s st1)=.ok (y,st')) (Y:XAt w3 y (Ref.In w2 w3) (.iface tr (Ref.ptr qr))) (R3:Rd w3 b s st' eT eN) :
  zkj b s n eT eN g oa ob pl R w (w3.alloc (.cells #[.int .i64 (opIx o:Int),.iface tl (Ref.ptr ql),.iface tr (Ref.ptr qr),.int .i64 (st1.t.a:Int)] 309)) (.iface 306 (Ref.ptr w3.heap.size)) ∧
   rdM s b (w3.alloc (.cells #[.int .i64 (opIx o:Int),.iface tl (Ref.ptr ql),.iface tr (Ref.ptr qr),.int .i64 (st1.t.a:Int)] 309)) < s.size+1 - st1.t.a:=by
 have g0:Px.Good s st1 (Px.nx s st1):=Px.qe5 D1.tk (by omega) (by omega)
 have g1:=g0.trans (hg _ _ _ g0.tk hr);have g2:=g1.lt;have g3:=g1.tk.ab;have g4:=g1.tk.le;have z2:=K2.size;have Y':XAt w3 y (Ref.In wr w3) (.iface tr (Ref.ptr qr)):=Y.mono fun i hi=>⟨by have:=hi.1;omega,hi.2⟩
 rw[hr] at CH;refine ⟨⟨((KR.trans K2).trans K3).alloc _,_,st',m,XAt.pair hb X (K2.trans K3) KR Y',R3.alloc _,D1.good g1,CH,by omega⟩,?_⟩
 rw[qvo (R3.alloc _)];omega
theorem zdr (b:Nat) (s:ByteArray) (n:Nat) (eT eN:Addr) (g:Px.Ps→Except Nat (Px.Ex×Px.Ps)) (hp:qnq b s n eT eN 244 g) (hg:Px.Goes s g) (hl:Late g) (hs:s.size≤maxLen) (st:Px.Ps) (w:World) (hD:Ref.Dom s n st) (r:Rd w b s st eT eN) :
  Calls Tryz.prog 241 #[.pointer (some ⟨b,0,none⟩),.int .i64 2,.func (.func 244) #[.pointer (some ⟨b,0,none⟩)] #[]] w (Out b s eT eN w (Px.row s g 42 47 st) (XV w)):=by
 have hb:=r.lt;have R:Hid (Rd w b s st eT eN∧Ref.Dom s n st):=⟨r,hD⟩;have HP:Hid (_):=hp;have HG:Hid (Px.Goes s g∧Late g):=⟨hg,hl⟩;have HOP:Hid (∀ st:Px.Ps,qb6 s st.t 2 7 0=if Px.onB s st.t ⟨#[42]⟩=true then some (opIx (42:UInt8).toNat) else if Px.onB s st.t ⟨#[47]⟩=true then some (opIx (47:UInt8).toNat) else none):=fun st=>zsv s st
 clear r hp hD hg hl;go_enter Tryz.func241,Tryz.ntmps241
 go_wp2_with fail;refine (HP.out st _ R.out.2 R.out.1).mono ?_;rintro e w1 ⟨k1,⟨x,st1,v,he,rfl,hv,r1⟩ | ⟨p,hp,ht⟩⟩
 ·have hrow:Px.row s g 42 47 st=Px.chain s g 42 47 (s.size+1) st.t.a x st1:=by unfold Px.row;rw[he]
  generalize hRR:Px.row s g 42 47 st=RR at *;have D1:=R.out.2.good (HG.out.1 _ _ _ R.out.1.tk he);have HS:Hid (zkj b s n eT eN g 42 47 st.t.a RR w w1 v):=⟨k1,x,st1,s.size+1,hv,r1,D1,hrow.symm,by omega⟩
  clear k1 hv r1 D1 hrow he hRR;go_wp2_with fail;go_loopw [7] (fun v wr=>Hid (zkj b s n eT eN g 42 47 st.t.a RR w wr v)) (fun _ wr=>rdM s b wr)
  case atStart=>exact HS.out
  case round =>
   obtain ⟨kr,x,st1,m,hx,r1,D1,CH,hm⟩:=hrel.out;clear hrel;obtain ⟨tl,ql,rfl⟩:=hx.form;unfold Ref.ptr at hx ⊢;obtain ⟨m,rfl⟩:∃ m',m=m'+1:=⟨m - 1,by omega⟩
   have KR:Hid (Kp b w wr∧XAt wr x (Ref.In w wr) (.iface tl (.pointer (some ⟨ql,0,none⟩)))∧Rd wr b s st1 eT eN∧Ref.Dom s n st1∧Px.chain s g 42 47 (m+1) st.t.a x st1=RR):=⟨kr,hx,r1,D1,CH⟩;clear kr hx r1 D1 CH;go_wp2_with fail;refine (qjb b s 2 st1 eT eN _ KR.out.2.2.1 hs).mono ?_;rintro e w2 ⟨k2,⟨o,st2,v,he,rfl,rfl,r2⟩ | ⟨p,hp,ht⟩⟩
   ·cases hf:qb6 s st1.t 2 7 0 with
    | none =>
     have he':opU s 2 st1=.ok (none,st1):=by unfold opU;rw[hf]
     rw[he'] at he;cases he;have hR:Hid (RR=.ok (x,st1)):=KR.out.2.2.2.2.symm.trans (zjf HOP.out hf);have R2:Hid (Kp b wr w2∧Rd w2 b s st1 eT eN):=⟨k2,r2⟩;clear k2 r2 he' hf;go_wp2_with fail;go_ret;refine ⟨KR.out.1.trans R2.out.1,Or.inl ⟨x,st1,_,hR.out,rfl,?_,R2.out.2⟩⟩;exact XAt.kp KR.out.2.1 hb R2.out.1
    | some i =>
     have he':opU s 2 st1=.ok (some i,Px.nx s st1):=by unfold opU;rw[hf]
     rw[he'] at he;cases he;obtain ⟨hk,o,rfl,hch⟩:=qtx (g:=g) (m:=m) (pl:=st.t.a) (x:=x) HOP.out hf;have HC:Hid (_∧_):=⟨hk,hch.symm.trans KR.out.2.2.2.2⟩;have R2:Hid (Kp b wr w2∧Rd w2 b s (Px.nx s st1) eT eN):=⟨k2,r2⟩;have D2:Hid (Ref.Dom s n (Px.nx s st1)):=KR.out.2.2.2.1.good (Px.qe5 KR.out.2.2.1.tk (by omega) (by omega))
     clear k2 r2 he' hf hk hch;go_wp2_with fail;refine (HP.out (Px.nx s st1) _ D2.out R2.out.2).mono ?_;rintro e w3 ⟨k3,⟨y,st3,v,hy,rfl,hv,r3⟩ | ⟨p,hp,ht⟩⟩
     ·obtain ⟨tr,qr,rfl⟩:=XAt.form hv;have M:=qvo KR.out.2.2.1;have ST:Hid (_∧_):=zje hb HG.out.1 KR.out.1 KR.out.2.1 KR.out.2.2.2.1 HC.out.1 R2.out.1 k3 hm HC.out.2 hy hv r3;rw[← M] at ST;clear k3 hy hv r3 M;unfold Ref.ptr at ST ⊢;go_wp2_with fail;exact ST.out
     ·obtain ⟨c,rfl⟩:=ht.form;exact ⟨rfl,(KR.out.1.trans R2.out.1).trans k3,Or.inr ⟨p,by rw[← HC.out.2];exact qgt hp,ht.low (KR.out.1.trans R2.out.1).size⟩⟩
   ·obtain ⟨c,rfl⟩:=ht.form;have hfin:fin RR=.error p:=by
     cases hf:qb6 s st1.t 2 7 0 with
     | none =>
      have he':opU s 2 st1=.ok (none,st1):=by unfold opU;rw[hf]
      rw[he'] at hp;exact absurd (qb3 hp).1 KR.out.2.2.1.k63
     | some i =>
      have he':opU s 2 st1=.ok (some i,Px.nx s st1):=by unfold opU;rw[hf]
      rw[he'] at hp;obtain ⟨h1,rfl⟩:=qb3 hp;obtain ⟨hk,o,rfl,hch⟩:=qtx (g:=g) (m:=m) (pl:=st.t.a) (x:=x) HOP.out hf;rw[← KR.out.2.2.2.2,hch];exact qgt (HG.out.2 _ h1)
    exact ⟨rfl,KR.out.1.trans k2,Or.inr ⟨p,hfin,ht.low KR.out.1.size⟩⟩
 ·obtain ⟨c,rfl⟩:=ht.form;exact ⟨rfl,k1,Or.inr ⟨p,by unfold Px.row;exact qgt (f:=id) hp,ht⟩⟩
theorem zjc (b:Nat) (s:ByteArray) (n:Nat) (eT eN:Addr) (g:Px.Ps→Except Nat (Px.Ex×Px.Ps)) (hp:qnq b s n eT eN 242 g) (hg:Px.Goes s g) (hl:Late g) (hs:s.size≤maxLen) (st:Px.Ps) (w:World) (hD:Ref.Dom s n st) (r:Rd w b s st eT eN) :
  Calls Tryz.prog 241 #[.pointer (some ⟨b,0,none⟩),.int .i64 1,.func (.func 242) #[.pointer (some ⟨b,0,none⟩)] #[]] w (Out b s eT eN w (Px.row s g 43 45 st) (XV w)):=by
 have hb:=r.lt;have R:Hid (Rd w b s st eT eN∧Ref.Dom s n st):=⟨r,hD⟩;have HP:Hid (_):=hp;have HG:Hid (Px.Goes s g∧Late g):=⟨hg,hl⟩;have HOP:Hid (∀ st:Px.Ps,qb6 s st.t 1 7 0=if Px.onB s st.t ⟨#[43]⟩=true then some (opIx (43:UInt8).toNat) else if Px.onB s st.t ⟨#[45]⟩=true then some (opIx (45:UInt8).toNat) else none):=fun st=>zwo s st
 clear r hp hD hg hl;go_enter Tryz.func241,Tryz.ntmps241
 go_wp2_with fail;refine (HP.out st _ R.out.2 R.out.1).mono ?_;rintro e w1 ⟨k1,⟨x,st1,v,he,rfl,hv,r1⟩ | ⟨p,hp,ht⟩⟩
 ·have hrow:Px.row s g 43 45 st=Px.chain s g 43 45 (s.size+1) st.t.a x st1:=by unfold Px.row;rw[he]
  generalize hRR:Px.row s g 43 45 st=RR at *;have D1:=R.out.2.good (HG.out.1 _ _ _ R.out.1.tk he);have HS:Hid (zkj b s n eT eN g 43 45 st.t.a RR w w1 v):=⟨k1,x,st1,s.size+1,hv,r1,D1,hrow.symm,by omega⟩
  clear k1 hv r1 D1 hrow he hRR;go_wp2_with fail;go_loopw [7] (fun v wr=>Hid (zkj b s n eT eN g 43 45 st.t.a RR w wr v)) (fun _ wr=>rdM s b wr)
  case atStart=>exact HS.out
  case round =>
   obtain ⟨kr,x,st1,m,hx,r1,D1,CH,hm⟩:=hrel.out;clear hrel;obtain ⟨tl,ql,rfl⟩:=hx.form;unfold Ref.ptr at hx ⊢;obtain ⟨m,rfl⟩:∃ m',m=m'+1:=⟨m - 1,by omega⟩
   have KR:Hid (Kp b w wr∧XAt wr x (Ref.In w wr) (.iface tl (.pointer (some ⟨ql,0,none⟩)))∧Rd wr b s st1 eT eN∧Ref.Dom s n st1∧Px.chain s g 43 45 (m+1) st.t.a x st1=RR):=⟨kr,hx,r1,D1,CH⟩;clear kr hx r1 D1 CH;go_wp2_with fail;refine (qjb b s 1 st1 eT eN _ KR.out.2.2.1 hs).mono ?_;rintro e w2 ⟨k2,⟨o,st2,v,he,rfl,rfl,r2⟩ | ⟨p,hp,ht⟩⟩
   ·cases hf:qb6 s st1.t 1 7 0 with
    | none =>
     have he':opU s 1 st1=.ok (none,st1):=by unfold opU;rw[hf]
     rw[he'] at he;cases he;have hR:Hid (RR=.ok (x,st1)):=KR.out.2.2.2.2.symm.trans (zjf HOP.out hf);have R2:Hid (Kp b wr w2∧Rd w2 b s st1 eT eN):=⟨k2,r2⟩;clear k2 r2 he' hf;go_wp2_with fail;go_ret;refine ⟨KR.out.1.trans R2.out.1,Or.inl ⟨x,st1,_,hR.out,rfl,?_,R2.out.2⟩⟩;exact XAt.kp KR.out.2.1 hb R2.out.1
    | some i =>
     have he':opU s 1 st1=.ok (some i,Px.nx s st1):=by unfold opU;rw[hf]
     rw[he'] at he;cases he;obtain ⟨hk,o,rfl,hch⟩:=qtx (g:=g) (m:=m) (pl:=st.t.a) (x:=x) HOP.out hf;have HC:Hid (_∧_):=⟨hk,hch.symm.trans KR.out.2.2.2.2⟩;have R2:Hid (Kp b wr w2∧Rd w2 b s (Px.nx s st1) eT eN):=⟨k2,r2⟩;have D2:Hid (Ref.Dom s n (Px.nx s st1)):=KR.out.2.2.2.1.good (Px.qe5 KR.out.2.2.1.tk (by omega) (by omega))
     clear k2 r2 he' hf hk hch;go_wp2_with fail;refine (HP.out (Px.nx s st1) _ D2.out R2.out.2).mono ?_;rintro e w3 ⟨k3,⟨y,st3,v,hy,rfl,hv,r3⟩ | ⟨p,hp,ht⟩⟩
     ·obtain ⟨tr,qr,rfl⟩:=XAt.form hv;have M:=qvo KR.out.2.2.1;have ST:Hid (_∧_):=zje hb HG.out.1 KR.out.1 KR.out.2.1 KR.out.2.2.2.1 HC.out.1 R2.out.1 k3 hm HC.out.2 hy hv r3;rw[← M] at ST;clear k3 hy hv r3 M;unfold Ref.ptr at ST ⊢;go_wp2_with fail;exact ST.out
     ·obtain ⟨c,rfl⟩:=ht.form;exact ⟨rfl,(KR.out.1.trans R2.out.1).trans k3,Or.inr ⟨p,by rw[← HC.out.2];exact qgt hp,ht.low (KR.out.1.trans R2.out.1).size⟩⟩
   ·obtain ⟨c,rfl⟩:=ht.form;have hfin:fin RR=.error p:=by
     cases hf:qb6 s st1.t 1 7 0 with
     | none =>
      have he':opU s 1 st1=.ok (none,st1):=by unfold opU;rw[hf]
      rw[he'] at hp;exact absurd (qb3 hp).1 KR.out.2.2.1.k63
     | some i =>
      have he':opU s 1 st1=.ok (some i,Px.nx s st1):=by unfold opU;rw[hf]
      rw[he'] at hp;obtain ⟨h1,rfl⟩:=qb3 hp;obtain ⟨hk,o,rfl,hch⟩:=qtx (g:=g) (m:=m) (pl:=st.t.a) (x:=x) HOP.out hf;rw[← KR.out.2.2.2.2,hch];exact qgt (HG.out.2 _ h1)
    exact ⟨rfl,KR.out.1.trans k2,Or.inr ⟨p,hfin,ht.low KR.out.1.size⟩⟩
 ·obtain ⟨c,rfl⟩:=ht.form;exact ⟨rfl,k1,Or.inr ⟨p,by unfold Px.row;exact qgt (f:=id) hp,ht⟩⟩
theorem zk9 (b:Nat) (s:ByteArray) (n:Nat) (eT eN:Addr) (g:Px.Ps→Except Nat (Px.Ex×Px.Ps)) (hp:qnq b s n eT eN 244 g) (hg:Px.Goes s g) (hl:Late g) (hs:s.size≤maxLen):qnq b s n eT eN 242 (Px.term s g):=by
 intro st w hD r;have H:Hid (_∧_∧_):=⟨hp,hD,r⟩;clear hp hD r;go_enter Tryz.func242,Tryz.ntmps242
 go_wp2_with fail;refine (zdr b s n eT eN g H.out.1 hg hl hs st _ H.out.2.1 H.out.2.2).mono ?_;rintro e w1 ⟨k1,⟨x,st1,v,he,rfl,hv,r1⟩ | ⟨p,hp,ht⟩⟩
 ·have H1:Hid (_∧_∧_∧_):=⟨k1,he,hv,r1⟩;clear k1 he hv r1;go_wp2_with fail;go_ret;exact ⟨H1.out.1,Or.inl ⟨x,st1,_,H1.out.2.1,rfl,H1.out.2.2.1,H1.out.2.2.2⟩⟩
 ·obtain ⟨c,rfl⟩:=ht.form;exact ⟨rfl,k1,Or.inr ⟨p,hp,ht⟩⟩
theorem zro (b:Nat) (s:ByteArray) (n:Nat) (eT eN:Addr) (g:Px.Ps→Except Nat (Px.Ex×Px.Ps)) (hp:qnq b s n eT eN 244 g) (hg:Px.Goes s g) (hl:Late g) (hs:s.size≤maxLen):qnq b s n eT eN 232 (Px.sum s g):=by
 intro st w hD r;have H:Hid (_∧_∧_):=⟨zk9 b s n eT eN g hp hg hl hs,hD,r⟩;clear hp hD r;go_enter Tryz.func232,Tryz.ntmps232
 go_wp2_with fail;refine (zjc b s n eT eN (Px.term s g) H.out.1 (Px.qgp hg) (qsq s hl _ _) hs st _ H.out.2.1 H.out.2.2).mono ?_;rintro e w1 ⟨k1,⟨x,st1,v,he,rfl,hv,r1⟩ | ⟨p,hp,ht⟩⟩
 ·have H1:Hid (_∧_∧_∧_):=⟨k1,he,hv,r1⟩;clear k1 he hv r1;go_wp2_with fail;go_ret;exact ⟨H1.out.1,Or.inl ⟨x,st1,_,H1.out.2.1,rfl,H1.out.2.2.1,H1.out.2.2.2⟩⟩
 ·obtain ⟨c,rfl⟩:=ht.form;exact ⟨rfl,k1,Or.inr ⟨p,hp,ht⟩⟩
open Go.RowKit
theorem qoh {s:ByteArray} {st:Px.Ps} {i:Nat} (h:qb6 s st.t 0 7 0=some i):st.t.k=107∧∃ o,i=opIx o∧Px.qec s st.t=some o:=by
 rw[zqb] at h;unfold Px.qec;split at h
 ·rename_i h1;cases h;exact ⟨Px.qjc h1,60,rfl,by rw[if_pos h1]⟩
 ·split at h
  ·rename_i h1 h2;cases h;exact ⟨Px.qjc h2,61,rfl,by rw[if_neg h1,if_pos h2]⟩
  ·split at h
   ·rename_i h1 h2 h3;cases h;exact ⟨Px.qjc h3,35,rfl,by rw[if_neg h1,if_neg h2,if_pos h3]⟩
   ·cases h
theorem ql2 {s:ByteArray} {st:Px.Ps} (h:qb6 s st.t 0 7 0=none):Px.qec s st.t=none:=by
 rw[zqb] at h;unfold Px.qec;split at h
 ·cases h
 ·split at h
  ·cases h
  ·split at h
   ·cases h
   ·rename_i h1 h2 h3;rw[if_neg h1,if_neg h2,if_neg h3]
theorem qz8 {s:ByteArray} {l:Int} {st:Px.Ps} {i:Nat} (h:qb6 s st.t l 7 0=some i):opU s l st=.ok (some i,Px.nx s st):=by unfold opU;rw[h]
theorem qz9 {s:ByteArray} {l:Int} {st:Px.Ps} (h:qb6 s st.t l 7 0=none):opU s l st=.ok (none,st):=by unfold opU;rw[h]
theorem qih (b:Nat) (s:ByteArray) (n:Nat) (eT eN:Addr) (g:Px.Ps→Except Nat (Px.Ex×Px.Ps)) (hp:qnq b s n eT eN 244 g) (hg:Px.Goes s g) (hl:Late g) (hs:s.size≤maxLen):qnq b s n eT eN 214 (Px.expr s g):=by
 intro st w hD r;have hb:=r.lt;have HS:Hid (qnq b s n eT eN 232 (Px.sum s g)):=zro b s n eT eN g hp hg hl hs;have H:Hid (Ref.Dom s n st∧Rd w b s st eT eN∧Px.Goes s (Px.sum s g)∧Late (Px.sum s g)):=⟨hD,r,Px.qgb hg,qzj s hl⟩;clear hp hD r hg hl;go_enter Tryz.func214,Tryz.ntmps214
 go_wp2_with fail;refine (HS.out st _ H.out.1 H.out.2.1).mono ?_;rintro e w1 ⟨k1,⟨x,st1,v,he,rfl,hv,r1⟩ | ⟨p,hp,ht⟩⟩
 ·obtain ⟨tl,ql,rfl⟩:=XAt.form hv;unfold Ref.ptr at hv ⊢;have H1:Hid (Kp b w w1∧Px.sum s g st=.ok (x,st1)∧XAt w1 x (Ref.In w w1) (.iface tl (.pointer (some ⟨ql,0,none⟩)))∧Rd w1 b s st1 eT eN):=⟨k1,he,hv,r1⟩;have G1:Hid (Px.Good s st st1):=H.out.2.2.1 _ _ _ H.out.2.1.tk he;clear k1 he hv r1;go_wp2_with fail;refine (qjb b s 0 st1 eT eN _ H1.out.2.2.2 hs).mono ?_;rintro e w2 ⟨k2,⟨o,st2,v,he,rfl,rfl,r2⟩ | ⟨p,hp,ht⟩⟩
  ·cases hf:qb6 s st1.t 0 7 0 with
   | none =>
    rw[qz9 hf] at he;cases he;have E:Hid (Px.expr s g st=.ok (x,st1)):=by unfold Hid Px.expr;rw[H1.out.2.1];simp only;rw[ql2 hf]
    have R2:Hid (Kp b w1 w2∧Rd w2 b s st1 eT eN):=⟨k2,r2⟩;clear k2 r2 hf;go_wp2_with fail;go_ret;exact ⟨H1.out.1.trans R2.out.1,Or.inl ⟨x,st1,_,E.out,rfl,XAt.kp H1.out.2.2.1 hb R2.out.1,R2.out.2⟩⟩
   | some i =>
    rw[qz8 hf] at he;cases he;obtain ⟨hk,o,rfl,hc⟩:=qoh hf;have HC:Hid (st1.t.k=107∧Px.qec s st1.t=some o):=⟨hk,hc⟩;have R2:Hid (Kp b w1 w2∧Rd w2 b s (Px.nx s st1) eT eN):=⟨k2,r2⟩;have D2:Hid (Ref.Dom s n (Px.nx s st1)):=H.out.1.good (G1.out.trans (Px.qe5 H1.out.2.2.2.tk (by omega) (by omega)))
    clear k2 r2 hf hk hc;go_wp2_with fail;refine (HS.out (Px.nx s st1) _ D2.out R2.out.2).mono ?_;rintro e w3 ⟨k3,⟨y,st3,v,hy,rfl,hv,r3⟩ | ⟨p,hp,ht⟩⟩
    ·obtain ⟨tr,qr,rfl⟩:=XAt.form hv;have E:Hid (Px.expr s g st=.ok (⟨o,0,Px.nowt,st.t.a,st1.t.a,some x,some y⟩,st3)):=by unfold Hid Px.expr;rw[H1.out.2.1];simp only;rw[HC.out.2];simp only;rw[hy]
     have z2:=R2.out.1.size;have X3:Hid (_):=XAt.pair (pl:=st.t.a) (o:=o) (own:=st1.t.a) hb H1.out.2.2.1 (R2.out.1.trans k3) H1.out.1 (XAt.mono hv fun i hi=>⟨by have:=hi.1;omega,hi.2⟩)
     have K3:Hid (Kp b w w3∧Rd w3 b s st3 eT eN):=⟨(H1.out.1.trans R2.out.1).trans k3,r3⟩;clear k3 hy hv r3;unfold Ref.ptr at X3 ⊢;go_wp2_with fail;go_ret;exact ⟨K3.out.1.alloc _,Or.inl ⟨_,_,_,E.out,rfl,X3.out,K3.out.2.alloc _⟩⟩
    ·obtain ⟨c,rfl⟩:=ht.form;refine ⟨rfl,(H1.out.1.trans R2.out.1).trans k3,Or.inr ⟨p,?_,ht.low (H1.out.1.trans R2.out.1).size⟩⟩;unfold Px.expr;rw[H1.out.2.1];simp only;rw[HC.out.2];simp only;rcases qdf hp with h1 | ⟨y,st3,h1,h2,rfl⟩
     ·rw[h1];rfl
     ·rw[h1];exact qbt _ h2
  ·obtain ⟨c,rfl⟩:=ht.form;refine ⟨rfl,H1.out.1.trans k2,Or.inr ⟨p,?_,ht.low H1.out.1.size⟩⟩;cases hf:qb6 s st1.t 0 7 0 with
   | none=>rw[qz9 hf] at hp;exact absurd (qb3 hp).1 H1.out.2.2.2.k63
   | some i =>
    rw[qz8 hf] at hp;obtain ⟨h1,rfl⟩:=qb3 hp;obtain ⟨hk,o,rfl,hc⟩:=qoh hf;unfold Px.expr;rw[H1.out.2.1];simp only;rw[hc];simp only;rcases qdf (H.out.2.2.2 _ h1) with h2 | ⟨y,st3,h2,h3,h4⟩
    ·rw[h2];rfl
    ·rw[h2,h4];exact qbt _ h3
 ·obtain ⟨c,rfl⟩:=ht.form;refine ⟨rfl,k1,Or.inr ⟨p,?_,ht⟩⟩;unfold Px.expr;rcases qdf hp with h1 | ⟨y,st3,h1,h2,rfl⟩
  ·rw[h1];rfl
  ·rw[h1];simp only;rw[zqv h2];exact qbt _ h2
end Lg
end Go.Proofs.YtagpnplggopoeaaGreatDoor
